import PyProof.Rows.All
import Wide.All
import OpenK.AllK
import Wide.FinOn
import PyProof.EqAt
import PyProof.EqKinds
import PyProof.TupleCall
import KE.BitLaws
import Open.SpecLaws
import KE.OsHead
import KE.OsGo
import MixHeard
import PyProof.RaisesMany
import PyProof.RulesAs
import PyProof.PassesOwn
import PyProof.ExcClass2
import PyProof.ExcBaseAll.ValueError
import PyProof.ExcAttrAll.ValueError
import OpenK.KCls
import OpenK.KWalk
import KE.KSortKeySt
import PyWqaecf
import PySem.Challenge.RW_mixdesks_s12_mix
section
set_option Elab.async false
set_option linter.all false
set_option maxRecDepth 100000
/-! THE HAND LAYER, for ints, bools, texts, own classes, lists, tuples, dicts, comprehensions, walks over dicts, enumerate, zip, reversed, texts, calls, loops. Paste it whole ahead of your own text; what your proof does not reach may be deleted. -/
namespace L2
open PySem PySem.Spec PyProof.Rows
abbrev Key := Sum Int Str
def keyIs : Key → Value → Bool
  | .inl k, v => Value.isInt k v
  | .inr x, v => Value.isStrOf x v
def keyH (w : World) : Key → Int
  | .inl k => hashInt k
  | .inr x => hashStr w x
theorem keyIs_shape : ∀ {k : Key} {v : Value}, keyIs k v = true → (∃ i t, k = Sum.inl i ∧ v = Value.int i t) ∨ (∃ x t, k = Sum.inr x ∧ v = Value.str x t)
  | .inl i, v, h => by
    obtain ⟨t, e⟩ := Value.isInt_shape (k := i) (v := v) h
    exact .inl ⟨i, t, rfl, e⟩
  | .inr x, v, h => by
    obtain ⟨t, e⟩ := Value.isStrOf_shape (x := x) (v := v) h
    exact .inr ⟨x, t, rfl, e⟩
theorem key_ll (a b : Int) : decide ((Sum.inl a : Key) = Sum.inl b) = (a == b) := by
  by_cases e : a = b
  · subst e; simp
  · have h : ¬ (Sum.inl a : Key) = Sum.inl b := fun q => e (Sum.inl.inj q)
    rw [decide_eq_false h]
    exact (beq_eq_false_iff_ne.mpr e).symm
theorem key_rr (a b : Str) : decide ((Sum.inr a : Key) = Sum.inr b) = decide (a = b) := by
  by_cases e : a = b
  · subst e; simp
  · have h : ¬ (Sum.inr a : Key) = Sum.inr b := fun q => e (Sum.inr.inj q)
    rw [decide_eq_false h, decide_eq_false e]
theorem key_lr (a : Int) (b : Str) : decide ((Sum.inl a : Key) = Sum.inr b) = false := decide_eq_false (fun q => nomatch q)
theorem key_rl (a : Str) (b : Int) : decide ((Sum.inr a : Key) = Sum.inl b) = false := decide_eq_false (fun q => nomatch q)
def mixKind (prog : Program) (w : World) : PySem.KeyKind prog w Key where
  is := keyIs
  hash := keyH w
  inj := fun v a b ha hb => by
    rcases keyIs_shape ha with ⟨i, t, rfl, rfl⟩ | ⟨x, t, rfl, rfl⟩
    · rcases keyIs_shape hb with ⟨j, u, rfl, e⟩ | ⟨y, u, rfl, e⟩
      · injection e with e1 _; rw [e1]
      · exact nomatch e
    · rcases keyIs_shape hb with ⟨j, u, rfl, e⟩ | ⟨y, u, rfl, e⟩
      · exact nomatch e
      · injection e with e1 _; rw [e1]
  byValue := fun k v h => by
    rcases keyIs_shape h with ⟨i, t, rfl, rfl⟩ | ⟨x, t, rfl, rfl⟩ <;> rfl
  pyHash := fun hv h => by
    rcases keyIs_shape hv with ⟨i, t, rfl, rfl⟩ | ⟨x, t, rfl, rfl⟩
    · exact wpAny_pyHash_int h
    · exact wpAny_pyHash_str h
  eqBool := fun hu hv h => by
    rcases keyIs_shape hu with ⟨i, t, rfl, rfl⟩ | ⟨x, t, rfl, rfl⟩
    · rcases keyIs_shape hv with ⟨j, u, rfl, rfl⟩ | ⟨y, u, rfl, rfl⟩
      · rw [key_ll] at h; exact wpAny_eqBool_int h
      · rw [key_lr] at h; exact SeqAt.EqAt.int_str i t y u _ _ _ _ h
    · rcases keyIs_shape hv with ⟨j, u, rfl, rfl⟩ | ⟨y, u, rfl, rfl⟩
      · rw [key_rl] at h; exact SeqAt.EqAt.str_int x t j u _ _ _ _ h
      · rw [key_rr] at h; exact wpAny_eqBool_str h
  «strs» := fun k x t v h => by
    rcases keyIs_shape h with ⟨i, u, rfl, e⟩ | ⟨y, u, rfl, e⟩
    · exact nomatch e
    · injection e with e1 _
      subst e1
      cases v <;> rfl
end L2
namespace L2
open PySem PySem.Spec PyProof.Rows
inductive V where
  | non | bl (b : Bool) | int (i : Int) | str (x : Str) | byt (b : Array UInt8) | flt (b : UInt64) | ref (a : Addr) | ty (n : String)
  deriving DecidableEq
def RelV : V → Value → Prop
  | .non, u => u = Value.none
  | .bl b, u => u = Value.bool b
  | .int i, u => ∃ t, u = Value.int i t
  | .str x, u => ∃ t, u = Value.str x t
  | .byt b, u => ∃ t, u = Value.bytes b t
  | .flt b, u => ∃ t, u = Value.float b t
  | .ref a, u => u = Value.ref a
  | .ty n, u => u = Value.type n
abbrev Vals : List V → List Value → Prop := Paired RelV
theorem Vals.length {xs : List V} {us : List Value} (r : Vals xs us) : xs.length = us.length := Paired.length r
theorem Vals.get : ∀ {xs : List V} {us : List Value} {i : Nat} {x : V}, Vals xs us → xs[i]? = some x → ∃ u, us[i]? = some u ∧ RelV x u
  | _, _, _, _, .nil, e => by simp at e
  | _, _, 0, _, .cons r _, e => by simp at e; subst e; exact ⟨_, rfl, r⟩
  | _, _, i + 1, x, .cons _ t, e => by
    obtain ⟨u, h1, h2⟩ := Vals.get (i := i) (x := x) t (by simpa using e)
    exact ⟨u, by simpa using h1, h2⟩
theorem Vals.set {x : V} {u : Value} (r : RelV x u) : ∀ {xs : List V} {us : List Value} (i : Nat), Vals xs us → Vals (xs.set i x) (us.set i u)
  | _, _, _, .nil => .nil
  | _, _, 0, .cons _ t => .cons r t
  | _, _, i + 1, .cons q t => .cons q (Vals.set r i t)
theorem Vals.append : ∀ {xs ys : List V} {us ws : List Value}, Vals xs us → Vals ys ws → Vals (xs ++ ys) (us ++ ws)
  | _, _, _, _, .nil, s => s
  | _, _, _, _, .cons r t, s => .cons r (Vals.append t s)
theorem Vals.take : ∀ {xs : List V} {us : List Value} (n : Nat), Vals xs us → Vals (xs.take n) (us.take n)
  | _, _, 0, _ => .nil
  | _, _, _ + 1, .nil => .nil
  | _, _, n + 1, .cons r t => .cons r (Vals.take n t)
theorem Vals.drop : ∀ {xs : List V} {us : List Value} (n : Nat), Vals xs us → Vals (xs.drop n) (us.drop n)
  | _, _, 0, r => r
  | _, _, _ + 1, .nil => .nil
  | _, _, n + 1, .cons _ t => Vals.drop n t
def RelO : Option V → Option Value → Prop
  | some v, some u => RelV v u
  | none, none => True
  | _, _ => False
def KV {κ : Type} : List (κ × V) → List (κ × Value) → Prop := Paired fun (p : κ × V) (q : κ × Value) => p.1 = q.1 ∧ RelV p.2 q.2
def kV : Key → V
  | .inl i => .int i
  | .inr x => .str x
inductive HO where
    | lst (xs : List V)
    | tup (xs : List V)
    | dK (kvs : List (Key × V)) | dT (kvs : List (List Key × V))
    | set (S : Int → Bool) (n : Nat)
    | ins (C dx : Addr) (fs : List (Str × V))
    | own (x : Addr)
    | xd (fs : List (Str × V))
    | met (f x : Addr)
    | rng (lo hi : Int)
    | frz (o : Obj) (u : HO)
    | tbl (ps : Array Value)
    | ext (φ : Heap → Prop)
abbrev Hp := Addr → Option HO
def upd (H : Hp) (a : Addr) (o : HO) : Hp := fun b => if b = a then some o else H b
theorem upd_same {H : Hp} {a : Addr} {o : HO} : upd H a o a = some o := by unfold upd; rw [if_pos rfl]
theorem upd_ne {H : Hp} {a b : Addr} {o : HO} (h : b ≠ a) : upd H a o b = H b := by unfold upd; rw [if_neg h]
theorem upd_upd {H : Hp} {a : Addr} {o u : HO} : upd (upd H a o) a u = upd H a u := by
  funext b; unfold upd; split <;> rfl
theorem ne_of {H : Hp} {a b : Addr} {o u : HO} (h : H a = some o) (h' : H b = some u) (d : o ≠ u) : a ≠ b := by
  intro e; subst e; rw [h] at h'; exact d (Option.some.inj h')
theorem ne_of_none {H : Hp} {a b : Addr} {o : HO} (h : H a = some o) (h' : H b = none) : a ≠ b := by
  intro e; subst e; rw [h] at h'; cases h'
section
variable (P : Program) (w : World)
def ObjOk (H : Hp) (h : Heap) (a : Addr) : HO → Prop
  | .lst xs => xs.length ≤ sizeLine ∧ ∃ (its : List Value) (n : Nat), Vals xs its ∧ h.get? a = some { cls := .type "list", data := .seq its.toArray n }
  | .tup xs => xs.length ≤ sizeLine ∧ ∃ its : List Value, Vals xs its ∧ IsTup h a its.toArray
  | .dK kvs => kvs.length ≤ sizeLine ∧ (a == sysModules) = false ∧ ∃ vs, KV kvs vs ∧ h.DictOf (mixKind P w) a vs
  | .dT kvs => kvs.length ≤ sizeLine ∧ (a == sysModules) = false ∧ ∃ xs : List (List Key × Addr × Value),
      Paired (fun (p : List Key × V) (q : List Key × Addr × Value) => p.1 = q.1 ∧ H q.2.1 = some (.tup (p.1.map kV)) ∧ RelV p.2 q.2.2) kvs xs ∧
      ∃ o es ep, h.get? a = some o ∧ o.ExactDict ∧ o.data = .dict es ep ∧ es.toList = xs.map (entryOfKey (tupleKind (mixKind P w))) ∧ (xs.map (·.1)).Nodup
  | .set S n => h.SetOf (intKind P w) a S n
  | .ins C dx fs => H dx = some (.own a) ∧ fs.length ≤ 1000 ∧ dx ≠ a ∧ h.get? a = some (PySem.W.instObj C dx) ∧
      ∃ mA, h.Ns1 dx mA ∧ (∀ f, RelO (fs.lookup f) (mA f)) ∧ PySem.Within mA (fs.map (·.1))
  | .own _ => ∃ o, h.get? a = some o
  | .xd fs => ∃ mA, h.Ns1 a mA ∧ ∀ f, RelO (fs.lookup f) (mA f)
  | .rng lo hi => ∃ t u v, h.get? a = some { cls := .type "range", data := .fields #[.int lo t, .int hi u, .int 1 v] }
  | .frz o u => h.get? a = some o ∧ ObjOk H h a u
  | .tbl ps => h.get? a = some { cls := .none, data := .fields ps }
  | .met f x => h.get? a = some (PySem.W.methodObj (.ref f) (.ref x))
  | .ext φ => φ h ∧ (∃ o, h.get? a = some o) ∧ ∀ h1 h2 : Heap, φ h1 → (∀ o, h1.get? a = some o → h2.get? a = some o) → φ h2
def HOk (H : Hp) (h : Heap) : Prop := ∀ a o, H a = some o → ObjOk P w H h a o
end
section
variable {P : Program} {w : World} {H H' : Hp} {h h' : Heap} {a : Addr} {o : HO}
theorem ObjOk.lt (x : ObjOk P w H h a o) : a < h.objs.size := by
  cases o with
  | lst xs => obtain ⟨_, _, _, _, e⟩ := x; exact Heap.lt_size e
  | tup xs => obtain ⟨_, _, _, p⟩ := x; exact p.lt
  | dK kvs => obtain ⟨_, _, _, _, o, _, _, e, _⟩ := x; exact Heap.lt_size e
  | dT kvs => obtain ⟨_, _, _, _, o, _, _, e, _⟩ := x; exact Heap.lt_size e
  | set S n => obtain ⟨o, _, _, _, e, _⟩ := x; exact Heap.lt_size e
  | ins C dx fs => obtain ⟨_, _, _, e, _⟩ := x; exact Heap.lt_size e
  | own y => obtain ⟨_, e⟩ := x; exact Heap.lt_size e
  | xd fs => obtain ⟨_, ⟨_, _, _, e, _⟩, _⟩ := x; exact Heap.lt_size e
  | rng lo hi => obtain ⟨_, _, _, e⟩ := x; exact Heap.lt_size e
  | frz ob u => obtain ⟨e, _⟩ := x; exact Heap.lt_size e
  | tbl ps => exact Heap.lt_size (show h.get? a = some _ from x)
  | met f y => exact Heap.lt_size (show h.get? a = some _ from x)
  | ext φ => obtain ⟨_, ⟨_, e⟩, _⟩ := x; exact Heap.lt_size e
theorem Paired.mapP {α β : Type} {F G : α → β → Prop} : ∀ {l₁ : List α} {l₂ : List β}, Paired F l₁ l₂ → (∀ a b, F a b → G a b) → Paired G l₁ l₂
  | _, _, .nil, _ => .nil
  | _, _, .cons r t, f => .cons (f _ _ r) (Paired.mapP t f)
theorem ObjOk.stay (x : ObjOk P w H h a o) (k : ∀ b u, (b = a ∨ H b = some (.own a)) → h.get? b = some u → h'.get? b = some u)
    (ho : ∀ b, H b = some (.own a) → H' b = some (.own a)) (ht : ∀ b xs, H b = some (.tup xs) → H' b = some (.tup xs)) : ObjOk P w H' h' a o := by
  induction o with
  | lst xs => obtain ⟨z, its, n, r, e⟩ := x; exact ⟨z, its, n, r, k _ _ (.inl rfl) e⟩
  | tup xs => obtain ⟨z, its, r, ob, e, c⟩ := x; exact ⟨z, its, r, ob, k _ _ (.inl rfl) e, c⟩
  | dK kvs => obtain ⟨z, y, vs, r, ob, es, ep, e, c⟩ := x; exact ⟨z, y, vs, r, ob, es, ep, k _ _ (.inl rfl) e, c⟩
  | dT kvs =>
    obtain ⟨z, y, xs, r, ob, es, ep, e, c⟩ := x
    exact ⟨z, y, xs, Paired.mapP r fun p q z => ⟨z.1, ht _ _ z.2.1, z.2.2⟩, ob, es, ep, k _ _ (.inl rfl) e, c⟩
  | set S n => obtain ⟨ob, es, ep, t, e, c⟩ := x; exact ⟨ob, es, ep, t, k _ _ (.inl rfl) e, c⟩
  | ins C dx fs =>
    obtain ⟨d, z, ne, e, mA, ⟨od, es, ep, e2, c⟩, r⟩ := x
    exact ⟨ho _ d, z, ne, k _ _ (.inl rfl) e, mA, ⟨od, es, ep, k _ _ (.inr d) e2, c⟩, r⟩
  | own y => obtain ⟨ob, e⟩ := x; exact ⟨ob, k _ _ (.inl rfl) e⟩
  | xd fs => obtain ⟨mA, ⟨od, es, ep, e, c⟩, r⟩ := x; exact ⟨mA, ⟨od, es, ep, k _ _ (.inl rfl) e, c⟩, r⟩
  | rng lo hi => obtain ⟨t, u, v, e⟩ := x; exact ⟨t, u, v, k _ _ (.inl rfl) e⟩
  | frz ob u ih => obtain ⟨e, q⟩ := x; exact ⟨k _ _ (.inl rfl) e, ih q⟩
  | tbl ps =>
    have e : h.get? a = some { cls := .none, data := .fields ps } := x
    show h'.get? a = some { cls := .none, data := .fields ps }
    exact k a _ (.inl rfl) e
  | met f y =>
    have e : h.get? a = some (PySem.W.methodObj (.ref f) (.ref y)) := x
    show h'.get? a = some (PySem.W.methodObj (.ref f) (.ref y))
    exact k a _ (.inl rfl) e
  | ext φ => obtain ⟨p, ⟨o, e⟩, st⟩ := x; exact ⟨st _ _ p fun o q => k _ _ (.inl rfl) q, ⟨o, k _ _ (.inl rfl) e⟩, st⟩
theorem HOk.lt (x : HOk P w H h) (e : H a = some o) : a < h.objs.size := (x a o e).lt
theorem HOk.fresh (x : HOk P w H h) (e : h.objs.size ≤ a) : H a = none := by
  cases q : H a with
  | none => rfl
  | some u => exact absurd (Nat.lt_of_lt_of_le (x.lt q) e) (Nat.lt_irrefl _)
theorem HOk.kept (x : HOk P w H h) (k : ∀ b u, h.get? b = some u → h'.get? b = some u) : HOk P w H h' := fun a o e =>
  (x a o e).stay (fun b u _ q => k b u q) (fun _ q => q) fun _ _ q => q
theorem HOk.laid (x : HOk P w H h) (k : ∀ b u, h.get? b = some u → h'.get? b = some u) (hp : h.objs.size ≤ a) (new : ObjOk P w (upd H a o) h' a o) : HOk P w (upd H a o) h' := fun b u e => by
  have hn := x.fresh hp
  by_cases hb : b = a
  · subst hb; rw [upd_same] at e; cases e; exact new
  · rw [upd_ne hb] at e
    exact (x b u e).stay (fun c v _ q => k c v q) (fun c q => by rw [upd_ne (ne_of_none q hn)]; exact q) fun c xs q => by rw [upd_ne (ne_of_none q hn)]; exact q
end
def Rd (H : Hp) (a : Addr) (u : HO) : Prop := H a = some u ∨ ∃ o, H a = some (.frz o u)
theorem Rd.ok {P : Program} {w : World} {H : Hp} {h : Heap} {a : Addr} {u : HO} (r : Rd H a u) (x : HOk P w H h) : ObjOk P w H h a u := by
  rcases r with r | ⟨o, r⟩
  · exact x a u r
  · obtain ⟨_, q⟩ := x a _ r
    exact q
def Mut : Option HO → Prop
  | some (.lst _) => True
  | some (.dK _) => True
  | some (.dT _) => True
  | some (.set _ _) => True
  | some (.ins _ _ _) => True
  | some (.ext _) => True
  | _ => False
section
variable {P : Program} {w : World} {H : Hp} {h h' : Heap} {x e : Addr} {o' : HO}
theorem HOk.write (ok : HOk P w H h) (mu : Mut (H x)) (he : e = x ∨ H e = some (.own x)) (k : ∀ b u, b ≠ e → h.get? b = some u → h'.get? b = some u) (heo : ∃ u, h'.get? e = some u)
    (new : ObjOk P w (upd H x o') h' x o') : HOk P w (upd H x o') h' := fun b u q => by
  have nown : ∀ c y, H c = some (.own y) → c ≠ x := fun c y r z => by subst z; rw [r] at mu; exact mu
  have ntup : ∀ c xs, H c = some (.tup xs) → c ≠ x := fun c xs r z => by subst z; rw [r] at mu; exact mu
  by_cases hb : b = x
  · subst hb; rw [upd_same] at q; cases q; exact new
  · rw [upd_ne hb] at q
    by_cases hbe : b = e
    · have q' : H b = some (.own x) := by
        rcases he with z | z
        · exact absurd (hbe.trans z) hb
        · rw [hbe]; exact z
      rw [q] at q'; cases q'
      obtain ⟨v, hv⟩ := heo
      exact ⟨v, by rw [hbe]; exact hv⟩
    · refine (ok b u q).stay (fun c v hc r => k c v ?_ r) (fun c r => by rw [upd_ne (nown c b r)]; exact r) fun c xs r => by rw [upd_ne (ntup c xs r)]; exact r
      rcases hc with rfl | hc
      · exact hbe
      · rintro rfl
        rcases he with z | z
        · exact nown c b hc z
        · rw [hc] at z; cases z; exact hb rfl
end
structure Un (fs ex : List Addr) (H H' : Hp) (h h' : Heap) : Prop where
  keep : ∀ b o, h.get? b = some o → H b = none → b ∉ fs → b ∉ ex → h'.get? b = some o
  slot : ∀ b o, h.get? b = some o → H b = none → b ∈ fs → b ∉ ex → ∃ sl, h'.get? b = some { o with slots := sl }
  free : ∀ b o, h.get? b = some o → H b = none → b ∉ ex → H' b = none
  there : ∀ b o, h.get? b = some o → b ∉ ex → ∃ o', h'.get? b = some o'
  tups : ∀ b xs, H b = some (.tup xs) → H' b = some (.tup xs)
  frzs : ∀ b o u, H b = some (.frz o u) → H' b = some (.frz o u)
  tbls : ∀ b ps, H b = some (.tbl ps) → ∃ more, H' b = some (.tbl (ps ++ more))
section
variable {fs fs' ex ex' : List Addr} {H H1 H2 : Hp} {h h1 h2 h' : Heap} {a x e : Addr} {o : HO}
theorem Un.any (u : Un fs ex H H1 h h1) {b : Addr} {ob : Obj} (q : h.get? b = some ob) (n : H b = none) (hx : b ∉ ex) : ∃ sl, h1.get? b = some { ob with slots := sl } := by
  by_cases hb : b ∈ fs
  · exact u.slot b ob q n hb hx
  · exact ⟨ob.slots, u.keep b ob q n hb hx⟩
theorem Un.kept (k : ∀ b u, h.get? b = some u → h'.get? b = some u) : Un fs ex H H h h' :=
  ⟨fun b ob q _ _ _ => k b ob q, fun b ob q _ _ _ => ⟨ob.slots, k b ob q⟩, fun _ _ _ n _ => n, fun b ob q _ => ⟨ob, k b ob q⟩, fun _ _ q => q, fun _ _ _ q => q, fun _ ps q => ⟨#[], by rw [q]; simp⟩⟩
theorem Un.refl : Un fs ex H H h h := Un.kept fun _ _ q => q
theorem Un.laid (k : ∀ b u, h.get? b = some u → h'.get? b = some u) (hp : h.objs.size ≤ a) (hn : H a = none) : Un fs ex H (upd H a o) h h' where
  keep := fun b u q _ _ _ => k b u q
  slot := fun b u q _ _ _ => ⟨u.slots, k b u q⟩
  free := fun b u q n _ => by rw [upd_ne (Nat.ne_of_lt (Nat.lt_of_lt_of_le (Heap.lt_size q) hp))]; exact n
  there := fun b u q _ => ⟨u, k b u q⟩
  tups := fun b xs q => by rw [upd_ne (ne_of_none q hn)]; exact q
  frzs := fun b u xs q => by rw [upd_ne (ne_of_none q hn)]; exact q
  tbls := fun b ps q => ⟨#[], by rw [upd_ne (ne_of_none q hn), q]; simp⟩
theorem Un.write (mu : Mut (H x)) (he : e = x ∨ H e = some (.own x)) (k : ∀ b u, b ≠ e → h.get? b = some u → h'.get? b = some u) (heo : ∃ u, h'.get? e = some u) : Un fs ex H (upd H x o) h h' := by
  have hx : ∀ b, H b = none → b ≠ x := fun b n z => by subst z; rw [n] at mu; exact mu
  have hb : ∀ b, H b = none → b ≠ e := fun b n z => by
    subst z
    rcases he with r | r
    · exact hx b n r
    · rw [n] at r; cases r
  have hm : ∀ b u, H b = some u → ¬ Mut (some u) → b ≠ x := fun b u q nm z => by subst z; rw [q] at mu; exact nm mu
  refine ⟨fun b u q n _ _ => k b u (hb b n) q, fun b u q n _ _ => ⟨u.slots, k b u (hb b n) q⟩, fun b u q n _ => by rw [upd_ne (hx b n)]; exact n, fun b u q _ => ?_,
    fun b xs q => by rw [upd_ne (hm b _ q fun z => z)]; exact q, fun b u xs q => by rw [upd_ne (hm b _ q fun z => z)]; exact q, fun b ps q => ⟨#[], by rw [upd_ne (hm b _ q fun z => z), q]; simp⟩⟩
  by_cases hbe : b = e
  · subst hbe; exact heo
  · exact ⟨u, k b u hbe q⟩
end
def trk (h : Heap) (H : Hp) : List Addr := (List.range h.objs.size).filter fun a => (H a).isSome
def hidT (h : Heap) (H : Hp) : Heap := PySem.W.hideAll h (trk h H)
theorem hidT_size (h : Heap) (H : Hp) : (hidT h H).objs.size = h.objs.size := PySem.W.hideAll_size _ _
theorem hidT_get {h : Heap} {H : Hp} {b : Addr} {o : Obj} (e : h.get? b = some o) (n : H b = none) : (hidT h H).get? b = some o :=
  PySem.W.hideAll_get _ e fun hm => by
    have q : (H b).isSome = true := (List.mem_filter.mp hm).2
    rw [n] at q; simp at q
theorem of_hidT {h : Heap} {H : Hp} {b : Addr} {o : Obj} (e : (hidT h H).get? b = some o) : h.get? b = some o ∧ H b = none := by
  have e' : h.get? b = some o := PySem.W.of_hideAll (trk h H) e
  refine ⟨e', ?_⟩
  cases q : H b with
  | none => rfl
  | some x =>
    have hm : b ∈ trk h H := List.mem_filter.mpr ⟨List.mem_range.mpr (Heap.lt_size e'), by simp [q]⟩
    have z : (hidT h H).get? b = none := PySem.W.hideAll_none (trk h H) hm
    rw [z] at e; cases e
end L2
namespace L2
open PySem PySem.Spec PyProof.Rows
structure Mod (K : PySem.W.Frag) (mg : Str → Option Value) (base : Heap) : Prop where
  kin : K.In base
  glob : base.Ns mainGlobals mg
  blt : ∃ mb, base.Ns builtinsNs mb ∧ ∀ x : Str, x ≠ "__name__" → mb x = bootBuiltins x
  nolimit : base.NoLimit
structure Cx where
  prog : Program
  w : World
  K : PySem.W.Frag
  mg : Str → Option Value
  base : Heap
  A : Around
  N : List Str
  s_0 : Shared
  H_0 : Hp
  env : Env
  outer : List Env
  stack : List Env
  ex : List Addr
  fn : Str → Bool
  calm : Bool
  pn : List (Addr × Obj)
  xe : Value → Shared → Prop
def frs (l : List Env) : List Addr := l.filterMap (·.frame)
abbrev Cx.fs (X : Cx) : List Addr := frs X.outer
def Vis (sc : Scope) (x : Str) : Prop := sc.names.lookup x = some .local ∨ sc.names.lookup x = some .cell ∨ sc.names.lookup x = some .free
def Loc (sc : Scope) (x : Str) : Prop := sc.names.lookup x = some .local ∨ sc.names.lookup x = some .cell
def Look (env : Env) (h : Heap) (m : Str → Option Value) (x : Str) (u : Value) : Prop :=
  (env.kindOf x = some .local ∧ m x = some u) ∨ ((env.kindOf x = some .cell ∨ env.kindOf x = some .free) ∧ ∃ c, env.cells.lookup x = some c ∧ h.IsCell c (some u))
structure Cx.Ok (X : Cx) : Prop where
  mod : Mod X.K X.mg X.base
  kind : X.env.scope.kind = .function
  glob : X.env.globals = mainGlobals
  blt : X.env.builtins = builtinsNs
  above : X.s_0.heap.objs.size ≤ X.env.locals
  inj : ∀ x y c, X.env.cells.lookup x = some c → X.env.cells.lookup y = some c → x = y
  has : ∀ x, (X.env.kindOf x = some .cell ∨ X.env.kindOf x = some .free) → ∃ c, X.env.cells.lookup x = some c
  cab : ∀ x c, X.fn x = true → X.env.cells.lookup x = some c → X.s_0.heap.objs.size ≤ c
  hd : X.calm = true → X.A.handled = none
  frames : X.A.frames = some X.stack
  stk : X.stack = X.outer ∨ (X.stack = X.env :: X.outer ∧ X.env.frame = some X.env.locals)
  exf : ∀ b ∈ X.ex, b ≠ X.env.locals ∧ ∀ x c, X.env.cells.lookup x = some c → c ≠ b
  bs : ∀ b o, X.base.get? b = some o → X.s_0.heap.get? b = some o ∧ X.H_0 b = none
  bsz : X.base.objs.size ≤ X.s_0.heap.objs.size
  noex : ∀ b o, X.base.get? b = some o → b ∉ X.ex
  exfs : ∀ b ∈ X.ex, b ∉ X.fs
  funs : X.s_0.heap.FunFrames X.base X.outer
  frf : ∀ b ∈ X.fs, X.H_0 b = none
structure Inv (X : Cx) (pins : List (Addr × Obj)) (σ : List (Option V)) (H : Hp) (s : Shared) : Prop where
  ok : X.Ok
  os : s.os = X.s_0.os
  bare : AllBare s.gens
  base : Un X.fs X.ex X.H_0 H X.s_0.heap s.heap
  loc : ∃ m, s.heap.Ns X.env.locals m ∧ ∀ (i : Nat) (x : Str) (v : V), X.N[i]? = some x → σ[i]? = some (some v) → Vis X.env.scope x → ∃ u, RelV v u ∧ Look X.env s.heap m x u
  cell : ∀ x c, X.env.cells.lookup x = some c → ∃ v, s.heap.IsCell c v
  free : H X.env.locals = none
  freeC : ∀ x c, X.env.cells.lookup x = some c → H c = none
  pin : ∀ p ∈ X.pn ++ pins, s.heap.get? p.1 = some p.2 ∧ H p.1 = none ∧ p.1 ≠ X.env.locals ∧ p.1 ∉ X.fs ∧ ∀ v, p.2.data ≠ .cell v
  hok : HOk X.prog X.w H s.heap
  len : σ.length = X.N.length
section
variable {X : Cx} {pins : List (Addr × Obj)} {σ : List (Option V)} {H H' : Hp} {s : Shared} {h' : Heap}
theorem Cx.Ok.nofr (ok : X.Ok) {b : Addr} {o : Obj} (e : X.base.get? b = some o) : b ∉ X.fs := fun hb => by
  have := (ok.funs.mem hb).1
  rw [e] at this; cases this
theorem Inv.bs (I : Inv X pins σ H s) : ∀ b o, X.base.get? b = some o → s.heap.get? b = some o ∧ H b = none := fun b o e =>
  ⟨I.base.keep b o (I.ok.bs b o e).1 (I.ok.bs b o e).2 (I.ok.nofr e) (I.ok.noex b o e), I.base.free b o (I.ok.bs b o e).1 (I.ok.bs b o e).2 (I.ok.noex b o e)⟩
theorem Inv.bk (I : Inv X pins σ H s) : ∀ b o, X.base.get? b = some o → s.heap.get? b = some o := fun b o e => (I.bs b o e).1
theorem Inv.mod (I : Inv X pins σ H s) : Mod X.K X.mg X.base := I.ok.mod
theorem Inv.kIn (I : Inv X pins σ H s) : X.K.In s.heap := I.ok.mod.kin.keeps I.bk
theorem Inv.lt (I : Inv X pins σ H s) : X.env.locals < s.heap.objs.size := let ⟨_, hn, _⟩ := I.loc; hn.lt
theorem Inv.sz (I : Inv X pins σ H s) : X.s_0.heap.objs.size ≤ s.heap.objs.size := Nat.le_trans I.ok.above (Nat.le_of_lt I.lt)
theorem Inv.nofs (I : Inv X pins σ H s) {a : Addr} (h : s.heap.objs.size ≤ a) : a ∉ X.fs := fun hb => by
  obtain ⟨_, o, ho, _⟩ := I.ok.funs.mem hb
  exact absurd (Nat.lt_of_lt_of_le (Heap.lt_size ho) (Nat.le_trans I.sz h)) (Nat.lt_irrefl _)
theorem Inv.cne (I : Inv X pins σ H s) : ∀ x c, X.env.cells.lookup x = some c → c ≠ X.env.locals := fun x c e z => by
  obtain ⟨v, o, ho, hd⟩ := I.cell x c e
  obtain ⟨m, ⟨o', es, ep, ho', hd', _⟩, _⟩ := I.loc
  rw [z, ho'] at ho; cases ho; rw [hd'] at hd; cases hd
theorem Inv.funs (I : Inv X pins σ H s) : s.heap.FunFrames X.base X.outer := by
  have all : ∀ (l : List Env), (∀ b ∈ frs l, b ∈ X.fs) → X.s_0.heap.FunFrames X.base l → s.heap.FunFrames X.base l := by
    intro l
    induction l with
    | nil => intro _ _; trivial
    | cons env r ih =>
      intro hs hl
      obtain ⟨hk, ⟨L, o, hf, hn, ho, hd⟩, hr⟩ := hl
      have hL : L ∈ X.fs := hs L (by unfold frs; rw [List.filterMap_cons, hf]; exact List.mem_cons_self)
      obtain ⟨sl, e⟩ := I.base.slot L o ho (I.ok.frf L hL) hL fun z => I.ok.exfs L z hL
      exact ⟨hk, ⟨L, _, hf, hn, e, hd⟩, ih (fun b hb => hs b (by unfold frs; rw [List.filterMap_cons, hf]; exact List.mem_cons_of_mem _ hb)) hr⟩
  exact all X.outer (fun _ hb => hb) I.ok.funs
theorem Inv.stack (I : Inv X pins σ H s) : s.heap.FunFrames X.base X.stack := by
  rcases I.ok.stk with e | ⟨e, hf⟩
  · rw [e]; exact I.funs
  · rw [e]
    obtain ⟨m, hn, _⟩ := I.loc
    refine .cons (by rw [I.ok.kind]; decide) hf hn ?_ I.funs
    exact Heap.get?_none_of_le (Nat.le_trans I.ok.bsz I.ok.above)
theorem Inv.stkSub (I : Inv X pins σ H s) : ∀ b ∈ frs X.stack, b ∈ X.env.locals :: X.fs := fun b hb => by
  rcases I.ok.stk with e | ⟨e, hf⟩
  · rw [e] at hb; exact List.mem_cons_of_mem _ hb
  · rw [e] at hb
    unfold frs at hb
    rw [List.filterMap_cons, hf] at hb
    exact hb
theorem Inv.stkFree (I : Inv X pins σ H s) : ∀ b ∈ frs X.stack, H b = none := fun b hb => by
  rcases List.mem_cons.mp (I.stkSub b hb) with e | hb
  · rw [e]; exact I.free
  · obtain ⟨_, o, ho, _⟩ := I.ok.funs.mem hb
    exact I.base.free b o ho (I.ok.frf b hb) fun z => I.ok.exfs b z hb
theorem Inv.step {g' : Array GenState} {t' : Nat} {d' : Drawn} {ch : List Addr} (I : Inv X pins σ H s)
    (hch : ∀ b ∈ ch, (b ∈ X.ex ∨ X.s_0.heap.objs.size ≤ b) ∧ b ≠ X.env.locals ∧ (∀ x c, X.env.cells.lookup x = some c → c ≠ b) ∧ ∀ p ∈ X.pn ++ pins, p.1 ≠ b)
    (keep : ∀ b o, b ≠ X.env.locals → b ∉ X.fs → b ∉ ch → s.heap.get? b = some o → H b = none → h'.get? b = some o)
    (slot : ∀ b o, b ≠ X.env.locals → b ∈ X.fs → b ∉ ch → s.heap.get? b = some o → H b = none → ∃ sl, h'.get? b = some { o with slots := sl }) (free : ∀ b o, b ∉ ch → s.heap.get? b = some o → H b = none → H' b = none)
    (there : ∀ b o, b ∉ ch → s.heap.get? b = some o → ∃ o', h'.get? b = some o')
    (tups : ∀ b xs, H b = some (.tup xs) → H' b = some (.tup xs)) (frzs : ∀ b o u, H b = some (.frz o u) → H' b = some (.frz o u)) (tbls : ∀ b ps, H b = some (.tbl ps) → ∃ more, H' b = some (.tbl (ps ++ more)))
    (ns : ∀ m, s.heap.Ns X.env.locals m → h'.Ns X.env.locals m) (hok : HOk X.prog X.w H' h') (hg : AllBare g') :
    Inv X pins σ H' { s with heap := h', gens := g', drawn := d', toks := t' } := by
  have neL : ∀ b o, X.s_0.heap.get? b = some o → b ≠ X.env.locals := fun b o e => Nat.ne_of_lt (Nat.lt_of_lt_of_le (Heap.lt_size e) I.ok.above)
  have neC : ∀ b o, X.s_0.heap.get? b = some o → b ∉ X.ex → b ∉ ch := fun b o e hx hb => by
    rcases (hch b hb).1 with z | z
    · exact hx z
    · exact absurd (Nat.lt_of_lt_of_le (Heap.lt_size e) z) (Nat.lt_irrefl _)
  have cellK : ∀ x c, X.env.cells.lookup x = some c → ∀ v, s.heap.IsCell c v → h'.IsCell c v := fun x c e v ⟨o, ho, hd⟩ => by
    have nch : c ∉ ch := fun z => (hch c z).2.2.1 x c e rfl
    by_cases hc : c ∈ X.fs
    · obtain ⟨sl, q⟩ := slot c o (I.cne x c e) hc nch ho (I.freeC x c e)
      exact ⟨_, q, hd⟩
    · exact ⟨o, keep c o (I.cne x c e) hc nch ho (I.freeC x c e), hd⟩
  refine ⟨I.ok, I.os, hg, ⟨fun b o e n hb hx => ?_, fun b o e n hb hx => ?_, fun b o e n hx => ?_, fun b o e hx => ?_, fun b xs e => tups b xs (I.base.tups b xs e), fun b o xs e => frzs b o xs (I.base.frzs b o xs e), fun b ps e => ?_⟩, ?_, fun x c e => ?_, ?_, fun x c e => ?_, fun p hp => ?_, hok, I.len⟩
  · exact keep b o (neL b o e) hb (neC b o e hx) (I.base.keep b o e n hb hx) (I.base.free b o e n hx)
  · obtain ⟨sl, e1⟩ := I.base.slot b o e n hb hx
    obtain ⟨sl', e2⟩ := slot b _ (neL b o e) hb (neC b o e hx) e1 (I.base.free b o e n hx)
    exact ⟨sl', e2⟩
  · obtain ⟨o', e1⟩ := I.base.there b o e hx
    exact free b o' (neC b o e hx) e1 (I.base.free b o e n hx)
  · obtain ⟨o', e1⟩ := I.base.there b o e hx
    exact there b o' (neC b o e hx) e1
  · obtain ⟨m1, e1⟩ := I.base.tbls b ps e
    obtain ⟨m2, e2⟩ := tbls b _ e1
    exact ⟨m1 ++ m2, by rw [e2, Array.append_assoc]⟩
  · obtain ⟨m, hn, hl⟩ := I.loc
    refine ⟨m, ns m hn, fun i x v e1 e2 e3 => ?_⟩
    obtain ⟨u, r, l⟩ := hl i x v e1 e2 e3
    refine ⟨u, r, ?_⟩
    rcases l with l | ⟨k, c, e, z⟩
    · exact .inl l
    · exact .inr ⟨k, c, e, cellK x c e _ z⟩
  · obtain ⟨v, z⟩ := I.cell x c e
    exact ⟨v, cellK x c e v z⟩
  · obtain ⟨m, ⟨o, _, _, ho, _⟩, _⟩ := I.loc
    exact free _ o (fun z => (hch _ z).2.1 rfl) ho I.free
  · obtain ⟨v, o, ho, hd⟩ := I.cell x c e
    exact free c o (fun z => (hch c z).2.2.1 x c e rfl) ho (I.freeC x c e)
  · obtain ⟨e, n, ne, nf, d⟩ := I.pin p hp
    have nch : p.1 ∉ ch := fun z => (hch p.1 z).2.2.2 p hp rfl
    exact ⟨keep p.1 p.2 ne nf nch e n, free p.1 p.2 nch e n, ne, nf, d⟩
theorem Inv.un {t' : Nat} (I : Inv X pins σ H s) (u : Un X.fs [] H H' s.heap h') (hok : HOk X.prog X.w H' h') : Inv X pins σ H' { s with heap := h', toks := t' } := by
  obtain ⟨m, ⟨o, es, ep, ho, r⟩, _⟩ := id I.loc
  obtain ⟨sl, hL⟩ := u.any ho I.free (by simp)
  exact I.step (g' := s.gens) (d' := s.drawn) (ch := []) (fun _ z => nomatch z) (fun b o _ hb _ e n => u.keep b o e n hb (by simp)) (fun b o _ hb _ e n => u.slot b o e n hb (by simp)) (fun b o _ e n => u.free b o e n (by simp)) (fun b o _ e => u.there b o e (by simp)) u.tups u.frzs u.tbls (fun m' hm => by
    obtain ⟨o', es', ep', ho', r'⟩ := hm
    rw [ho] at ho'; cases ho'
    exact ⟨_, es', ep', hL, r'⟩) hok I.bare
theorem Inv.call {g' : Array GenState} {t' : Nat} {d' : Drawn} {ch : List Addr} (I : Inv X pins σ H s) (u : Un (frs X.stack) ch H H' s.heap h') (hok : HOk X.prog X.w H' h') (hg : AllBare g')
    (hch : ∀ b ∈ ch, (b ∈ X.ex ∨ X.s_0.heap.objs.size ≤ b) ∧ b ≠ X.env.locals ∧ (∀ x c, X.env.cells.lookup x = some c → c ≠ b) ∧ ∀ p ∈ X.pn ++ pins, p.1 ≠ b) :
    Inv X pins σ H' { s with heap := h', gens := g', drawn := d', toks := t' } := by
  obtain ⟨m, ⟨o, es, ep, ho, r⟩, _⟩ := id I.loc
  obtain ⟨sl, hL⟩ := u.any ho I.free fun z => (hch _ z).2.1 rfl
  exact I.step (ch := ch) hch (fun b o hL hb hc e n => u.keep b o e n (fun z => (List.mem_cons.mp (I.stkSub b z)).elim hL hb) hc) (fun b o _ _ hc e n => u.any e n hc) (fun b o hc e n => u.free b o e n hc) (fun b o hc e => u.there b o e hc) u.tups u.frzs u.tbls (fun m' hm => by
    obtain ⟨o', es', ep', ho', r'⟩ := hm
    rw [ho] at ho'; cases ho'
    exact ⟨_, es', ep', hL, r'⟩) hok hg
theorem Inv.turned {t' : Nat} {it : Addr} (I : Inv X pins σ H s) (k : ∀ b o, b ≠ it → s.heap.get? b = some o → h'.get? b = some o) (hn : H it = none) (hL : it ≠ X.env.locals)
    (h1 : it ∈ X.ex ∨ X.s_0.heap.objs.size ≤ it) (h2 : ∀ x c, X.env.cells.lookup x = some c → c ≠ it) (h3 : ∀ p ∈ X.pn ++ pins, p.1 ≠ it) : Inv X pins σ H { s with heap := h', toks := t' } := by
  have nit : ∀ b u, H b = some u → b ≠ it := fun b u e z => by rw [z, hn] at e; cases e
  refine I.step (g' := s.gens) (d' := s.drawn) (ch := [it]) (fun b hb => ?_) (fun b o _ _ hc e _ => k b o (fun z => hc (by simp [z])) e) (fun b o _ _ hc e _ => ⟨o.slots, k b o (fun z => hc (by simp [z])) e⟩) (fun _ _ _ _ n => n)
    (fun b o hc e => ⟨o, k b o (fun z => hc (by simp [z])) e⟩) (fun _ _ e => e) (fun _ _ _ e => e) (fun b ps e => ⟨#[], by rw [e]; simp⟩) (fun m hm => ?_) (fun b u e => ?_) I.bare
  · have e : b = it := by simpa using hb
    subst e
    exact ⟨h1, hL, h2, h3⟩
  · obtain ⟨o, es, ep, ho, r⟩ := hm
    exact ⟨o, es, ep, k _ o (Ne.symm hL) ho, r⟩
  · refine (I.hok b u e).stay (fun c v hc q => k c v ?_ q) (fun _ q => q) fun _ _ q => q
    rcases hc with z | z
    · rw [z]; exact nit b u e
    · exact nit c _ z
theorem Inv.tok (I : Inv X pins σ H s) (t : Nat) : Inv X pins σ H { s with toks := t } := I.un (h' := s.heap) (t' := t) Un.refl I.hok
theorem Inv.kept {t' : Nat} (I : Inv X pins σ H s) (k : ∀ b u, s.heap.get? b = some u → h'.get? b = some u) : Inv X pins σ H { s with heap := h', toks := t' } := I.un (Un.kept k) (I.hok.kept k)
theorem Inv.laid {a : Addr} {o : HO} {t' : Nat} (I : Inv X pins σ H s) (k : ∀ b u, s.heap.get? b = some u → h'.get? b = some u) (hp : s.heap.objs.size ≤ a) (new : ObjOk X.prog X.w (upd H a o) h' a o) :
    Inv X pins σ (upd H a o) { s with heap := h', toks := t' } := I.un (Un.laid k hp (I.hok.fresh hp)) (I.hok.laid k hp new)
theorem Inv.write {x e : Addr} {o : HO} {t' : Nat} (I : Inv X pins σ H s) (mu : Mut (H x)) (he : e = x ∨ H e = some (.own x)) (k : ∀ b u, b ≠ e → s.heap.get? b = some u → h'.get? b = some u) (heo : ∃ u, h'.get? e = some u)
    (new : ObjOk X.prog X.w (upd H x o) h' x o) : Inv X pins σ (upd H x o) { s with heap := h', toks := t' } := I.un (Un.write mu he k heo) (I.hok.write mu he k heo new)
theorem Inv.weak {σ' : List (Option V)} (I : Inv X pins σ H s) (hl : σ'.length = σ.length) (w : ∀ (i : Nat) v, σ'[i]? = some (some v) → σ[i]? = some (some v)) : Inv X pins σ' H s :=
  ⟨I.ok, I.os, I.bare, I.base, let ⟨m, hn, hl'⟩ := I.loc; ⟨m, hn, fun i x v e1 e2 e3 => hl' i x v e1 (w i v e2) e3⟩, I.cell, I.free, I.freeC, I.pin, I.hok, hl.trans I.len⟩
theorem Inv.pins_of {pins' : List (Addr × Obj)} (I : Inv X pins σ H s) (h : ∀ p ∈ pins', s.heap.get? p.1 = some p.2 ∧ H p.1 = none ∧ p.1 ≠ X.env.locals ∧ p.1 ∉ X.fs ∧ ∀ v, p.2.data ≠ .cell v) : Inv X pins' σ H s :=
  ⟨I.ok, I.os, I.bare, I.base, I.loc, I.cell, I.free, I.freeC, fun p hp => (List.mem_append.mp hp).elim (fun z => I.pin p (List.mem_append_left _ z)) (h p), I.hok, I.len⟩
theorem nodup_ix {N : List Str} (hN : N.Nodup) {i j : Nat} {x : Str} (a : N[i]? = some x) (b : N[j]? = some x) : i = j := by
  obtain ⟨h1, e1⟩ := List.getElem?_eq_some_iff.mp a
  obtain ⟨h2, e2⟩ := List.getElem?_eq_some_iff.mp b
  exact (List.getElem_inj hN).mp (e1.trans e2.symm)
theorem store_ok2 {M : Model} {A : Around} {E : Value → Shared → Prop} {i : Nat} {x : Str} {v : V} {u : Value} {Q : Unit → Shared → Prop} (I : Inv X pins σ H s) (hN : X.N.Nodup) (hi : X.N[i]? = some x) (hx : Loc X.env.scope x) (r : RelV v u)
    (h : ∀ s', Inv X pins (σ.set i (some v)) H s' → (∃ a, Heap.SameBut a s.heap s'.heap ∧ (a = X.env.locals ∨ X.env.cells.lookup x = some a)) → Q () s') (hf : X.fn x = true ∨ X.env.scope.names.lookup x = some .local := by first | exact .inl rfl | exact .inr rfl | assumption) : wpAny M A (storeName X.env x u) Q E s := by
  obtain ⟨m, hn, hl⟩ := id I.loc
  have hcls : (X.env.scope.kind == .class || (X.env.scope.kind == .module && X.env.locals != X.env.globals)) = false := by rw [I.ok.kind]; rfl
  have hiσ : i < σ.length := by rw [I.len]; exact (List.getElem?_eq_some_iff.mp hi).1
  have cne := I.cne
  have tracked : ∀ {a : Addr} {h' : Heap}, (∃ o, s.heap.get? a = some o ∧ H a = none) → Heap.SameBut a s.heap h' → HOk X.prog X.w H h' := fun {a h'} ha hs b ob e => by
    obtain ⟨_, _, hfree⟩ := ha
    refine (I.hok b ob e).stay (fun c w' hc q => (hs.2 c ?_).trans q) (fun _ q => q) fun _ _ q => q
    rintro rfl
    rcases hc with rfl | hc
    · rw [hfree] at e; cases e
    · rw [hfree] at hc; cases hc
  rcases hx with hk | hk
  · refine wpAny_storeName_local hk hn (fun h' hn' hs => ?_) hcls
    obtain ⟨oL, _, _, hoL, _⟩ := id hn
    refine h _ ⟨I.ok, I.os, I.bare, ⟨fun b o e n hb hx => ?_, fun b o e n hb hx => ?_, I.base.free, fun b o e hx => ?_, I.base.tups, I.base.frzs, I.base.tbls⟩, ⟨_, hn', fun j y v' e1 e2 e3 => ?_⟩, fun y c e => ?_, I.free, I.freeC, fun p hp => ?_, tracked ⟨oL, hoL, I.free⟩ hs, by simpa using I.len⟩ ⟨_, hs, .inl rfl⟩
    · exact (hs.2 b (Nat.ne_of_lt (Nat.lt_of_lt_of_le (Heap.lt_size e) I.ok.above))).trans (I.base.keep b o e n hb hx)
    · obtain ⟨sl, e1⟩ := I.base.slot b o e n hb hx
      exact ⟨sl, (hs.2 b (Nat.ne_of_lt (Nat.lt_of_lt_of_le (Heap.lt_size e) I.ok.above))).trans e1⟩
    · obtain ⟨o', e1⟩ := I.base.there b o e hx
      exact ⟨o', (hs.2 b (Nat.ne_of_lt (Nat.lt_of_lt_of_le (Heap.lt_size e) I.ok.above))).trans e1⟩
    · by_cases hj : j = i
      · subst hj
        rw [hi] at e1; cases e1
        rw [List.getElem?_set_self hiσ] at e2
        cases e2
        exact ⟨u, r, .inl ⟨hk, by simp⟩⟩
      · rw [List.getElem?_set_ne (Ne.symm hj)] at e2
        obtain ⟨u', r', q⟩ := hl j y v' e1 e2 e3
        refine ⟨u', r', ?_⟩
        rcases q with ⟨k, e⟩ | ⟨k, c, e, z⟩
        · refine .inl ⟨k, ?_⟩
          have : y ≠ x := fun e => hj (nodup_ix hN e1 (e ▸ hi))
          simp [this, e]
        · exact .inr ⟨k, c, e, z.sameBut hs (cne y c e)⟩
    · obtain ⟨w', z⟩ := I.cell y c e
      exact ⟨w', z.sameBut hs (cne y c e)⟩
    · obtain ⟨e, n, ne, nf, d⟩ := I.pin p hp
      exact ⟨(hs.2 p.1 ne).trans e, n, ne, nf, d⟩
  · have hfn : X.fn x = true := by
      rcases hf with z | z
      · exact z
      · rw [z] at hk; cases hk
    obtain ⟨c, hc⟩ := I.ok.has x (.inl hk)
    obtain ⟨w', z⟩ := I.cell x c hc
    refine wpAny_storeName_cell I.ok.kind hk hc z (fun h' hc' hs => ?_)
    obtain ⟨oc, hoc, hocd⟩ := id z
    refine h { s with heap := h' } ⟨I.ok, I.os, I.bare, ⟨fun b o e n hb hx => ?_, fun b o e n hb hx => ?_, I.base.free, fun b o e hx => ?_, I.base.tups, I.base.frzs, I.base.tbls⟩, ⟨m, hn.sameBut hs (Ne.symm (cne x c hc)), fun j y v' e1 e2 e3 => ?_⟩, fun y c' e => ?_, I.free, I.freeC, fun p hp => ?_, tracked ⟨oc, hoc, I.freeC x c hc⟩ hs, by simpa using I.len⟩ ⟨c, hs, .inr hc⟩
    · exact (hs.2 b (Nat.ne_of_lt (Nat.lt_of_lt_of_le (Heap.lt_size e) (I.ok.cab x c hfn hc)))).trans (I.base.keep b o e n hb hx)
    · obtain ⟨sl, e1⟩ := I.base.slot b o e n hb hx
      exact ⟨sl, (hs.2 b (Nat.ne_of_lt (Nat.lt_of_lt_of_le (Heap.lt_size e) (I.ok.cab x c hfn hc)))).trans e1⟩
    · obtain ⟨o', e1⟩ := I.base.there b o e hx
      exact ⟨o', (hs.2 b (Nat.ne_of_lt (Nat.lt_of_lt_of_le (Heap.lt_size e) (I.ok.cab x c hfn hc)))).trans e1⟩
    · by_cases hj : j = i
      · subst hj
        rw [hi] at e1; cases e1
        rw [List.getElem?_set_self hiσ] at e2
        cases e2
        exact ⟨u, r, .inr ⟨.inl hk, c, hc, hc'⟩⟩
      · rw [List.getElem?_set_ne (Ne.symm hj)] at e2
        obtain ⟨u', r', q⟩ := hl j y v' e1 e2 e3
        refine ⟨u', r', ?_⟩
        rcases q with q | ⟨k, c', e, z'⟩
        · exact .inl q
        · refine .inr ⟨k, c', e, z'.sameBut hs ?_⟩
          rintro rfl
          exact hj (nodup_ix hN e1 (I.ok.inj _ _ _ e hc ▸ hi))
    · by_cases hcc : c' = c
      · subst hcc; exact ⟨_, hc'⟩
      · obtain ⟨w2, z2⟩ := I.cell y c' e
        exact ⟨w2, z2.sameBut hs hcc⟩
    · obtain ⟨e, n, ne, nf, d⟩ := I.pin p hp
      refine ⟨(hs.2 p.1 ?_).trans e, n, ne, nf, d⟩
      intro q
      rw [q, hoc] at e
      have q' : oc = p.2 := Option.some.inj e
      exact d w' (by rw [← q']; exact hocd)
theorem store_ok {M : Model} {A : Around} {E : Value → Shared → Prop} {i : Nat} {x : Str} {v : V} {u : Value} {Q : Unit → Shared → Prop} (I : Inv X pins σ H s) (hN : X.N.Nodup) (hi : X.N[i]? = some x) (hx : Loc X.env.scope x) (r : RelV v u)
    (h : ∀ s', Inv X pins (σ.set i (some v)) H s' → Q () s') (hf : X.fn x = true ∨ X.env.scope.names.lookup x = some .local := by first | exact .inl rfl | exact .inr rfl | assumption) : wpAny M A (storeName X.env x u) Q E s :=
  store_ok2 I hN hi hx r (fun s' I' _ => h s' I') hf
theorem Inv.call' {s' : Shared} {ch : List Addr} (I : Inv X pins σ H s) (ho : s'.os = s.os) (u : Un (frs X.stack) ch H H' s.heap s'.heap) (hok : HOk X.prog X.w H' s'.heap) (hg : AllBare s'.gens)
    (hch : ∀ b ∈ ch, (b ∈ X.ex ∨ X.s_0.heap.objs.size ≤ b) ∧ b ≠ X.env.locals ∧ (∀ x c, X.env.cells.lookup x = some c → c ≠ b) ∧ ∀ p ∈ X.pn ++ pins, p.1 ≠ b) : Inv X pins σ H' s' := by
  obtain ⟨h', g', d', t', o'⟩ := s'
  have e : o' = s.os := ho
  subst e
  exact I.call (g' := g') (t' := t') (d' := d') u hok hg hch
end
abbrev XK := Value → Option Addr → Hp → Prop
abbrev St := List (Option V)
abbrev VK := V → Hp → Prop
abbrev TE := St → Hp → VK → Prop
abbrev TT := St → Hp → (Bool → Hp → Prop) → Prop
abbrev TA := St → Hp → (List V → Hp → Prop) → Prop
structure Ends where
  nx : St → Hp → Prop
  rt : VK
  bk : St → Hp → Prop := fun _ _ => False
  ct : St → Hp → Prop := fun _ _ => False
abbrev TS := Ends → St → Hp → Prop
def EP (X : Cx) (pins : List (Addr × Obj)) (σ : St) (Q : VK) (u : Value) (s' : Shared) : Prop := ∃ v H', Inv X pins σ H' s' ∧ RelV v u ∧ Q v H'
def TP (X : Cx) (pins : List (Addr × Obj)) (σ : St) (Q : Bool → Hp → Prop) (b : Bool) (s' : Shared) : Prop := ∃ H', Inv X pins σ H' s' ∧ Q b H'
def AP (X : Cx) (pins : List (Addr × Obj)) (σ : St) (Q : List V → Hp → Prop) (us : List Value) (s' : Shared) : Prop := ∃ vs H', Inv X pins σ H' s' ∧ Vals vs us ∧ Q vs H'
def SP (X : Cx) (pins : List (Addr × Obj)) (D : Ends) (f : Flow) (s' : Shared) : Prop :=
  match f with
  | .next => ∃ σ' H', Inv X pins σ' H' s' ∧ D.nx σ' H'
  | .brk => ∃ σ' H', Inv X pins σ' H' s' ∧ D.bk σ' H'
  | .cont => ∃ σ' H', Inv X pins σ' H' s' ∧ D.ct σ' H'
  | .ret u => ∃ v σ' H', Inv X pins σ' H' s' ∧ RelV v u ∧ D.rt v H'
def PE (X : Cx) (e : Expr) (t : TE) : Prop :=
  ∀ (pins : List (Addr × Obj)) (s : Shared) (σ : St) (H : Hp) (Q : VK), Inv X pins σ H s → t σ H Q → wpAny (model X.prog X.w) X.A (eval e X.env) (EP X pins σ Q) X.xe s
def PT (X : Cx) (e : Expr) (t : TT) : Prop :=
  ∀ (pins : List (Addr × Obj)) (s : Shared) (σ : St) (H : Hp) (Q : Bool → Hp → Prop), Inv X pins σ H s → t σ H Q → wpAny (model X.prog X.w) X.A (isTrue e X.env (eval e X.env)) (TP X pins σ Q) X.xe s
def PW (X : Cx) (e : Expr) (t : TT) : Prop :=
  ∀ (whole : Sem Value) (pins : List (Addr × Obj)) (s : Shared) (σ : St) (H : Hp) (Q : Bool → Hp → Prop), Inv X pins σ H s → t σ H Q → wpAny (model X.prog X.w) X.A (isTrue e X.env whole) (TP X pins σ Q) X.xe s
theorem PW.pt {X : Cx} {e : Expr} {t : TT} (h : PW X e t) : PT X e t := h _
def PA (X : Cx) (es : List Expr) (t : TA) : Prop :=
  ∀ (pos : Pos) (pins : List (Addr × Obj)) (s : Shared) (σ : St) (H : Hp) (Q : List V → Hp → Prop), Inv X pins σ H s → t σ H Q → wpAny (model X.prog X.w) X.A (spliced (backTo pos (starEach es X.env))) (AP X pins σ Q) X.xe s
def PS (X : Cx) (st : Stmt) (t : TS) : Prop :=
  ∀ (pins : List (Addr × Obj)) (s : Shared) (σ : St) (H : Hp) (D : Ends), Inv X pins σ H s → t D σ H → wpAny (model X.prog X.w) X.A (exec st X.env) (SP X pins D) X.xe s
def PSs (X : Cx) (st : List Stmt) (t : TS) : Prop :=
  ∀ (pins : List (Addr × Obj)) (s : Shared) (σ : St) (H : Hp) (D : Ends), Inv X pins σ H s → t D σ H → wpAny (model X.prog X.w) X.A (execs st X.env) (SP X pins D) X.xe s
theorem thn {α : Type} {t : Sem α} {Q Q' : α → Shared → Prop} {M : Model} {A : Around} {E : Value → Shared → Prop} {s : Shared} (h : wpAny M A t Q E s) (hQ : ∀ a s, Q a s → Q' a s) : wpAny M A t Q' E s := wpAny_mono h hQ fun _ _ x => x
end L2
namespace L2
open PySem PySem.Spec PyProof.Rows
section
variable {X : Cx}
def tVar (i : Nat) : TE := fun σ H Q => ∃ v, σ[i]? = some (some v) ∧ Q v H
def tC (v : V) : TE := fun _ H Q => Q v H
theorem pe_var {i : Nat} {x : Str} {pos : Pos} (hN : X.N[i]? = some x) (hv : Vis X.env.scope x) (hd : (x == ("__debug__" : Str)) = false := by decide) (hcd : (x == ("__classdict__" : Str)) = false := by decide) : PE X (.Name x pos) (tVar i) := by
  intro pins s σ H Q I h
  obtain ⟨v, e, h⟩ := h
  obtain ⟨m, hn, hl⟩ := I.loc
  obtain ⟨u, r, l⟩ := hl i x v hN e hv
  have fin : EP X pins σ Q u s := ⟨v, H, I, r, h⟩
  rcases l with ⟨hk, hm⟩ | ⟨hk, c, hc, hcell⟩
  · exact wpAny_Name (wpAny_loadName_local I.ok.kind hk hn hm fin) hd
  · rcases hk with hk | hk
    · exact wpAny_Name (wpAny_loadName_cell I.ok.kind hk hc hcell fin) hd
    · exact wpAny_Name (wpAny_loadName_free I.ok.kind hk hc hcell fin hcd) hd
theorem pe_int {i j pos} : PE X (.Constant (.int i) j pos) (tC (.int i)) := fun _ _ _ H _ I h => wpAny_Constant_int ⟨.int i, H, I.tok _, ⟨_, rfl⟩, h⟩
theorem pe_bl {b j pos} : PE X (.Constant (.bool b) j pos) (tC (.bl b)) := fun _ _ _ H _ I h => Constant_bool ⟨.bl b, H, I, rfl, h⟩
theorem pe_non {j pos} : PE X (.Constant .none j pos) (tC .non) := fun _ _ _ H _ I h => Constant_none ⟨.non, H, I, rfl, h⟩
theorem pe_str {x j pos} : PE X (.Constant (.str x) j pos) (tC (.str x)) := fun _ _ _ H _ I h => Calls.Constant_str ⟨.str x, H, I.tok _, ⟨_, rfl⟩, h⟩
def Gl (X : Cx) (x : Str) : Prop := X.env.kindOf x = some .globalImplicit
theorem ld_glob {E : Value → Shared → Prop} {pins : List (Addr × Obj)} {s : Shared} {σ : St} {H : Hp} {x : Str} {u : Value} {pos : Pos} {Q : Value → Shared → Prop} (I : Inv X pins σ H s) (hg : Gl X x) (hm : X.mg x = some u) (h : Q u s)
    (hd : (x == ("__debug__" : Str)) = false := by decide) : wpAny (model X.prog X.w) X.A (eval (.Name x pos) X.env) Q E s :=
  Calls.Name_function_global I.ok.kind hg (Calls.loadGlobal_global (by rw [I.ok.glob]; exact I.mod.glob.keeps I.bk) hm h) hd
theorem ld_blt {E : Value → Shared → Prop} {pins : List (Addr × Obj)} {s : Shared} {σ : St} {H : Hp} {x : Str} {u : Value} {pos : Pos} {Q : Value → Shared → Prop} (I : Inv X pins σ H s) (hg : Gl X x) (hm : X.mg x = none) (hv : bootBuiltins x = some u) (h : Q u s)
    (hn : x ≠ "__name__" := by decide) (hd : (x == ("__debug__" : Str)) = false := by decide) : wpAny (model X.prog X.w) X.A (eval (.Name x pos) X.env) Q E s := by
  obtain ⟨mb, h1, h2⟩ := I.mod.blt
  exact Calls.Name_function_global I.ok.kind hg (Calls.loadGlobal_builtin (by rw [I.ok.glob]; exact I.mod.glob.keeps I.bk) hm (by rw [I.ok.blt]; exact h1.keeps I.bk) ((h2 x hn).trans hv) h) hd
theorem pe_glob {x : Str} {v : V} {u : Value} {pos : Pos} (hg : Gl X x) (hm : X.mg x = some u) (r : RelV v u) (hd : (x == ("__debug__" : Str)) = false := by decide) : PE X (.Name x pos) (tC v) :=
  fun _ _ _ H _ I h => ld_glob I hg hm ⟨v, H, I, r, h⟩ hd
variable {a b : Expr} {ta tb : TE} {pos : Pos}
def tB (t : TE) : TT := fun σ H Q => t σ H fun x H1 => ∃ c, x = .bl c ∧ Q c H1
theorem pt_val {e : Expr} {t : TE} (h : PE X e t) (he : ∀ whole, isTrue e X.env whole = (do let v ← whole; standAt e.pos; holding [v] (truthy v)) := by intro _; rfl) : PT X e (tB t) := by
  intro pins s σ H Q I hw
  refine isTrue_plain (thn (h pins s σ H _ I hw) fun v s1 ⟨x, H1, I1, r1, q1⟩ => ?_) (he _)
  obtain ⟨d, rfl, q⟩ := q1
  cases r1
  exact wpAny_truthy_bool ⟨H1, I1, q⟩
variable {tA tB' : TT} {rest : List Expr}
def tAnd (t u : TT) : TT := fun σ H Q => t σ H fun c H1 => if c = true then u σ H1 Q else Q false H1
def tOr (t u : TT) : TT := fun σ H Q => t σ H fun c H1 => if c = true then Q true H1 else u σ H1 Q
def tNot (t : TT) : TT := fun σ H Q => t σ H fun c H1 => Q (!c) H1
theorem pw_and1 (ha : PT X a tA) : PW X (.BoolOp .And [a] pos) tA := by
  intro wh pins s σ H Q I h
  refine isTrue_and (thn (ha pins s σ H Q I h) fun c s1 e => ?_)
  cases c with
  | true => exact isTrue_and_nil e
  | false => exact e
theorem pw_or1 (ha : PT X a tA) : PW X (.BoolOp .Or [a] pos) tA := by
  intro wh pins s σ H Q I h
  refine isTrue_or (thn (ha pins s σ H Q I h) fun c s1 e => ?_)
  cases c with
  | false => exact isTrue_or_nil e
  | true => exact e
theorem pw_and (ha : PT X a tA) (hb : PW X (.BoolOp .And (b :: rest) pos) tB') : PW X (.BoolOp .And (a :: b :: rest) pos) (tAnd tA tB') := by
  intro wh pins s σ H Q I h
  refine isTrue_and (thn (ha pins s σ H _ I h) fun c s1 ⟨H1, I1, q1⟩ => ?_)
  cases c with
  | true => exact hb wh pins s1 σ H1 Q I1 q1
  | false => exact ⟨H1, I1, q1⟩
theorem pw_or (ha : PT X a tA) (hb : PW X (.BoolOp .Or (b :: rest) pos) tB') : PW X (.BoolOp .Or (a :: b :: rest) pos) (tOr tA tB') := by
  intro wh pins s σ H Q I h
  refine isTrue_or (thn (ha pins s σ H _ I h) fun c s1 ⟨H1, I1, q1⟩ => ?_)
  cases c with
  | true => exact ⟨H1, I1, q1⟩
  | false => exact hb wh pins s1 σ H1 Q I1 q1
theorem pt_not (ha : PT X a tA) : PT X (.UnaryOp .Not a pos) (tNot tA) := by
  intro pins s σ H Q I h
  exact isTrue_not (ha pins s σ H (fun c H1 => Q (!c) H1) I h)
def tAndV (ta tb : TE) : TE := fun σ H Q => ta σ H fun x H1 => ∃ c, x = .bl c ∧ if c = true then tb σ H1 Q else Q (.bl false) H1
def tOrV (ta tb : TE) : TE := fun σ H Q => ta σ H fun x H1 => ∃ c, x = .bl c ∧ if c = true then Q (.bl true) H1 else tb σ H1 Q
def tNotV (ta : TE) : TE := fun σ H Q => ta σ H fun x H1 => ∃ c, x = .bl c ∧ Q (.bl (!c)) H1
theorem pe_one {op} {t : TE} (h : PE X a t) : PE X (.BoolOp op [a] pos) t := fun pins s σ H Q I hw => BoolOp_one (h pins s σ H Q I hw)
theorem pe_and (ha : PE X a ta) (hb : PE X (.BoolOp .And (b :: rest) pos) tb) : PE X (.BoolOp .And (a :: b :: rest) pos) (tAndV ta tb) := by
  intro pins s σ H Q I h
  refine BoolOp_and (thn (ha pins s σ H _ I h) fun v s1 ⟨x, H1, I1, r1, q1⟩ => ?_)
  obtain ⟨c, rfl, q1⟩ := q1
  cases r1
  refine wpAny_truthy_bool ?_
  cases c with
  | true => exact hb pins s1 σ H1 Q I1 q1
  | false => exact ⟨.bl false, H1, I1, rfl, q1⟩
theorem pe_or (ha : PE X a ta) (hb : PE X (.BoolOp .Or (b :: rest) pos) tb) : PE X (.BoolOp .Or (a :: b :: rest) pos) (tOrV ta tb) := by
  intro pins s σ H Q I h
  refine BoolOp_or (thn (ha pins s σ H _ I h) fun v s1 ⟨x, H1, I1, r1, q1⟩ => ?_)
  obtain ⟨c, rfl, q1⟩ := q1
  cases r1
  refine wpAny_truthy_bool ?_
  cases c with
  | false => exact hb pins s1 σ H1 Q I1 q1
  | true => exact ⟨.bl true, H1, I1, rfl, q1⟩
theorem pe_not (ha : PE X a ta) : PE X (.UnaryOp .Not a pos) (tNotV ta) := by
  intro pins s σ H Q I h
  refine UnaryOp_ (thn (ha pins s σ H _ I h) fun v s1 ⟨x, H1, I1, r1, q1⟩ => ?_)
  obtain ⟨c, rfl, q1⟩ := q1
  cases r1
  exact not_of (wpAny_truthy_bool ⟨.bl (!c), H1, I1, rfl, q1⟩)
def tIf (t : TT) (ta tb : TE) : TE := fun σ H Q => t σ H fun c H1 => if c = true then ta σ H1 Q else tb σ H1 Q
theorem pe_ifExp {c : Expr} (hc : PT X c tA) (ha : PE X a ta) (hb : PE X b tb) : PE X (.IfExp c a b pos) (tIf tA ta tb) := by
  intro pins s σ H Q I h
  refine wpAny_IfExp (thn (hc pins s σ H _ I h) fun d s1 ⟨H1, I1, q1⟩ => ?_)
  cases d with
  | true => exact ha pins s1 σ H1 Q I1 q1
  | false => exact hb pins s1 σ H1 Q I1 q1
end
end L2
namespace L2
open PySem PySem.Spec PyProof.Rows
def SqL (K : PySem.W.Frag) (H : Hp) (a : Addr) (xs : List V) : Prop :=
  Rd H a (.lst xs) ∨
    ∃ (o : Obj) (its : Array Value) (n : Nat), K.lookup a = some o ∧ o.cls = .type "list" ∧ o.dict = none ∧ o.data = .seq its n ∧ its.size ≤ sizeLine ∧ Vals xs its.toList
def SqT (K : PySem.W.Frag) (H : Hp) (a : Addr) (xs : List V) : Prop :=
  Rd H a (.tup xs) ∨
    ∃ (o : Obj) (its : Array Value) (n : Nat), K.lookup a = some o ∧ o.cls = .type "tuple" ∧ o.data = .seq its n ∧ its.size ≤ sizeLine ∧ Vals xs its.toList
def absV : Value → Option V
  | .none => some .non
  | .bool b => some (.bl b)
  | .int i _ => some (.int i)
  | .str x _ => some (.str x)
  | .bytes b _ => some (.byt b)
  | .float b _ => some (.flt b)
  | .ref a => some (.ref a)
  | .type n => some (.ty n)
  | _ => none
theorem RelV.abs {x : V} {u : Value} (r : RelV x u) : absV u = some x := by
  cases x with
  | non => cases r; rfl
  | bl _ => cases r; rfl
  | int _ => obtain ⟨t, rfl⟩ := r; rfl
  | str _ => obtain ⟨t, rfl⟩ := r; rfl
  | byt _ => obtain ⟨t, rfl⟩ := r; rfl
  | flt _ => obtain ⟨t, rfl⟩ := r; rfl
  | ref _ => cases r; rfl
  | ty _ => cases r; rfl
theorem RelV.inj {x y : V} {u : Value} (r : RelV x u) (q : RelV y u) : x = y := Option.some.inj (r.abs.symm.trans q.abs)
theorem Vals.inj : ∀ {xs ys : List V} {us : List Value}, Vals xs us → Vals ys us → xs = ys
  | _, _, _, .nil, .nil => rfl
  | _, _, _, .cons r t, .cons r' t' => by rw [r.inj r', Vals.inj t t']
section
variable {X : Cx} {pins : List (Addr × Obj)} {σ : St} {H : Hp} {s : Shared} {a : Addr} {xs ys : List V}
theorem SqL.of {K : PySem.W.Frag} (h : H a = some (.lst xs)) : SqL K H a xs := .inl (.inl h)
theorem SqT.of {K : PySem.W.Frag} (h : H a = some (.tup xs)) : SqT K H a xs := .inl (.inl h)
theorem Inv.list (I : Inv X pins σ H s) (h : SqL X.K H a xs) : ∃ its : List Value, Vals xs its ∧ PlainL s.heap a its.toArray ∧ xs.length ≤ sizeLine := by
  rcases h with h | ⟨o, its, n, hk, hc, hd, hs, hz, r⟩
  · obtain ⟨z, its, n, r, e⟩ := h.ok I.hok
    exact ⟨its, r, ⟨_, n, e, rfl, rfl, rfl⟩, z⟩
  · refine ⟨its.toList, r, ⟨o, n, I.kIn a o hk, hc, hd, by simpa using hs⟩, ?_⟩
    have e := r.length
    simp only [Array.length_toList] at e
    omega
theorem Inv.tuple (I : Inv X pins σ H s) (h : SqT X.K H a xs) : ∃ its : List Value, Vals xs its ∧ IsTup s.heap a its.toArray ∧ xs.length ≤ sizeLine := by
  rcases h with h | ⟨o, its, n, hk, hc, hs, hz, r⟩
  · obtain ⟨z, its, r, p⟩ := h.ok I.hok
    exact ⟨its, r, p, z⟩
  · refine ⟨its.toList, r, ⟨o, I.kIn a o hk, hc, n, by simpa using hs⟩, ?_⟩
    have e := r.length
    simp only [Array.length_toList] at e
    omega
theorem Inv.list_inj (I : Inv X pins σ H s) (h : SqL X.K H a xs) (h' : SqL X.K H a ys) : xs = ys := by
  obtain ⟨its, r, ⟨o, n, e, _, _, d⟩, _⟩ := I.list h
  obtain ⟨its', r', ⟨o', n', e', _, _, d'⟩, _⟩ := I.list h'
  rw [e] at e'; cases e'
  rw [d] at d'
  injection d' with d1 _
  have : its = its' := by simpa using congrArg Array.toList d1
  subst this
  exact r.inj r'
theorem Inv.tuple_inj (I : Inv X pins σ H s) (h : SqT X.K H a xs) (h' : SqT X.K H a ys) : xs = ys := by
  obtain ⟨its, r, ⟨o, e, _, n, d⟩, _⟩ := I.tuple h
  obtain ⟨its', r', ⟨o', e', _, n', d'⟩, _⟩ := I.tuple h'
  rw [e] at e'; cases e'
  rw [d] at d'
  injection d' with d1 _
  have : its = its' := by simpa using congrArg Array.toList d1
  subst this
  exact r.inj r'
end
abbrev Cx.wish (X : Cx) (E : Value → Shared → Prop) : Cx := { X with xe := E }
abbrev Cx.nox (X : Cx) : Cx := X.wish fun _ _ => False
theorem Cx.Ok.wish {X : Cx} (ok : X.Ok) (E : Value → Shared → Prop) : (X.wish E).Ok :=
  ⟨ok.mod, ok.kind, ok.glob, ok.blt, ok.above, ok.inj, ok.has, ok.cab, ok.hd, ok.frames, ok.stk, ok.exf, ok.bs, ok.bsz, ok.noex, ok.exfs, ok.funs, ok.frf⟩
theorem Cx.Ok.unwish {X : Cx} {E : Value → Shared → Prop} (ok : (X.wish E).Ok) : X.Ok :=
  ⟨ok.mod, ok.kind, ok.glob, ok.blt, ok.above, ok.inj, ok.has, ok.cab, ok.hd, ok.frames, ok.stk, ok.exf, ok.bs, ok.bsz, ok.noex, ok.exfs, ok.funs, ok.frf⟩
section
variable {X : Cx} {pins : List (Addr × Obj)} {σ : St} {H : Hp} {s : Shared} {E : Value → Shared → Prop}
theorem Inv.wish (I : Inv X pins σ H s) (E : Value → Shared → Prop) : Inv (X.wish E) pins σ H s := ⟨I.ok.wish E, I.os, I.bare, I.base, I.loc, I.cell, I.free, I.freeC, I.pin, I.hok, I.len⟩
theorem Inv.unwish (I : Inv (X.wish E) pins σ H s) : Inv X pins σ H s := ⟨I.ok.unwish, I.os, I.bare, I.base, I.loc, I.cell, I.free, I.freeC, I.pin, I.hok, I.len⟩
theorem SP.unwish {D : Ends} {f : Flow} {s' : Shared} (h : SP (X.wish E) pins D f s') : SP X pins D f s' := by
  cases f with
  | next => obtain ⟨σ', H', I, q⟩ := h; exact ⟨σ', H', I.unwish, q⟩
  | brk => obtain ⟨σ', H', I, q⟩ := h; exact ⟨σ', H', I.unwish, q⟩
  | cont => obtain ⟨σ', H', I, q⟩ := h; exact ⟨σ', H', I.unwish, q⟩
  | ret u => obtain ⟨v, σ', H', I, r, q⟩ := h; exact ⟨v, σ', H', I.unwish, r, q⟩
theorem PSs.nox {st : List Stmt} {t : TS} (h : PSs X.nox st t) : PSs X st t := fun pins s σ H D I hw =>
  wpAny_mono (h pins s σ H D (I.wish _) hw) (fun _ _ q => q.unwish) fun _ _ z => False.elim z
end
section
variable {X : Cx} {st : Stmt} {rest : List Stmt} {t u : TS} {e : Expr} {te : TE} {pos : Pos}
def tNext : TS := fun D σ H => D.nx σ H
def tSeq (t u : TS) : TS := fun D σ H => t { D with nx := u D } σ H
theorem pss_nil : PSs X [] tNext := fun _ _ σ H _ I h => wpAny_execs_nil ⟨σ, H, I, h⟩
theorem pss_cons (h1 : PS X st t) (h2 : PSs X rest u) : PSs X (st :: rest) (tSeq t u) := by
  intro pins s σ H D I h
  refine wpAny_execs_cons (thn (h1 pins s σ H { D with nx := u D } I h) fun f s1 q => ?_)
  cases f with
  | next =>
    obtain ⟨σ', H', I', q⟩ := q
    exact h2 pins s1 σ' H' D I' q
  | ret v => exact q
  | brk => exact q
  | cont => exact q
theorem pss_one (h1 : PS X st t) : PSs X [st] t := by
  intro pins s σ H D I h
  refine wpAny_execs_cons (thn (h1 pins s σ H D I h) fun f s1 q => ?_)
  cases f with
  | next => exact wpAny_execs_nil q
  | ret v => exact q
  | brk => exact q
  | cont => exact q
theorem Inv.quiet {pins : List (Addr × Obj)} {σ : St} {H : Hp} {s : Shared} (I : Inv X pins σ H s) : interactive X.env = false := by simp [interactive, I.ok.kind]
def tDrop (te : TE) : TS := fun D σ H => te σ H fun _ H1 => D.nx σ H1
theorem ps_expr (he : PE X e te) (hs : swapsWith e none pos.line X.env = pure false := by rfl) : PS X (.Expr e pos) (tDrop te) := by
  intro pins s σ H D I h
  exact wpAny_Expr_any (thn (he pins s σ H _ I h) fun v s1 ⟨x, H1, I1, r1, q1⟩ => ⟨σ, H1, I1, q1⟩) I.quiet hs
def tRet (te : TE) : TS := fun D σ H => te σ H D.rt
theorem ps_ret (he : PE X e te) : PS X (.Return (some e) pos) (tRet te) := by
  intro pins s σ H D I h
  exact wpAny_Return_some (thn (he pins s σ H _ I h) fun v s1 ⟨x, H1, I1, r1, q1⟩ => ⟨x, σ, H1, I1, r1, q1⟩)
def tIfS (c : TT) (t u : TS) : TS := fun D σ H => c σ H fun b H1 => if b = true then t D σ H1 else u D σ H1
theorem ps_if {c : Expr} {a b : List Stmt} {tc : TT} (hc : PT X c tc) (ha : PSs X a t) (hb : PSs X b u) : PS X (.If c a b pos) (tIfS tc t u) := by
  intro pins s σ H D I h
  refine wpAny_If (thn (hc pins s σ H _ I h) fun d s1 ⟨H1, I1, q1⟩ => ?_)
  cases d with
  | true => exact ha pins s1 σ H1 D I1 q1
  | false => exact hb pins s1 σ H1 D I1 q1
end
abbrev TG := V → St → Hp → (St → Hp → Prop) → Prop
abbrev TGs := List V → St → Hp → (St → Hp → Prop) → Prop
def PG (X : Cx) (target : Expr) (t : TG) : Prop :=
  ∀ (pins : List (Addr × Obj)) (s : Shared) (σ : St) (H : Hp) (v : V) (u : Value) (Q : St → Hp → Prop), Inv X pins σ H s → RelV v u → t v σ H Q →
    wpAny (model X.prog X.w) X.A (assign target X.env u) (fun _ s' => ∃ σ' H', Inv X pins σ' H' s' ∧ Q σ' H') X.xe s
def PGs (X : Cx) (ts : List Expr) (t : TGs) : Prop :=
  ∀ (pins : List (Addr × Obj)) (s : Shared) (σ : St) (H : Hp) (vs : List V) (us : List Value) (Q : St → Hp → Prop), Inv X pins σ H s → Vals vs us → t vs σ H Q →
    wpAny (model X.prog X.w) X.A (assignInOrder ((assignEach ts X.env).map (·.2)) us) (fun _ s' => ∃ σ' H', Inv X pins σ' H' s' ∧ Q σ' H') X.xe s
abbrev TSet := V → V → V → Hp → (Hp → Prop) → Prop
def PSet (X : Cx) (t : TSet) : Prop :=
  ∀ (pins : List (Addr × Obj)) (s : Shared) (σ : St) (H : Hp) (o i v : V) (ov iv u : Value) (Q : Hp → Prop), Inv X pins σ H s → RelV o ov → RelV i iv → RelV v u → t o i v H Q →
    wpAny (model X.prog X.w) X.A (setItem ov iv u) (fun _ s' => ∃ H', Inv X pins σ H' s' ∧ Q H') X.xe s
abbrev TIp := V → V → Hp → VK → Prop
def PIp (X : Cx) (op : Operator) (t : TIp) : Prop :=
  ∀ (pins : List (Addr × Obj)) (s : Shared) (σ : St) (H : Hp) (x y : V) (v u : Value) (Q : VK), Inv X pins σ H s → RelV x v → RelV y u → t x y H Q →
    wpAny (model X.prog X.w) X.A (inplaceOp op v u) (EP X pins σ Q) X.xe s
section
variable {X : Cx} {pos : Pos}
def gName (i : Nat) : TG := fun v σ H Q => Q (σ.set i (some v)) H
theorem pg_name {i : Nat} {x : Str} (hN : X.N.Nodup) (hi : X.N[i]? = some x) (hx : Loc X.env.scope x) (hf : X.fn x = true ∨ X.env.scope.names.lookup x = some .local := by first | exact .inl rfl | exact .inr rfl | assumption) : PG X (.Name x pos) (gName i) := by
  intro pins s σ H v u Q I r h
  exact wpAny_assign_Name (store_ok I hN hi hx r (fun s' I' => ⟨_, H, I', h⟩) hf)
def gNil : TGs := fun vs σ H Q => vs = [] ∧ Q σ H
def gCons (t : TG) (u : TGs) : TGs := fun vs σ H Q => ∃ v r, vs = v :: r ∧ t v σ H fun σ' H' => u r σ' H' Q
theorem pgs_nil : PGs X [] gNil := by
  intro pins s σ H vs us Q I r h
  obtain ⟨e, h⟩ := h
  subst e
  cases r
  exact assignInOrder_nil ⟨σ, H, I, h⟩
theorem pgs_cons {e : Expr} {es : List Expr} {t : TG} {u : TGs} (h1 : PG X e t) (h2 : PGs X es u)
    (hs : (assignEach (e :: es) X.env).map (·.2) = assign e X.env :: (assignEach es X.env).map (·.2) := by rfl) : PGs X (e :: es) (gCons t u) := by
  intro pins s σ H vs us Q I r h
  obtain ⟨v, vr, e1, h⟩ := h
  subst e1
  cases r with
  | cons r rr =>
    rw [hs]
    refine assignInOrder_cons (thn (h1 pins s σ H _ _ _ I r h) fun _ s1 ⟨σ1, H1, I1, q1⟩ => ?_)
    exact h2 pins s1 σ1 H1 _ _ Q I1 rr q1
def gTup (K : PySem.W.Frag) (n : Nat) (t : TGs) : TG := fun v σ H Q => ∃ a xs, v = .ref a ∧ SqT K H a xs ∧ xs.length = n ∧ t xs σ H Q
theorem pg_tup {es : List Expr} {k : Nat} {t : TGs} {n : Nat} (hc : X.calm = true) (h : PGs X es t)
    (hn : (assignEach es X.env).length = n := by rfl) (hst : (assignEach es X.env).findIdx? (·.1) = none := by rfl) : PG X (.Tuple es k pos) (gTup X.K n t) := by
  intro pins s σ H v u Q I r hw
  obtain ⟨a, xs, e1, hq, hl, hw⟩ := hw
  subst e1
  cases r
  obtain ⟨its, rv, ht, hz⟩ := I.tuple hq
  refine assign_Tuple_tuple (I.ok.hd hc) ht (by simp [hn, ← hl, rv.length]) hst fun h' hx => ?_
  have I1 : Inv X pins σ H { s with heap := h' } := I.kept (t' := s.toks) fun b o e => hx b o (Nat.ne_of_lt (Heap.lt_size e)) e
  exact h pins _ σ H xs _ Q I1 (by simpa using rv) hw
def gSub (to ti : TE) (t : TSet) : TG := fun v σ H Q => to σ H fun o H1 => ti σ H1 fun i H2 => t o i v H2 fun H3 => Q σ H3
theorem pg_sub {o i : Expr} {to ti : TE} {t : TSet} (ho : PE X o to) (hi : PE X i ti) (hs : PSet X t)
    (ha : ∀ v, assign (.Subscript o i pos) X.env v = (do
      let ov ← holding [v] (eval o X.env)
      let iv ← holding [v, ov] (eval i X.env)
      standAt pos
      holding [v, ov, iv] (setItem ov iv v)
      release [v, ov, iv] []) := by intro _; rfl) : PG X (.Subscript o i pos) (gSub to ti t) := by
  intro pins s σ H v u Q I r h
  rw [ha]
  refine wpAny_bind (wpAny_holding (thn (ho pins s σ H _ I h) fun ov s1 ⟨x, H1, I1, r1, q1⟩ => ?_))
  refine wpAny_bind (wpAny_holding (thn (hi pins s1 σ H1 _ I1 q1) fun iv s2 ⟨y, H2, I2, r2, q2⟩ => ?_))
  refine wpAny_bind (wpAny_standAt (wpAny_bind (wpAny_holding (thn (hs pins s2 σ H2 x y v ov iv u _ I2 r1 r2 r q2) fun _ s3 ⟨H3, I3, q3⟩ => ?_))))
  exact wpAny_release ⟨σ, H3, I3, q3⟩
def tAsg (te : TE) (g : TG) : TS := fun D σ H => te σ H fun x H1 => g x σ H1 D.nx
theorem ps_asg {tg e : Expr} {te : TE} {g : TG} (he : PE X e te) (hg : PG X tg g) (hs : swapsWithSole [tg] e pos.line X.env = pure false := by rfl) (hw : swappedStores [tg] e X.env = pure none := by rfl)
    (h1 : (assignEach [tg] X.env).map (·.2) = [assign tg X.env] := by rfl) : PS X (.Assign [tg] e pos) (tAsg te g) := by
  intro pins s σ H D I h
  refine wpAny_Assign_stores (thn (he pins s σ H _ I h) fun v s1 ⟨x, H1, I1, r1, q1⟩ => ?_) hs hw
  rw [h1]
  exact thn (hg pins s1 σ H1 x v _ I1 r1 q1) fun _ s2 q => q
theorem ps_set {i : Nat} {x : Str} {e : Expr} {te : TE} {pos' : Pos} (hN : X.N.Nodup) (hi : X.N[i]? = some x) (hx : Loc X.env.scope x) (he : PE X e te) (hs : swapsWith e (some (.Name x pos')) pos.line X.env = pure false := by rfl) (hf : X.fn x = true ∨ X.env.scope.names.lookup x = some .local := by first | exact .inl rfl | exact .inr rfl | assumption) :
    PS X (.Assign [.Name x pos'] e pos) (tAsg te (gName i)) := by
  intro pins s σ H D I h
  refine wpAny_Assign_Name (thn (he pins s σ H _ I h) fun v s1 ⟨y, H1, I1, r1, q1⟩ => ?_) hs
  exact store_ok I1 hN hi hx r1 (fun s2 I2 => ⟨_, H1, I2, q1⟩) hf
def tAug (i : Nat) (te : TE) (ti : TIp) : TS := fun D σ H => ∃ x, σ[i]? = some (some x) ∧ te σ H fun y H1 => ti x y H1 fun z H2 => D.nx (σ.set i (some z)) H2
theorem ps_aug {i : Nat} {x : Str} {e : Expr} {te : TE} {op : Operator} {ti : TIp} {pos' : Pos} (hN : X.N.Nodup) (hi : X.N[i]? = some x) (hx : Loc X.env.scope x) (he : PE X e te) (ho : PIp X op ti) (hf : X.fn x = true ∨ X.env.scope.names.lookup x = some .local := by first | exact .inl rfl | exact .inr rfl | assumption) :
    PS X (.AugAssign (.Name x pos') op e pos) (tAug i te ti) := by
  intro pins s σ H D I h
  obtain ⟨v, e1, h⟩ := h
  obtain ⟨m, hn, hl⟩ := I.loc
  have vis : Vis X.env.scope x := by rcases hx with k | k; exact .inl k; exact .inr (.inl k)
  obtain ⟨u, r, l⟩ := hl i x v hi e1 vis
  refine wpAny_AugAssign_Name ?_
  have go : wpAny (model X.prog X.w) X.A (eval e X.env) (fun w s₂ => wpAny (model X.prog X.w) X.A (inplaceOp op u w) (fun r s₃ => wpAny (model X.prog X.w) X.A (storeName X.env x r) (fun _ => SP X pins D .next) X.xe s₃) X.xe s₂) X.xe s := by
    refine thn (he pins s σ H _ I h) fun w s1 ⟨y, H1, I1, r1, q1⟩ => ?_
    refine thn (ho pins s1 σ H1 v y u w _ I1 r r1 q1) fun z s2 ⟨zv, H2, I2, r2, q2⟩ => ?_
    exact store_ok I2 hN hi hx r2 (fun s3 I3 => ⟨_, H2, I3, q2⟩) hf
  rcases l with ⟨hk, hm⟩ | ⟨hk, c, hc, hcell⟩
  · exact wpAny_loadName_local I.ok.kind hk hn hm go
  · rcases hk with hk | hk
    · exact wpAny_loadName_cell I.ok.kind hk hc hcell go
    · rcases hx with k | k
      · have : X.env.scope.names.lookup x = some .free := hk
        rw [k] at this; cases this
      · have : X.env.scope.names.lookup x = some .free := hk
        rw [k] at this; cases this
def ipI (f : Int → Int → Int) : TIp := fun x y H Q => ∃ i j, x = .int i ∧ y = .int j ∧ Q (.int (f i j)) H
theorem ip_add : PIp X .Add (ipI fun i j => i + j) := by
  intro pins s σ H x y v u Q I r1 r2 h
  obtain ⟨i, j, e1, e2, q⟩ := h
  subst e1; subst e2
  obtain ⟨t, rfl⟩ := r1
  obtain ⟨t', rfl⟩ := r2
  exact iadd_int ⟨.int _, H, I.tok _, ⟨_, rfl⟩, q⟩
end
section
variable {X : Cx} {pos : Pos}
def tWhile (c : TT) (tb : TS) : TS := fun D σ H => ∃ W : Nat → St → Hp → Prop, (∃ m, W m σ H) ∧ ∀ m σ H, W m σ H →
  c σ H fun b H1 => if b = true then ∃ N : St → Hp → Prop, (∀ σ' H', N σ' H' → ∃ m', m' < m ∧ W m' σ' H') ∧ tb { D with nx := N, ct := N, bk := D.nx } σ H1 else D.nx σ H1
theorem ps_while {c : Expr} {body : List Stmt} {tc : TT} {tb : TS} (hp : PassesOwn (model X.prog X.w) X.A X.env X.xe) (hc : PT X c tc) (hb : PSs X body tb) : PS X (.While c body [] pos) (tWhile tc tb) := by
  intro pins s σ H D I h
  obtain ⟨W, ⟨m0, w0⟩, turn⟩ := h
  refine wpAny_While (codeAny_whileLoop (fun n s' => ∃ σ' H', Inv X pins σ' H' s' ∧ W n σ' H') ?_ m0 ⟨σ, H, I, w0⟩)
  rintro n s1 ⟨σ1, H1, I1, w1⟩
  refine wpAny_passesOwn hp (thn (hc pins s1 σ1 H1 _ I1 (turn n σ1 H1 w1)) fun b s2 ⟨H2, I2, q2⟩ => ?_)
  cases b with
  | true =>
    obtain ⟨N, hN, q2⟩ := q2
    rw [if_pos rfl]
    refine wpAny_passesOwn hp (thn (hb pins s2 σ1 H2 _ I2 q2) fun f s3 q3 => ?_)
    cases f with
    | next =>
      obtain ⟨σ3, H3, I3, n3⟩ := q3
      obtain ⟨m', hm, w3⟩ := hN σ3 H3 n3
      exact ⟨m', hm, σ3, H3, I3, w3⟩
    | cont =>
      obtain ⟨σ3, H3, I3, n3⟩ := q3
      obtain ⟨m', hm, w3⟩ := hN σ3 H3 n3
      exact ⟨m', hm, σ3, H3, I3, w3⟩
    | brk => exact q3
    | ret v => exact q3
  | false =>
    rw [if_neg Bool.false_ne_true]
    exact wpAny_execs_nil ⟨σ1, H2, I2, q2⟩
end
structure It where
  go : Nat → Hp → Prop
  yld : Nat → Hp → V → Hp → Prop
  stop : Nat → Hp → Prop
def FpOk (X : Cx) (pins : List (Addr × Obj)) (H : Hp) (b : Addr) : Prop :=
  H b = none ∧ b ≠ X.env.locals ∧ b ∉ X.fs ∧ (b ∈ X.ex ∨ X.s_0.heap.objs.size ≤ b) ∧ (∀ x c, X.env.cells.lookup x = some c → c ≠ b) ∧ ∀ p ∈ X.pn ++ pins, p.1 ≠ b
theorem Inv.fpOk {X : Cx} {pins : List (Addr × Obj)} {σ : St} {H H' : Hp} {s : Shared} {b : Addr} (I : Inv X pins σ H s) (hb : s.heap.objs.size ≤ b) (hn : H' b = none) : FpOk X pins H' b := by
  refine ⟨hn, Nat.ne_of_gt (Nat.lt_of_lt_of_le I.lt hb), I.nofs hb, .inr (Nat.le_trans I.sz hb), fun x c e z => ?_, fun p hp z => ?_⟩
  · obtain ⟨v, q⟩ := I.cell x c e
    exact absurd (Nat.lt_of_lt_of_le q.lt (by rw [z]; exact hb)) (Nat.lt_irrefl _)
  · exact absurd (Nat.lt_of_lt_of_le (Heap.lt_size (I.pin p hp).1) (by rw [z]; exact hb)) (Nat.lt_irrefl _)
structure Turn (P : Program) (w : World) (K : PySem.W.Frag) (tg : Expr) (J : It) (fp : List Addr) (it : Addr) (tn : Nat → Heap → Prop) : Prop where
  mem : it ∈ fp
  obj : ∀ i h, tn i h → ∀ b ∈ fp, ∃ o, h.get? b = some o ∧ ∀ v, o.data ≠ .cell v
  keep : ∀ i h h', tn i h → (∀ b ∈ fp, ∀ o, h.get? b = some o → h'.get? b = some o) → tn i h'
  item : ∀ (X : Cx), X.prog = P → X.w = w → X.K = K → X.calm = true → ∀ (i : Nat) (pins : List (Addr × Obj)) (s : Shared) (σ : St) (H : Hp) (E : Value → Shared → Prop), Inv X pins σ H s → (∀ b ∈ fp, FpOk X pins H b) → tn i s.heap → J.go i H →
    wpAny (model P w) X.A (pyNext (.ref it)) (fun r s1 => ∃ u, r = some u ∧
      wpAny (model P w) X.A (letOwnedTupleGo tg (.ref it) u) (fun _ s2 => ∃ x H', Inv X pins σ H' s2 ∧ RelV x u ∧ J.yld i H x H' ∧ tn (i + 1) s2.heap ∧ ∀ b ∈ fp, H' b = none) E s1) E s
  done : ∀ (X : Cx), X.prog = P → X.w = w → X.K = K → X.calm = true → ∀ (i : Nat) (pins : List (Addr × Obj)) (s : Shared) (σ : St) (H : Hp) (E : Value → Shared → Prop), Inv X pins σ H s → (∀ b ∈ fp, FpOk X pins H b) → tn i s.heap → J.stop i H →
    wpAny (model P w) X.A (pyNext (.ref it)) (fun r s1 => r = none ∧ Inv X pins σ H s1) E s
  self : ∀ (A : Around) (i : Nat) (s : Shared) (Q : Value → Shared → Prop) (E : Value → Shared → Prop), tn i s.heap → Q (.ref it) s → wpAny (model P w) A (pyIter (.ref it)) Q E s
abbrev TI := St → Hp → (It → Hp → Prop) → Prop
def PIE (X : Cx) (pins : List (Addr × Obj)) (σ : St) (tg : Expr) (R : It → Hp → Prop) (itv : Value) (s2 : Shared) : Prop :=
  ∃ (it : Addr) (fp : List Addr) (tn : Nat → Heap → Prop) (J : It) (H' : Hp), itv = .ref it ∧ Inv X pins σ H' s2 ∧ Turn X.prog X.w X.K tg J fp it tn ∧ tn 0 s2.heap ∧ (∀ b ∈ fp, FpOk X pins H' b) ∧ R J H'
def PI (X : Cx) (tg iter : Expr) (wi : TI) : Prop :=
  ∀ (pins : List (Addr × Obj)) (s : Shared) (σ : St) (H : Hp) (R : It → Hp → Prop), Inv X pins σ H s → wi σ H R →
    wpAny (model X.prog X.w) X.A (eval iter X.env) (fun v s1 => wpAny (model X.prog X.w) X.A (pyIter v) (PIE X pins σ tg R) X.xe s1) X.xe s
theorem go_of {M : Model} {A : Around} {E : Value → Shared → Prop} {s : Shared} {tg : Expr} {it : Addr} {u : Value} {o : Obj} {n : String} {vs : Array Value} {Q : Unit → Shared → Prop} (ho : s.heap.get? it = some o) (hc : o.cls = .type n) (hd : o.data = .fields vs)
    (hn : ["enumerate", "zip", "dict_itemiterator", "dict_reverseitemiterator", "odict_iterator", "itertools.zip_longest", "itertools.pairwise"].contains n = false) (hQ : Q () s) : wpAny M A (letOwnedTupleGo tg (.ref it) u) Q E s := by
  unfold letOwnedTupleGo
  cases tg <;> first
    | exact wpAny_pure hQ
    | (cases u <;> first
        | exact wpAny_pure hQ
        | (refine wpAny_bind (wpAny_load ho ?_)
           rw [hc, hd]
           show wpAny M A (if (["enumerate", "zip", "dict_itemiterator", "dict_reverseitemiterator", "odict_iterator", "itertools.zip_longest", "itertools.pairwise"].contains n && vs[0]? == some (rawInt _)) = true then _ else _) Q E s
           rw [if_neg (by intro h; rw [hn, Bool.false_and] at h; cases h)]
           exact wpAny_pure hQ))
def Itl (K : PySem.W.Frag) (a : Addr) : It :=
  ⟨fun i H => ∃ xs x, SqL K H a xs ∧ xs[i]? = some x, fun i H x H' => H' = H ∧ ∀ xs, SqL K H a xs → xs[i]? = some x, fun i H => ∃ xs, SqL K H a xs ∧ xs.length ≤ i⟩
def Itt (K : PySem.W.Frag) (a : Addr) : It :=
  ⟨fun i H => ∃ xs x, SqT K H a xs ∧ xs[i]? = some x, fun i H x H' => H' = H ∧ ∀ xs, SqT K H a xs → xs[i]? = some x, fun i H => ∃ xs, SqT K H a xs ∧ xs.length ≤ i⟩
def Itr (lo : Int) (n : Nat) : It := ⟨fun i _ => i < n, fun i H x H' => H' = H ∧ x = .int (lo + i), fun i _ => n ≤ i⟩
theorem turn_list {P : Program} {w : World} {K : PySem.W.Frag} {tg : Expr} (a it : Addr) : Turn P w K tg (Itl K a) [it] it (fun i h => h.IsListIter it a i) where
  mem := by simp
  obj := fun i h st b hb => by
    have e : b = it := by simpa using hb
    subst e
    obtain ⟨o, e, c, d⟩ := st
    exact ⟨o, e, fun v z => by rw [d] at z; cases z⟩
  keep := fun i h h' st k => st.at fun o e => k it (by simp) o e
  item := by
    intro X hP hw hK hc i pins s σ H E I hf st hg
    subst hP hw hK
    obtain ⟨xs, x, hq, hx⟩ := hg
    obtain ⟨its, rv, p, hz⟩ := I.list hq
    obtain ⟨u, hu, ru⟩ := rv.get hx
    obtain ⟨f0, f1, f2, f3, f4, f5⟩ := hf it (by simp)
    refine wpAny_pyNext_list_item st p.isList (x := u) (by simpa using hu) fun h' st' sb => ?_
    have I1 : Inv X pins σ H { s with heap := h' } := I.turned (t' := s.toks) (fun b o hb e => (sb.2 b hb).trans e) f0 f1 f3 f4 f5
    obtain ⟨o, e, c, d⟩ := id st'
    exact ⟨u, rfl, go_of (s := { s with heap := h' }) e c d (by decide) ⟨x, H, I1, ru, ⟨rfl, fun ys hy => by rw [I.list_inj hy hq]; exact hx⟩, st', fun b hb => (hf b hb).1⟩⟩
  done := by
    intro X hP hw hK hc i pins s σ H E I hf st hg
    subst hP hw hK
    obtain ⟨xs, hq, hx⟩ := hg
    obtain ⟨its, rv, p, hz⟩ := I.list hq
    obtain ⟨f0, f1, f2, f3, f4, f5⟩ := hf it (by simp)
    have hl := rv.length
    exact wpAny_pyNext_list_end (I.ok.hd hc) st p.isList (by simp; omega) fun h' eb => ⟨rfl, I.turned (t' := s.toks) (fun b o hb e => eb b o hb e) f0 f1 f3 f4 f5⟩
  self := fun _ _ _ _ _ st h => wpAny_pyIter_listiter st h
theorem turn_tuple {P : Program} {w : World} {K : PySem.W.Frag} {tg : Expr} (a it : Addr) : Turn P w K tg (Itt K a) [it] it (fun i h => h.IsTupleIter it a i) where
  mem := by simp
  obj := fun i h st b hb => by
    have e : b = it := by simpa using hb
    subst e
    obtain ⟨o, e, c, d⟩ := st
    exact ⟨o, e, fun v z => by rw [d] at z; cases z⟩
  keep := fun i h h' st k => st.at fun o e => k it (by simp) o e
  item := by
    intro X hP hw hK hc i pins s σ H E I hf st hg
    subst hP hw hK
    obtain ⟨xs, x, hq, hx⟩ := hg
    obtain ⟨its, rv, p, hz⟩ := I.tuple hq
    obtain ⟨u, hu, ru⟩ := rv.get hx
    obtain ⟨f0, f1, f2, f3, f4, f5⟩ := hf it (by simp)
    refine wpAny_pyNext_tuple_item st (show s.heap.IsTuple a its.toArray from p) (x := u) (by simpa using hu) fun h' st' sb => ?_
    have I1 : Inv X pins σ H { s with heap := h' } := I.turned (t' := s.toks) (fun b o hb e => (sb.2 b hb).trans e) f0 f1 f3 f4 f5
    obtain ⟨o, e, c, d⟩ := id st'
    exact ⟨u, rfl, go_of (s := { s with heap := h' }) e c d (by decide) ⟨x, H, I1, ru, ⟨rfl, fun ys hy => by rw [I.tuple_inj hy hq]; exact hx⟩, st', fun b hb => (hf b hb).1⟩⟩
  done := by
    intro X hP hw hK hc i pins s σ H E I hf st hg
    subst hP hw hK
    obtain ⟨xs, hq, hx⟩ := hg
    obtain ⟨its, rv, p, hz⟩ := I.tuple hq
    obtain ⟨f0, f1, f2, f3, f4, f5⟩ := hf it (by simp)
    have hl := rv.length
    exact wpAny_pyNext_tuple_end (I.ok.hd hc) st (show s.heap.IsTuple a its.toArray from p) (by simp; omega) fun h' eb => ⟨rfl, I.turned (t' := s.toks) (fun b o hb e => eb b o hb e) f0 f1 f3 f4 f5⟩
  self := fun _ _ _ _ _ st h => wpAny_pyIter_tupleiter st h
theorem turn_range {P : Program} {w : World} {K : PySem.W.Frag} {tg : Expr} (it : Addr) (lo : Int) (n : Nat) : Turn P w K tg (Itr lo n) [it] it (fun i h => IsRangeIter h it (lo + (i : Nat) * 1) ((n : Int) - (i : Nat)) 1) where
  mem := by simp
  obj := fun i h st b hb => by
    have e : b = it := by simpa using hb
    subst e
    exact ⟨_, st, fun v z => by
      have z' : Data.fields _ = Data.cell v := z
      cases z'⟩
  keep := fun i h h' st k => k it (by simp) _ st
  item := by
    intro X hP hw hK hc i pins s σ H E I hf st hg
    subst hP hw hK
    obtain ⟨f0, f1, f2, f3, f4, f5⟩ := hf it (by simp)
    have W := Walks.range (prog := X.prog) (w := X.w) (I.ok.hd hc) it lo 1 n
    refine W.item i s _ _ hg st fun v h' tk hv st' kk => ?_
    obtain ⟨t, rfl⟩ := hv
    have I1 : Inv X pins σ H { s with heap := h', toks := tk } := I.turned (fun b o hb e => kk b o (by simpa using hb) e) f0 f1 f3 f4 f5
    refine ⟨_, rfl, go_of (s := { s with heap := h', toks := tk }) (n := "range_iterator") st' rfl rfl (by decide) ⟨.int (lo + i), H, I1, ⟨t, ?_⟩, ⟨rfl, rfl⟩, st', fun b hb => (hf b hb).1⟩⟩
    rw [Int.mul_one]
  done := by
    intro X hP hw hK hc i pins s σ H E I hf st hg
    subst hP hw hK
    obtain ⟨f0, f1, f2, f3, f4, f5⟩ := hf it (by simp)
    exact wpAny_pyNext_range_end (I.ok.hd hc) st (by have : n ≤ i := hg; omega) fun h' eb => ⟨rfl, I.turned (t' := s.toks) (fun b o hb e => eb b o hb e) f0 f1 f3 f4 f5⟩
  self := fun _ _ _ _ _ st h => wpAny_pyIter_rangeiter st h
end L2
namespace L2
open PySem PySem.Spec PyProof.Rows
section
variable {X : Cx} {tg : Expr}
def iList (K : PySem.W.Frag) (tl : TE) : TI := fun σ H R => tl σ H fun x H1 => ∃ a, x = .ref a ∧ (∃ xs, SqL K H1 a xs) ∧ R (Itl K a) H1
def iTup (K : PySem.W.Frag) (tl : TE) : TI := fun σ H R => tl σ H fun x H1 => ∃ a, x = .ref a ∧ (∃ xs, SqT K H1 a xs) ∧ R (Itt K a) H1
theorem pi_list {l : Expr} {tl : TE} (hl : PE X l tl) : PI X tg l (iList X.K tl) := by
  intro pins s σ H R I h
  refine thn (hl pins s σ H _ I h) fun v s1 ⟨x, H1, I1, r1, q1⟩ => ?_
  obtain ⟨a, e, ⟨xs, hq⟩, q⟩ := q1
  subst e
  cases r1
  obtain ⟨its, rv, p, hz⟩ := I1.list hq
  refine wpAny_pyIter_list p.isList ?_
  refine ⟨s1.heap.objs.size, [s1.heap.objs.size], _, _, H1, rfl, I1.kept (t' := s1.toks) fun b o e => Heap.get?_push_of_some _ e, turn_list a _, ⟨_, Heap.get?_push_size _ rfl, rfl, rfl⟩, fun b hb => ?_, q⟩
  have e : b = s1.heap.objs.size := by simpa using hb
  subst e
  exact I1.fpOk (Nat.le_refl _) (I1.hok.fresh (Nat.le_refl _))
theorem pi_tup {l : Expr} {tl : TE} (hl : PE X l tl) : PI X tg l (iTup X.K tl) := by
  intro pins s σ H R I h
  refine thn (hl pins s σ H _ I h) fun v s1 ⟨x, H1, I1, r1, q1⟩ => ?_
  obtain ⟨a, e, ⟨xs, hq⟩, q⟩ := q1
  subst e
  cases r1
  obtain ⟨its, rv, p, hz⟩ := I1.tuple hq
  refine wpAny_pyIter_tuple (show s1.heap.IsTuple a its.toArray from p) ?_
  refine ⟨s1.heap.objs.size, [s1.heap.objs.size], _, _, H1, rfl, I1.kept (t' := s1.toks) fun b o e => Heap.get?_push_of_some _ e, turn_tuple a _, ⟨_, Heap.get?_push_size _ rfl, rfl, rfl⟩, fun b hb => ?_, q⟩
  have e : b = s1.heap.objs.size := by simpa using hb
  subst e
  exact I1.fpOk (Nat.le_refl _) (I1.hok.fresh (Nat.le_refl _))
theorem range_it {pins : List (Addr × Obj)} {σ : St} {H : Hp} {s : Shared} {R : It → Hp → Prop} {E : Value → Shared → Prop} {lo hi : Int} {t u v : Tok} {tk : Nat} (I : Inv X pins σ H s) (h1 : -(2 ^ 62) ≤ lo) (h2 : lo < 2 ^ 62) (h3 : -(2 ^ 62) ≤ hi) (h4 : hi < 2 ^ 62)
    (q : R (Itr lo (hi - lo).toNat) H) : wpAny (model X.prog X.w) X.A (pyIter (.ref s.heap.objs.size)) (PIE X pins σ tg R) E { s with heap := s.heap.push { cls := .type "range", data := .fields #[.int lo t, .int hi u, .int 1 v] }, toks := tk } := by
  refine wpAny_pyIter_range (IsRange.new ..) (small_one h1 h2 h3 h4) ?_
  have I1 : Inv X pins σ H { s with heap := s.heap.push { cls := .type "range", data := .fields #[.int lo t, .int hi u, .int 1 v] }, toks := tk } := I.kept fun b o e => Heap.get?_push_of_some _ e
  refine ⟨(s.heap.push { cls := .type "range", data := .fields #[.int lo t, .int hi u, .int 1 v] }).objs.size, [(s.heap.push { cls := .type "range", data := .fields #[.int lo t, .int hi u, .int 1 v] }).objs.size], _, _, H, rfl,
    I1.kept (t' := tk) fun b o e => Heap.get?_push_of_some _ e, turn_range _ lo (hi - lo).toNat, ?_, fun b hb => ?_, q⟩
  · have e1 : lo + ((0 : Nat) : Int) * 1 = lo := by simp
    have e2 : (((hi - lo).toNat : Nat) : Int) - ((0 : Nat) : Int) = Builtin.Range.rangeSize lo hi 1 := by rw [rangeSize_one]; split <;> omega
    show IsRangeIter _ _ (lo + ((0 : Nat) : Int) * 1) ((((hi - lo).toNat : Nat) : Int) - ((0 : Nat) : Int)) 1
    rw [e1, e2]
    exact Heap.get?_push_size _ rfl
  · have e : b = (s.heap.push { cls := .type "range", data := .fields #[.int lo t, .int hi u, .int 1 v] }).objs.size := by simpa using hb
    subst e
    exact I1.fpOk (Nat.le_refl _) (I1.hok.fresh (Nat.le_refl _))
def iRng1 (ta : TA) : TI := fun σ H R => ta σ H fun vs H1 => ∃ j : Int, vs = [.int j] ∧ -(2 ^ 62) ≤ j ∧ j < 2 ^ 62 ∧ R (Itr 0 j.toNat) H1
theorem pi_range1 {a : Expr} {ta : TA} {p pos : Pos} (hg : Gl X "range") (hm : X.mg "range" = none) (ha : PA X [a] ta) (hs : starEach [a] X.env = [(false, eval a X.env)] := by rfl) : PI X tg (.Call (.Name "range" p) [a] [] pos) (iRng1 ta) := by
  intro pins s σ H R I h
  refine Call_ (ld_blt I hg hm boot_range (PyProof.Rows.callWith_type1 (thn (ha pos pins s σ H _ I h) fun us s1 ⟨vs, H1, I1, r1, q1⟩ => ?_) hs rfl))
  obtain ⟨j, e, q1, q2, q⟩ := q1
  subst e
  cases r1 with
  | cons r rr =>
    cases rr
    obtain ⟨t, rfl⟩ := r
    exact call_range_1 (range_it I1 (by omega) (by omega) q1 q2 (by simpa using q))
def tFor (wi : TI) (g : TG) (tb : TS) : TS := fun D σ H => wi σ H fun J H1 => ∃ W : Nat → Nat → St → Hp → Prop, (∃ m, W 0 m σ H1) ∧ ∀ i m σ H, W i m σ H →
  (J.stop i H ∧ D.nx σ H) ∨ (J.go i H ∧ ∃ N : St → Hp → Prop, (∀ σ' H', N σ' H' → ∃ m', m' < m ∧ W (i + 1) m' σ' H') ∧ ∀ x H', J.yld i H x H' → g x σ H' fun σ2 H2 => tb { D with nx := N, ct := N, bk := D.nx } σ2 H2)
def pinsAt (fp : List Addr) (h : Heap) : List (Addr × Obj) := fp.filterMap fun b => (h.get? b).map fun o => (b, o)
theorem mem_pinsAt {fp : List Addr} {h : Heap} {b : Addr} {o : Obj} (hb : b ∈ fp) (e : h.get? b = some o) : (b, o) ∈ pinsAt fp h := List.mem_filterMap.mpr ⟨b, hb, by rw [e]; rfl⟩
theorem of_pinsAt {fp : List Addr} {h : Heap} {p : Addr × Obj} (hp : p ∈ pinsAt fp h) : p.1 ∈ fp ∧ h.get? p.1 = some p.2 := by
  obtain ⟨b, hb, e⟩ := List.mem_filterMap.mp hp
  cases q : h.get? b with
  | none => rw [q] at e; cases e
  | some o =>
    rw [q] at e
    have e' : (b, o) = p := Option.some.inj e
    subst e'
    exact ⟨hb, q⟩
theorem Inv.pinned {pins : List (Addr × Obj)} {σ : St} {H : Hp} {s : Shared} {fp : List Addr} (I : Inv X pins σ H s) (hf : ∀ b ∈ fp, FpOk X pins H b) (ho : ∀ b ∈ fp, ∃ o, s.heap.get? b = some o ∧ ∀ v, o.data ≠ .cell v) : Inv X (pins ++ pinsAt fp s.heap) σ H s :=
  I.pins_of fun p hp => (List.mem_append.mp hp).elim (fun z => I.pin p (List.mem_append_right _ z)) fun z => by
    obtain ⟨hb, e⟩ := of_pinsAt z
    obtain ⟨f0, f1, f2, _⟩ := hf p.1 hb
    obtain ⟨o, e', d⟩ := ho p.1 hb
    rw [e] at e'; cases e'
    exact ⟨e, f0, f1, f2, d⟩
theorem Inv.unpinned {pins pl : List (Addr × Obj)} {σ : St} {H : Hp} {s : Shared} (I : Inv X (pins ++ pl) σ H s) : Inv X pins σ H s := I.pins_of fun p hp => I.pin p (List.mem_append_right _ (List.mem_append_left _ hp))
theorem ps_for {iter : Expr} {body : List Stmt} {wi : TI} {g : TG} {tb : TS} {pos : Pos} (hp : PassesOwn (model X.prog X.w) X.A X.env X.xe) (hc : X.calm = true) (hi : PI X tg iter wi) (hg : PG X tg g) (hb : PSs X body tb)
    (hs : ∀ x, foldedSetIterable iter X.env x = pure x := by intro _; rfl) : PS X (.For tg iter body [] pos) (tFor wi g tb) := by
  intro pins s σ H D I h
  refine wpAny_For (thn (hi pins s σ H _ I h) fun v s1 h1 => thn h1 fun itv s2 h2 => ?_) hs
  obtain ⟨it, fp, tn, J, H2, e, I2, T, st2, f2, W, ⟨m0, w0⟩, turn⟩ := h2
  subst e
  have stat : ∀ {H' : Hp}, (∀ b ∈ fp, H' b = none) → ∀ b ∈ fp, FpOk X pins H' b := fun hn b hb => ⟨hn b hb, (f2 b hb).2⟩
  refine codeAny_forLoop_any (fun n s' => ∃ i σ' H', Inv X pins σ' H' s' ∧ tn i s'.heap ∧ (∀ b ∈ fp, H' b = none) ∧ W i n σ' H') ?_ m0 ⟨0, σ, H2, I2, st2, fun b hb => (f2 b hb).1, w0⟩
  rintro n s3 ⟨i, σ3, H3, I3, st3, fr3, w3⟩
  rcases turn i n σ3 H3 w3 with ⟨stop, qn⟩ | ⟨go, N, hN, step⟩
  · refine wpAny_passesOwn hp (thn (T.done X rfl rfl rfl hc i pins s3 σ3 H3 X.xe I3 (stat fr3) st3 stop) fun r s4 ⟨hr, I4⟩ => ?_)
    subst hr
    exact wpAny_execs_nil ⟨σ3, H3, I4, qn⟩
  · refine wpAny_passesOwn hp (thn (T.item X rfl rfl rfl hc i pins s3 σ3 H3 X.xe I3 (stat fr3) st3 go) fun r s4 ⟨u, hr, h4⟩ => ?_)
    subst hr
    refine wpAny_passesOwn hp (thn h4 fun _ s5 ⟨x, H5, I5, r5, y5, st5, fr5⟩ => ?_)
    have I5' := I5.pinned (stat fr5) (T.obj _ _ st5)
    refine wpAny_passesOwn hp (thn (hg _ s5 σ3 H5 x u _ I5' r5 (step x H5 y5)) fun _ s6 ⟨σ6, H6, I6, q6⟩ => ?_)
    refine wpAny_passesOwn hp (thn (hb _ s6 σ6 H6 _ I6 q6) fun f s7 q7 => ?_)
    have again : ∀ {σ7 : St} {H7 : Hp}, Inv X (pins ++ pinsAt fp s5.heap) σ7 H7 s7 → N σ7 H7 → ∃ m, m < n ∧ ∃ i σ' H', Inv X pins σ' H' s7 ∧ tn i s7.heap ∧ (∀ b ∈ fp, H' b = none) ∧ W i m σ' H' := fun {σ7 H7} I7 n7 => by
      obtain ⟨m', hm, w7⟩ := hN σ7 H7 n7
      refine ⟨m', hm, i + 1, σ7, H7, I7.unpinned, T.keep _ _ _ st5 fun b hb o e => (I7.pin (b, o) (List.mem_append_right _ (List.mem_append_right _ (mem_pinsAt hb e)))).1, fun b hb => ?_, w7⟩
      obtain ⟨o, e, d⟩ := T.obj _ _ st5 b hb
      exact (I7.pin (b, o) (List.mem_append_right _ (List.mem_append_right _ (mem_pinsAt hb e)))).2.1
    cases f with
    | next => obtain ⟨σ7, H7, I7, n7⟩ := q7; exact again I7 n7
    | cont => obtain ⟨σ7, H7, I7, n7⟩ := q7; exact again I7 n7
    | brk => obtain ⟨σ7, H7, I7, q7⟩ := q7; exact ⟨σ7, H7, I7.unpinned, q7⟩
    | ret v => obtain ⟨x7, σ7, H7, I7, r7, q7⟩ := q7; exact ⟨x7, σ7, H7, I7.unpinned, r7, q7⟩
end
theorem for_list {K : PySem.W.Frag} {a : Addr} {xs : List V} {g : TG} {tb : TS} {D : Ends} {σ : St} {H : Hp} (Pv : Nat → St → Hp → Prop) (h0 : Pv 0 σ H) (hl : ∀ i σ H, i ≤ xs.length → Pv i σ H → SqL K H a xs)
    (hs : ∀ i x σ H, xs[i]? = some x → Pv i σ H → g x σ H fun σ2 H2 => tb { D with nx := Pv (i + 1), ct := Pv (i + 1), bk := D.nx } σ2 H2) (hd : ∀ σ H, Pv xs.length σ H → D.nx σ H) :
    ∃ W : Nat → Nat → St → Hp → Prop, (∃ m, W 0 m σ H) ∧ ∀ i m σ H, W i m σ H →
      ((Itl K a).stop i H ∧ D.nx σ H) ∨ ((Itl K a).go i H ∧ ∃ N : St → Hp → Prop, (∀ σ' H', N σ' H' → ∃ m', m' < m ∧ W (i + 1) m' σ' H') ∧ ∀ x H', (Itl K a).yld i H x H' → g x σ H' fun σ2 H2 => tb { D with nx := N, ct := N, bk := D.nx } σ2 H2) := by
  refine ⟨fun i m σ H => m = xs.length - i ∧ i ≤ xs.length ∧ Pv i σ H, ⟨xs.length, by simp, Nat.zero_le _, h0⟩, ?_⟩
  rintro i m σ H ⟨rfl, hi, p⟩
  have q := hl i σ H hi p
  by_cases hlt : i < xs.length
  · refine .inr ⟨⟨xs, xs[i], q, by simp [hlt]⟩, Pv (i + 1), fun σ' H' p' => ⟨xs.length - (i + 1), by omega, rfl, hlt, p'⟩, fun x H' y => ?_⟩
    obtain ⟨e, y⟩ := y
    subst e
    exact hs i x σ _ (y xs q) p
  · have e : i = xs.length := by omega
    subst e
    exact .inl ⟨⟨xs, q, Nat.le_refl _⟩, hd σ H p⟩
end L2
namespace L2
open PySem PySem.Spec PyProof.Rows
abbrev R2 := V → V → Hp → VK → Prop
def OpR (X : Cx) (f : Value → Value → Sem Value) (r : R2) : Prop :=
  ∀ (pins : List (Addr × Obj)) (s : Shared) (σ : St) (H : Hp) (x y : V) (v u : Value) (Q : VK), Inv X pins σ H s → RelV x v → RelV y u → r x y H Q →
    wpAny (model X.prog X.w) X.A (f v u) (EP X pins σ Q) X.xe s
def UnR (X : Cx) (f : Value → Sem Value) (r : V → Hp → VK → Prop) : Prop :=
  ∀ (pins : List (Addr × Obj)) (s : Shared) (σ : St) (H : Hp) (x : V) (v : Value) (Q : VK), Inv X pins σ H s → RelV x v → r x H Q →
    wpAny (model X.prog X.w) X.A (f v) (EP X pins σ Q) X.xe s
def CallR (X : Cx) (f : Value) (r : List V → Hp → VK → Prop) : Prop :=
  ∀ (pins : List (Addr × Obj)) (s : Shared) (σ : St) (H : Hp) (xs : List V) (us : List Value) (Q : VK), Inv X pins σ H s → Vals xs us → r xs H Q →
    wpAny (model X.prog X.w) X.A (call f us) (EP X pins σ Q) X.xe s
def tOp (r : R2) (ta tb : TE) : TE := fun σ H Q => ta σ H fun x H1 => tb σ H1 fun y H2 => r x y H2 Q
def tUn (r : V → Hp → VK → Prop) (ta : TE) : TE := fun σ H Q => ta σ H fun x H1 => r x H1 Q
def rI (C : Int → Int → Prop) (g : Int → Int → V) : R2 := fun x y H Q => ∃ i j, x = .int i ∧ y = .int j ∧ C i j ∧ Q (g i j) H
def rI0 (g : Int → Int → V) : R2 := fun x y H Q => ∃ i j, x = .int i ∧ y = .int j ∧ Q (g i j) H
def rU (g : Int → V) : V → Hp → VK → Prop := fun x H Q => ∃ i, x = .int i ∧ Q (g i) H
section
variable {X : Cx} {a b c : Expr} {ta tb tc : TE} {pos : Pos}
theorem binT (ha : PE X a ta) (hb : PE X b tb) {pins : List (Addr × Obj)} {s : Shared} {σ : St} {H : Hp} {R : V → V → Hp → Prop} (I : Inv X pins σ H s)
    (h : ta σ H fun x H1 => tb σ H1 fun y H2 => R x y H2) {Q : Value → Shared → Prop} {f : Value → Value → Sem Value}
    (hf : ∀ v u s2 x y H2, Inv X pins σ H2 s2 → RelV x v → RelV y u → R x y H2 → wpAny (model X.prog X.w) X.A (f v u) Q X.xe s2) :
    wpAny (model X.prog X.w) X.A (eval a X.env) (fun v s₁ => wpAny (model X.prog X.w) X.A (eval b X.env) (fun u s₂ => wpAny (model X.prog X.w) X.A (f v u) Q X.xe s₂) X.xe s₁) X.xe s := by
  refine thn (ha pins s σ H _ I h) fun v s1 ⟨x, H1, I1, r1, q1⟩ => ?_
  refine thn (hb pins s1 σ H1 _ I1 q1) fun u s2 ⟨y, H2, I2, r2, q2⟩ => ?_
  exact hf v u s2 x y H2 I2 r1 r2 q2
theorem pe_op {op : Operator} {r : R2} (ho : OpR X (binaryOp op) r) (ha : PE X a ta) (hb : PE X b tb) : PE X (.BinOp a op b pos) (tOp r ta tb) := by
  intro pins s σ H Q I h
  exact wpAny_BinOp (binT ha hb I h fun v u s2 x y H2 I2 rx ry q => ho pins s2 σ H2 x y v u Q I2 rx ry q)
theorem pe_un {op : UnaryOp} {r : V → Hp → VK → Prop} (ho : UnR X (unaryOp op) r) (ha : PE X a ta) : PE X (.UnaryOp op a pos) (tUn r ta) := by
  intro pins s σ H Q I h
  exact UnaryOp_ (thn (ha pins s σ H _ I h) fun v s1 ⟨x, H1, I1, r1, q1⟩ => ho pins s1 σ H1 x v Q I1 r1 q1)
theorem opI {f : Value → Value → Sem Value} {C : Int → Int → Prop} {g : Int → Int → Int}
    (rule : ∀ (i j : Int) (t u : Tok) (s : Shared) (Q : Value → Shared → Prop) (E : Value → Shared → Prop), C i j → Q (.int (g i j) s.toks) { s with toks := s.toks + 1 } → wpAny (model X.prog X.w) X.A (f (.int i t) (.int j u)) Q E s) :
    OpR X f (rI C fun i j => .int (g i j)) := by
  intro pins s σ H x y v u Q I rx ry h
  obtain ⟨i, j, rfl, rfl, hc, q⟩ := h
  obtain ⟨t, rfl⟩ := rx
  obtain ⟨t', rfl⟩ := ry
  exact rule i j t t' s _ _ hc ⟨.int (g i j), H, I.tok _, ⟨_, rfl⟩, q⟩
theorem opI0 {f : Value → Value → Sem Value} {g : Int → Int → Int}
    (rule : ∀ (i j : Int) (t u : Tok) (s : Shared) (Q : Value → Shared → Prop) (E : Value → Shared → Prop), Q (.int (g i j) s.toks) { s with toks := s.toks + 1 } → wpAny (model X.prog X.w) X.A (f (.int i t) (.int j u)) Q E s) :
    OpR X f (rI0 fun i j => .int (g i j)) := by
  intro pins s σ H x y v u Q I rx ry h
  obtain ⟨i, j, rfl, rfl, q⟩ := h
  obtain ⟨t, rfl⟩ := rx
  obtain ⟨t', rfl⟩ := ry
  exact rule i j t t' s _ _ ⟨.int (g i j), H, I.tok _, ⟨_, rfl⟩, q⟩
theorem opB0 {f : Value → Value → Sem Value} {g : Int → Int → Bool}
    (rule : ∀ (i j : Int) (t u : Tok) (s : Shared) (Q : Value → Shared → Prop) (E : Value → Shared → Prop), Q (.bool (g i j)) s → wpAny (model X.prog X.w) X.A (f (.int i t) (.int j u)) Q E s) :
    OpR X f (rI0 fun i j => .bl (g i j)) := by
  intro pins s σ H x y v u Q I rx ry h
  obtain ⟨i, j, rfl, rfl, q⟩ := h
  obtain ⟨t, rfl⟩ := rx
  obtain ⟨t', rfl⟩ := ry
  exact rule i j t t' s _ _ ⟨.bl (g i j), H, I, rfl, q⟩
def CDiv (i j : Int) : Prop := 0 < j ∧ j < 1073741824
def CMul (i j : Int) : Prop := (-(2 ^ 64) < i ∧ i < 2 ^ 64) ∨ (-(2 ^ 64) < j ∧ j < 2 ^ 64)
theorem CMul.ok {i j : Int} (h : CMul i j) : IntMulOk i j := by
  rcases h with ⟨h1, h2⟩ | ⟨h1, h2⟩
  · exact .of_left (intBits_le_64 h1 h2)
  · exact .of_right (intBits_le_64 h1 h2)
theorem op_add : OpR X (binaryOp .Add) (rI0 fun i j => .int (i + j)) := opI0 fun _ _ _ _ _ _ _ q => add_int q
theorem op_sub : OpR X (binaryOp .Sub) (rI0 fun i j => .int (i - j)) := opI0 fun _ _ _ _ _ _ _ q => sub_int q
theorem op_mul : OpR X (binaryOp .Mult) (rI CMul fun i j => .int (i * j)) := opI fun _ _ _ _ _ _ _ hc q => mul_int q hc.ok
theorem op_fdiv : OpR X (binaryOp .FloorDiv) (rI CDiv fun i j => .int (i / j)) := opI fun i j _ _ _ _ _ hc q => by
  have h1 : (0 : Int) < j := hc.1
  have h2 : j < 1073741824 := hc.2
  exact floordiv_int (by omega) (by rw [Int.fdiv_eq_ediv_of_nonneg i (by omega)]; exact q) (.inl (PyProof.noPylong_small (by omega)))
theorem op_mod : OpR X (binaryOp .Mod) (rI (fun _ j => 0 < j) fun i j => .int (i % j)) := opI fun i j _ _ _ _ _ hc q => by
  have h1 : (0 : Int) < j := hc
  exact mod_int' (by omega) (by rw [Int.fmod_eq_emod_of_nonneg i (by omega)]; exact q)
theorem op_and : OpR X (binaryOp .BitAnd) (rI0 fun i j => .int (Builtin.bitAnd i j)) := opI0 fun _ _ _ _ _ _ _ q => and_int q
theorem unI {f : Value → Sem Value} {g : Int → Int}
    (rule : ∀ (i : Int) (t : Tok) (s : Shared) (Q : Value → Shared → Prop) (E : Value → Shared → Prop), Q (.int (g i) s.toks) { s with toks := s.toks + 1 } → wpAny (model X.prog X.w) X.A (f (.int i t)) Q E s) :
    UnR X f (rU fun i => .int (g i)) := by
  intro pins s σ H x v Q I rx h
  obtain ⟨i, rfl, q⟩ := h
  obtain ⟨t, rfl⟩ := rx
  exact rule i t s _ _ ⟨.int (g i), H, I.tok _, ⟨_, rfl⟩, q⟩
theorem un_neg : UnR X (unaryOp .USub) (rU fun i => .int (-i)) := unI fun _ _ _ _ _ q => neg_int q
end
def scal : V → V → Bool
  | .non, .non => true | .non, .int _ => true | .int _, .non => true | .non, .bl _ => true | .bl _, .non => true | .non, .str _ => true | .str _, .non => true
  | .int _, .int _ => true | .bl _, .bl _ => true | .str _, .str _ => true | .byt _, .byt _ => true
  | .int _, .str _ => true | .str _, .int _ => true | .bl _, .str _ => true | .str _, .bl _ => true
  | _, _ => false
def rEq : R2 := fun x y H Q => scal x y = true ∧ Q (.bl (decide (x = y))) H
def rNe : R2 := fun x y H Q => scal x y = true ∧ Q (.bl (!decide (x = y))) H
theorem dec_int {i j : Int} : decide (V.int i = V.int j) = (i == j) := by
  rw [Bool.eq_iff_iff]
  simp
theorem dec_bl {i j : Bool} : decide (V.bl i = V.bl j) = (i == j) := by
  rw [Bool.eq_iff_iff]
  simp
theorem dec_str {i j : Str} : decide (V.str i = V.str j) = (i == j) := by
  rw [Bool.eq_iff_iff]
  simp
theorem dec_byt {i j : Array UInt8} : decide (V.byt i = V.byt j) = (i.toList == j.toList) := by
  rw [Bool.eq_iff_iff]
  cases i
  cases j
  simp
section
variable {X : Cx} {a b c : Expr} {ta tb tc : TE} {pos : Pos}
theorem fin_bl {pins : List (Addr × Obj)} {σ : St} {H : Hp} {s : Shared} {Q : VK} {k k' : Bool} (I : Inv X pins σ H s) (q : Q (.bl k) H) (e : k = k') : EP X pins σ Q (.bool k') s := by
  subst e
  exact ⟨.bl k, H, I, rfl, q⟩
theorem op_eq : OpR X (compareOp .Eq) rEq := by
  intro pins s σ H x y v u Q I rx ry h
  obtain ⟨hs, q⟩ := h
  cases x with
  | non =>
    cases rx
    cases y with
    | non => cases ry; exact PySem.EqNone.eq_none_none (fin_bl I q (by simp))
    | bl j => cases ry; exact PySem.EqNone.eq_none_bool (fin_bl I q (by simp))
    | int j => obtain ⟨t', rfl⟩ := ry; exact PySem.EqNone.eq_none_int (fin_bl I q (by simp))
    | str j => obtain ⟨t', rfl⟩ := ry; exact PySem.EqNone.eq_none_str (fin_bl I q (by simp))
    | _ => exact absurd (show false = true from hs) Bool.false_ne_true
  | bl i =>
    cases rx
    cases y with
    | non => cases ry; exact PySem.EqNone.eq_bool_none (fin_bl I q (by simp))
    | bl j => cases ry; exact eq_bool (fin_bl I q dec_bl)
    | str j => obtain ⟨t', rfl⟩ := ry; exact PySem.EqMixed.eq_bool_str (fin_bl I q (by simp))
    | _ => exact absurd (show false = true from hs) Bool.false_ne_true
  | int i =>
    obtain ⟨t, rfl⟩ := rx
    cases y with
    | non => cases ry; exact PySem.EqNone.eq_int_none (fin_bl I q (by simp))
    | int j => obtain ⟨t', rfl⟩ := ry; exact eq_int (fin_bl I q dec_int)
    | str j => obtain ⟨t', rfl⟩ := ry; exact PySem.EqMixed.eq_int_str (fin_bl I q (by simp))
    | _ => exact absurd (show false = true from hs) Bool.false_ne_true
  | str i =>
    obtain ⟨t, rfl⟩ := rx
    cases y with
    | non => cases ry; exact PySem.EqNone.eq_str_none (fin_bl I q (by simp))
    | bl j => cases ry; exact PySem.EqMixed.eq_str_bool (fin_bl I q (by simp))
    | int j => obtain ⟨t', rfl⟩ := ry; exact PySem.EqMixed.eq_str_int (fin_bl I q (by simp))
    | str j => obtain ⟨t', rfl⟩ := ry; exact eq_str (fin_bl I q dec_str)
    | _ => exact absurd (show false = true from hs) Bool.false_ne_true
  | byt i =>
    obtain ⟨t, rfl⟩ := rx
    cases y with
    | byt j => obtain ⟨t', rfl⟩ := ry; exact PySem.W.eq_bytes (fin_bl I q dec_byt)
    | _ => exact absurd (show false = true from hs) Bool.false_ne_true
  | _ => cases y <;> exact absurd (show false = true from hs) Bool.false_ne_true
theorem op_ne : OpR X (compareOp .NotEq) rNe := by
  intro pins s σ H x y v u Q I rx ry h
  obtain ⟨hs, q⟩ := h
  cases x with
  | non =>
    cases rx
    cases y with
    | non => cases ry; exact PySem.EqNone.ne_none_none (fin_bl I q (by simp))
    | bl j => cases ry; exact PySem.EqNone.ne_none_bool (fin_bl I q (by simp))
    | int j => obtain ⟨t', rfl⟩ := ry; exact PySem.EqNone.ne_none_int (fin_bl I q (by simp))
    | str j => obtain ⟨t', rfl⟩ := ry; exact PySem.EqNone.ne_none_str (fin_bl I q (by simp))
    | _ => exact absurd (show false = true from hs) Bool.false_ne_true
  | bl i =>
    cases rx
    cases y with
    | non => cases ry; exact PySem.EqNone.ne_bool_none (fin_bl I q (by simp))
    | bl j => cases ry; exact ne_bool (fin_bl I q (congrArg not dec_bl))
    | str j => obtain ⟨t', rfl⟩ := ry; exact PySem.EqMixed.ne_bool_str (fin_bl I q (by simp))
    | _ => exact absurd (show false = true from hs) Bool.false_ne_true
  | int i =>
    obtain ⟨t, rfl⟩ := rx
    cases y with
    | non => cases ry; exact PySem.EqNone.ne_int_none (fin_bl I q (by simp))
    | int j => obtain ⟨t', rfl⟩ := ry; exact ne_int (fin_bl I q (congrArg not dec_int))
    | str j => obtain ⟨t', rfl⟩ := ry; exact PySem.EqMixed.ne_int_str (fin_bl I q (by simp))
    | _ => exact absurd (show false = true from hs) Bool.false_ne_true
  | str i =>
    obtain ⟨t, rfl⟩ := rx
    cases y with
    | non => cases ry; exact PySem.EqNone.ne_str_none (fin_bl I q (by simp))
    | bl j => cases ry; exact PySem.EqMixed.ne_str_bool (fin_bl I q (by simp))
    | int j => obtain ⟨t', rfl⟩ := ry; exact PySem.EqMixed.ne_str_int (fin_bl I q (by simp))
    | str j => obtain ⟨t', rfl⟩ := ry; exact ne_str (fin_bl I q (congrArg not dec_str))
    | _ => exact absurd (show false = true from hs) Bool.false_ne_true
  | byt i =>
    obtain ⟨t, rfl⟩ := rx
    cases y with
    | byt j => obtain ⟨t', rfl⟩ := ry; exact PySem.W.ne_bytes (fin_bl I q (congrArg not dec_byt))
    | _ => exact absurd (show false = true from hs) Bool.false_ne_true
  | _ => cases y <;> exact absurd (show false = true from hs) Bool.false_ne_true
theorem op_lt : OpR X (compareOp .Lt) (rI0 fun i j => .bl (decide (i < j))) := opB0 fun _ _ _ _ _ _ _ q => lt_int q
theorem op_le : OpR X (compareOp .LtE) (rI0 fun i j => .bl (decide (i ≤ j))) := opB0 fun _ _ _ _ _ _ _ q => le_int q
theorem op_gt : OpR X (compareOp .Gt) (rI0 fun i j => .bl (decide (j < i))) := opB0 fun _ _ _ _ _ _ _ q => gt_int q
theorem op_ge : OpR X (compareOp .GtE) (rI0 fun i j => .bl (decide (j ≤ i))) := opB0 fun _ _ _ _ _ _ _ q => ge_int q
theorem op_notN : OpR X (compareOp .IsNot) (fun x y H Q => y = .non ∧ Q (.bl (!decide (x = .non))) H) := by
  intro pins s σ H x y v u Q I rx ry h
  obtain ⟨rfl, q⟩ := h
  cases ry
  refine isnot_none_gen (fin_bl I q ?_)
  cases x <;> first
    | (cases rx; rfl)
    | (obtain ⟨t, rfl⟩ := rx; rfl)
theorem nomark (b : Expr) {op : CmpOp} (h : op ≠ .In := by decide) (h2 : op ≠ .NotIn := by decide) : behindInMarks op b = false := by
  have e1 : (op == CmpOp.In) = false := by cases op <;> first | rfl | exact absurd rfl h
  have e2 : (op == CmpOp.NotIn) = false := by cases op <;> first | rfl | exact absurd rfl h2
  cases b <;> simp [behindInMarks, e1, e2]
theorem pe_cmpR {op : CmpOp} {r : R2} (ho : OpR X (compareOp op) r) (ha : PE X a ta) (hb : PE X b tb) (hm : behindInMarks op b = false) : PE X (.Compare a [op] [b] pos) (tOp r ta tb) := by
  intro pins s σ H Q I h
  exact wpAny_Compare1 (binT ha hb I h fun v u s2 x y H2 I2 rx ry q => ho pins s2 σ H2 x y v u Q I2 rx ry q) hm
def tTest (t : TE) : TT := fun σ H Q => t σ H fun x H' => ∃ k, x = .bl k ∧ Q k H'
theorem pt_cmpR {op : CmpOp} {r : R2} (ho : OpR X (compareOp op) r) (ha : PE X a ta) (hb : PE X b tb) (hm : behindInMarks op b = false) : PT X (.Compare a [op] [b] pos) (tTest (tOp r ta tb)) := by
  intro pins s σ H Q I h
  refine wpAny_isTrue_Compare1 (thn (ha pins s σ H _ I h) fun v s1 ⟨x, H1, I1, r1, q1⟩ => thn (hb pins s1 σ H1 _ I1 q1) fun u s2 ⟨y, H2, I2, r2, q2⟩ =>
    thn (ho pins s2 σ H2 x y v u _ I2 r1 r2 q2) fun c s3 ⟨z, H3, I3, r3, k, e, q3⟩ => ?_) hm
  subst e
  cases r3
  exact wpAny_truthy_bool ⟨H3, I3, q3⟩
def tChain (r r' : R2) (ta tb tc : TE) : TE := fun σ H Q => ta σ H fun x H1 => tb σ H1 fun y H2 => r x y H2 fun z H3 => ∃ k, z = .bl k ∧
  (if k = true then tc σ H3 fun w' H4 => r' y w' H4 Q else Q (.bl false) H3)
theorem pe_chain {op op' : CmpOp} {r r' : R2} (ho : OpR X (compareOp op) r) (ho' : OpR X (compareOp op') r') (ha : PE X a ta) (hb : PE X b tb) (hc : PE X c tc)
    (hm : lastMarks [op, op'] [b, c] = false := by with_unfolding_all rfl) : PE X (.Compare a [op, op'] [b, c] pos) (tChain r r' ta tb tc) := by
  intro pins s σ H Q I h
  refine Compare_chain (thn (ha pins s σ H _ I h) fun v s1 ⟨x, H1, I1, r1, q1⟩ => chain_link (thn (hb pins s1 σ H1 _ I1 q1) fun u s2 ⟨y, H2, I2, r2, q2⟩ =>
    thn (ho pins s2 σ H2 x y v u _ I2 r1 r2 q2) fun d s3 ⟨z, H3, I3, r3, k, e, q3⟩ => ?_)) hm
  subst e
  cases r3
  refine wpAny_truthy_bool ?_
  cases k with
  | false => exact ite_ff ⟨.bl false, H3, I3, rfl, q3⟩
  | true => exact ite_tt (chain_last (thn (hc pins s3 σ H3 _ I3 q3) fun w' s4 ⟨z', H4, I4, r4, q4⟩ => ho' pins s4 σ H4 y z' u w' Q I4 r2 r4 q4))
theorem line63 : (sizeLine : Nat) < 2 ^ 63 := by rw [sizeLine_eq]; decide
theorem vals1 {x : V} {us : List Value} (r : Vals [x] us) : ∃ u, us = [u] ∧ RelV x u := by
  cases r with
  | cons r1 r2 => cases r2; exact ⟨_, rfl, r1⟩
theorem vals2 {x y : V} {us : List Value} (r : Vals [x, y] us) : ∃ u w', us = [u, w'] ∧ RelV x u ∧ RelV y w' := by
  cases r with
  | cons r1 r2 =>
    cases r2 with
    | cons r3 r4 => cases r4; exact ⟨_, _, rfl, r1, r3⟩
theorem call_max2 (hc : X.calm = true) : CallR X (.builtin "max") (fun xs H Q => ∃ i j, xs = [.int i, .int j] ∧ Q (.int (if j > i then j else i)) H) := by
  intro pins s σ H xs us Q I r h
  obtain ⟨i, j, rfl, q⟩ := h
  obtain ⟨u, w', rfl, ⟨t, rfl⟩, ⟨t', rfl⟩⟩ := vals2 r
  refine max_two_ints (I.ok.hd hc) fun h' tk k => ⟨_, H, I.kept k, ?_, q⟩
  by_cases hj : j > i
  · rw [if_pos hj, if_pos hj]; exact ⟨_, rfl⟩
  · rw [if_neg hj, if_neg hj]; exact ⟨_, rfl⟩
theorem call_min2 (hc : X.calm = true) : CallR X (.builtin "min") (fun xs H Q => ∃ i j, xs = [.int i, .int j] ∧ Q (.int (if j < i then j else i)) H) := by
  intro pins s σ H xs us Q I r h
  obtain ⟨i, j, rfl, q⟩ := h
  obtain ⟨u, w', rfl, ⟨t, rfl⟩, ⟨t', rfl⟩⟩ := vals2 r
  refine min_two_ints (I.ok.hd hc) fun h' tk k => ⟨_, H, I.kept k, ?_, q⟩
  by_cases hj : j < i
  · rw [if_pos hj, if_pos hj]; exact ⟨_, rfl⟩
  · rw [if_neg hj, if_neg hj]; exact ⟨_, rfl⟩
theorem call_ord : CallR X (.builtin "ord") (fun xs H Q => ∃ x, xs = [.str x] ∧ x.length = 1 ∧ Q (.int (x.cps.getD 0 0 : Nat)) H) := by
  intro pins s σ H xs us Q I r h
  obtain ⟨x, rfl, hz, q⟩ := h
  obtain ⟨u, rfl, t, rfl⟩ := vals1 r
  exact ord_of_one hz ⟨.int _, H, I.tok _, ⟨_, rfl⟩, q⟩
end
end L2
namespace L2
open PySem PySem.Spec PyProof.Rows
structure ObjM (h : Heap) (x dx C : Addr) (mA : Str → Option Value) : Prop where
  obj : h.get? x = some (PySem.W.instObj C dx)
  ns : h.Ns1 dx mA
  ne : dx ≠ x
theorem lookIn_ns {h : Heap} {dx : Addr} {mA : Str → Option Value} (n : h.Ns1 dx mA) : ∃ od, h.get? dx = some od ∧ ∀ name, PySem.W.lookIn name od = some (mA name) := by
  obtain ⟨o, es, ep, ho, hd, hk, _, hm⟩ := n
  refine ⟨o, ho, fun name => ?_⟩
  have e := hm name
  unfold nsFind findBy at e
  rw [← Array.find?_toList] at e
  unfold PySem.W.lookIn
  rw [hd]
  dsimp only
  split
  · rename_i y q
    rw [q] at e
    exact congrArg some e
  · rename_i q
    rw [q] at e
    have a : es.toList.any (·.refKey) = false := by
      rw [List.any_eq_false]
      intro y hy
      obtain ⟨z, t, hkey⟩ := hk y (Array.mem_toList_iff.mp hy)
      simp [DictEntry.refKey, hkey]
    have a' : ¬ es.toList.any (·.refKey) = true := by rw [a]; exact Bool.false_ne_true
    rw [if_neg a']
    exact congrArg some e
theorem ObjM.look {h : Heap} {x dx C : Addr} {mA : Str → Option Value} (I : ObjM h x dx C mA) : ∃ od, PySem.W.InstAt h x (PySem.W.instObj C dx) C (some od) ∧ ∀ name, PySem.W.lookIn name od = some (mA name) :=
  let ⟨od, ho, hl⟩ := lookIn_ns I.ns
  ⟨od, ⟨I.obj, rfl, rfl, ho⟩, hl⟩
section
variable {prog : Program} {w : World} {A : Around} {E : Value → Shared → Prop} {s : Shared} {K : PySem.W.Frag} {x dx C f : Addr} {mA : Str → Option Value} {name : Str} {v : Value}
theorem get_map {expr : Bool} {Q : Value → Shared → Prop} (X : K.In s.heap) (I : ObjM s.heap x dx C mA) (hg : PySem.W.plainGet K C name = true) (hh : PySem.W.hasDictIn K C = true)
    (ha : PySem.W.findIn K (.ref C) name = some none) (hv : mA name = some v) (hv' : PySem.W.handedIn v = true) (h : Q v { s with toks := s.toks + 1 }) :
    wpAny (model prog w) A (getAttr (.ref x) name expr) Q E s := by
  obtain ⟨od, J, hl⟩ := I.look
  exact PySem.W.get_value X J (PySem.W.plainGet_of hg).1 (PySem.W.findObj_own hh ha rfl (by rw [hl, hv])) hv' h
theorem get_meth {pl : Sem Bool} {Q : Value × List Value → Shared → Prop} (X : K.In s.heap) (I : ObjM s.heap x dx C mA) (hg : PySem.W.plainGet K C name = true)
    (hf : PySem.W.findIn K (.ref C) name = some (some (.ref f))) (ht : PySem.W.isFn K (.ref f) = true) (hv : mA name = none) (h : Q (.ref f, [.ref x]) s) :
    wpAny (model prog w) A (getMethod (.ref x) name pl) Q E s := by
  obtain ⟨od, J, hl⟩ := I.look
  exact PySem.W.method_fn X J (PySem.W.plainGet_of hg).1 (PySem.W.plainGet_of hg).2 hf (beq_iff_eq.mp ht) (by show (PySem.W.lookIn name od).map (·.isSome) = some false; rw [hl, hv]; rfl) h
theorem set_map {ns : List Str} {Q : Unit → Shared → Prop} (X : K.In s.heap) (I : ObjM s.heap x dx C mA)
    (hs : PySem.W.findIn K (.ref C) "__setattr__" = some (some (.builtin "object.__setattr__"))) (hp : PySem.W.plainOver K C = true) (ht : PySem.W.takerIn K C name = some none) (hh : PySem.W.hasDictIn K C = true)
    (hw : PySem.Within mA ns) (hsz : ns.length ≤ sizeLine)
    (h : ∀ h', ObjM h' x dx C (fun y => if y = name then some v else mA y) → Heap.SameBut dx s.heap h' → Q () { s with heap := h', toks := s.toks + 2 }) :
    wpAny (model prog w) A (setAttr (.ref x) name v) Q E s := by
  obtain ⟨od, J, hl⟩ := I.look
  refine PySem.W.set_plain X J hs (PySem.W.osa_open (s := { s with toks := s.toks + 1 }) (r := none) X J hp ht fun b => ?_)
  obtain ⟨cd, hc, hd'⟩ := PySem.W.any_some hh
  have hx : s.heap.get? x = some ⟨.ref C, some dx, .plain, #[]⟩ := I.obj
  refine wpAny_bind (wpAny_pure (wpAny_bind (wpAny_bind (wpAny_loadPart hx (wpAny_bind (PySem.W.Looks.here (s := { s with toks := s.toks + 1 }) (PySem.W.looks_clsIn X hc) ?_))))))
  rw [hd']
  refine wpAny_pure (a := some dx) (wpAny_bind (wpAny_pure (wpAny_bind ?_)))
  refine wpAny_nsSet1 (s := { s with toks := s.toks + 1 }) I.ns fun h' hn2 hs2 => ?_
  obtain ⟨oD, esD, epD, hoD, hdD, hcD⟩ := hn2.count (PySem.Within.cons name v hw)
  refine wpAny_bind (wpAny_lookBehind hoD (by rw [hdD]; exact pastItsLine_dict (Nat.le_trans hcD (by rw [List.length_cons]; omega))) ?_)
  exact wpAny_pure (h _ ⟨(hs2.2 _ (Ne.symm I.ne)).trans I.obj, hn2, I.ne⟩ hs2)
theorem make_map {R : Result → Shared → Prop} {vs : List Value} {kw : List (Str × Value)} (X : K.In s.heap) (hm : PySem.W.makesIn K C = true)
    (hi : PySem.W.findIn K (.ref C) "__init__" = some (some (.ref f))) (hf : PySem.W.typeIn K (.ref f) = some (.type "function"))
    (h : codeAny (model prog w) (A.under (.builtin "type.__call__" ⟨.ref C :: vs, kw⟩)) (.call (.ref f) ⟨.ref (s.heap.objs.size + 1) :: vs, kw⟩) (PySem.W.InitBack (s.heap.objs.size + 1) R)
      { s with heap := (s.heap.push PySem.W.emptyDict).push (PySem.W.instObj C s.heap.objs.size) }) :
    codeAny (model prog w) A (.call (.ref C) ⟨vs, kw⟩) R s := by
  obtain ⟨hh, g, d, t, os⟩ := s
  exact PySem.W.make_core (PySem.W.makes_of X hm) (PySem.W.looks_findIn X hi) (fun self => PySem.W.bind_fn X self hf) (.inl rfl) h
end
def putF (f : Str) (v : V) : List (Str × V) → List (Str × V)
  | [] => [(f, v)]
  | (g, x) :: r => if g = f then (g, v) :: r else (g, x) :: putF f v r
theorem lookup_putF (f g : Str) (v : V) : ∀ fs : List (Str × V), (putF f v fs).lookup g = if g = f then some v else fs.lookup g
  | [] => by
    show List.lookup g [(f, v)] = _
    by_cases h : g = f
    · have hb : (g == f) = true := beq_iff_eq.mpr h
      simp only [List.lookup, hb, if_pos h]
    · have hb : (g == f) = false := beq_eq_false_iff_ne.mpr h
      simp only [List.lookup, hb, if_neg h]
  | (k, x) :: r => by
    have ih := lookup_putF f g v r
    rw [show putF f v ((k, x) :: r) = (if k = f then (k, v) :: r else (k, x) :: putF f v r) from rfl]
    by_cases hk : k = f
    · rw [if_pos hk]
      by_cases h : g = k
      · have hb : (g == k) = true := beq_iff_eq.mpr h
        simp only [List.lookup, hb, if_pos (h.trans hk)]
      · have hb : (g == k) = false := beq_eq_false_iff_ne.mpr h
        simp only [List.lookup, hb, if_neg (fun e : g = f => h (e.trans hk.symm))]
    · rw [if_neg hk]
      by_cases h : g = k
      · have hb : (g == k) = true := beq_iff_eq.mpr h
        simp only [List.lookup, hb, if_neg (fun e : g = f => hk (h.symm.trans e))]
      · have hb : (g == k) = false := beq_eq_false_iff_ne.mpr h
        simp only [List.lookup, hb]
        exact ih
theorem keys_putF (f : Str) (v : V) : ∀ fs : List (Str × V), f ∈ (putF f v fs).map (·.1) ∧ ∀ g, g ∈ fs.map (·.1) → g ∈ (putF f v fs).map (·.1)
  | [] => ⟨by simp [putF], fun g h => by simp at h⟩
  | (k, x) :: r => by
    obtain ⟨i1, i2⟩ := keys_putF f v r
    rw [show putF f v ((k, x) :: r) = (if k = f then (k, v) :: r else (k, x) :: putF f v r) from rfl]
    by_cases hk : k = f
    · rw [if_pos hk]
      subst hk
      exact ⟨by simp, fun g h => by simpa using h⟩
    · rw [if_neg hk]
      refine ⟨?_, fun g h => ?_⟩
      · rw [List.map_cons]
        exact List.mem_cons_of_mem _ i1
      · rw [List.map_cons] at h ⊢
        rcases List.mem_cons.mp h with e | e
        · exact List.mem_cons.mpr (.inl e)
        · exact List.mem_cons_of_mem _ (i2 g e)
theorem length_putF (f : Str) (v : V) : ∀ fs : List (Str × V), (putF f v fs).length ≤ fs.length + 1
  | [] => by simp [putF]
  | (k, x) :: r => by
    have ih := length_putF f v r
    rw [show putF f v ((k, x) :: r) = (if k = f then (k, v) :: r else (k, x) :: putF f v r) from rfl]
    by_cases hk : k = f
    · rw [if_pos hk, List.length_cons, List.length_cons]; omega
    · rw [if_neg hk, List.length_cons, List.length_cons]; omega
theorem RelO.some_of {v : V} {o : Option Value} (r : RelO (some v) o) : ∃ u, o = some u ∧ RelV v u := by
  cases o with
  | none => exact (show False from r).elim
  | some u => exact ⟨u, rfl, r⟩
theorem RelO.none_of {o : Option Value} (r : RelO none o) : o = none := by
  cases o with
  | none => rfl
  | some u => exact (show False from r).elim
theorem handed_of {v : V} {u : Value} (r : RelV v u) : PySem.W.handedIn u = true := by
  cases v with
  | non => cases (show u = Value.none from r); rfl
  | bl b => cases (show u = Value.bool b from r); rfl
  | int i => obtain ⟨t, e⟩ := (show ∃ t, u = Value.int i t from r); cases e; rfl
  | str x => obtain ⟨t, e⟩ := (show ∃ t, u = Value.str x t from r); cases e; rfl
  | byt b => obtain ⟨t, e⟩ := (show ∃ t, u = Value.bytes b t from r); cases e; rfl
  | flt b => obtain ⟨t, e⟩ := (show ∃ t, u = Value.float b t from r); cases e; rfl
  | ref a => cases (show u = Value.ref a from r); rfl
  | ty n => cases (show u = Value.type n from r); rfl
section
variable {P : Program} {w : World} {H H' : Hp} {h h' : Heap} {a C dx : Addr} {fs fs' : List (Str × V)}
theorem ins_get (hok : HOk P w H h) (e : H a = some (.ins C dx fs)) : ∃ mA, ObjM h a dx C mA ∧ (∀ f, RelO (fs.lookup f) (mA f)) ∧ PySem.Within mA (fs.map (·.1)) ∧ fs.length ≤ 1000 ∧ H dx = some (.own a) := by
  obtain ⟨d, z, ne, ob, mA, n, r, q⟩ := (show ObjOk P w H h a (.ins C dx fs) from hok a _ e)
  exact ⟨mA, ⟨ob, n, ne⟩, r, q, z, d⟩
end
structure Cls (K : PySem.W.Frag) (C : Addr) : Prop where
  pg : PySem.W.plainGet K C Str.empty = true
  hd : PySem.W.hasDictIn K C = true
  po : PySem.W.plainOver K C = true
  sa : PySem.W.findIn K (.ref C) "__setattr__" = some (some (.builtin "object.__setattr__"))
theorem Cls.get {K : PySem.W.Frag} {C : Addr} (c : Cls K C) (f : Str) : PySem.W.plainGet K C f = true := c.pg
def NoAttr (K : PySem.W.Frag) (C : Addr) (f : Str) : Prop := PySem.W.findIn K (.ref C) f = some none
theorem NoAttr.taker {K : PySem.W.Frag} {C : Addr} {f : Str} (n : NoAttr K C f) : PySem.W.takerIn K C f = some none := by
  unfold PySem.W.takerIn
  rw [show PySem.W.findIn K (.ref C) f = some none from n]
  rfl
structure Meth (K : PySem.W.Frag) (C : Addr) (m : Str) (f : Addr) : Prop where
  at_ : PySem.W.findIn K (.ref C) m = some (some (.ref f))
  fn : PySem.W.isFn K (.ref f) = true
  kp : PySem.W.keepIn K (.ref f) = true
section
variable {X : Cx} {pins : List (Addr × Obj)} {σ : St} {H : Hp} {s : Shared} {a C dx : Addr} {fs : List (Str × V)} {f : Str} {v : V} {A : Around} {E : Value → Shared → Prop}
theorem getattr_ok {b : Bool} {Q : Value → Shared → Prop} (I : Inv X pins σ H s) (e : H a = some (.ins C dx fs)) (c : Cls X.K C) (n : NoAttr X.K C f) (l : fs.lookup f = some v)
    (h : ∀ u s', Inv X pins σ H s' → RelV v u → Q u s') : wpAny (model X.prog X.w) A (getAttr (.ref a) f b) Q E s := by
  obtain ⟨mA, O, r, _, _, _⟩ := ins_get I.hok e
  obtain ⟨u, hu, ru⟩ := RelO.some_of (v := v) (o := mA f) (by rw [← l]; exact r f)
  exact get_map I.kIn O (c.get f) c.hd n hu (handed_of ru) (h u _ (I.tok _) ru)
theorem getmeth_ok {m : Str} {g : Addr} {pl : Sem Bool} {Q : Value × List Value → Shared → Prop} (I : Inv X pins σ H s) (e : H a = some (.ins C dx fs)) (c : Cls X.K C) (k : Meth X.K C m g) (l : fs.lookup m = none)
    (h : Q (.ref g, [.ref a]) s) : wpAny (model X.prog X.w) A (getMethod (.ref a) m pl) Q E s := by
  obtain ⟨mA, O, r, _, _, _⟩ := ins_get I.hok e
  have hn : mA m = none := RelO.none_of (by rw [← l]; exact r m)
  exact get_meth I.kIn O (c.get m) k.at_ k.fn hn h
theorem setattr_ok {y : V} {u : Value} {Q : Unit → Shared → Prop} (I : Inv X pins σ H s) (e : H a = some (.ins C dx fs)) (c : Cls X.K C) (n : NoAttr X.K C f) (hl : fs.length < 1000) (ry : RelV y u)
    (h : ∀ s', Inv X pins σ (upd H a (.ins C dx (putF f y fs))) s' → Q () s') : wpAny (model X.prog X.w) A (setAttr (.ref a) f u) Q E s := by
  obtain ⟨mA, O, r, wi, _, ho⟩ := ins_get I.hok e
  have hz : (fs.map (·.1)).length ≤ sizeLine := by rw [List.length_map, sizeLine_eq]; omega
  refine set_map I.kIn O c.sa c.po n.taker c.hd wi hz fun h' O' sb => h _ ?_
  have hd : ∃ o, h'.get? dx = some o := let ⟨o, _, _, e', _⟩ := O'.ns; ⟨o, e'⟩
  refine I.write (x := a) (e := dx) (by rw [e]; exact True.intro) (.inr ho) (fun b q hb z => (sb.2 b hb).trans z) hd ?_
  refine ⟨by rw [upd_ne O.ne]; exact ho, ?_, O.ne, O'.obj, _, O'.ns, fun g => ?_, fun g hg => ?_⟩
  · have := length_putF f y fs; omega
  · show RelO ((putF f y fs).lookup g) (if g = f then some u else mA g)
    rw [lookup_putF]
    by_cases q : g = f
    · rw [if_pos q, if_pos q]; exact ry
    · rw [if_neg q, if_neg q]; exact r g
  · by_cases q : g = f
    · rw [q]; exact (keys_putF f y fs).1
    · refine (keys_putF f y fs).2 g (wi g fun z => hg ?_)
      show (if g = f then some u else mA g) = none
      rw [if_neg q]; exact z
theorem Inv.made (I : Inv X pins σ H s) : Inv X pins σ (upd (upd H s.heap.objs.size (.own (s.heap.objs.size + 1))) (s.heap.objs.size + 1) (.ins C s.heap.objs.size []))
    { s with heap := (s.heap.push PySem.W.emptyDict).push (PySem.W.instObj C s.heap.objs.size) } := by
  have e1 : (s.heap.push PySem.W.emptyDict).get? s.heap.objs.size = some PySem.W.emptyDict := Heap.get?_push_size s.heap rfl
  have e2 : ((s.heap.push PySem.W.emptyDict).push (PySem.W.instObj C s.heap.objs.size)).get? (s.heap.objs.size + 1) = some (PySem.W.instObj C s.heap.objs.size) := by
    have := Heap.get?_push_size (s.heap.push PySem.W.emptyDict) (o := PySem.W.instObj C s.heap.objs.size) rfl
    rwa [Heap.size_push] at this
  have e3 : (s.heap.push PySem.W.emptyDict).Ns s.heap.objs.size (fun _ => none) := ⟨PySem.W.emptyDict, #[], _, e1, rfl, (fun e he => absurd he (by simp)), fun _ => rfl⟩
  have I1 := I.laid (a := s.heap.objs.size) (o := .own (s.heap.objs.size + 1)) (h' := s.heap.push PySem.W.emptyDict) (t' := s.toks) (fun b u q => Heap.get?_push_of_some _ q) (Nat.le_refl _) ⟨_, e1⟩
  refine I1.laid (a := s.heap.objs.size + 1) (o := .ins C s.heap.objs.size []) (t' := s.toks) (fun b u q => Heap.get?_push_of_some _ q) (Nat.le_of_eq (Heap.size_push _ _)) ?_
  have ne : s.heap.objs.size ≠ s.heap.objs.size + 1 := Nat.ne_of_lt (Nat.lt_succ_self _)
  refine ⟨by rw [upd_ne ne, upd_same], Nat.zero_le _, ne, e2, fun _ => none, (Heap.Ns1.of_empty e3).at fun o q => Heap.get?_push_of_some _ q, fun _ => True.intro, fun y hy => absurd rfl hy⟩
theorem attr_of {prog : Program} {w : World} {env : Env} {e : Expr} {f : Str} {pos : Pos} {s : Shared} {Q : Value → Shared → Prop} (hb : attributeBase e f env (eval e env) = eval e env)
    (h : wpAny (model prog w) A (eval e env) (fun o s₁ => wpAny (model prog w) A (getAttr o f true) Q E s₁) E s) : wpAny (model prog w) A (eval (.Attribute e f pos) env) Q E s :=
  Attribute_any_ h (by rw [arm_eval_Attribute, hb])
end
def tFld (K : PySem.W.Frag) (ta : TE) (f : Str) : TE := fun σ H Q => ta σ H fun x H1 => ∃ a C dx fs v, x = .ref a ∧ H1 a = some (.ins C dx fs) ∧ Cls K C ∧ NoAttr K C f ∧ fs.lookup f = some v ∧ Q v H1
def sFld (K : PySem.W.Frag) (ta tv : TE) (f : Str) : TS := fun D σ H => tv σ H fun y H1 => ta σ H1 fun x H2 => ∃ a C dx fs, x = .ref a ∧ H2 a = some (.ins C dx fs) ∧ Cls K C ∧ NoAttr K C f ∧ fs.length < 1000 ∧
  D.nx σ (upd H2 a (.ins C dx (putF f y fs)))
def InOp (X : Cx) (op : Operator) (rd : V → V → Hp → VK → Prop) : Prop :=
  ∀ (pins : List (Addr × Obj)) (s : Shared) (σ : St) (H : Hp) (x y : V) (u v : Value) (Q : VK), Inv X pins σ H s → RelV x u → RelV y v → rd x y H Q → wpAny (model X.prog X.w) X.A (inplaceOp op u v) (EP X pins σ Q) X.xe s
def sFldAug (K : PySem.W.Frag) (ta tv : TE) (rd : V → V → Hp → VK → Prop) (f : Str) : TS := fun D σ H => ta σ H fun x H1 => ∃ a C dx fs v, x = .ref a ∧ H1 a = some (.ins C dx fs) ∧ Cls K C ∧ NoAttr K C f ∧ fs.lookup f = some v ∧
  tv σ H1 fun y H2 => rd v y H2 fun z H3 => ∃ dx' fs', H3 a = some (.ins C dx' fs') ∧ fs'.length < 1000 ∧ D.nx σ (upd H3 a (.ins C dx' (putF f z fs')))
section
variable {X : Cx} {o e value : Expr} {f : Str} {pos pos' tpos : Pos} {ta tv : TE}
theorem pe_fld (he : PE X e ta) (hb : attributeBase e f X.env (eval e X.env) = eval e X.env) : PE X (.Attribute e f pos) (tFld X.K ta f) := by
  intro pins s σ H Q I h
  refine attr_of hb (thn (he pins s σ H _ I h) fun u s1 ⟨x, H1, I1, rx, a, C, dx, fs, v, ex, ea, c, n, l, q⟩ => ?_)
  subst ex
  obtain rfl : u = Value.ref a := rx
  exact getattr_ok I1 ea c n l fun u' s2 I2 ru => ⟨v, H1, I2, ru, q⟩
theorem ps_fld (ha : PE X o ta) (hv : PE X value tv) (hs : swapsWith value (some (.Attribute o f pos')) pos.line X.env = pure false) : PS X (.Assign [.Attribute o f pos'] value pos) (sFld X.K ta tv f) := by
  intro pins s σ H D I h
  refine plainObj_wpAny_Assign_Attribute (thn (hv pins s σ H _ I h) fun u s1 ⟨y, H1, I1, ry, q⟩ => thn (ha pins s1 σ H1 _ I1 q) fun ov s2 ⟨x, H2, I2, rx, a, C, dx, fs, ex, ea, c, n, l, q2⟩ => ?_) hs
  subst ex
  obtain rfl : ov = Value.ref a := rx
  exact setattr_ok I2 ea c n l ry fun s3 I3 => ⟨σ, _, I3, q2⟩
theorem ps_fldaug {op : Operator} {rd : V → V → Hp → VK → Prop} (ha : PE X o ta) (hv : PE X value tv) (hop : InOp X op rd) : PS X (.AugAssign (.Attribute o f tpos) op value pos) (sFldAug X.K ta tv rd f) := by
  intro pins s σ H D I h
  refine wpAny_AugAssign_AttributeAny (thn (ha pins s σ H _ I h) fun ov s1 ⟨x, H1, I1, rx, a, C, dx, fs, v, ex, ea, c, n, l, q⟩ => ?_)
  subst ex
  obtain rfl : ov = Value.ref a := rx
  refine getattr_ok I1 ea c n l fun u s2 I2 ru => thn (hv pins s2 σ H1 _ I2 q) fun w3 s3 ⟨y, H2, I3, ry, q3⟩ => thn (hop pins s3 σ H2 v y u w3 _ I3 ru ry q3) fun w4 s4 ⟨z, H3, I4, rz, dx', fs', ea', l', q4⟩ => ?_
  exact setattr_ok I4 ea' c n l' rz fun s5 I5 => ⟨σ, _, I5, q4⟩
def rAdd : V → V → Hp → VK → Prop := fun x y H Q => ∃ i j, x = .int i ∧ y = .int j ∧ Q (.int (i + j)) H
theorem in_add : InOp X .Add rAdd := by
  rintro pins s σ H x y u v Q I rx ry ⟨i, j, rfl, rfl, q⟩
  obtain ⟨t, rfl⟩ := (show ∃ t, u = Value.int i t from rx)
  obtain ⟨t', rfl⟩ := (show ∃ t', v = Value.int j t' from ry)
  exact PyProof.Rows.iadd_int ⟨.int (i + j), H, I.tok _, ⟨_, rfl⟩, q⟩
end
section
variable {X : Cx} {pins : List (Addr × Obj)} {σ : St} {H : Hp} {s : Shared} {A : Around} {E : Value → Shared → Prop} {Q : Value → Shared → Prop} {c : Value} {b : Bool}
end
end L2
namespace L2
open PySem PySem.Spec PyProof.Rows
structure Room (k : Nat) (A : Around) : Prop where
  hd : A.handled = none
  dp : A.depth + 3 * k + 5 < recursionLimit
  un : A.units + 16 * k + 200 < cLine
theorem Room.mono {j k : Nat} {A : Around} (r : Room k A) (h : j ≤ k) : Room j A := ⟨r.hd, by have := r.dp; omega, by have := r.un; omega⟩
theorem Room.deeper {k : Nat} {A : Around} (r : Room (k + 1) A) (env : Env) : Room k (A.deeper env) :=
  ⟨r.hd, by have := r.dp; show A.depth + 1 + 3 * k + 5 < _; omega, by have := r.un; show A.units + 3 + 16 * k + 200 < _; omega⟩
theorem make_depth {A : Around} {C : Addr} {us : List Value} {kw : List (Str × Value)} : (A.under (.builtin "type.__call__" ⟨.ref C :: us, kw⟩)).depth = A.depth + 1 := by
  first | rfl | simp [Around.under, Code.weight, Code.isCreation, Code.isGuard, Code.isCaller, Code.frames, Code.isFrame, guardIds]
theorem make_units {A : Around} {C : Addr} {us : List Value} {kw : List (Str × Value)} : (A.under (.builtin "type.__call__" ⟨.ref C :: us, kw⟩)).units = A.units + 1 := by
  first | rfl | simp [Around.under, Code.cUnits, Code.frames, Code.isFrame]
theorem Room.make {k : Nat} {A : Around} (r : Room (k + 1) A) (C : Addr) (us : List Value) (kw : List (Str × Value)) : Room k (A.under (.builtin "type.__call__" ⟨.ref C :: us, kw⟩)) :=
  ⟨r.hd, by have := r.dp; rw [make_depth]; omega, by have := r.un; rw [make_units]; omega⟩
theorem Room.depth {k : Nat} {A : Around} (r : Room k A) : A.depth < recursionLimit := by have := r.dp; omega
theorem Room.units {k : Nat} {A : Around} (r : Room k A) : A.units + 64 < cLine := by have := r.un; omega
def tNil : TA := fun _ H Q => Q [] H
def tCons (ta : TE) (tr : TA) : TA := fun σ H Q => ta σ H fun x H1 => tr σ H1 fun xs H2 => Q (x :: xs) H2
section
variable {X : Cx} {e : Expr} {es : List Expr} {te : TE} {t : TA} {pos : Pos}
theorem pa_nil : PA X [] tNil := fun _ _ _ _ H Q I h => Calls.spliced_nil ⟨[], H, I, .nil, h⟩
theorem pa_cons (ha : PE X e te) (hr : PA X es t) (hs : starEach (e :: es) X.env = (false, eval e X.env) :: starEach es X.env := by rfl) : PA X (e :: es) (tCons te t) := by
  intro pos pins s σ H Q I h
  rw [hs]
  show wpAny _ _ (spliced ((false, eval e X.env) :: backTo pos (starEach es X.env))) _ _ s
  refine Calls.spliced_cons (thn (ha pins s σ H _ I h) fun u s1 ⟨x, H1, I1, r1, q1⟩ => ?_)
  exact thn (hr pos pins s1 σ H1 _ I1 q1) fun us s2 ⟨xs, H2, I2, r2, q2⟩ => ⟨x :: xs, H2, I2, .cons r1 r2, q2⟩
def tTup (t : TA) : TE := fun σ H Q => t σ H fun xs H1 => xs.length ≤ sizeLine ∧ ∀ p, H1 p = none → Q (.ref p) (upd H1 p (.tup xs))
def tLst (t : TA) : TE := fun σ H Q => t σ H fun xs H1 => xs.length ≤ sizeLine ∧ ∀ p, H1 p = none → Q (.ref p) (upd H1 p (.lst xs))
theorem pe_tup {x1} (h : PA X es t) : PE X (.Tuple es x1 pos) (tTup t) := by
  intro pins s σ H Q I hq
  refine wpAny_Tuple_spliced (thn (h pos pins s σ H _ I hq) fun us s1 ⟨xs, H1, I1, r, z, q⟩ => ⟨by rw [← r.length]; exact z, ?_⟩)
  have hf : H1 s1.heap.objs.size = none := I1.hok.fresh (Nat.le_refl _)
  refine ⟨.ref s1.heap.objs.size, upd H1 s1.heap.objs.size (.tup xs), I1.laid (t' := s1.toks) (fun b u e => Heap.get?_push_of_some _ e) (Nat.le_refl _) ?_, rfl, q _ hf⟩
  exact ⟨z, us, r, ⟨_, Heap.get?_push_size _ rfl, rfl, _, rfl⟩⟩
theorem pe_lst (h : PA X es t) : PE X (.List es pos) (tLst t) := by
  intro pins s σ H Q I hq
  refine wpAny_List_spliced (thn (h pos pins s σ H _ I hq) fun us s1 ⟨xs, H1, I1, r, z, q⟩ => ⟨by rw [← r.length]; exact z, ?_⟩)
  have hf : H1 s1.heap.objs.size = none := I1.hok.fresh (Nat.le_refl _)
  refine ⟨.ref s1.heap.objs.size, upd H1 s1.heap.objs.size (.lst xs), I1.laid (t' := s1.toks) (fun b u e => Heap.get?_push_of_some _ e) (Nat.le_refl _) ?_, rfl, q _ hf⟩
  exact ⟨z, us, 0, r, Heap.get?_push_size _ rfl⟩
end
abbrev Sp := List V → Hp → VK → XK → Prop
abbrev CXT := List Env → Hp → Shared → XK → Value → Shared → Prop
structure Env0 (P : Program) (w : World) (K : PySem.W.Frag) (mg : Str → Option Value) (base : Heap) (A : Around) (outer : List Env) (s : Shared) (H : Hp) : Prop where
  frames : A.frames = some outer
  mod : Mod K mg base
  bs : ∀ b o, base.get? b = some o → s.heap.get? b = some o ∧ H b = none
  bsz : base.objs.size ≤ s.heap.objs.size
  funs : s.heap.FunFrames base outer
  frf : ∀ b ∈ frs outer, H b = none
  hok : HOk P w H s.heap
  bare : AllBare s.gens
def CE (outer : List Env) (P : Program) (w : World) (H : Hp) (s : Shared) (Q : VK) (u : Value) (s' : Shared) : Prop :=
  ∃ v H', s'.os = s.os ∧ AllBare s'.gens ∧ Un (frs outer) [] H H' s.heap s'.heap ∧ HOk P w H' s'.heap ∧ RelV v u ∧ Q v H'
def CR (CX : CXT) (outer : List Env) (P : Program) (w : World) (H : Hp) (s : Shared) (Q : VK) (E : XK) (r : Result) (s' : Shared) : Prop :=
  match r with
  | .ok (.ret u) => CE outer P w H s Q u s'
  | .ok _ => False
  | .error e => CX outer H s E e s'
structure FnOk (P : Program) (w : World) (K : PySem.W.Frag) (mg : Str → Option Value) (base : Heap) (CX : CXT) (k : Nat) (f : Addr) (fd : FuncData) (ps : List Str) (sp : Sp) : Prop where
  len : ∀ vs H Q E, sp vs H Q E → vs.length = ps.length
  run : ∀ (A : Around) (outer : List Env) (s : Shared) (H : Hp) (args : Args) (us : List Value) (vs : List V) (Q : VK) (E : XK), Room k A → Env0 P w K mg base A outer s H → BindsTo s fd args (ps.zip us) → Vals vs us → sp vs H Q E →
    codeAny (model P w) A (.call (.ref f) args) (CR CX outer P w H s Q E) s
theorem Env0.make {P : Program} {w : World} {K : PySem.W.Frag} {mg : Str → Option Value} {base : Heap} {A : Around} {outer : List Env} {s : Shared} {H : Hp} (e : Env0 P w K mg base A outer s H) (C : Addr) (us : List Value) (kw : List (Str × Value)) :
    Env0 P w K mg base (A.under (.builtin "type.__call__" ⟨.ref C :: us, kw⟩)) outer s H := ⟨by first | exact e.frames | (simpa [Around.under, Code.envs, Code.isFrame, pushEnvs] using e.frames), e.mod, e.bs, e.bsz, e.funs, e.frf, e.hok, e.bare⟩
section
variable {X : Cx} {pins : List (Addr × Obj)} {σ : St} {H : Hp} {s s' : Shared}
theorem Inv.env0 (I : Inv X pins σ H s) : Env0 X.prog X.w X.K X.mg X.base X.A X.stack s H :=
  ⟨I.ok.frames, I.ok.mod, I.bs, Nat.le_trans I.ok.bsz I.sz, I.stack, I.stkFree, I.hok, I.bare⟩
theorem Inv.after {Q : VK} {u : Value} (I : Inv X pins σ H s) (h : CE X.stack X.prog X.w H s Q u s') : EP X pins σ Q u s' := by
  obtain ⟨v, H', os, bare, un, hok, r, q⟩ := h
  obtain ⟨hh, g, d, t, os'⟩ := s'
  obtain rfl : os' = s.os := os
  exact ⟨v, H', I.call (h' := hh) (g' := g) (d' := d) (t' := t) (ch := []) un hok bare (fun b z => absurd z (by simp)), r, q⟩
end
def tCall (sp : Sp) (dvs : List V) (E : XK) (t : TA) : TE := fun σ H Q => t σ H fun vs H1 => sp (vs ++ dvs) H1 Q E
def tMeth (C : Addr) (m : Str) (sp : Sp) (dvs : List V) (E : XK) (ta : TE) (t : TA) : TE := fun σ H Q => ta σ H fun x H1 => ∃ a dx fs, x = .ref a ∧ H1 a = some (.ins C dx fs) ∧ fs.lookup m = none ∧
  t σ H1 fun vs H2 => sp (x :: (vs ++ dvs)) H2 Q E
def tMake (C : Addr) (sp : Sp) (dvs : List V) (E : XK) (t : TA) : TE := fun σ H Q => t σ H fun vs H1 => ∀ x dx, H1 x = none → H1 dx = none → dx ≠ x →
  sp (.ref x :: (vs ++ dvs)) (upd (upd H1 dx (.own x)) x (.ins C dx [])) (fun v H2 => v = .non ∧ Q (.ref x) H2) E
def Binds (K : PySem.W.Frag) (fd : FuncData) (ps : List Str) (ds : List Value) : Prop :=
  ∀ (s : Shared) (us : List Value), K.In s.heap → (us ++ ds).length = ps.length → BindsTo s fd ⟨us, []⟩ (ps.zip (us ++ ds))
theorem Binds.all {K : PySem.W.Frag} {fd : FuncData} {ps : List Str} (h : ∀ us : List Value, us.length = ps.length → bindArgs fd ⟨us, []⟩ = pure (ps.zip us)) : Binds K fd ps [] := fun s us _ hl => by
  rw [List.append_nil] at hl ⊢
  exact .of_eq (h us hl)
def Passes (CX : CXT) (X : Cx) (E : XK) : Prop := ∀ (pins : List (Addr × Obj)) (σ : St) (H : Hp) (s : Shared) (e : Value) (s' : Shared), Inv X pins σ H s → CX X.stack H s E e s' → X.xe e s'
section
variable {X : Cx} {CX : CXT} {k : Nat} {f C : Addr} {fd : FuncData} {ps : List Str} {sp : Sp} {dvs : List V} {ds : List Value} {E : XK} {x m : Str} {p pos apos : Pos} {e o : Expr} {es : List Expr} {ta : TE} {t : TA}
theorem run_fn {pins : List (Addr × Obj)} {σ : St} {H : Hp} {s : Shared} {Q : VK} {us : List Value} {vs : List V} (F : FnOk X.prog X.w X.K X.mg X.base CX k f fd ps sp) (hr : Room k X.A) (hb : Binds X.K fd ps ds) (hd : Vals dvs ds) (hx : Passes CX X E)
    (I : Inv X pins σ H s) (r : Vals vs us) (h : sp (vs ++ dvs) H Q E) : wpAny (model X.prog X.w) X.A (call (.ref f) us) (EP X pins σ Q) X.xe s := by
  have r2 : Vals (vs ++ dvs) (us ++ ds) := r.append hd
  have hl : (us ++ ds).length = ps.length := by rw [← r2.length]; exact F.len _ _ _ _ h
  refine wpAny_call (codeAny_mono (F.run X.A X.stack s H ⟨us, []⟩ (us ++ ds) (vs ++ dvs) Q E hr I.env0 (hb s us I.kIn hl) r2 h) fun r s' hq => ?_)
  cases r with
  | error e => exact hx pins σ H s e s' I hq
  | ok fl =>
    cases fl with
    | ret u => exact I.after hq
    | next => exact False.elim hq
    | brk => exact False.elim hq
    | cont => exact False.elim hq
theorem pe_call (F : FnOk X.prog X.w X.K X.mg X.base CX k f fd ps sp) (hr : Room k X.A) (hg : Gl X x) (hm : X.mg x = some (.ref f)) (hk : PySem.W.keepIn X.K (.ref f) = true) (hb : Binds X.K fd ps ds) (hd : Vals dvs ds) (hx : Passes CX X E)
    (ha : PA X (e :: es) t) (hdb : (x == ("__debug__" : Str)) = false := by decide) (he : starEach (e :: es) X.env = (false, eval e X.env) :: starEach es X.env := by rfl) (hpl : (backTo pos (starEach es X.env)).any (·.1) = false := by rfl) :
    PE X (.Call (.Name x p) (e :: es) [] pos) (tCall sp dvs E t) := by
  intro pins s σ H Q I h
  refine wpAny_Call_Name_kw (ld_glob I hg hm ?_ hdb)
  refine PySem.W.callWith_K (h₀ := X.base) I.ok.mod.kin hk (thn (ha pos pins s σ H _ I h) fun us s1 ⟨vs, H1, I1, r, q⟩ => ⟨I1.kIn, ?_⟩) he hpl
  exact run_fn F hr hb hd hx I1 r q
theorem pe_meth {pl : Sem Bool} (he : PE X o ta) (c : Cls X.K C) (hm : Meth X.K C m f) (F : FnOk X.prog X.w X.K X.mg X.base CX k f fd ps sp) (hr : Room k X.A) (hb : Binds X.K fd ps ds) (hd : Vals dvs ds) (hx : Passes CX X E) (ha : PA X (e :: es) t)
    (hst : starEach (e :: es) X.env = (false, eval e X.env) :: starEach es X.env := by rfl) (hpl : (backTo pos (starEach es X.env)).any (·.1) = false := by rfl)
    (ht : eval (.Call (.Attribute o m apos) (e :: es) [] pos) X.env = (do
      let ov ← eval o X.env
      standAt apos.atName
      let (f, first) ← holding [ov] (getMethod ov m pl)
      callWith pos f first (backTo pos (starEach (e :: es) X.env)) (backToKw pos (keywordEach [] X.env))) := by rfl) :
    PE X (.Call (.Attribute o m apos) (e :: es) [] pos) (tMeth C m sp dvs E ta t) := by
  intro pins s σ H Q I h
  refine PySem.W.methodCall_KW (pl := pl) (thn (he pins s σ H _ I h) fun u s1 ⟨x, H1, I1, rx, a, dx, fs, ex, ea, l, q⟩ => ?_) ht
  subst ex
  obtain rfl : u = Value.ref a := rx
  refine getmeth_ok I1 ea c hm l ?_
  refine PySem.W.callWith_K (first := [.ref a]) (h₀ := X.base) I.ok.mod.kin hm.kp (thn (ha pos pins s1 σ H1 _ I1 q) fun us s2 ⟨vs, H2, I2, r, q2⟩ => ⟨I2.kIn, ?_⟩) hst hpl
  exact run_fn (us := .ref a :: us) (vs := .ref a :: vs) F hr hb hd hx I2 (.cons rfl r) q2
theorem pe_meth0 {pl : Sem Bool} (he : PE X o ta) (c : Cls X.K C) (hm : Meth X.K C m f) (F : FnOk X.prog X.w X.K X.mg X.base CX k f fd ps sp) (hr : Room k X.A) (hb : Binds X.K fd ps ds) (hd : Vals dvs ds) (hx : Passes CX X E)
    (ht : eval (.Call (.Attribute o m apos) [] [] pos) X.env = (do
      let ov ← eval o X.env
      standAt apos.atName
      let (f, first) ← holding [ov] (getMethod ov m pl)
      callWith pos f first (backTo pos (starEach [] X.env)) (backToKw pos (keywordEach [] X.env))) := by rfl) :
    PE X (.Call (.Attribute o m apos) [] [] pos) (tMeth C m sp dvs E ta tNil) := by
  intro pins s σ H Q I h
  refine PySem.W.methodCall_KW (pl := pl) (thn (he pins s σ H _ I h) fun u s1 ⟨x, H1, I1, rx, a, dx, fs, ex, ea, l, q⟩ => ?_) ht
  subst ex
  obtain rfl : u = Value.ref a := rx
  refine getmeth_ok I1 ea c hm l ?_
  exact PySem.W.callWith_K0 (first := [.ref a]) I1.kIn hm.kp (run_fn (us := [.ref a]) (vs := [.ref a]) F hr hb hd hx I1 (.cons rfl .nil) q)
structure Mk (K : PySem.W.Frag) (C f : Addr) : Prop where
  makes : PySem.W.makesIn K C = true
  init : PySem.W.findIn K (.ref C) "__init__" = some (some (.ref f))
  fn : PySem.W.isFn K (.ref f) = true
  kp : PySem.W.keepIn K (.ref C) = true
theorem run_make {pins : List (Addr × Obj)} {σ : St} {H : Hp} {s : Shared} {Q : VK} {us : List Value} {vs : List V} (M : Mk X.K C f) (F : FnOk X.prog X.w X.K X.mg X.base CX k f fd ps sp) (hr : Room (k + 1) X.A) (hb : Binds X.K fd ps ds) (hd : Vals dvs ds)
    (hx : Passes CX X E) (I : Inv X pins σ H s) (r : Vals vs us)
    (h : ∀ x dx, H x = none → H dx = none → dx ≠ x → sp (.ref x :: (vs ++ dvs)) (upd (upd H dx (.own x)) x (.ins C dx [])) (fun v H2 => v = .non ∧ Q (.ref x) H2) E) :
    wpAny (model X.prog X.w) X.A (call (.ref C) us) (EP X pins σ Q) X.xe s := by
  have hq := h (s.heap.objs.size + 1) s.heap.objs.size (I.hok.fresh (Nat.le_succ _)) (I.hok.fresh (Nat.le_refl _)) (Nat.ne_of_lt (Nat.lt_succ_self _))
  have I2 := Inv.made (C := C) I
  have r2 : Vals (V.ref (s.heap.objs.size + 1) :: (vs ++ dvs)) (Value.ref (s.heap.objs.size + 1) :: (us ++ ds)) := .cons rfl (r.append hd)
  have hl : (Value.ref (s.heap.objs.size + 1) :: us ++ ds).length = ps.length := by
    have e := r2.length
    rw [F.len _ _ _ _ hq] at e
    exact e.symm
  refine wpAny_call (make_map (f := f) I.kIn M.makes M.init (beq_iff_eq.mp M.fn) (codeAny_mono (F.run _ X.stack _ _ ⟨Value.ref (s.heap.objs.size + 1) :: us, []⟩ (Value.ref (s.heap.objs.size + 1) :: (us ++ ds)) _ _ E (hr.make C us [])
    (I2.env0.make C us []) (hb _ (Value.ref (s.heap.objs.size + 1) :: us) I2.kIn hl) r2 hq) fun r s' hq' => ?_))
  cases r with
  | error e => exact hx pins σ _ _ e s' I2 hq'
  | ok fl =>
    cases fl with
    | ret u =>
      obtain ⟨v, H', I3, rv, ev, q3⟩ := I2.after hq'
      subst ev
      exact ⟨rv, ⟨V.ref (s.heap.objs.size + 1), H', I3, rfl, q3⟩⟩
    | next => exact False.elim hq'
    | brk => exact False.elim hq'
    | cont => exact False.elim hq'
theorem pe_make (M : Mk X.K C f) (F : FnOk X.prog X.w X.K X.mg X.base CX k f fd ps sp) (hr : Room (k + 1) X.A) (hg : Gl X x) (hm : X.mg x = some (.ref C)) (hb : Binds X.K fd ps ds) (hd : Vals dvs ds) (hx : Passes CX X E)
    (ha : PA X (e :: es) t) (hdb : (x == ("__debug__" : Str)) = false := by decide) (he : starEach (e :: es) X.env = (false, eval e X.env) :: starEach es X.env := by rfl) (hpl : (backTo pos (starEach es X.env)).any (·.1) = false := by rfl) :
    PE X (.Call (.Name x p) (e :: es) [] pos) (tMake C sp dvs E t) := by
  intro pins s σ H Q I h
  refine wpAny_Call_Name_kw (ld_glob I hg hm ?_ hdb)
  refine PySem.W.callWith_K (h₀ := X.base) I.ok.mod.kin M.kp (thn (ha pos pins s σ H _ I h) fun us s1 ⟨vs, H1, I1, r, q⟩ => ⟨I1.kIn, ?_⟩) he hpl
  exact run_make M F hr hb hd hx I1 r q
theorem pe_make0 (M : Mk X.K C f) (F : FnOk X.prog X.w X.K X.mg X.base CX k f fd ps sp) (hr : Room (k + 1) X.A) (hg : Gl X x) (hm : X.mg x = some (.ref C)) (hb : Binds X.K fd ps ds) (hd : Vals dvs ds) (hx : Passes CX X E)
    (hdb : (x == ("__debug__" : Str)) = false := by decide) : PE X (.Call (.Name x p) [] [] pos) (tMake C sp dvs E tNil) := by
  intro pins s σ H Q I h
  refine wpAny_Call_Name_kw (ld_glob I hg hm ?_ hdb)
  exact PySem.W.callWith_K0 I.kIn M.kp (run_make (us := []) M F hr hb hd hx I .nil h)
end
def PK (X : Cx) (kws : List Keyword) (t : TA) : Prop :=
  ∀ (pos : Pos) (pins : List (Addr × Obj)) (s : Shared) (σ : St) (H : Hp) (Q : List V → Hp → Prop), Inv X pins σ H s → t σ H Q → wpAny (model X.prog X.w) X.A (evalAll ((backToKw pos (keywordEach kws X.env)).map (·.2))) (AP X pins σ Q) X.xe s
section
variable {X : Cx} {CX : CXT} {k : Nat} {f C : Addr} {fd : FuncData} {ps ks : List Str} {sp : Sp} {E : XK} {x m : Str} {p pos apos kpos : Pos} {e o : Expr} {es : List Expr} {kws : List Keyword} {te ta : TE} {t tk : TA} {nm : Option Str}
theorem pk_nil : PK X [] tNil := fun _ _ _ _ H Q I h => wpAny_evalAll_nil ⟨[], H, I, .nil, h⟩
theorem pk_cons (ha : PE X e te) (hr : PK X kws t) : PK X (⟨nm, e, kpos⟩ :: kws) (tCons te t) := by
  intro pos pins s σ H Q I h
  show wpAny _ _ (evalAll ((do let v ← eval e X.env; standAt pos; pure v) :: (backToKw pos (keywordEach kws X.env)).map (·.2))) _ _ s
  refine wpAny_evalAll_cons (wpAny_bind (thn (ha pins s σ H _ I h) fun u s1 ⟨x, H1, I1, r1, q1⟩ => wpAny_bind (wpAny_standAt (wpAny_pure ?_))))
  exact thn (hr pos pins s1 σ H1 _ I1 q1) fun us s2 ⟨xs, H2, I2, r2, q2⟩ => ⟨x :: xs, H2, I2, .cons r1 r2, q2⟩
variable {g : List Value → List Value → List Value} {gV : List V → List V → List V}
end
structure FnScope (N P : List Str) (sc : Scope) : Prop where
  kind : sc.kind = .function
  co : sc.isCoroutine = false
  gen : sc.isGenerator = false
  nd : N.Nodup
  pre : N.take P.length = P
  par : ∀ x ∈ P, sc.names.lookup x = some .local ∨ sc.names.lookup x = some .cell
  nofree : ∀ y ∈ sc.names, y.2 ≠ .free
theorem bindL_out {kindOf : Str → Option NameKind} {x : Str} : ∀ {binds : List (Str × Value)} {m : Str → Option Value}, (∀ v, (x, v) ∉ binds) → bindL kindOf binds m x = m x
  | [], _, _ => rfl
  | (n, v) :: r, m, h => by
    unfold bindL
    rw [bindL_out fun w hw => h w (List.mem_cons_of_mem _ hw)]
    split
    · have : x ≠ n := by rintro rfl; exact h v List.mem_cons_self
      simp [this]
    · rfl
theorem bindC_out {kindOf : Str → Option NameKind} {x : Str} : ∀ {binds : List (Str × Value)} {m : Str → Option Value}, (∀ v, (x, v) ∉ binds) → bindC kindOf binds m x = m x
  | [], _, _ => rfl
  | (n, v) :: r, m, h => by
    unfold bindC
    rw [bindC_out fun w hw => h w (List.mem_cons_of_mem _ hw)]
    split
    · rfl
    · have : x ≠ n := by rintro rfl; exact h v List.mem_cons_self
      simp [this]
theorem bindL_get {kindOf : Str → Option NameKind} {x : Str} {v : Value} : ∀ {P : List Str} {vs : List Value} {i : Nat} {m : Str → Option Value}, P.Nodup → P[i]? = some x → vs[i]? = some v → kindOf x = some .local →
    bindL kindOf (P.zip vs) m x = some v
  | [], _, _, _, _, h, _, _ => by simp at h
  | _ :: _, [], _, _, _, _, h, _ => by simp at h
  | p :: P, w :: vs, 0, m, nd, h1, h2, hk => by
    simp at h1 h2; subst h1; subst h2
    show bindL kindOf ((p, w) :: P.zip vs) m p = _
    unfold bindL
    rw [bindL_out fun v hv => (List.nodup_cons.mp nd).1 (List.of_mem_zip hv).1, if_pos hk]
    simp
  | p :: P, w :: vs, i + 1, m, nd, h1, h2, hk => by
    show bindL kindOf ((p, w) :: P.zip vs) m x = _
    unfold bindL
    exact bindL_get (i := i) (List.nodup_cons.mp nd).2 (by simpa using h1) (by simpa using h2) hk
theorem bindC_get {kindOf : Str → Option NameKind} {x : Str} {v : Value} : ∀ {P : List Str} {vs : List Value} {i : Nat} {m : Str → Option Value}, P.Nodup → P[i]? = some x → vs[i]? = some v → kindOf x ≠ some .local →
    bindC kindOf (P.zip vs) m x = some v
  | [], _, _, _, _, h, _, _ => by simp at h
  | _ :: _, [], _, _, _, _, h, _ => by simp at h
  | p :: P, w :: vs, 0, m, nd, h1, h2, hk => by
    simp at h1 h2; subst h1; subst h2
    show bindC kindOf ((p, w) :: P.zip vs) m p = _
    unfold bindC
    rw [bindC_out fun v hv => (List.nodup_cons.mp nd).1 (List.of_mem_zip hv).1, if_neg hk]
    simp
  | p :: P, w :: vs, i + 1, m, nd, h1, h2, hk => by
    show bindC kindOf ((p, w) :: P.zip vs) m x = _
    unfold bindC
    exact bindC_get (i := i) (List.nodup_cons.mp nd).2 (by simpa using h1) (by simpa using h2) hk
def start (N : List Str) (vs : List V) : St := vs.map some ++ List.replicate (N.length - vs.length) none
def cxOf (CX : CXT) (P : Program) (w : World) (K : PySem.W.Frag) (mg : Str → Option Value) (base : Heap) (N : List Str) (qual : Str) (scope : Scope) (f : Addr) (cd : Value) (A : Around) (outer : List Env) (s : Shared) (H : Hp) (E : XK) : Cx where
  prog := P
  w := w
  K := K
  mg := mg
  base := base
  A := A.deeper (envOfC qual scope s.heap.objs.size f cd)
  N := N
  s_0 := s
  H_0 := H
  env := envOfC qual scope s.heap.objs.size f cd
  outer := outer
  stack := envOfC qual scope s.heap.objs.size f cd :: outer
  ex := []
  calm := true
  fn := fun _ => true
  pn := []
  xe := fun e s' => wpAny (model P w) (A.deeper (envOfC qual scope s.heap.objs.size f cd)) (leaving (envOfC qual scope s.heap.objs.size f cd) e) (fun _ s'' => CX outer H s E e s'') (fun e' s'' => CX outer H s E e' s'') s'
theorem cell_has {sc : Scope} {n : Nat} {x : Str} (h : sc.names.lookup x = some .cell) : ∃ c, (cellsFrom n sc.names []).lookup x = some c := by
  have q := PySem.W.cellsFrom_some sc.names n [] (.inl h)
  exact Option.isSome_iff_exists.mp q
theorem inv_start {CX : CXT} {P : Program} {w : World} {K : PySem.W.Frag} {mg : Str → Option Value} {base : Heap} {N ps : List Str} {qual : Str} {scope : Scope} {f : Addr} {cd : Value} {A : Around} {outer : List Env} {s s1 : Shared} {H : Hp} {E : XK} {us : List Value} {vs : List V}
    (S : FnScope N ps scope) (hd : A.handled = none) (e0 : Env0 P w K mg base A outer s H) (hl : vs.length = ps.length) (r : Vals vs us)
    (x : InCallC s s.heap.objs.size (bindL (envOfC qual scope s.heap.objs.size f cd).kindOf (ps.zip us) fun _ => none) (cellsFrom (s.heap.objs.size + 1) scope.names []) (bindC (envOfC qual scope s.heap.objs.size f cd).kindOf (ps.zip us) fun _ => none) s1) :
    Inv (cxOf CX P w K mg base N qual scope f cd A outer s H E) [] (start N vs) H s1 := by
  have hpl : ps.length ≤ N.length := by have := congrArg List.length S.pre; rw [List.length_take] at this; omega
  obtain ⟨h1, tk, rfl, hk⟩ := x.done
  have noA : ∀ b : Addr, b ∉ (cxOf CX P w K mg base N qual scope f cd A outer s H E).ex := fun b z => absurd (show b ∈ ([] : List Addr) from z) (by simp)
  refine ⟨⟨e0.mod, S.kind, rfl, rfl, Nat.le_refl _, fun y z c h1 h2 => ?_, fun y hy => ?_, fun y c _ h => ?_, fun _ => hd, Around.frames_deeper e0.frames, .inr ⟨rfl, rfl⟩, fun b z => absurd z (noA b), e0.bs, e0.bsz, fun b _ _ => noA b, fun b z => absurd z (noA b), e0.funs, e0.frf⟩,
    rfl, e0.bare, Un.kept hk, ⟨_, x.toInCall.ns, fun i y v h1 h2 h3 => ?_⟩, fun y c h => ⟨_, x.cell y c h⟩, e0.hok.fresh (Nat.le_refl _), fun y c h => ?_, fun p hp => absurd (show p ∈ ([] : List (Addr × Obj)) from hp) (by simp), e0.hok.kept hk, ?_⟩
  · exact name_of_addr x.apart (PySem.mem_of_lookup h1) (PySem.mem_of_lookup h2)
  · have hy : scope.names.lookup y = some .cell ∨ scope.names.lookup y = some .free := hy
    rcases hy with hy | hy
    · exact cell_has hy
    · exact absurd rfl (S.nofree _ (PySem.mem_of_lookup hy))
  · exact Nat.le_of_lt (x.above y c (PySem.mem_of_lookup h))
  · have hi : i < vs.length := by
      unfold start at h2
      by_cases hi : i < vs.length
      · exact hi
      · rw [List.getElem?_append_right (by simpa using hi)] at h2
        rw [List.getElem?_replicate] at h2
        split at h2 <;> cases h2
    have ha : vs[i]? = some v := by
      unfold start at h2
      rw [List.getElem?_append_left (by simpa using hi), List.getElem?_map] at h2
      cases e : vs[i]? with
      | none => rw [e] at h2; cases h2
      | some a => rw [e] at h2; cases h2; rfl
    obtain ⟨u, hu, rv⟩ := r.get ha
    have hp : ps[i]? = some y := by
      rw [← S.pre, List.getElem?_take_of_lt (by omega)]; exact h1
    have ndP : ps.Nodup := by rw [← S.pre]; exact S.nd.sublist (List.take_sublist _ _)
    refine ⟨u, rv, ?_⟩
    rcases S.par y (List.mem_of_getElem? hp) with k | k
    · exact .inl ⟨k, bindL_get ndP hp hu k⟩
    · obtain ⟨c, e⟩ := cell_has (n := s.heap.objs.size + 1) k
      refine .inr ⟨.inl k, c, e, ?_⟩
      have q := x.cell y c e
      rw [bindC_get ndP hp hu (by show scope.names.lookup y ≠ _; rw [k]; decide)] at q
      exact q
  · exact e0.hok.fresh (Nat.le_of_lt (x.above y c (PySem.mem_of_lookup h)))
  · unfold start
    show _ = N.length
    rw [List.length_append, List.length_map, List.length_replicate]
    omega
theorem fn_of {CX : CXT} {P : Program} {w : World} {K : PySem.W.Frag} {mg : Str → Option Value} {base : Heap} {k : Nat} {f : Addr} {name qual : Str} {params : Arguments} {body : List Stmt} {scope : Scope} {dV kV doc pm cdv ct oc : Value} {an od : Option Addr}
    {osl : Array (Option Value)} {N ps : List Str} {sp : Sp} (lk : K.lookup f = some ⟨oc, od, .func (PySem.W.fnOf name qual params body scope dV kV doc pm an cdv ct), osl⟩) (hcd : PySem.W.codeIn K cdv qual = true) (S : FnScope N ps scope)
    (len : ∀ vs H Q E, sp vs H Q E → vs.length = ps.length)
    (hbody : ∀ (A : Around) (outer : List Env) (s : Shared) (H : Hp) (vs : List V) (Q : VK) (E : XK), Room k (A.deeper (envOfC qual scope s.heap.objs.size f cdv)) → sp vs H Q E →
      ∃ t, PSs (cxOf CX P w K mg base N qual scope f cdv A outer s H E) body t ∧ t { nx := fun _ H' => Q .non H', rt := Q } (start N vs) H) :
    FnOk P w K mg base CX (k + 1) f (PySem.W.fnOf name qual params body scope dV kV doc pm an cdv ct) ps sp := by
  refine ⟨len, fun A outer s H args us vs Q E hr e0 hb r hsp => ?_⟩
  have hl := len _ _ _ _ hsp
  have KX : K.In s.heap := e0.mod.kin.keeps fun b o e => (e0.bs b o e).1
  have lim : s.heap.NoLimit := e0.mod.nolimit.keeps fun b o e => (e0.bs b o e).1
  have hkind : ∀ y ∈ ps.zip us, scope.names.lookup y.1 = some .local ∨ (scope.names.lookup y.1 = some .cell ∧ ((cellsFrom (s.heap.objs.size + 1) scope.names []).lookup y.1).isSome = true) := fun ⟨n, v⟩ hy => by
    rcases S.par n (List.of_mem_zip hy).1 with q | q
    · exact .inl q
    · exact .inr ⟨q, PySem.W.cellsFrom_some _ _ _ (.inl q)⟩
  refine codeAny_call_function hr.depth (KX _ _ lk) rfl S.co S.gen rfl (PySem.W.codeRec_of KX hcd) (hb _ _ _ _ ?_)
  refine wpAny_newFunctionEnv_cells S.kind hkind fun env he s1 x => ?_
  subst he
  refine ⟨lim.keeps x.toInCall.keep, codeAny_func ?_⟩
  obtain ⟨t, ht, hq⟩ := hbody A outer s H vs Q E (hr.deeper _) hsp
  have I : Inv (cxOf CX P w K mg base N qual scope f cdv A outer s H E) [] (start N vs) H s1 := inv_start S hr.hd e0 hl r x
  refine wpAny_mono (ht [] s1 (start N vs) H _ I hq) (fun fl s' hs => ?_) fun e s' hs => hs
  have fin : ∀ {σ' : St} {H' : Hp} {v : V} {u : Value}, Inv (cxOf CX P w K mg base N qual scope f cdv A outer s H E) [] σ' H' s' → RelV v u → Q v H' → CE outer P w H s Q u s' :=
    fun {σ' H' v u} J rv q => ⟨v, H', J.os, J.bare, J.base, J.hok, rv, q⟩
  cases fl with
  | ret u =>
    obtain ⟨v, σ', H', J, rv, q⟩ := hs
    exact fin J rv q
  | next =>
    obtain ⟨σ', H', J, q⟩ := hs
    exact fin (v := V.non) (u := Value.none) J rfl q
  | brk =>
    obtain ⟨_, _, _, q⟩ := hs
    exact False.elim q
  | cont =>
    obtain ⟨_, _, _, q⟩ := hs
    exact False.elim q
end L2
namespace L2
open PySem PySem.Spec PyProof.Rows
section
variable {X : Cx} {x : Str} {p pos : Pos} {e : Expr} {es : List Expr} {t : TA} {id T : String} {r : List V → Hp → VK → Prop}
def tCB (r : List V → Hp → VK → Prop) (t : TA) : TE := fun σ H Q => t σ H fun vs H1 => r vs H1 Q
theorem pe_callB (hc : CallR X (.builtin id) r) (hg : Gl X x) (hm : X.mg x = none) (hv : bootBuiltins x = some (.builtin id)) (ha : PA X (e :: es) t) (hn : x ≠ "__name__" := by decide) (hdb : (x == ("__debug__" : Str)) = false := by decide)
    (he : starEach (e :: es) X.env = (false, eval e X.env) :: starEach es X.env := by rfl) (hpl : (backTo pos (starEach es X.env)).any (·.1) = false := by rfl) : PE X (.Call (.Name x p) (e :: es) [] pos) (tCB r t) := by
  intro pins s σ H Q I h
  refine wpAny_Call_Name_kw (ld_blt I hg hm hv ?_ hn hdb)
  exact PyProof.Rows.callWith_builtin1 (thn (ha pos pins s σ H _ I h) fun us s1 ⟨vs, H1, I1, r1, q1⟩ => hc pins s1 σ H1 vs us Q I1 r1 q1) he hpl
theorem pe_callTy (hc : CallR X (.type T) r) (hg : Gl X x) (hm : X.mg x = none) (hv : bootBuiltins x = some (.type T)) (ha : PA X (e :: es) t) (hn : x ≠ "__name__" := by decide) (hdb : (x == ("__debug__" : Str)) = false := by decide)
    (he : starEach (e :: es) X.env = (false, eval e X.env) :: starEach es X.env := by rfl) (hpl : (backTo pos (starEach es X.env)).any (·.1) = false := by rfl) : PE X (.Call (.Name x p) (e :: es) [] pos) (tCB r t) := by
  intro pins s σ H Q I h
  refine wpAny_Call_Name_kw (ld_blt I hg hm hv ?_ hn hdb)
  exact PyProof.Rows.callWith_type1 (thn (ha pos pins s σ H _ I h) fun us s1 ⟨vs, H1, I1, r1, q1⟩ => hc pins s1 σ H1 vs us Q I1 r1 q1) he hpl
end
end L2
namespace HT
open PySem PyProof.Rows
section
open PySem.SeqAt
open PySem.AutoSeq1 (wpAny_loadPart')
open PySem.MeetsSeq PySem.MeetsSeq2 PySem.MeetsSeq3
end
section
variable {prog : Program} {w : World} {A : Around} {E : Value → Shared → Prop} {s : Shared}
def sIx (n d : Nat) : Option Int → Nat
  | none => d
  | some v => if v < 0 then (v + (n : Int)).toNat else min v.toNat n
theorem sIx_nat (n d k : Nat) : sIx n d (some (k : Int)) = min k n := by
  show (if (k : Int) < 0 then ((k : Int) + (n : Int)).toNat else min (k : Int).toNat n) = min k n
  rw [if_neg (by omega), Int.toNat_natCast]
end
end HT
namespace L2
open PySem PySem.Spec PyProof.Rows
abbrev TO := St → Hp → (Option Int → Hp → Prop) → Prop
def PO (X : Cx) (e : Option Expr) (t : TO) : Prop :=
  ∀ (pins : List (Addr × Obj)) (s : Shared) (σ : St) (H : Hp) (Q : Option Int → Hp → Prop), Inv X pins σ H s → t σ H Q →
    wpAny (model X.prog X.w) X.A (evalPart e X.env) (fun u s' => ∃ o H', Inv X pins σ H' s' ∧ IsPart u o ∧ Q o H') X.xe s
def tPart (t : TE) : TO := fun σ H Q => t σ H fun x H1 => ∃ i, x = .int i ∧ Q (some i) H1
theorem intsAre_of {ns : List Int} : ∀ {us : List Value}, Vals (ns.map V.int) us → IntsAre us ns := by
  induction ns with
  | nil => intro us r; rw [List.map_nil] at r; cases r; exact .nil
  | cons n ns ih =>
    intro us r
    rw [List.map_cons] at r
    cases r with
    | cons r1 r2 =>
      obtain ⟨t, e⟩ := r1
      subst e
      exact .cons n t (ih r2)
section
variable {X : Cx} {e : Expr} {te : TE} {lo hi : Option Expr} {tl th : TO} {pos p2 : Pos}
theorem po_some (h : PE X e te) : PO X (some e) (tPart te) := by
  intro pins s σ H Q I hw
  rw [evalPart_some]
  refine thn (h pins s σ H _ I hw) fun u s1 ⟨x, H1, I1, r1, q1⟩ => ?_
  obtain ⟨i, rfl, q⟩ := q1
  obtain ⟨t, rfl⟩ := r1
  exact ⟨some i, H1, I1, .int i t, q⟩
def SlR (X : Cx) (r : V → Option Int → Option Int → Hp → VK → Prop) : Prop :=
  ∀ (pins : List (Addr × Obj)) (s : Shared) (σ : St) (H : Hp) (x : V) (v vl vu : Value) (lo hi : Option Int) (sl : Addr) (Q : VK), Inv X pins σ H s → RelV x v → s.heap.IsSliceOf sl vl vu .none → IsPart vl lo → IsPart vu hi → r x lo hi H Q →
    ∃ T id, typeLookup (.type T) "__getitem__" = pure (some (.builtin id)) ∧ s.TypeIs v T ∧ wpAny (model X.prog X.w) X.A (getItem v (.ref sl)) (EP X pins σ Q) X.xe s
def tSl (r : V → Option Int → Option Int → Hp → VK → Prop) (te : TE) (tl th : TO) : TE := fun σ H Q => te σ H fun x H1 => tl σ H1 fun l H2 => th σ H2 fun u H3 => r x l u H3 Q
theorem pe_slice {r : V → Option Int → Option Int → Hp → VK → Prop} (hr : SlR X r) (he : PE X e te) (hl : PO X lo tl) (hu : PO X hi th) : PE X (.Subscript e (.Slice lo hi none p2) pos) (tSl r te tl th) := by
  intro pins s σ H Q I h
  refine Subscript_ (thn (he pins s σ H _ I h) fun v s1 ⟨x, H1, I1, r1, q1⟩ => ?_)
  refine wpAny_Slice (thn (hl pins s1 σ H1 _ I1 q1) fun vl s2 ⟨l, H2, I2, pl, q2⟩ => thn (hu pins s2 σ H2 _ I2 q2) fun vu s3 ⟨u, H3, I3, pu, q3⟩ => ?_)
  rw [evalPart_none]
  refine wpAny_pure ?_
  have I4 : Inv X pins σ H3 { s3 with heap := s3.heap.push { cls := .type "slice", data := .fields #[vl, vu, .none] } } := I3.kept (t' := s3.toks) fun b ob q => Heap.get?_push_of_some _ q
  obtain ⟨T, id, hT, ht, hg⟩ := hr pins { s3 with heap := s3.heap.push { cls := .type "slice", data := .fields #[vl, vu, .none] } } σ H3 x v vl vu l u s3.heap.objs.size Q I4 r1 (Heap.IsSliceOf.new ..) pl pu q3
  show wpAny (model X.prog X.w) X.A (subscriptTail e (.Slice lo hi none p2) v (.ref s3.heap.objs.size)) (EP X pins σ Q) X.xe { s3 with heap := s3.heap.push { cls := .type "slice", data := .fields #[vl, vu, .none] } }
  exact tail_any (ops := [.ref s3.heap.objs.size, v]) ht hT hg (by with_unfolding_all rfl)
def cutV (xs : List V) (lo hi : Option Int) : List V := (xs.drop (HT.sIx xs.length 0 lo)).take (HT.sIx xs.length xs.length hi - HT.sIx xs.length 0 lo)
theorem cutV_length (xs : List V) (lo hi : Option Int) : (cutV xs lo hi).length ≤ xs.length := by
  unfold cutV
  rw [List.length_take, List.length_drop]
  omega
end
end L2
namespace L2
open PySem PySem.Spec PyProof.Rows
def ixN (n : Nat) (i : Int) : Option Nat := if 0 ≤ i then (if i < n then some i.toNat else none) else if -(n : Int) ≤ i then some (i + n).toNat else none
def atI {α : Type} (xs : List α) (i : Int) : Option α := (ixN xs.length i).bind fun j => xs[j]?
theorem ixN_seq {n : Nat} {i : Int} {j : Nat} (h : ixN n i = some j) : seqIndex? i n = some j ∧ j < n ∧ -(n : Int) ≤ i ∧ i < n := by
  unfold ixN at h
  by_cases h0 : 0 ≤ i
  · rw [if_pos h0] at h
    by_cases h1 : i < n
    · rw [if_pos h1] at h
      have e : i.toNat = j := Option.some.inj h
      exact ⟨by rw [seqIndex_of h0 h1, e], by omega, by omega, h1⟩
    · rw [if_neg h1] at h; cases h
  · rw [if_neg h0] at h
    by_cases h1 : -(n : Int) ≤ i
    · rw [if_pos h1] at h
      have e : (i + n).toNat = j := Option.some.inj h
      exact ⟨by rw [seqIndex_neg (by omega) h1, e], by omega, h1, by omega⟩
    · rw [if_neg h1] at h; cases h
theorem atI_get {α : Type} {xs : List α} {i : Int} {v : α} (h : atI xs i = some v) : ∃ j, seqIndex? i xs.length = some j ∧ xs[j]? = some v ∧ j < xs.length ∧ -(xs.length : Int) ≤ i ∧ i < xs.length := by
  unfold atI at h
  cases e : ixN xs.length i with
  | none => rw [e] at h; cases h
  | some j =>
    rw [e] at h
    obtain ⟨h1, h2, h3, h4⟩ := ixN_seq e
    exact ⟨j, h1, h, h2, h3, h4⟩
theorem atI_nat {α : Type} {xs : List α} {j : Nat} {v : α} (h : xs[j]? = some v) : atI xs (j : Int) = some v := by
  have hj : j < xs.length := (List.getElem?_eq_some_iff.mp h).1
  have e : ixN xs.length (j : Int) = some j := by
    unfold ixN
    rw [if_pos (by omega), if_pos (by omega)]; simp
  unfold atI; rw [e]; exact h
def PlainIx (b : Expr) : Prop := ∀ o i, subscripted b false o i = operate [o, i] (getItem o i)
def IxR (X : Cx) (r : R2) : Prop :=
  ∀ (value slice : Expr) (pins : List (Addr × Obj)) (s : Shared) (σ : St) (H : Hp) (x y : V) (v u : Value) (Q : VK), Inv X pins σ H s → RelV x v → RelV y u → r x y H Q →
    subscripted slice false v u = operate [v, u] (getItem v u) → wpAny (model X.prog X.w) X.A (subscriptTail value slice v u) (EP X pins σ Q) X.xe s
def MtR (X : Cx) (id : String) (r : V → List V → Hp → VK → Prop) : Prop :=
  ∀ (pins : List (Addr × Obj)) (s : Shared) (σ : St) (H : Hp) (x : V) (xs : List V) (v : Value) (us : List Value) (Q : VK), Inv X pins σ H s → RelV x v → Vals xs us → r x xs H Q →
    wpAny (model X.prog X.w) X.A (call (.builtin id) (v :: us)) (EP X pins σ Q) X.xe s
section
variable {X : Cx} {a b : Expr} {ta tb : TE} {pos : Pos}
theorem pe_ix {r : R2} (hr : IxR X r) (ha : PE X a ta) (hb : PE X b tb) (hs : PlainIx b) : PE X (.Subscript a b pos) (tOp r ta tb) := by
  intro pins s σ H Q I h
  exact Subscript_ (binT ha hb I h fun v u s2 x y H2 I2 rx ry q => hr a b pins s2 σ H2 x y v u Q I2 rx ry q (hs _ _))
def rIxL (K : PySem.W.Frag) : R2 := fun x y H Q => ∃ p xs i v, x = .ref p ∧ y = .int i ∧ SqL K H p xs ∧ atI xs i = some v ∧ Q v H
def rIxT (K : PySem.W.Frag) : R2 := fun x y H Q => ∃ p xs i v, x = .ref p ∧ y = .int i ∧ SqT K H p xs ∧ atI xs i = some v ∧ Q v H
theorem ix_list : IxR X (rIxL X.K) := by
  intro value slice pins s σ H x y v u Q I rx ry h hs
  obtain ⟨p, xs, i, z, rfl, rfl, hq, he, q⟩ := h
  cases rx
  obtain ⟨t, rfl⟩ := ry
  obtain ⟨its, r, pl, hz⟩ := I.list hq
  obtain ⟨j, h1, h2, h3, h4, h5⟩ := atI_get he
  obtain ⟨w, ew, rw'⟩ := r.get h2
  have hl := r.length
  have hn := line63
  have fin : EP X pins σ Q w s := ⟨z, H, I, rw', q⟩
  by_cases h0 : 0 ≤ i
  · have hj : i.toNat = j := by
      rw [seqIndex_of h0 h5] at h1
      exact Option.some.inj h1
    exact item_listR pl.isList h0 (by omega) (by rw [hj]; simpa using ew) fin hs
  · have hj : (i + (its.toArray.size : Int)).toNat = j := by
      rw [seqIndex_neg (by omega) h4] at h1
      rw [List.size_toArray, ← hl]
      exact Option.some.inj h1
    exact subscriptTail_builtinR (x := w) pl.isList.typeIs slot_list_getitem.lookup
      (wpAny_getItem_list_neg (Q := fun r s' => r = w ∧ EP X pins σ Q r s') pl.isList (by omega) (by rw [List.size_toArray] <;> omega) (by omega) (by rw [hj]; simpa using ew) ⟨rfl, fin⟩) hs
theorem ix_tup : IxR X (rIxT X.K) := by
  intro value slice pins s σ H x y v u Q I rx ry h hs
  obtain ⟨p, xs, i, z, rfl, rfl, hq, he, q⟩ := h
  cases rx
  obtain ⟨t, rfl⟩ := ry
  obtain ⟨its, r, pl, hz⟩ := I.tuple hq
  obtain ⟨j, h1, h2, h3, h4, h5⟩ := atI_get he
  obtain ⟨w, ew, rw'⟩ := r.get h2
  have hl := r.length
  have hn := line63
  have fin : EP X pins σ Q w s := ⟨z, H, I, rw', q⟩
  exact subscriptTail_builtinR (x := w) pl.typeIs slot_tuple_getitem.lookup
    (getItem_tuple (j := j) (Q := fun r s' => r = w ∧ EP X pins σ Q r s') pl (by omega) (by omega) (by rw [List.size_toArray, ← hl]; exact h1) (by simpa using ew) ⟨rfl, fin⟩) hs
theorem mapSeq_set (its : List Value) (n j : Nat) (u : Value) : Obj.mapSeq (·.setIfInBounds j u) { cls := .type "list", data := .seq its.toArray n } = { cls := .type "list", data := .seq (its.set j u).toArray n } := by
  simp [Obj.mapSeq]
theorem Inv.lst {pins : List (Addr × Obj)} {σ : St} {H : Hp} {s : Shared} {p : Addr} {xs : List V} (I : Inv X pins σ H s) (h : H p = some (.lst xs)) :
    ∃ (its : List Value) (n : Nat), Vals xs its ∧ s.heap.get? p = some { cls := .type "list", data := .seq its.toArray n } ∧ xs.length ≤ sizeLine := by
  obtain ⟨z, its, n, r, e⟩ := I.hok p _ h
  exact ⟨its, n, r, e, z⟩
theorem Inv.lstUpd {pins : List (Addr × Obj)} {σ : St} {H : Hp} {s : Shared} {p : Addr} {xs ys : List V} {its its' : List Value} {n n' : Nat} {f : Obj → Obj} (I : Inv X pins σ H s) (h : H p = some (.lst xs))
    (ho : s.heap.get? p = some { cls := .type "list", data := .seq its.toArray n }) (hf : f { cls := .type "list", data := .seq its.toArray n } = { cls := .type "list", data := .seq its'.toArray n' }) (r : Vals ys its') (hz : ys.length ≤ sizeLine) (t : Nat) :
    Inv X pins σ (upd H p (.lst ys)) { s with heap := s.heap.update p f, toks := t } := by
  have e : (s.heap.update p f).get? p = some { cls := .type "list", data := .seq its'.toArray n' } := by
    rw [Heap.get?_update_self f ho (by rw [hf] <;> rfl), hf]
  refine I.write (x := p) (e := p) (by rw [h]; trivial) (.inl rfl) (fun b u hb q => (Heap.get?_update_other _ _ (Ne.symm hb)).trans q) ⟨_, e⟩ ?_
  exact ⟨hz, its', n', r, e⟩
def rSetL : V → V → V → Hp → (Hp → Prop) → Prop := fun o i v H Q => ∃ p xs k j, o = .ref p ∧ i = .int k ∧ H p = some (.lst xs) ∧ ixN xs.length k = some j ∧ Q (upd H p (.lst (xs.set j v)))
theorem set_list : PSet X rSetL := by
  intro pins s σ H o i v ov iv u Q I ro ri rv h
  obtain ⟨p, xs, k, j, rfl, rfl, hp, hj, q⟩ := h
  cases ro
  obtain ⟨t, rfl⟩ := ri
  obtain ⟨its, n, r, ho, hz⟩ := I.lst hp
  obtain ⟨h1, h2, h3, h4⟩ := ixN_seq hj
  have hl := r.length
  have hn := line63
  have I' : Inv X pins σ (upd H p (.lst (xs.set j v))) { s with heap := s.heap.update p (Obj.mapSeq (·.setIfInBounds j u)) } :=
    I.lstUpd hp ho (mapSeq_set its n j u) (r.set rv j) (by rw [List.length_set]; exact hz) s.toks
  by_cases h0 : 0 ≤ k
  · have hk : k.toNat = j := by
      rw [seqIndex_of h0 h4] at h1
      exact Option.some.inj h1
    exact PySem.W.ki_setAt ho h0 (by omega) (by rw [List.size_toArray, ← hl]; exact h4) (by rw [hk]; exact ⟨_, I', q⟩)
  · have hk : (k + (its.toArray.size : Int)).toNat = j := by
      rw [seqIndex_neg (by omega) h3] at h1
      rw [List.size_toArray, ← hl]
      exact Option.some.inj h1
    exact PySem.W.ki_setBack ho (by omega) (by rw [List.size_toArray, ← hl]; exact h3) (by omega) (by rw [hk]; exact ⟨_, I', q⟩)
theorem slice_bounds (lo hi : Option Int) (n : Nat) : (sliceBounds lo hi none n).1 = ((HT.sIx n 0 lo : Nat) : Int) ∧ (sliceBounds lo hi none n).2.1 = ((HT.sIx n n hi : Nat) : Int) ∧ (sliceBounds lo hi none n).2.2 = 1 := by
  refine ⟨?_, ?_, rfl⟩
  · cases lo with
    | none => simp [sliceBounds, HT.sIx]
    | some i =>
      simp only [sliceBounds, HT.sIx, Option.getD_none, show (1 : Int) > 0 by decide, if_true]
      by_cases h : i < 0
      · simp only [h, if_true] <;> omega
      · simp only [h, if_false] <;> omega
  · cases hi with
    | none => simp [sliceBounds, HT.sIx]
    | some i =>
      simp only [sliceBounds, HT.sIx, Option.getD_none, show (1 : Int) > 0 by decide, if_true]
      by_cases h : i < 0
      · simp only [h, if_true] <;> omega
      · simp only [h, if_false] <;> omega
theorem slicePick_cut (its : List Value) (lo hi : Option Int) : slicePick its.toArray lo hi none = ((its.drop (HT.sIx its.length 0 lo)).take (HT.sIx its.length its.length hi - HT.sIx its.length 0 lo)).toArray := by
  obtain ⟨h1, h2, h3⟩ := slice_bounds lo hi its.toArray.size
  unfold slicePick
  rw [h1, h2, h3]
  simp only [sliceRange_one, pick_run, List.size_toArray] <;> rfl
def rSlL (K : PySem.W.Frag) : V → Option Int → Option Int → Hp → VK → Prop := fun x lo hi H Q => ∃ a xs, x = .ref a ∧ SqL K H a xs ∧ ∀ p, H p = none → Q (.ref p) (upd H p (.lst (cutV xs lo hi)))
theorem sl_list : SlR X (rSlL X.K) := by
  intro pins s σ H x v vl vu lo hi sl Q I rx hs pl pu h
  obtain ⟨a, xs, rfl, hx, q⟩ := h
  cases rx
  obtain ⟨its, r, ht, hz⟩ := I.list hx
  have hlen := r.length
  refine ⟨"list", _, slot_list_getitem.lookup, ht.isList.typeIs, ?_⟩
  refine wpAny_getItem_list_slice ht.isList hs pl pu .none (by simp) ?_ (by rw [List.size_toArray] <;> omega)
  rw [slicePick_cut, ← hlen]
  refine ⟨.ref s.heap.objs.size, _, I.laid (t' := s.toks) (o := .lst (cutV xs lo hi)) (fun b ob q => Heap.get?_push_of_some _ q) (Nat.le_refl _) ?_, rfl, q _ (I.hok.fresh (Nat.le_refl _))⟩
  exact ⟨Nat.le_trans (cutV_length xs lo hi) hz, _, 0, (r.drop (HT.sIx xs.length 0 lo)).take (HT.sIx xs.length xs.length hi - HT.sIx xs.length 0 lo), Heap.get?_push_size _ rfl⟩
def flatV : V → Bool
  | .non => true
  | .bl _ => true
  | .int _ => true
  | .str _ => true
  | _ => false
def eqV : V → V → Bool
  | .non, .non => true
  | .bl a, .bl b => a == b
  | .bl a, .int b => (if a then 1 else 0) == b
  | .int a, .bl b => a == (if b then 1 else 0)
  | .int a, .int b => a == b
  | .str a, .str b => a == b
  | _, _ => false
theorem eqAt_V {A : Around} {s : Shared} {y x : V} {u v : Value} (ry : RelV y u) (rx : RelV x v) (fy : flatV y = true) (fx : flatV x = true) : SeqAt.EqAt A s u v (eqV y x) := by
  cases y with
  | non =>
    cases ry
    cases x with
    | non => cases rx; exact SeqAt.EqAt.same _
    | bl b => cases rx; exact SeqAt.EqAt.none_bool b
    | int b => obtain ⟨t, rfl⟩ := rx; exact SeqAt.EqAt.none_int b t
    | str b => obtain ⟨t, rfl⟩ := rx; exact SeqAt.EqAt.none_str b t
    | _ => exact absurd (show false = true from fx) Bool.false_ne_true
  | bl a =>
    cases ry
    cases x with
    | non => cases rx; exact SeqAt.EqAt.bool_none a
    | bl b => cases rx; exact SeqAt.EqAt.bool_bool a b
    | int b => obtain ⟨t, rfl⟩ := rx; exact SeqAt.EqAt.bool_int a b t
    | str b => obtain ⟨t, rfl⟩ := rx; exact SeqAt.EqAt.bool_str a b t
    | _ => exact absurd (show false = true from fx) Bool.false_ne_true
  | int a =>
    obtain ⟨t', rfl⟩ := ry
    cases x with
    | non => cases rx; exact SeqAt.EqAt.int_none a t'
    | bl b => cases rx; exact SeqAt.EqAt.int_bool a t' b
    | int b => obtain ⟨t, rfl⟩ := rx; exact SeqAt.EqAt.int_int a t' b t
    | str b => obtain ⟨t, rfl⟩ := rx; exact SeqAt.EqAt.int_str a t' b t
    | _ => exact absurd (show false = true from fx) Bool.false_ne_true
  | str a =>
    obtain ⟨t', rfl⟩ := ry
    cases x with
    | non => cases rx; exact SeqAt.EqAt.str_none a t'
    | bl b => cases rx; exact SeqAt.EqAt.str_bool a t' b
    | int b => obtain ⟨t, rfl⟩ := rx; exact SeqAt.EqAt.str_int a t' b t
    | str b => obtain ⟨t, rfl⟩ := rx; exact SeqAt.EqAt.str_str a t' b t
    | _ => exact absurd (show false = true from fx) Bool.false_ne_true
  | _ => exact absurd (show false = true from fy) Bool.false_ne_true
def eqU (x : V) (u : Value) : Bool := match u with
  | .none => eqV .non x
  | .bool b => eqV (.bl b) x
  | .int i _ => eqV (.int i) x
  | .str z _ => eqV (.str z) x
  | _ => false
theorem eqU_of {x y : V} {u : Value} (r : RelV y u) (f : flatV y = true) : eqU x u = eqV y x := by
  cases y with
  | non => cases r; rfl
  | bl b => cases r; rfl
  | int i => obtain ⟨t, rfl⟩ := r; rfl
  | str z => obtain ⟨t, rfl⟩ := r; rfl
  | _ => exact absurd (show false = true from f) Bool.false_ne_true
theorem any_eqU {x : V} : ∀ {xs : List V} {us : List Value}, Vals xs us → xs.all flatV = true → us.any (eqU x) = xs.any fun y => eqV y x
  | _, _, .nil, _ => rfl
  | y :: xs, u :: us, .cons r t, f => by
    rw [List.all_cons, Bool.and_eq_true] at f
    rw [List.any_cons, List.any_cons, eqU_of r f.1, any_eqU t f.2]
theorem mem_eqAt {A : Around} {s : Shared} {x : V} {v : Value} (rx : RelV x v) (fx : flatV x = true) : ∀ {xs : List V} {us : List Value}, Vals xs us → xs.all flatV = true → ∀ u ∈ us, SeqAt.EqAt A s u v (eqU x u)
  | _, _, .nil, _ => fun u hu => by cases hu
  | y :: xs, u :: us, .cons r t, f => fun u' hu => by
    rw [List.all_cons, Bool.and_eq_true] at f
    rcases List.mem_cons.mp hu with rfl | hu
    · rw [eqU_of r f.1]; exact eqAt_V r rx f.1 fx
    · exact mem_eqAt rx fx t f.2 u' hu
def inV (x : V) (xs : List V) : Bool := xs.any fun y => eqV y x
def rIn (K : PySem.W.Frag) (neg : Bool) : R2 := fun x y H Q => ∃ p xs, y = .ref p ∧ (SqL K H p xs ∨ SqT K H p xs) ∧ flatV x = true ∧ xs.all flatV = true ∧ Q (.bl (if neg then !inV x xs else inV x xs)) H
theorem op_notIn_seq : OpR X (compareOp .NotIn) (rIn X.K true) := by
  intro pins s σ H x y v u Q I rx ry h
  obtain ⟨p, xs, rfl, hq, fx, fs, q⟩ := h
  cases ry
  rcases hq with hq | hq
  · obtain ⟨its, r, pl, hz⟩ := I.list hq
    refine SeqAt.notIn_listAt (eqU x) pl.isList (fun w hw => mem_eqAt rx fx r fs w (by simpa using hw)) ⟨.bl _, H, I, rfl, ?_⟩
    rw [show its.toArray.any (eqU x) = its.any (eqU x) by simp, any_eqU r fs]
    exact q
  · obtain ⟨its, r, pl, hz⟩ := I.tuple hq
    refine SeqAt.notIn_tupleAt (eqU x) pl (fun w hw => mem_eqAt rx fx r fs w (by simpa using hw)) ⟨.bl _, H, I, rfl, ?_⟩
    rw [show its.toArray.any (eqU x) = its.any (eqU x) by simp, any_eqU r fs]
    exact q
theorem call_len_seq : CallR X (.builtin "len") (fun xs H Q => ∃ p ys, xs = [.ref p] ∧ (SqL X.K H p ys ∨ SqT X.K H p ys) ∧ Q (.int ys.length) H) := by
  intro pins s σ H xs us Q I r h
  obtain ⟨p, ys, rfl, hq, q⟩ := h
  obtain ⟨u, rfl, rx⟩ := vals1 r
  cases rx
  have hn := line63
  rcases hq with hq | hq
  · obtain ⟨its, r', pl, hz⟩ := I.list hq
    have hlen := r'.length
    exact Calls.call_len_list pl.isList (by simp only [List.size_toArray] <;> omega) ⟨.int ys.length, H, I.tok _, ⟨s.toks + 1, by rw [List.size_toArray, hlen]⟩, q⟩
  · obtain ⟨its, r', pl, hz⟩ := I.tuple hq
    have hlen := r'.length
    exact len_tuple pl (by simp only [List.size_toArray] <;> omega) ⟨.int ys.length, H, I.tok _, ⟨s.toks + 1, by rw [List.size_toArray, hlen]⟩, q⟩
theorem call_list_of : CallR X (.type "list") (fun xs H Q => ∃ p ys, xs = [.ref p] ∧ (SqL X.K H p ys ∨ SqT X.K H p ys) ∧ ∀ l, H l = none → Q (.ref l) (upd H l (.lst ys))) := by
  intro pins s σ H xs us Q I r h
  obtain ⟨p, ys, rfl, hq, q⟩ := h
  obtain ⟨u, rfl, rx⟩ := vals1 r
  cases rx
  have fin : ∀ (its : List Value), Vals ys its → ys.length ≤ sizeLine → ∀ (h' : Heap) (c' : Nat), (∀ b o', s.heap.get? b = some o' → h'.get? b = some o') →
      h'.get? s.heap.objs.size = some { cls := .type "list", dict := none, data := .seq its.toArray c', slots := #[] } → EP X pins σ Q (.ref s.heap.objs.size) { s with heap := h' } := fun its r' hz h' c' kp e =>
    ⟨.ref s.heap.objs.size, _, I.laid (t' := s.toks) kp (Nat.le_refl _) (show ObjOk X.prog X.w _ h' _ (.lst ys) from ⟨hz, its, c', r', e⟩), rfl, q _ (I.hok.fresh (Nat.le_refl _))⟩
  rcases hq with hq | hq
  · obtain ⟨its, r', pl, hz⟩ := I.list hq
    have hlen := r'.length
    obtain ⟨o, ho, hc, n, hd⟩ := pl.isList
    exact call_list_seq p (.inl rfl) ho hc hd (fun h' c' kp e => fin its r' hz h' c' kp e) (by simp only [List.size_toArray] <;> omega)
  · obtain ⟨its, r', pl, hz⟩ := I.tuple hq
    have hlen := r'.length
    obtain ⟨o, ho, hc, n, hd⟩ := pl
    exact call_list_seq p (.inr rfl) ho hc hd (fun h' c' kp e => fin its r' hz h' c' kp e) (by simp only [List.size_toArray] <;> omega)
def tyV (K : PySem.W.Frag) (T : String) (x : V) (H : Hp) : Prop := match x with
  | .str _ => T = "str"
  | .int _ => T = "int"
  | .ref p => (T = "list" ∧ ∃ xs, SqL K H p xs) ∨ (T = "tuple" ∧ ∃ o, K.lookup p = some o ∧ o.cls = .type "tuple" ∧ o.dict = none) ∨
      (T = "dict" ∧ ((∃ kvs, H p = some (.dK kvs)) ∨ ∃ kvs, H p = some (.dT kvs))) ∨ (T = "set" ∧ ∃ S n, H p = some (.set S n))
  | _ => False
theorem tyV_is {pins : List (Addr × Obj)} {σ : St} {H : Hp} {s : Shared} {T : String} {x : V} {v : Value} (I : Inv X pins σ H s) (r : RelV x v) (ty : tyV X.K T x H) :
    s.TypeIs v T ∧ ∀ a, v = .ref a → ∃ ob, s.heap.get? a = some ob ∧ ob.dict = none := by
  cases x with
  | str z =>
    obtain ⟨t, rfl⟩ := r
    cases (show T = "str" from ty)
    exact ⟨typeIs_str s z t, fun _ e => nomatch e⟩
  | int i =>
    obtain ⟨t, rfl⟩ := r
    cases (show T = "int" from ty)
    exact ⟨typeIs_int s i t, fun _ e => nomatch e⟩
  | ref p =>
    cases r
    rcases ty with ⟨rfl, xs, hq⟩ | ⟨rfl, o, hk, hc, hd⟩ | ⟨rfl, hk⟩ | ⟨rfl, S, n, hk⟩
    · obtain ⟨its, _, pl, _⟩ := I.list hq
      refine ⟨pl.isList.typeIs, fun a e => ?_⟩
      cases e
      obtain ⟨o, n, e, c, hd, _⟩ := pl
      exact ⟨o, e, hd⟩
    · refine ⟨⟨o, I.kIn p o hk, hc⟩, fun a e => ?_⟩
      cases e
      exact ⟨o, I.kIn _ o hk, hd⟩
    · have z : ∃ o, s.heap.get? p = some o ∧ o.ExactDict := by
        rcases hk with ⟨kvs, hk⟩ | ⟨kvs, hk⟩
        · obtain ⟨_, _, _, _, o, _, _, e, ex, _⟩ := I.hok p _ hk
          exact ⟨o, e, ex⟩
        · obtain ⟨_, _, _, _, o, _, _, e, ex, _⟩ := I.hok p _ hk
          exact ⟨o, e, ex⟩
      obtain ⟨o, e, ex⟩ := z
      refine ⟨⟨o, e, ex.1⟩, fun a e2 => ?_⟩
      cases e2
      exact ⟨o, e, ex.2.1⟩
    · obtain ⟨o, _, _, _, e, ex, _⟩ := I.hok p _ hk
      refine ⟨⟨o, e, ex.1⟩, fun a e2 => ?_⟩
      cases e2
      exact ⟨o, e, ex.2.1⟩
  | _ => exact False.elim ty
def tBM (K : PySem.W.Frag) (T : String) (r : V → List V → Hp → VK → Prop) (to : TE) (t : TA) : TE := fun σ H Q => to σ H fun x H1 => tyV K T x H1 ∧ t σ H1 fun xs H2 => r x xs H2 Q
variable {o e : Expr} {es : List Expr} {to : TE} {t : TA} {name : Str} {apos cpos : Pos} {T id : String} {r : V → List V → Hp → VK → Prop}
theorem pe_bm (pa : PlainAttrs T) (slot : Slot T name id) (hty : typeOf (.builtin id) = pure (.type "method_descriptor")) (hm : MtR X id r) (ho : PE X o to) (ha : PA X (e :: es) t)
    (hbase : attributeBase o name X.env (eval o X.env) = eval o X.env := by rfl)
    (hfew : ((backTo cpos (starEach (e :: es) X.env)).all (fun x => !x.1) && (backToKw cpos (keywordEach [] X.env)).all (fun x => x.1.isSome)
      && decide ((e :: es).length + ([] : List Keyword).length + (if ([] : List Keyword).isEmpty then 0 else 1) < 30)) = true := by rfl)
    (hline : (apos.endLine == cpos.line) = true := by rfl) (hs : starEach (e :: es) X.env = (false, eval e X.env) :: starEach es X.env := by rfl) (hplain : (backTo cpos (starEach es X.env)).any (·.1) = false := by rfl) :
    PE X (.Call (.Attribute o name apos) (e :: es) [] cpos) (tBM X.K T r to t) := by
  intro pins s σ H Q I h
  refine wpAny_Call_method_late hbase hfew hline rfl (thn (ho pins s σ H _ I h) fun v s1 ⟨x, H1, I1, r1, ty, q1⟩ => ?_)
  obtain ⟨h1, h2⟩ := tyV_is I1 r1 ty
  refine ⟨T, id, pa, slot, hty, h1, h2, ?_⟩
  have hA := ha cpos pins s1 σ H1 _ I1 q1
  rw [hs] at hA ⊢
  refine Calls.callWith_builtin (by show (false || (backTo cpos (starEach es X.env)).any (·.1)) = false; rw [hplain] <;> rfl) (Calls.evalArgs_plain ?_)
  exact thn hA fun us s2 ⟨vs, H2, I2, r2, q2⟩ => hm pins s2 σ H2 x vs v us Q I2 r1 r2 q2
/- xs.append(e), list.index on a module's tuple .. are MtR facts of 06m -/
end
end L2
namespace L2
open PySem PySem.Spec PyProof.Rows
def MtM (X : Cx) (id : String) (r : V → List V → Hp → VK → Prop) : Prop :=
  ∀ (pins : List (Addr × Obj)) (s : Shared) (σ : St) (H : Hp) (x : V) (xs : List V) (v : Value) (us : List Value) (Q : VK), Inv X pins σ H s → RelV x v → Vals xs us → r x xs H Q →
    wpAny (model X.prog X.w) X.A (call (.builtin id) (v :: us)) (EP X pins σ Q) X.xe s
theorem Vals.one : ∀ {x : V} {us : List Value}, Vals [x] us → ∃ u, us = [u] ∧ RelV x u
  | _, _, .cons r .nil => ⟨_, rfl, r⟩
section
variable {X : Cx} {pins : List (Addr × Obj)} {σ : St} {H : Hp} {s : Shared} {l b : Addr} {xs ys zs : List V}
theorem Inv.lset {its its' : List Value} {n : Nat} {f : Array Value → Array Value} {t' : Nat} (I : Inv X pins σ H s) (hH : H l = some (.lst xs))
    (e : s.heap.get? l = some { cls := .type "list", data := .seq its.toArray n }) (hf : f its.toArray = its'.toArray) (hv : Vals ys its') (hz : ys.length ≤ sizeLine) :
    Inv X pins σ (upd H l (.lst ys)) { s with heap := s.heap.update l (Obj.mapSeq f), toks := t' } := by
  have q := PySem.IsL.update e f
  rw [hf] at q
  refine I.write (x := l) (e := l) (by rw [hH]; exact trivial) (.inl rfl) (fun b' u hb hu => (Heap.get?_update_other s.heap (Obj.mapSeq f) (Ne.symm hb)).trans hu) ⟨_, q⟩ ?_
  exact ⟨hz, its', _, hv, q⟩
theorem Inv.lnew {its : List Value} {t' : Nat} (I : Inv X pins σ H s) (hv : Vals ys its) (hz : ys.length ≤ sizeLine) :
    Inv X pins σ (upd H s.heap.objs.size (.lst ys)) { s with heap := s.heap.push { cls := .type "list", data := .seq its.toArray }, toks := t' } :=
  I.laid (fun _ _ q => Heap.get?_push_of_some _ q) (Nat.le_refl _) ⟨hz, its, 0, hv, Heap.get?_push_size _ rfl⟩
theorem Inv.fresh (I : Inv X pins σ H s) : H s.heap.objs.size = none := I.hok.fresh (Nat.le_refl _)
theorem Inv.lstM (I : Inv X pins σ H s) (hH : H l = some (.lst xs)) : xs.length ≤ sizeLine ∧ ∃ (its : List Value) (n : Nat), Vals xs its ∧ xs.length = its.length ∧ s.heap.get? l = some { cls := .type "list", data := .seq its.toArray n } := by
  obtain ⟨z, its, n, r, e⟩ := I.hok l _ hH
  exact ⟨z, its, n, r, r.length, e⟩
end
section
variable {X : Cx}
def rAppend : V → List V → Hp → VK → Prop := fun x vs H Q => ∃ l xs y, x = .ref l ∧ vs = [y] ∧ H l = some (.lst xs) ∧ xs.length < sizeLine ∧ Q .non (upd H l (.lst (xs ++ [y])))
theorem mt_append : MtM X "list.append" rAppend := by
  intro pins s σ H x vs v us Q I rx rv h
  obtain ⟨l, xs, y, rfl, rfl, hH, hz, q⟩ := h
  cases rx
  obtain ⟨u, rfl, ru⟩ := rv.one
  obtain ⟨z, its, n, r, hl, e⟩ := I.lstM hH
  refine call_meets F.slot_list_append ⟨_, e, rfl⟩ F.entry_list_append (F.args_list_append_2 _ _) (PySem.list_append l its.toArray n u (by rw [List.size_toArray]; omega)) ⟨e, ?_⟩
  refine ⟨.non, _, I.lset (its' := its ++ [u]) hH e (by simp) (r.append (.cons ru .nil)) ?_, rfl, q⟩
  rw [List.length_append, List.length_singleton]
  omega
def rCat : R2 := fun x y H Q => ∃ l b xs zs, x = .ref l ∧ y = .ref b ∧ H l = some (.lst xs) ∧ H b = some (.lst zs) ∧ xs.length + zs.length ≤ sizeLine ∧ ∀ p, H p = none → Q (.ref p) (upd H p (.lst (xs ++ zs)))
theorem op_cat : OpR X (binaryOp .Add) rCat := by
  intro pins s σ H x y v u Q I rx ry h
  obtain ⟨l, b, xs, zs, rfl, rfl, hH, hB, hz, q⟩ := h
  cases rx
  cases ry
  obtain ⟨z, its, n, r, hl, e⟩ := I.lstM hH
  obtain ⟨z2, its2, n2, r2, hl2, e2⟩ := I.lstM hB
  refine PySem.P.add_list e e2 ?_ (by rw [List.size_toArray, List.size_toArray]; omega)
  have ea : its.toArray ++ its2.toArray = (its ++ its2).toArray := by simp
  rw [ea]
  exact ⟨.ref _, _, I.lnew (t' := s.toks) (r.append r2) (by rw [List.length_append]; omega), rfl, q _ I.fresh⟩
end
section
variable {prog : Program} {w : World} {A : Around} {E : Value → Shared → Prop} {s : Shared}
end
section
variable {X : Cx}
end
end L2
namespace L2
open PySem PySem.Spec PyProof.Rows
theorem Vals.ints : ∀ {ns : List Int} {us : List Value}, Vals (ns.map V.int) us → IntsAre us ns
  | [], us, h => by
    rw [List.map_nil] at h
    cases h
    exact IntsAre.nil
  | n :: ns, us, h => by
    rw [List.map_cons] at h
    cases h with
    | cons r t =>
      obtain ⟨k, rfl⟩ := r
      exact IntsAre.cons n k (Vals.ints t)
theorem vals_of_ints : ∀ {us : List Value} {ns : List Int}, IntsAre us ns → Vals (ns.map V.int) us
  | _, _, .nil => by rw [List.map_nil]; exact Paired.nil
  | _, _, .cons n t h => by rw [List.map_cons]; exact Paired.cons (show RelV (V.int n) (Value.int n t) from ⟨t, rfl⟩) (vals_of_ints h)
theorem Vals.bls : ∀ {bs : List Bool} {us : List Value}, Vals (bs.map V.bl) us → us = bs.map Value.bool
  | [], us, h => by
    rw [List.map_nil] at h
    cases h
    rfl
  | b :: bs, us, h => by
    rw [List.map_cons] at h
    cases h with
    | cons r t =>
      cases r
      rw [Vals.bls t, List.map_cons]
theorem Vals.ref1 {a : Addr} {us : List Value} (r : Vals [V.ref a] us) : us = [Value.ref a] := by
  cases r with
  | cons r t =>
    cases t
    cases r
    rfl
section
variable {prog : Program} {w : World} {A : Around} {E : Value → Shared → Prop} {s : Shared} {l : Addr} {its : List Value} {ns : List Int} {Q : Value → Shared → Prop}
end
section
variable {X : Cx}
/-! sorted, sort (fewer than 64 items: the library's own bound) -/
def rSorted (K : PySem.W.Frag) : List V → Hp → VK → Prop := fun vs H Q => ∃ (a : Addr) (ns : List Int), vs = [V.ref a] ∧ SqL K H a (ns.map V.int) ∧ ns.length < 64 ∧
  ∀ (ns' : List Int) (p : Addr), ns'.Perm ns → ns'.Pairwise (· ≤ ·) → H p = none → Q (.ref p) (upd H p (.lst (ns'.map V.int)))
theorem small64 {n : Nat} (h : n < 64) : n ≤ sizeLine := by rw [sizeLine_eq]; omega
theorem cr_sorted : CallR X (.builtin "sorted") (rSorted X.K) := by
  intro pins s σ H vs us Q I r h
  obtain ⟨a, ns, rfl, hs, h64, q⟩ := h
  obtain ⟨its, rv, hl, _⟩ := I.list hs
  rw [Vals.ref1 r]
  have hi := rv.ints
  refine PyProof.Rows.sorted_ints hl.isList hi (by rw [hi.length]; exact h64) fun out ns' h1 h2 h3 => ?_
  obtain ⟨ep, he'⟩ := PyProof.Rows.sortedAll_at s.heap its out
  have hlen : (ns'.map V.int).length ≤ sizeLine := by rw [List.length_map, h2.length_eq]; exact small64 h64
  exact ⟨.ref _, upd H (s.heap.objs.size + 1) (.lst (ns'.map V.int)), I.laid (t' := s.toks) (fun _ _ => PyProof.Rows.sortedAll_old) (Nat.le_succ _) ⟨hlen, out.toList, ep, vals_of_ints h1, he'⟩, rfl, q ns' _ h2 h3 (I.hok.fresh (Nat.le_succ _))⟩
end
section
variable {X : Cx}
end
section
variable {X : Cx}
end
theorem iter_any {prog : Program} {w : World} {A : Around} {E : Value → Shared → Prop} {s : Shared} {l : Addr} {items : Array Value} {Q : Value → Shared → Prop} (hl : s.heap.IsList l items)
    (h : ∀ s₂ : Shared, s₂ = { s with heap := s.heap.push { cls := .type "list_iterator", data := .fields #[.ref l, .int 0 0] } } →
      (s₂.heap.IsListIter s.heap.objs.size l 0 ∧ s₂.heap.IsList l items) → l ≠ s.heap.objs.size → Q (.ref s.heap.objs.size) s₂) : wpAny (model prog w) A (pyIter (.ref l)) Q E s := by
  have hlt : l < s.heap.objs.size := by obtain ⟨_, e, _⟩ := hl; exact Heap.lt_size e
  exact wpAny_pyIter_list hl (h _ rfl ⟨⟨_, Heap.get?_push_size _ rfl, rfl, rfl⟩, hl.push _⟩ (Nat.ne_of_lt hlt))
theorem truth_bools {prog : Program} {w : World} {A : Around} {bs : List Bool} {its : List Value} (e : its = bs.map Value.bool) :
    TruthOf prog w A (fun i v => its.toArray[i]? = some v) (fun i => bs.getD i false) := fun i v s Q E hv hq => by
  have hv' : its[i]? = some v := by simpa using hv
  rw [e, List.getElem?_map] at hv'
  obtain ⟨b, hb, rfl⟩ := Option.map_eq_some_iff.mp hv'
  have hg : bs.getD i false = b := by rw [List.getD_eq_getElem?_getD, hb] <;> rfl
  have hq' : Q (bs.getD i false) s := hq
  rw [hg] at hq'
  exact wpAny_truthy_bool hq'
theorem any_range : ∀ bs : List Bool, (List.range bs.length).any (fun i => bs.getD i false) = bs.any id
  | [] => rfl
  | b :: bs => by
    rw [List.length_cons, List.range_succ_eq_map, List.any_cons, List.any_map, List.any_cons, ← any_range bs]
    all_goals rfl
theorem all_range : ∀ bs : List Bool, (List.range bs.length).all (fun i => bs.getD i false) = bs.all id
  | [] => rfl
  | b :: bs => by
    rw [List.length_cons, List.range_succ_eq_map, List.all_cons, List.all_map, List.all_cons, ← all_range bs]
    all_goals rfl
section
variable {X : Cx}
def rAny (K : PySem.W.Frag) : List V → Hp → VK → Prop := fun vs H Q => ∃ (a : Addr) (bs : List Bool), vs = [V.ref a] ∧ SqL K H a (bs.map V.bl) ∧ Q (.bl (bs.any id)) H
def rAll (K : PySem.W.Frag) : List V → Hp → VK → Prop := fun vs H Q => ∃ (a : Addr) (bs : List Bool), vs = [V.ref a] ∧ SqL K H a (bs.map V.bl) ∧ Q (.bl (bs.all id)) H
theorem cr_any (hc : X.calm = true) : CallR X (.builtin "any") (rAny X.K) := by
  intro pins s σ H vs us Q I r h
  obtain ⟨a, bs, rfl, hs, q⟩ := h
  obtain ⟨its, rv, hl, _⟩ := I.list hs
  rw [Vals.ref1 r]
  have hb := rv.bls
  refine call_any_walk (iter_any hl.isList fun s₂ e2 st hne => ?_)
  subst e2
  refine ⟨_, _, _, _, _, _, _, rfl, Walks.list (A := X.A.in1) (I.ok.hd hc) _ a hne its.toArray, st, truth_bools hb, fun h' tk hk => ?_⟩
  refine ⟨.bl _, H, I.kept fun b o eo => hk b o (fun hmem => ?_) (Heap.get?_push_of_some _ eo), ?_, q⟩
  · rcases List.mem_cons.mp hmem with e1 | hmem
    · exact absurd (e1 ▸ Heap.lt_size eo) (Nat.lt_irrefl _)
    · cases hmem
  · show Value.bool _ = Value.bool _
    rw [← any_range, hb, List.size_toArray, List.length_map]
theorem cr_all (hc : X.calm = true) : CallR X (.builtin "all") (rAll X.K) := by
  intro pins s σ H vs us Q I r h
  obtain ⟨a, bs, rfl, hs, q⟩ := h
  obtain ⟨its, rv, hl, _⟩ := I.list hs
  rw [Vals.ref1 r]
  have hb := rv.bls
  refine call_all_walk (iter_any hl.isList fun s₂ e2 st hne => ?_)
  subst e2
  refine ⟨_, _, _, _, _, _, _, rfl, Walks.list (A := X.A.in1) (I.ok.hd hc) _ a hne its.toArray, st, truth_bools hb, fun h' tk hk => ?_⟩
  refine ⟨.bl _, H, I.kept fun b o eo => hk b o (fun hmem => ?_) (Heap.get?_push_of_some _ eo), ?_, q⟩
  · rcases List.mem_cons.mp hmem with e1 | hmem
    · exact absurd (e1 ▸ Heap.lt_size eo) (Nat.lt_irrefl _)
    · cases hmem
  · show Value.bool _ = Value.bool _
    rw [← all_range, hb, List.size_toArray, List.length_map]
end
mutual
inductive Dp (K : PySem.W.Frag) (H : Hp) : V → PyData → Prop
  | non : Dp K H .non .none
  | bl (b : Bool) : Dp K H (.bl b) (.bool b)
  | int (i : Int) : Dp K H (.int i) (.int i)
  | str (x : Str) : Dp K H (.str x) (.str x)
  | lst {a : Addr} {xs : List V} {ds : List PyData} : SqL K H a xs → DpAll K H xs ds → Dp K H (.ref a) (.list ds)
  | tup {a : Addr} {xs : List V} {ds : List PyData} : SqT K H a xs → DpAll K H xs ds → Dp K H (.ref a) (.tuple ds)
inductive DpAll (K : PySem.W.Frag) (H : Hp) : List V → List PyData → Prop
  | nil : DpAll K H [] []
  | cons {v : V} {vs : List V} {d : PyData} {ds : List PyData} : Dp K H v d → DpAll K H vs ds → DpAll K H (v :: vs) (d :: ds)
end
section
variable {X : Cx} {pins : List (Addr × Obj)} {σ : St} {H : Hp} {s : Shared}
mutual
theorem Dp.reads (I : Inv X pins σ H s) : ∀ (d : PyData) (v : V) (u : Value), Dp X.K H v d → RelV v u → ∃ as, Reads s.heap u d as
  | .none, _, _, h, r => by
    cases h
    cases r
    exact ⟨_, Reads.none⟩
  | .bool b, _, _, h, r => by
    cases h
    cases r
    exact ⟨_, Reads.bool b⟩
  | .int i, _, _, h, r => by
    cases h
    obtain ⟨t, rfl⟩ := r
    exact ⟨_, Reads.int i t⟩
  | .str x, _, _, h, r => by
    cases h
    obtain ⟨t, rfl⟩ := r
    exact ⟨_, Reads.str x t⟩
  | .list ds, _, _, h, r => by
    cases h with
    | lst hs ha =>
      cases r
      obtain ⟨its, rv, ⟨o, n, ho, hc, _, hd⟩, _⟩ := I.list hs
      obtain ⟨as, hr⟩ := Dp.readsAll I ds _ its ha rv
      exact ⟨_, Reads.list ho hc hd hr⟩
  | .tuple ds, _, _, h, r => by
    cases h with
    | tup hs ha =>
      cases r
      obtain ⟨its, rv, ⟨o, ho, hc, n, hd⟩, _⟩ := I.tuple hs
      obtain ⟨as, hr⟩ := Dp.readsAll I ds _ its ha rv
      exact ⟨_, Reads.tuple ho hc hd hr⟩
  | .dict _, _, _, h, _ => by cases h
theorem Dp.readsAll (I : Inv X pins σ H s) : ∀ (ds : List PyData) (vs : List V) (us : List Value), DpAll X.K H vs ds → Vals vs us → ∃ as, ReadsAll s.heap us ds as
  | [], _, _, h, r => by
    cases h
    cases r
    exact ⟨_, ReadsAll.nil⟩
  | d :: ds, _, _, h, r => by
    cases h with
    | cons h1 h2 =>
      cases r with
      | cons r1 r2 =>
        obtain ⟨as, q1⟩ := Dp.reads I d _ _ h1 r1
        obtain ⟨bs, q2⟩ := Dp.readsAll I ds _ _ h2 r2
        exact ⟨_, ReadsAll.cons q1 q2⟩
end
end
section
variable {X : Cx}
def rEqD (K : PySem.W.Frag) : R2 := fun x y H Q => ∃ d e, Dp K H x d ∧ Dp K H y e ∧ SeqAt.shaped d = true ∧ SeqAt.shaped e = true ∧ Q (.bl (PyData.eqv d e)) H
theorem op_eqD (hu : X.A.units + 64 < cLine) : OpR X (compareOp .Eq) (rEqD X.K) := by
  intro pins s σ H x y v u Q I rx ry h
  obtain ⟨d, e, hd, he, sd, se, q⟩ := h
  obtain ⟨as, r1⟩ := Dp.reads I d x v hd rx
  obtain ⟨bs, r2⟩ := Dp.reads I e y u he ry
  exact SeqAt.compareEq_shaped r1 r2 sd se hu ⟨.bl _, H, I, rfl, q⟩
end
end L2
namespace L2
open PySem PySem.Spec PyProof.Rows
abbrev CellAt (h : Heap) (c : Addr) (v : Option Value) : Prop := h.IsCell c v
def relS (scope sc : Scope) : Scope :=
  { scope with names := scope.names.map fun (n, k) => if (k == .free && sc.kind == .function && sc.names.lookup n == some .cell) then (n, .cell) else (n, k) }
def cloFrom (cells : List (Str × Addr)) : List (Str × NameKind) → List (Str × Addr) → List (Str × Addr)
  | [], acc => acc
  | (n, k) :: r, acc => if k == .free then cloFrom cells r ((n, (cells.lookup n).getD 0) :: acc) else cloFrom cells r acc
theorem closure_loop (env : Env) (f : Str × NameKind → List (Str × Addr) → Sem (ForInStep (List (Str × Addr))))
    (hf : ∀ n k c, f (n, k) c = if k == .free then (do let a ← cellOf env n; pure (.yield ((n, a) :: c))) else pure (.yield c)) :
    ∀ (names : List (Str × NameKind)) (acc : List (Str × Addr)), (∀ y ∈ names, y.2 = .free → ∃ c, env.cells.lookup y.1 = some c) → forIn names acc f = pure (cloFrom env.cells names acc)
  | [], acc, _ => by rw [List.forIn_nil]; rfl
  | (n, k) :: r, acc, h => by
    rw [List.forIn_cons, hf]
    have ih := fun acc => closure_loop env f hf r acc fun y hy => h y (List.mem_cons_of_mem _ hy)
    unfold cloFrom
    by_cases hk : (k == NameKind.free) = true
    · rw [if_pos hk, if_pos hk]
      obtain ⟨c, hc⟩ := h (n, k) List.mem_cons_self (by simpa using hk)
      have e : cellOf env n = pure c := by unfold cellOf; rw [hc]
      rw [e]
      have e2 : (env.cells.lookup n).getD 0 = c := by rw [hc]; rfl
      rw [e2]
      exact ih _
    · rw [if_neg hk, if_neg hk]
      exact ih _
theorem closure_ok {scope : Scope} {env : Env} (h : ∀ y ∈ scope.names, y.2 = .free → ∃ c, env.cells.lookup y.1 = some c) : closureFor scope env = pure (cloFrom env.cells scope.names []) := by
  simp only [closureFor]
  rw [closure_loop env _ (fun n k c => rfl) scope.names [] h]
  rfl
theorem mem_lookup {α : Type} : ∀ {l : List (Str × α)} {n : Str} {c : α}, (n, c) ∈ l → ∃ c', l.lookup n = some c'
  | (k, v) :: r, n, c, h => by
    rw [List.lookup_cons]
    cases hb : n == k with
    | true => exact ⟨_, rfl⟩
    | false =>
      rcases List.mem_cons.mp h with e | h
      · cases e; simp at hb
      · exact mem_lookup h
theorem cloFrom_mem {cells : List (Str × Addr)} : ∀ {names : List (Str × NameKind)} {acc : List (Str × Addr)} {n : Str} {c : Addr}, (n, c) ∈ cloFrom cells names acc → (n, c) ∈ acc ∨ ((n, .free) ∈ names ∧ c = (cells.lookup n).getD 0)
  | [], _, _, _, h => .inl h
  | (m, k) :: r, acc, n, c, h => by
    unfold cloFrom at h
    split at h
    · rename_i hk
      have hk : k = .free := by simpa using hk
      rcases cloFrom_mem h with h | ⟨h1, h2⟩
      · rcases List.mem_cons.mp h with e | h
        · cases e; exact .inr ⟨hk ▸ List.mem_cons_self, rfl⟩
        · exact .inl h
      · exact .inr ⟨List.mem_cons_of_mem _ h1, h2⟩
    · rcases cloFrom_mem h with h | ⟨h1, h2⟩
      · exact .inl h
      · exact .inr ⟨List.mem_cons_of_mem _ h1, h2⟩
theorem cloFrom_acc {cells : List (Str × Addr)} : ∀ {names : List (Str × NameKind)} {acc : List (Str × Addr)} {p : Str × Addr}, p ∈ acc → p ∈ cloFrom cells names acc
  | [], _, _, h => h
  | (m, k) :: r, acc, p, h => by
    unfold cloFrom
    split
    · exact cloFrom_acc (List.mem_cons_of_mem _ h)
    · exact cloFrom_acc h
theorem cloFrom_has {cells : List (Str × Addr)} : ∀ {names : List (Str × NameKind)} {acc : List (Str × Addr)} {n : Str}, (n, .free) ∈ names → (n, (cells.lookup n).getD 0) ∈ cloFrom cells names acc
  | (m, k) :: r, acc, n, h => by
    unfold cloFrom
    rcases List.mem_cons.mp h with e | h
    · cases e
      exact cloFrom_acc List.mem_cons_self
    · split
      · exact cloFrom_has h
      · exact cloFrom_has h
theorem cells_mem : ∀ {names : List (Str × NameKind)} {h : Heap} {acc : List (Str × Addr)} {x : Str} {c : Addr}, (x, c) ∈ cellsFrom h.objs.size names acc →
    (x, c) ∈ acc ∨ ((x, .cell) ∈ names ∧ h.objs.size ≤ c ∧ CellAt (pushCells h names) c none)
  | [], _, _, _, _, h => .inl h
  | (n, k) :: r, h, acc, x, c, hm => by
    unfold cellsFrom at hm
    unfold pushCells
    split at hm
    · rename_i hk
      rw [if_pos hk]
      have hk : k = .cell := by simpa using hk
      rw [← Heap.size_push h { cls := .type "cell", data := .cell none }] at hm
      rcases cells_mem hm with hm | ⟨h1, h2, h3⟩
      · rcases List.mem_cons.mp hm with e | hm
        · cases e
          exact .inr ⟨hk ▸ List.mem_cons_self, Nat.le_refl _, _, pushCells_keeps r _ _ _ (Heap.get?_push_size _ rfl), rfl⟩
        · exact .inl hm
      · rw [Heap.size_push] at h2
        exact .inr ⟨List.mem_cons_of_mem _ h1, Nat.le_of_succ_le h2, h3⟩
    · rename_i hk
      rw [if_neg hk]
      rcases cells_mem hm with hm | ⟨h1, h2, h3⟩
      · exact .inl hm
      · exact .inr ⟨List.mem_cons_of_mem _ h1, h2, h3⟩
theorem cells_acc : ∀ {names : List (Str × NameKind)} {n : Nat} {acc : List (Str × Addr)} {p : Str × Addr}, p ∈ acc → p ∈ cellsFrom n names acc
  | [], _, _, _, h => h
  | (m, k) :: r, n, acc, p, h => by
    unfold cellsFrom
    split
    · exact cells_acc (List.mem_cons_of_mem _ h)
    · exact cells_acc h
theorem cells_has : ∀ {names : List (Str × NameKind)} {n : Nat} {acc : List (Str × Addr)} {x : Str}, (x, .cell) ∈ names → ∃ c, (x, c) ∈ cellsFrom n names acc
  | (m, k) :: r, n, acc, x, h => by
    unfold cellsFrom
    rcases List.mem_cons.mp h with e | h
    · cases e
      exact ⟨n, cells_acc List.mem_cons_self⟩
    · split
      · exact cells_has h
      · exact cells_has h
theorem cells_inj : ∀ {names : List (Str × NameKind)} {h : Heap} {acc : List (Str × Addr)} {x y : Str} {c : Addr}, (∀ p ∈ acc, p.2 < h.objs.size) → (∀ x y c, (x, c) ∈ acc → (y, c) ∈ acc → x = y) →
    (x, c) ∈ cellsFrom h.objs.size names acc → (y, c) ∈ cellsFrom h.objs.size names acc → x = y
  | [], _, _, _, _, _, _, hi, h1, h2 => hi _ _ _ h1 h2
  | (n, k) :: r, h, acc, x, y, c, hl, hi, h1, h2 => by
    unfold cellsFrom at h1 h2
    split at h1
    · rename_i hk
      rw [if_pos hk] at h2
      rw [← Heap.size_push h { cls := .type "cell", data := .cell none }] at h1 h2
      refine cells_inj (h := h.push _) (fun p hp => ?_) (fun x y c a b => ?_) h1 h2
      · rw [Heap.size_push]
        rcases List.mem_cons.mp hp with rfl | hp
        · exact Nat.lt_succ_self _
        · exact Nat.lt_succ_of_lt (hl p hp)
      · rcases List.mem_cons.mp a with e | a <;> rcases List.mem_cons.mp b with e' | b
        · cases e; cases e'; rfl
        · cases e; exact absurd (hl _ b) (Nat.lt_irrefl _)
        · cases e'; exact absurd (hl _ a) (Nat.lt_irrefl _)
        · exact hi _ _ _ a b
    · rename_i hk
      rw [if_neg hk] at h2
      exact cells_inj hl hi h1 h2
theorem newEnv_comp {M : Model} {A : Around} {E : Value → Shared → Prop} {s : Shared} {scope : Scope} {globals : Addr} {closure : List (Str × Addr)} {qual : Str} {func : Option Addr} {code : Value} {around : Env} {builtins : Addr} {Q : Env → Shared → Prop}
    (h : Q (newEnv scope s.heap.objs.size globals (cellsFrom (s.heap.objs.size + 1) scope.names closure) qual func code (some around) builtins)
      { s with heap := pushCells (s.heap.push { cls := .type "dict", data := .dict #[] }) scope.names }) :
    wpAny M A (newFunctionEnv scope globals closure [] qual func code (some around) builtins) Q E s := by
  simp only [newFunctionEnv, Option.isSome_some, if_true]
  refine wpAny_bind (wpAny_alloc ?_)
  refine wpAny_bind (wpAny_layCells _ (fun n k c => rfl) scope.names closure _ _ ?_)
  rw [show ({ s with heap := s.heap.push { cls := .type "dict", data := .dict #[] } } : Shared).heap.objs.size = s.heap.objs.size + 1 from Heap.size_push ..]
  rw [List.forIn_nil]
  exact wpAny_bind (wpAny_pure (wpAny_pure h))
theorem lookup_relS {sc : Scope} : ∀ {names : List (Str × NameKind)} {x : Str} {k : NameKind},
    (names.map fun (n, k) => if (k == NameKind.free && sc.kind == .function && sc.names.lookup n == some .cell) then (n, NameKind.cell) else (n, k)).lookup x = some k →
    ∃ k', names.lookup x = some k' ∧ (k = k' ∨ (k' = .free ∧ k = .cell))
  | [], _, _, h => by simp at h
  | (n, k₀) :: r, x, k, h => by
    have ih := @lookup_relS sc r x k
    have h' : List.lookup x ((if (k₀ == NameKind.free && sc.kind == .function && sc.names.lookup n == some .cell) = true then (n, NameKind.cell) else (n, k₀)) :: (r.map _)) = some k := h
    cases hx : x == n with
    | true =>
      simp only [List.lookup_cons, hx]
      by_cases hc : (k₀ == NameKind.free && sc.kind == .function && sc.names.lookup n == some .cell) = true
      · rw [if_pos hc] at h'
        simp only [List.lookup_cons, hx] at h'
        cases h'
        simp only [Bool.and_eq_true, beq_iff_eq] at hc
        exact ⟨k₀, rfl, .inr ⟨hc.1.1, rfl⟩⟩
      · rw [if_neg hc] at h'
        simp only [List.lookup_cons, hx] at h'
        cases h'
        exact ⟨_, rfl, .inl rfl⟩
    | false =>
      simp only [List.lookup_cons, hx]
      by_cases hc : (k₀ == NameKind.free && sc.kind == .function && sc.names.lookup n == some .cell) = true
      · rw [if_pos hc] at h'
        simp only [List.lookup_cons, hx] at h'
        exact ih h'
      · rw [if_neg hc] at h'
        simp only [List.lookup_cons, hx] at h'
        exact ih h'
structure BlkOk (N : List Str) (sc scope : Scope) (own : List (Str × Nat)) : Prop where
  kind : scope.kind = .function
  uniq : ∀ y ∈ scope.names, scope.names.lookup y.1 = some y.2
  ix : ∀ p ∈ own, N[p.2]? = some p.1
  free : ∀ y ∈ scope.names, y.2 = .free → sc.names.lookup y.1 = some .cell ∨ sc.names.lookup y.1 = some .free
  own : ∀ y ∈ scope.names, y.2 = .local ∨ y.2 = .cell → y.1 ∈ own.map (·.1) ∨ y.1 ∉ N
def wipe (σ : St) : List Nat → St
  | [] => σ
  | v :: vs => (wipe σ vs).set v none
theorem wipe_length (σ : St) : ∀ vs : List Nat, (wipe σ vs).length = σ.length
  | [] => rfl
  | v :: vs => by unfold wipe; rw [List.length_set, wipe_length σ vs]
theorem wipe_some {σ : St} {i : Nat} {x : V} : ∀ {vs : List Nat}, (wipe σ vs)[i]? = some (some x) → σ[i]? = some (some x) ∧ i ∉ vs
  | [], h => ⟨h, by simp⟩
  | v :: vs, h => by
    unfold wipe at h
    by_cases hi : v = i
    · subst hi
      by_cases hv : v < (wipe σ vs).length
      · rw [List.getElem?_set_self hv] at h; cases h
      · rw [List.getElem?_eq_none (by simpa using hv)] at h; cases h
    · rw [List.getElem?_set_ne hi] at h
      obtain ⟨h1, h2⟩ := wipe_some h
      exact ⟨h1, by simp only [List.mem_cons, not_or]; exact ⟨fun e => hi e.symm, h2⟩⟩
abbrev Cx.blk (X : Cx) (s : Shared) (H : Hp) (scope : Scope) (cenv : Env) (fp : List Addr) : Cx := { X with s_0 := s, H_0 := H, env := cenv, outer := X.stack, ex := fp, fn := fun x => scope.names.lookup x == some .cell, pn := [], xe := fun _ _ => False }
section
variable {X : Cx} {pins : List (Addr × Obj)} {σ : St} {H : Hp} {s : Shared}
theorem block_start {scope : Scope} {own : List (Str × Nat)} {fp : List Addr} (I : Inv X pins σ H s) (ok : BlkOk X.N X.env.scope scope own) (hN : X.N.Nodup) (hfp : ∀ b ∈ fp, FpOk X pins H b ∧ b < s.heap.objs.size) :
    Inv (X.blk s H scope (compEnvC scope (cellsFrom (s.heap.objs.size + 1) scope.names (cloFrom X.env.cells scope.names [])) s.heap.objs.size X.env) fp) [] (wipe σ (own.map (·.2))) H { s with heap := pushCells (s.heap.push { cls := .type "dict", data := .dict #[] }) scope.names } := by
  have hfree : ∀ y ∈ scope.names, y.2 = .free → ∃ c, X.env.cells.lookup y.1 = some c := fun y hy e => by
    rcases ok.free y hy e with k | k
    · exact I.ok.has _ (.inl k)
    · exact I.ok.has _ (.inr k)
  generalize hcenv : compEnvC scope (cellsFrom (s.heap.objs.size + 1) scope.names (cloFrom X.env.cells scope.names [])) s.heap.objs.size X.env = cenv
  have kp : ∀ b o, s.heap.get? b = some o → (pushCells (s.heap.push { cls := .type "dict", data := .dict #[] }) scope.names).get? b = some o := fun b o e => pushCells_keeps _ _ _ _ (Heap.get?_push_of_some _ e)
  have hL : cenv.locals = s.heap.objs.size := by rw [← hcenv]; rfl
  have hcl : cenv.cells = cellsFrom (s.heap.objs.size + 1) scope.names (cloFrom X.env.cells scope.names []) := by rw [← hcenv]; rfl
  have hsc : cenv.scope = relS scope X.env.scope := by rw [← hcenv]; rfl
  rw [← Heap.size_push s.heap { cls := .type "dict", data := .dict #[] }] at hcl
  have cm : ∀ {y c}, (y, c) ∈ cloFrom X.env.cells scope.names [] → X.env.cells.lookup y = some c ∧ c < s.heap.objs.size := fun {y c} hm => by
    rcases cloFrom_mem hm with hm | ⟨h1, rfl⟩
    · cases hm
    · obtain ⟨c, hc⟩ := hfree _ h1 rfl
      rw [hc]
      obtain ⟨w, z⟩ := I.cell _ _ hc
      exact ⟨rfl, z.lt⟩
  have mem : ∀ {y c}, cenv.cells.lookup y = some c → (X.env.cells.lookup y = some c ∧ c < s.heap.objs.size) ∨ (s.heap.objs.size + 1 ≤ c ∧ CellAt (pushCells (s.heap.push { cls := .type "dict", data := .dict #[] }) scope.names) c none) := fun {y c} e => by
    rw [hcl] at e
    rcases cells_mem (PySem.mem_of_lookup e) with hm | ⟨_, h2, h3⟩
    · exact .inl (cm hm)
    · rw [Heap.size_push] at h2; exact .inr ⟨h2, h3⟩
  have look : ∀ {y}, scope.names.lookup y = some .free → ∃ c, cenv.cells.lookup y = some c ∧ X.env.cells.lookup y = some c := fun {y} hl => by
    have hy : (y, NameKind.free) ∈ scope.names := PySem.mem_of_lookup hl
    obtain ⟨c', e'⟩ := mem_lookup (cells_acc (names := scope.names) (n := (s.heap.push { cls := .type "dict", data := .dict #[] }).objs.size) (cloFrom_has (cells := X.env.cells) (acc := []) hy))
    rw [← hcl] at e'
    refine ⟨c', e', ?_⟩
    rw [hcl] at e'
    rcases cells_mem (PySem.mem_of_lookup e') with hm | ⟨h1, _, _⟩
    · exact (cm hm).1
    · have := ok.uniq _ h1
      rw [hl] at this; cases this
  have okB : (X.blk s H scope cenv fp).Ok := by
    refine ⟨I.ok.mod, by show cenv.scope.kind = _; rw [hsc]; exact ok.kind, by show cenv.globals = _; rw [← hcenv]; exact I.ok.glob, by show cenv.builtins = _; rw [← hcenv]; exact I.ok.blt, by show s.heap.objs.size ≤ cenv.locals; rw [hL]; exact Nat.le_refl _,
      fun y z c e1 e2 => ?_, fun y hy => ?_, fun y c z e => ?_, I.ok.hd, I.ok.frames, .inl rfl, fun b hb => ⟨?_, fun y c e z => ?_⟩, I.bs, Nat.le_trans I.ok.bsz I.sz, fun b o e hb => ?_, fun b hb z => ?_, I.stack, I.stkFree⟩
    · have e1 : cenv.cells.lookup y = some c := e1
      have e2 : cenv.cells.lookup z = some c := e2
      rw [hcl] at e1 e2
      refine cells_inj (fun p hp => ?_) (fun y z c a b => I.ok.inj y z c (cm a).1 (cm b).1) (PySem.mem_of_lookup e1) (PySem.mem_of_lookup e2)
      rw [Heap.size_push]
      exact Nat.lt_succ_of_lt (cm (y := p.1) (c := p.2) hp).2
    · show ∃ c, cenv.cells.lookup y = some c
      have key : ∀ k, cenv.kindOf y = some k → (k = .cell ∨ k = .free) → ∃ c, cenv.cells.lookup y = some c := fun k hk hk' => by
        unfold Env.kindOf at hk
        rw [hsc] at hk
        obtain ⟨k', e, r⟩ := lookup_relS hk
        have : k' = .cell ∨ k' = .free := by
          rcases r with rfl | ⟨rfl, _⟩
          · exact hk'
          · exact .inr rfl
        rcases this with rfl | rfl
        · obtain ⟨c, hm⟩ := cells_has (n := (s.heap.push { cls := .type "dict", data := .dict #[] }).objs.size) (acc := cloFrom X.env.cells scope.names []) (PySem.mem_of_lookup e)
          obtain ⟨c', e'⟩ := mem_lookup hm
          exact ⟨c', by rw [hcl]; exact e'⟩
        · obtain ⟨c, h1, _⟩ := look e
          exact ⟨c, h1⟩
      rcases hy with hy | hy
      · exact key _ hy (.inl rfl)
      · exact key _ hy (.inr rfl)
    · have z : (scope.names.lookup y == some NameKind.cell) = true := z
      have z : scope.names.lookup y = some .cell := by simpa using z
      have e : cenv.cells.lookup y = some c := e
      rw [hcl] at e
      rcases cells_mem (PySem.mem_of_lookup e) with hm | ⟨_, h2, _⟩
      · rcases cloFrom_mem hm with hm | ⟨h1, _⟩
        · cases hm
        · have q := ok.uniq _ h1
          rw [z] at q; cases q
      · rw [Heap.size_push] at h2
        exact Nat.le_of_succ_le h2
    · show b ≠ cenv.locals
      rw [hL]; exact Nat.ne_of_lt (hfp b hb).2
    · have e : cenv.cells.lookup y = some c := e
      rcases mem e with ⟨h1, _⟩ | ⟨h1, _⟩
      · exact (hfp b hb).1.2.2.2.2.1 y c h1 z
      · have h2 : s.heap.objs.size + 1 ≤ b := by rw [← z]; exact h1
        exact absurd (Nat.lt_of_lt_of_le (hfp b hb).2 (Nat.le_of_succ_le h2)) (Nat.lt_irrefl _)
    · rcases (hfp b hb).1.2.2.2.1 with z | z
      · exact I.ok.noex b o e z
      · exact absurd (Nat.lt_of_lt_of_le (Heap.lt_size e) (Nat.le_trans I.ok.bsz z)) (Nat.lt_irrefl _)
    · rcases List.mem_cons.mp (I.stkSub b z) with z | z
      · exact (hfp b hb).1.2.1 z
      · exact (hfp b hb).1.2.2.1 z
  refine ⟨okB, rfl, I.bare, Un.kept kp, ⟨fun _ => none, ?_, fun i y av e1 e2 e3 => ?_⟩, fun y c e => ?_, ?_, fun y c e => ?_, fun p hp => ?_, I.hok.kept kp, by rw [wipe_length]; exact I.len⟩
  · show Heap.Ns _ cenv.locals _
    rw [hL]
    exact Heap.Ns.keeps (Heap.Ns.new ..) fun b o e => pushCells_keeps _ _ _ _ e
  · obtain ⟨e2, hne⟩ := wipe_some e2
    have hfr : scope.names.lookup y = some .free ∧ (cenv.kindOf y = some .cell ∨ cenv.kindOf y = some .free) := by
      have key : ∀ k, cenv.scope.names.lookup y = some k → k = .local ∨ k = .cell ∨ k = .free → scope.names.lookup y = some .free ∧ (cenv.kindOf y = some .cell ∨ cenv.kindOf y = some .free) := fun k hk hk' => by
        have hk0 := hk
        rw [hsc] at hk
        obtain ⟨k', e, r⟩ := lookup_relS hk
        have no : ¬ (k' = .local ∨ k' = .cell) := fun hh => by
          rcases ok.own _ (PySem.mem_of_lookup e) hh with e' | e'
          · obtain ⟨p, hp, hpy⟩ := List.mem_map.mp e'
            have e3 := ok.ix p hp
            have : p.1 = y := hpy
            rw [this] at e3
            exact hne (List.mem_map.mpr ⟨p, hp, nodup_ix hN e3 e1⟩)
          · exact e' (List.mem_of_getElem? e1)
        rcases r with rfl | ⟨rfl, rfl⟩
        · rcases hk' with rfl | rfl | rfl
          · exact absurd (.inl rfl) no
          · exact absurd (.inr rfl) no
          · exact ⟨e, .inr hk0⟩
        · exact ⟨e, .inl hk0⟩
      have e3 : Vis cenv.scope y := e3
      rcases e3 with e3 | e3 | e3
      · exact key _ e3 (.inl rfl)
      · exact key _ e3 (.inr (.inl rfl))
      · exact key _ e3 (.inr (.inr rfl))
    obtain ⟨m, hn, hl⟩ := I.loc
    have hvis : Vis X.env.scope y := (ok.free _ (PySem.mem_of_lookup hfr.1) rfl).elim (fun k => .inr (.inl k)) (fun k => .inr (.inr k))
    obtain ⟨w, r, q⟩ := hl i y av e1 e2 hvis
    refine ⟨w, r, .inr ⟨hfr.2, ?_⟩⟩
    obtain ⟨c, h1, h2⟩ := look hfr.1
    rcases q with ⟨k, _⟩ | ⟨_, c', e', z⟩
    · have k : X.env.scope.names.lookup y = some .local := k
      rcases ok.free _ (PySem.mem_of_lookup hfr.1) rfl with k' | k' <;> rw [show X.env.scope.names.lookup y = _ from k'] at k <;> cases k
    · rw [h2] at e'; cases e'
      exact ⟨c, h1, z.keeps kp⟩
  · have e : cenv.cells.lookup y = some c := e
    rcases mem e with ⟨h1, _⟩ | ⟨_, z⟩
    · obtain ⟨w, z⟩ := I.cell y c h1
      exact ⟨w, z.keeps kp⟩
    · exact ⟨_, z⟩
  · show H cenv.locals = none
    rw [hL]; exact I.hok.fresh (Nat.le_refl _)
  · have e : cenv.cells.lookup y = some c := e
    rcases mem e with ⟨h1, _⟩ | ⟨h1, _⟩
    · exact I.freeC y c h1
    · exact I.hok.fresh (Nat.le_of_succ_le h1)
  · exact absurd (show p ∈ ([] : List (Addr × Obj)) ++ [] from hp) (by simp)
theorem app_ok {E : Value → Shared → Prop} {D : Addr} {xs : List V} {y : V} {v : Value} {Q : Value → Shared → Prop} (I : Inv X pins σ H s) (hD : H D = some (.lst xs)) (hz : xs.length < sizeLine) (r : RelV y v)
    (h : ∀ s', Inv X pins σ (upd H D (.lst (xs ++ [y]))) s' → Q .none s') : wpAny (model X.prog X.w) X.A (call (.builtin "list.append") [.ref D, v]) Q E s := by
  obtain ⟨hz', its, n, ri, e⟩ := I.hok D _ hD
  have hl := ri.length
  refine append_at (hsz := by rw [List.size_toArray]; omega) e fun h' sb ho' => ?_
  refine h { s with heap := h' } (I.write (t' := s.toks) (by rw [hD]; trivial) (.inl rfl) (fun b u hb q => (sb.2 b hb).trans q) ⟨_, ho'⟩ ⟨by rw [List.length_append]; exact hz, its ++ [v], n + 1, ri.append (.cons r .nil), ?_⟩)
  rw [ho']
  simp
def PTs (X : Cx) (ifs : List Expr) (t : TT) : Prop :=
  ∀ (pins : List (Addr × Obj)) (s : Shared) (σ : St) (H : Hp) (Q : Bool → Hp → Prop), Inv X pins σ H s → t σ H Q →
    wpAny (model X.prog X.w) X.A (forIn ifs true fun c r => if r = true then do let ok ← isTrue c X.env (eval c X.env); pure (ForInStep.yield ok) else pure (ForInStep.yield r)) (TP X pins σ Q) X.xe s
def tYes : TT := fun _ H Q => Q true H
theorem pts_nil : PTs X [] tYes := fun _ _ _ H _ I h => wpAny_tests_nil ⟨H, I, h⟩
theorem pts_one {c : Expr} {t : TT} (h : PT X c t) : PTs X [c] t := fun pins s σ H Q I hw => wpAny_tests_one (h pins s σ H Q I hw)
end
theorem thnF {α : Type} {t : Sem α} {Q Q' : α → Shared → Prop} {M : Model} {A : Around} {E : Value → Shared → Prop} {s : Shared} (h : wpAny M A t Q (fun _ _ => False) s) (hQ : ∀ a s, Q a s → Q' a s) : wpAny M A t Q' E s := wpAny_mono h hQ fun _ _ z => False.elim z
theorem compLoop_any {prog : Program} {w : World} {A : Around} {R : Result → Shared → Prop} {s : Shared} {elt target iter : Expr} {ifs : List Expr} {scope : Scope} {pos : Pos} {it acc : Value} {env : Env} (I : Nat → Shared → Prop)
    (turn : ∀ n s, I n s → wpAny (model prog w) A (pyNext it) (fun r s₁ => match r with
      | none => R (.ok .next) s₁
      | some v => wpAny (model prog w) A (letOwnedTupleGo target it v) (fun _ s₁' => wpAny (model prog w) A (assign target env v) (fun _ s₂ =>
          wpAny (model prog w) A (forIn ifs true fun c r => if r = true then do let ok ← isTrue c env (eval c env); pure (ForInStep.yield ok) else pure (ForInStep.yield r)) (fun ok s₃ =>
            if ok = true then wpAny (model prog w) A (eval elt env) (fun x s₄ =>
              wpAny (model prog w) A (call (.builtin "list.append") [acc, x]) (fun _ s₅ => ∃ m, m < n ∧ I m s₅) (notedBy (model prog w) A env fun e s' => R (.error e) s') s₄) (notedBy (model prog w) A env fun e s' => R (.error e) s') s₃
            else ∃ m, m < n ∧ I m s₃) (notedBy (model prog w) A env fun e s' => R (.error e) s') s₂) (notedBy (model prog w) A env fun e s' => R (.error e) s') s₁') (notedBy (model prog w) A env fun e s' => R (.error e) s') s₁) (notedBy (model prog w) A env fun e s' => R (.error e) s') s)
    (n : Nat) (h : I n s) :
    codeAny (model prog w) A (.compLoop (.ListComp elt [⟨target, iter, ifs, 0⟩] scope pos) 0 it acc env) R s := by
  refine codeAny_loop rfl I (fun n s hI => ?_) n h
  show wpAny _ A ((compTurn (.ListComp elt [⟨target, iter, ifs, 0⟩] scope pos) 0 it acc env).onRaise (fun x => do noteFrame x env; theTreesLotGoes x)) _ _ s
  refine wpAny_noted ?_
  rw [compTurn_list]
  refine wpAny_bind (wpAny_standAt (wpAny_bind (wpAny_mono (turn n s hI) (fun r s₁ h₁ => ?_) fun _ _ h' => h')))
  cases r with
  | none => exact wpAny_pure h₁
  | some v =>
    refine wpAny_bind (wpAny_mono h₁ (fun _ s₁' h₁' => ?_) fun _ _ h' => h')
    refine wpAny_bind (wpAny_mono h₁' (fun _ s₂ h₂ => wpAny_bind (wpAny_mono h₂ (fun ok s₃ h₃ => ?_) fun _ _ h' => h')) fun _ _ h' => h')
    cases ok with
    | false => exact wpAny_pure ⟨rfl, h₃⟩
    | true =>
      exact wpAny_bind (wpAny_bind (wpAny_mono h₃ (fun x s₄ h₄ => wpAny_bind (wpAny_mono h₄ (fun _ s₅ h₅ => wpAny_pure (wpAny_pure ⟨rfl, h₅⟩)) fun _ _ h' => h')) fun _ _ h' => h'))
section
variable {X : Cx}
def tLc (wi : TI) (g : TG) (tt : TT) (te : TE) (vs : List Nat) : TE := fun σ H Q => wi σ H fun J H1 => ∀ D, H1 D = none → ∃ W : Nat → Nat → Hp → Prop, (∃ m, W 0 m (upd H1 D (.lst []))) ∧ ∀ i m H, W i m H →
  (J.stop i H ∧ Q (.ref D) H) ∨ (J.go i H ∧ ∃ Nx : Hp → Prop, (∀ H', Nx H' → ∃ m', m' < m ∧ W (i + 1) m' H') ∧ ∀ x H', J.yld i H x H' → g x (wipe σ vs) H' fun σ2 H2 => wipe σ2 vs = wipe σ vs ∧ tt σ2 H2 fun b H3 =>
    if b = true then te σ2 H3 fun y H4 => ∃ acc, H4 D = some (.lst acc) ∧ acc.length < sizeLine ∧ Nx (upd H4 D (.lst (acc ++ [y]))) else Nx H3)
theorem lc_core {pins : List (Addr × Obj)} {s : Shared} {σ : St} {H : Hp} {Q : VK} {elt tg iter : Expr} {ifs : List Expr} {scope : Scope} {own : List (Str × Nat)} {pos pos' : Pos} {wi : TI} {g : TG} {tt : TT} {te : TE} {use : Option (Value → Sem Unit)} {Qf : Value → Shared → Prop}
    (hc : X.calm = true) (hN : X.N.Nodup) (I : Inv X pins σ H s) (hi : PI X tg iter wi) (ok : BlkOk X.N X.env.scope scope own)
    (hg : ∀ (s : Shared) (H : Hp) (C : Addr) (cl : List (Str × Addr)) (fp : List Addr), PG (X.blk s H scope (compEnvC scope cl C X.env) fp) tg g) (ht : ∀ (s : Shared) (H : Hp) (C : Addr) (cl : List (Str × Addr)) (fp : List Addr), PTs (X.blk s H scope (compEnvC scope cl C X.env) fp) ifs tt)
    (he : ∀ (s : Shared) (H : Hp) (C : Addr) (cl : List (Str × Addr)) (fp : List Addr), PE (X.blk s H scope (compEnvC scope cl C X.env) fp) elt te) (hs : ∀ x, foldedSetIterable iter X.env x = pure x)
    (h : tLc wi g tt te (own.map (·.2)) σ H Q)
    (hRR : ∀ D C s' m H', Inv X pins σ H' s' → Q (.ref D) H' → s'.heap.Ns C m → FpOk X pins H' C → compPost (model X.prog X.w) X.A X.xe use Qf (.ref D) C (.ok .next) s') :
    wpAny (model X.prog X.w) X.A (comprehension (.ListComp elt [⟨tg, iter, ifs, 0⟩] scope pos) scope X.env pos' (newList []) false (eval iter X.env) use) Qf X.xe s := by
  have hfree : ∀ y ∈ scope.names, y.2 = .free → ∃ c, X.env.cells.lookup y.1 = some c := fun y hy e => by
    rcases ok.free y hy e with k | k
    · exact I.ok.has _ (.inl k)
    · exact I.ok.has _ (.inr k)
  refine wpAny_comprehension_free (use := use) rfl hs (closure_ok hfree) ok.kind (fun y hy e => by rw [ok.uniq y hy, e])
    (thn (hi pins s σ H _ I h) fun xv s1 hx => thn hx fun itv s2 h2 => ?_)
  obtain ⟨it, fp, tn, J, H2, e, I2, T, st2, f2, q⟩ := h2
  subst e
  refine wpAny_newObj_type (newEnv_comp ?_) (by show 0 ≤ sizeLine; decide)
  generalize hD : s2.heap.objs.size = D
  have hDn : H2 D = none := I2.hok.fresh (Nat.le_of_eq hD)
  obtain ⟨W, ⟨m0, w0⟩, turn⟩ := q D hDn
  generalize hs3 : ({ s2 with heap := s2.heap.push { cls := .type "list", data := .seq ([] : List Value).toArray } } : Shared) = s3
  have I3 : Inv X pins σ (upd H2 D (.lst [])) s3 := by
    rw [← hs3]
    refine I2.laid (t' := s2.toks) (fun b o e => Heap.get?_push_of_some _ e) (Nat.le_of_eq hD) ⟨Nat.zero_le _, [], 0, .nil, ?_⟩
    rw [← hD]
    exact Heap.get?_push_size _ rfl
  have h3 : s3.heap = s2.heap.push { cls := .type "list", data := .seq ([] : List Value).toArray } := by rw [← hs3]
  have sz : ∀ b ∈ fp, b < s2.heap.objs.size := fun b hb => by
    obtain ⟨o, e, _⟩ := T.obj _ _ st2 b hb
    exact Heap.lt_size e
  have f3 : ∀ b ∈ fp, FpOk X pins (upd H2 D (.lst [])) b ∧ b < s3.heap.objs.size := fun b hb => by
    have hlt := sz b hb
    refine ⟨⟨?_, (f2 b hb).2⟩, by rw [h3, Heap.size_push]; exact Nat.lt_succ_of_lt hlt⟩
    rw [upd_ne (by rw [← hD]; exact Nat.ne_of_lt hlt)]
    exact (f2 b hb).1
  have st3 : tn 0 s3.heap := T.keep _ _ _ st2 fun b _ o e => by rw [h3]; exact Heap.get?_push_of_some _ e
  have I4 := block_start I3 ok hN f3
  have pg := hg s3 (upd H2 D (.lst [])) s3.heap.objs.size (cellsFrom (s3.heap.objs.size + 1) scope.names (cloFrom X.env.cells scope.names [])) fp
  have pt := ht s3 (upd H2 D (.lst [])) s3.heap.objs.size (cellsFrom (s3.heap.objs.size + 1) scope.names (cloFrom X.env.cells scope.names [])) fp
  have pe := he s3 (upd H2 D (.lst [])) s3.heap.objs.size (cellsFrom (s3.heap.objs.size + 1) scope.names (cloFrom X.env.cells scope.names [])) fp
  show codeAny _ _ (.compStart (.ListComp elt [⟨tg, iter, ifs, 0⟩] scope pos) 0 (.ref it) (.ref D) (compEnvC scope (cellsFrom (s3.heap.objs.size + 1) scope.names (cloFrom X.env.cells scope.names [])) s3.heap.objs.size X.env)) (compPost (model X.prog X.w) X.A X.xe use Qf (.ref D) s3.heap.objs.size) { s3 with heap := pushCells (s3.heap.push { cls := .type "dict", data := .dict #[] }) scope.names }
  have nfp : ∀ b ∈ fp, (upd H2 D (.lst [])) b = none := fun b hb => (f3 b hb).1.1
  generalize hce : compEnvC scope (cellsFrom (s3.heap.objs.size + 1) scope.names (cloFrom X.env.cells scope.names [])) s3.heap.objs.size X.env = ce at I4 pg pt pe ⊢
  have cL : ce.locals = s3.heap.objs.size := by subst hce; rfl
  generalize hH3 : upd H2 D (.lst []) = H3 at I3 I4 pg pt pe w0 nfp f3
  generalize hs4 : ({ s3 with heap := pushCells (s3.heap.push { cls := .type "dict", data := .dict #[] }) scope.names } : Shared) = s4 at I4 ⊢
  have st4 : tn 0 s4.heap := T.keep _ _ _ st3 fun b _ o e => by rw [← hs4]; exact pushCells_keeps _ _ _ _ (Heap.get?_push_of_some _ e)
  have stat : ∀ {σ' : St} {H' : Hp} {s' : Shared}, Inv (X.blk s3 H3 scope ce fp) [] σ' H' s' → (∀ b ∈ fp, H' b = none) → ∀ b ∈ fp, FpOk (X.blk s3 H3 scope ce fp) [] H' b := fun {σ' H' s'} I' hn b hb =>
    ⟨hn b hb, (I'.ok.exf b hb).1, I'.ok.exfs b hb, .inl hb, fun x c e => (I'.ok.exf b hb).2 x c e, fun p hp => absurd (show p ∈ ([] : List (Addr × Obj)) ++ [] from hp) (by simp)⟩
  have loop : codeAny (model X.prog X.w) X.A (.compLoop (.ListComp elt [⟨tg, iter, ifs, 0⟩] scope pos) 0 (.ref it) (.ref D) ce) (compPost (model X.prog X.w) X.A X.xe use Qf (.ref D) s3.heap.objs.size) s4 := by
    refine compLoop_any (fun n s' => ∃ i H', Inv (X.blk s3 H3 scope ce fp) [] (wipe σ (own.map (·.2))) H' s' ∧ tn i s'.heap ∧ (∀ b ∈ fp, H' b = none) ∧ W i n H') ?_ m0 ⟨0, H3, I4, st4, nfp, w0⟩
    rintro n s5 ⟨i, H5, I5, st5, n5, w5⟩
    rcases turn i n H5 w5 with ⟨stop, qq⟩ | ⟨go, Nx, hNx, step⟩
    · have td := T.done (X.blk s3 H3 scope ce fp) rfl rfl rfl hc i [] s5 _ H5 (fun _ _ => False) I5 (stat I5 n5) st5 stop
      refine thnF td fun r s6 ⟨hr, I6⟩ => ?_
      subst hr
      have I7 : Inv X pins σ H5 s6 := I3.call' (ch := fp) I6.os I6.base I6.hok I6.bare fun b hb => ⟨(f3 b hb).1.2.2.2.1, (f3 b hb).1.2.1, (f3 b hb).1.2.2.2.2.1, (f3 b hb).1.2.2.2.2.2⟩
      have nC : H5 s3.heap.objs.size = none := by
        have z : H5 ce.locals = none := I6.free
        rw [cL] at z
        exact z
      obtain ⟨m, hn, _⟩ := I6.loc
      have hn : s6.heap.Ns ce.locals m := hn
      rw [cL] at hn
      exact hRR D s3.heap.objs.size s6 m H5 I7 qq hn (I3.fpOk (Nat.le_refl _) nC)
    · have ti := T.item (X.blk s3 H3 scope ce fp) rfl rfl rfl hc i [] s5 _ H5 (fun _ _ => False) I5 (stat I5 n5) st5 go
      refine thnF ti fun r s6 ⟨u, hr, h6⟩ => ?_
      subst hr
      refine thnF h6 fun _ s7 ⟨x, H7, I7, r7, y7, st7, n7⟩ => ?_
      have I7' := I7.pinned (stat I7 n7) (T.obj _ _ st7)
      refine thnF (pg _ s7 _ H7 x u _ I7' r7 (step x H7 y7)) fun _ s8 ⟨σ8, H8, I8, hw8, q8⟩ => ?_
      refine thnF (pt _ s8 σ8 H8 _ I8 q8) fun b s9 ⟨H9, I9, q9⟩ => ?_
      have fin : ∀ {s' : Shared} {H' : Hp}, Inv (X.blk s3 H3 scope ce fp) ([] ++ pinsAt fp s7.heap) σ8 H' s' → Nx H' → ∃ m, m < n ∧ ∃ i H', Inv (X.blk s3 H3 scope ce fp) [] (wipe σ (own.map (·.2))) H' s' ∧ tn i s'.heap ∧ (∀ b ∈ fp, H' b = none) ∧ W i m H' := fun {s' H'} I' nx => by
        obtain ⟨m', hm, w'⟩ := hNx H' nx
        have pin' : ∀ b ∈ fp, ∀ o, s7.heap.get? b = some o → s'.heap.get? b = some o ∧ H' b = none := fun b hb o e =>
          let z := I'.pin (b, o) (List.mem_append_right _ (List.mem_append_right _ (mem_pinsAt hb e)))
          ⟨z.1, z.2.1⟩
        have hl : (wipe σ (own.map (·.2))).length = σ8.length := by rw [← hw8, wipe_length]
        refine ⟨m', hm, i + 1, H', (I'.unpinned (pins := [])).weak hl (fun j v e => ?_), T.keep _ _ _ st7 fun b hb o e => (pin' b hb o e).1, fun b hb => ?_, w'⟩
        · rw [← hw8] at e
          exact (wipe_some e).1
        · obtain ⟨o, e, _⟩ := T.obj _ _ st7 b hb
          exact (pin' b hb o e).2
      cases b with
      | false =>
        simp only [Bool.false_eq_true, if_false] at q9 ⊢
        exact fin I9 q9
      | true =>
        simp only [if_true] at q9 ⊢
        refine thnF (pe _ s9 σ8 H9 _ I9 q9) fun z s10 ⟨yv, H10, I10, r10, acc, hD10, hz10, nx⟩ => ?_
        exact app_ok (X := X.blk s3 H3 scope ce fp) I10 hD10 hz10 r10 fun s11 I11 => fin I11 nx
  exact codeAny_compStart_list loop (T.self X.A 0 _ _ _ st4 loop)
theorem pe_lc {elt tg iter : Expr} {ifs : List Expr} {scope : Scope} {own : List (Str × Nat)} {pos : Pos} {wi : TI} {g : TG} {tt : TT} {te : TE} (hc : X.calm = true) (hN : X.N.Nodup) (hi : PI X tg iter wi) (ok : BlkOk X.N X.env.scope scope own)
    (hg : ∀ (s : Shared) (H : Hp) (C : Addr) (cl : List (Str × Addr)) (fp : List Addr), PG (X.blk s H scope (compEnvC scope cl C X.env) fp) tg g) (ht : ∀ (s : Shared) (H : Hp) (C : Addr) (cl : List (Str × Addr)) (fp : List Addr), PTs (X.blk s H scope (compEnvC scope cl C X.env) fp) ifs tt)
    (he : ∀ (s : Shared) (H : Hp) (C : Addr) (cl : List (Str × Addr)) (fp : List Addr), PE (X.blk s H scope (compEnvC scope cl C X.env) fp) elt te) (hs : ∀ x, foldedSetIterable iter X.env x = pure x := by intro _; rfl) :
    PE X (.ListComp elt [⟨tg, iter, ifs, 0⟩] scope pos) (tLc wi g tt te (own.map (·.2))) := by
  intro pins s σ H Q I h
  rw [eval_ListComp]
  refine lc_core hc hN I hi ok hg ht he hs h fun D C s' m H' I' q hn f => ⟨m, hn, fun h'' sb => ?_⟩
  obtain ⟨f0, f1, f2, f3, f4, f5⟩ := f
  exact ⟨.ref D, H', I'.turned (t' := s'.toks) (fun b o hb e => (sb.2 b hb).trans e) f0 f1 f3 f4 f5, rfl, q⟩
theorem ps_setLc {i : Nat} {y : Str} {py : Pos} {elt tg iter : Expr} {ifs : List Expr} {scope : Scope} {own : List (Str × Nat)} {pos spos : Pos} {wi : TI} {g : TG} {tt : TT} {te : TE} (hc : X.calm = true) (hN : X.N.Nodup) (hy : X.N[i]? = some y) (hyl : X.env.scope.names.lookup y = some .local)
    (hsw : swapsWith (.ListComp elt [⟨tg, iter, ifs, 0⟩] scope pos) (some (.Name y py)) spos.line X.env = pure true) (hi : PI X tg iter wi) (ok : BlkOk X.N X.env.scope scope own)
    (hg : ∀ (s : Shared) (H : Hp) (C : Addr) (cl : List (Str × Addr)) (fp : List Addr), PG (X.blk s H scope (compEnvC scope cl C X.env) fp) tg g) (ht : ∀ (s : Shared) (H : Hp) (C : Addr) (cl : List (Str × Addr)) (fp : List Addr), PTs (X.blk s H scope (compEnvC scope cl C X.env) fp) ifs tt)
    (he : ∀ (s : Shared) (H : Hp) (C : Addr) (cl : List (Str × Addr)) (fp : List Addr), PE (X.blk s H scope (compEnvC scope cl C X.env) fp) elt te) (hs : ∀ x, foldedSetIterable iter X.env x = pure x := by intro _; rfl) :
    PS X (.Assign [.Name y py] (.ListComp elt [⟨tg, iter, ifs, 0⟩] scope pos) spos) (tAsg (tLc wi g tt te (own.map (·.2))) (gName i)) := by
  intro pins s σ H D I h
  rw [exec_Assign_Name_used _ _ _ _ hsw]
  refine wpAny_bind (wpAny_standAt (wpAny_bind ?_))
  show wpAny _ X.A (do let _ ← comprehension (.ListComp elt [⟨tg, iter, ifs, 0⟩] scope pos) scope X.env (firstIterPos [⟨tg, iter, ifs, 0⟩] pos) (newList []) false (eval iter X.env) (some (assign (.Name y py) X.env))) _ _ s
  have h : tLc wi g tt te (own.map (·.2)) σ H (fun x H1 => gName i x σ H1 D.nx) := h
  refine wpAny_bind (thn (lc_core (Qf := fun _ s' => SP X pins D .next s') hc hN I hi ok hg ht he hs h fun L C s' m H' I' q hn f => ?_) fun _ s' hq => wpAny_pure (wpAny_pure hq))
  show wpAny _ _ (assign (.Name y py) X.env (.ref L)) _ _ _
  refine wpAny_assign_Name (store_ok2 (v := V.ref L) I' hN hy (.inl hyl) rfl (fun s2 I2 ⟨a, sb, ha⟩ => ?_) (.inr hyl))
  obtain ⟨f0, f1, f2, f3, f4, f5⟩ := f
  have haC : C ≠ a := by
    rcases ha with z | z
    · rw [z]; exact f1
    · exact fun e => f4 y a z e.symm
  refine ⟨m, hn.sameBut sb haC, fun h3 sb3 => ?_⟩
  exact ⟨_, H', I2.turned (t' := s2.toks) (fun b o hb e => (sb3.2 b hb).trans e) f0 f1 f3 f4 f5, q⟩
theorem sw_true {elt : Expr} {gs : List Comprehension} {scope : Scope} {pos py : Pos} {y : Str} {l : Nat} {env : Env} (hk : env.scope.kind = .function) (hy : env.scope.names.lookup y = some .local) (hl : (py.line == pos.line) = true)
    (ha : (scope.names.any fun (n, k) => n == y && (k == .local || k == .cell)) = false) : swapsWith (.ListComp elt gs scope pos) (some (.Name y py)) l env = pure true := by
  have ky : env.kindOf y = some .local := hy
  have hb : env.blockKind = .function := by unfold Env.blockKind; rw [hk]; rfl
  unfold swapsWith
  simp only [hb, ky, ha, Expr.pos, hl]
  rfl
end
theorem lc_range {lo : Int} {n : Nat} {g : TG} {tt : TT} {te : TE} {vs : List Nat} {σ : St} {H1 : Hp} {D : Addr} {Qd : Hp → Prop} (Pv : Nat → Hp → Prop) (h0 : Pv 0 (upd H1 D (.lst [])))
    (hs : ∀ i H, i < n → Pv i H → g (.int (lo + i)) (wipe σ vs) H fun σ2 H2 => wipe σ2 vs = wipe σ vs ∧ tt σ2 H2 fun b H3 =>
      if b = true then te σ2 H3 fun y H4 => ∃ acc, H4 D = some (.lst acc) ∧ acc.length < sizeLine ∧ Pv (i + 1) (upd H4 D (.lst (acc ++ [y]))) else Pv (i + 1) H3) (hd : ∀ H, Pv n H → Qd H) :
    ∃ W : Nat → Nat → Hp → Prop, (∃ m, W 0 m (upd H1 D (.lst []))) ∧ ∀ i m H, W i m H →
      ((Itr lo n).stop i H ∧ Qd H) ∨ ((Itr lo n).go i H ∧ ∃ Nx : Hp → Prop, (∀ H', Nx H' → ∃ m', m' < m ∧ W (i + 1) m' H') ∧ ∀ x H', (Itr lo n).yld i H x H' → g x (wipe σ vs) H' fun σ2 H2 => wipe σ2 vs = wipe σ vs ∧ tt σ2 H2 fun b H3 =>
        if b = true then te σ2 H3 fun y H4 => ∃ acc, H4 D = some (.lst acc) ∧ acc.length < sizeLine ∧ Nx (upd H4 D (.lst (acc ++ [y]))) else Nx H3) := by
  refine ⟨fun i m H => m = n - i ∧ i ≤ n ∧ Pv i H, ⟨n, by simp, Nat.zero_le _, h0⟩, ?_⟩
  rintro i m H ⟨rfl, hi, p⟩
  by_cases hlt : i < n
  · refine .inr ⟨hlt, Pv (i + 1), fun H' p' => ⟨n - (i + 1), by omega, rfl, hlt, p'⟩, fun x H' y => ?_⟩
    obtain ⟨e, y⟩ := y
    subst e y
    exact hs i _ hlt p
  · have e : i = n := by omega
    subst e
    exact .inl ⟨Nat.le_refl _, hd H p⟩
theorem lc_list {K : PySem.W.Frag} {a : Addr} {xs : List V} {g : TG} {tt : TT} {te : TE} {vs : List Nat} {σ : St} {H1 : Hp} {D : Addr} {Qd : Hp → Prop} (Pv : Nat → Hp → Prop) (h0 : Pv 0 (upd H1 D (.lst []))) (hl : ∀ i H, i ≤ xs.length → Pv i H → SqL K H a xs)
    (hs : ∀ i x H, xs[i]? = some x → Pv i H → g x (wipe σ vs) H fun σ2 H2 => wipe σ2 vs = wipe σ vs ∧ tt σ2 H2 fun b H3 =>
      if b = true then te σ2 H3 fun y H4 => ∃ acc, H4 D = some (.lst acc) ∧ acc.length < sizeLine ∧ Pv (i + 1) (upd H4 D (.lst (acc ++ [y]))) else Pv (i + 1) H3) (hd : ∀ H, Pv xs.length H → Qd H) :
    ∃ W : Nat → Nat → Hp → Prop, (∃ m, W 0 m (upd H1 D (.lst []))) ∧ ∀ i m H, W i m H →
      ((Itl K a).stop i H ∧ Qd H) ∨ ((Itl K a).go i H ∧ ∃ Nx : Hp → Prop, (∀ H', Nx H' → ∃ m', m' < m ∧ W (i + 1) m' H') ∧ ∀ x H', (Itl K a).yld i H x H' → g x (wipe σ vs) H' fun σ2 H2 => wipe σ2 vs = wipe σ vs ∧ tt σ2 H2 fun b H3 =>
        if b = true then te σ2 H3 fun y H4 => ∃ acc, H4 D = some (.lst acc) ∧ acc.length < sizeLine ∧ Nx (upd H4 D (.lst (acc ++ [y]))) else Nx H3) := by
  refine ⟨fun i m H => m = xs.length - i ∧ i ≤ xs.length ∧ Pv i H, ⟨xs.length, by simp, Nat.zero_le _, h0⟩, ?_⟩
  rintro i m H ⟨rfl, hi, p⟩
  have q := hl i H hi p
  by_cases hlt : i < xs.length
  · refine .inr ⟨⟨xs, xs[i], q, by simp [hlt]⟩, Pv (i + 1), fun H' p' => ⟨xs.length - (i + 1), by omega, rfl, hlt, p'⟩, fun x H' y => ?_⟩
    obtain ⟨e, y⟩ := y
    subst e
    exact hs i x _ (y xs q) p
  · have e : i = xs.length := by omega
    subst e
    exact .inl ⟨⟨xs, q, Nat.le_refl _⟩, hd H p⟩
theorem lc_tup {K : PySem.W.Frag} {a : Addr} {xs : List V} {g : TG} {tt : TT} {te : TE} {vs : List Nat} {σ : St} {H1 : Hp} {D : Addr} {Qd : Hp → Prop} (Pv : Nat → Hp → Prop) (h0 : Pv 0 (upd H1 D (.lst []))) (hl : ∀ i H, i ≤ xs.length → Pv i H → SqT K H a xs)
    (hs : ∀ i x H, xs[i]? = some x → Pv i H → g x (wipe σ vs) H fun σ2 H2 => wipe σ2 vs = wipe σ vs ∧ tt σ2 H2 fun b H3 =>
      if b = true then te σ2 H3 fun y H4 => ∃ acc, H4 D = some (.lst acc) ∧ acc.length < sizeLine ∧ Pv (i + 1) (upd H4 D (.lst (acc ++ [y]))) else Pv (i + 1) H3) (hd : ∀ H, Pv xs.length H → Qd H) :
    ∃ W : Nat → Nat → Hp → Prop, (∃ m, W 0 m (upd H1 D (.lst []))) ∧ ∀ i m H, W i m H →
      ((Itt K a).stop i H ∧ Qd H) ∨ ((Itt K a).go i H ∧ ∃ Nx : Hp → Prop, (∀ H', Nx H' → ∃ m', m' < m ∧ W (i + 1) m' H') ∧ ∀ x H', (Itt K a).yld i H x H' → g x (wipe σ vs) H' fun σ2 H2 => wipe σ2 vs = wipe σ vs ∧ tt σ2 H2 fun b H3 =>
        if b = true then te σ2 H3 fun y H4 => ∃ acc, H4 D = some (.lst acc) ∧ acc.length < sizeLine ∧ Nx (upd H4 D (.lst (acc ++ [y]))) else Nx H3) := by
  refine ⟨fun i m H => m = xs.length - i ∧ i ≤ xs.length ∧ Pv i H, ⟨xs.length, by simp, Nat.zero_le _, h0⟩, ?_⟩
  rintro i m H ⟨rfl, hi, p⟩
  have q := hl i H hi p
  by_cases hlt : i < xs.length
  · refine .inr ⟨⟨xs, xs[i], q, by simp [hlt]⟩, Pv (i + 1), fun H' p' => ⟨xs.length - (i + 1), by omega, rfl, hlt, p'⟩, fun x H' y => ?_⟩
    obtain ⟨e, y⟩ := y
    subst e
    exact hs i x _ (y xs q) p
  · have e : i = xs.length := by omega
    subst e
    exact .inl ⟨⟨xs, q, Nat.le_refl _⟩, hd H p⟩
def blkC (N : List Str) (sc scope : Scope) (own : List (Str × Nat)) : Bool :=
  (match scope.kind with | .function => true | _ => false) && (scope.names.all fun y => decide (scope.names.lookup y.1 = some y.2)) && (own.all fun p => decide (N[p.2]? = some p.1)) &&
    (scope.names.all fun y => match y.2 with
      | .free => (match sc.names.lookup y.1 with | some .cell => true | some .free => true | _ => false)
      | .local => decide (y.1 ∈ own.map (·.1)) || decide (y.1 ∉ N)
      | .cell => decide (y.1 ∈ own.map (·.1)) || decide (y.1 ∉ N)
      | _ => true)
theorem blkOk_by {N : List Str} {sc scope : Scope} {own : List (Str × Nat)} (h : blkC N sc scope own = true) : BlkOk N sc scope own := by
  unfold blkC at h
  simp only [Bool.and_eq_true, List.all_eq_true, decide_eq_true_eq] at h
  obtain ⟨⟨⟨h1, h2⟩, h3⟩, h4⟩ := h
  refine ⟨?_, h2, h3, fun y hy e => ?_, fun y hy e => ?_⟩
  · split at h1
    · assumption
    · cases h1
  · have q := h4 y hy
    simp only [e] at q
    split at q <;> first | exact .inl (by assumption) | exact .inr (by assumption) | cases q
  · have q := h4 y hy
    rcases e with e | e <;> (simp only [e, Bool.or_eq_true, decide_eq_true_eq] at q; exact q)
end L2
namespace L2
open PySem PySem.Spec PyProof.Rows
section
variable {prog : Program} {w : World} {A : Around} {R : Result → Shared → Prop} {s : Shared} {elt t0 i0 t1 i1 : Expr} {ifs0 ifs1 : List Expr} {scope : Scope} {pos : Pos} {it acc : Value} {env : Env}
end
section
variable {X : Cx}
end
end L2
namespace L2
open PySem PySem.Spec PyProof.Rows
section
variable {κ : Type} [DecidableEq κ]
end
section
variable {P : Program} {w : World} {H : Hp} {h : Heap} {a : Addr}
end
section
variable {X : Cx} {pins : List (Addr × Obj)} {σ : St} {H : Hp} {s : Shared} {a : Addr} {y v : V} {u r : Value} {o : Option V} {A : Around} {E : Value → Shared → Prop}
end
section
variable {X : Cx} {pins : List (Addr × Obj)} {σ : St} {H : Hp} {s : Shared} {a : Addr} {kvs : List (Key × V)} {k : Key} {u : Value} {A : Around} {E : Value → Shared → Prop}
end
section
variable {X : Cx} {o i e value : Expr} {pos pos' tpos : Pos} {td ty tv : TE}
end
section
variable {X : Cx} {pos : Pos}
end
section
variable {X : Cx} {pins : List (Addr × Obj)} {σ : St} {H : Hp} {s : Shared} {a : Addr} {y d : V} {u r : Value} {o : Option V} {A : Around} {E : Value → Shared → Prop}
end
section
variable {X : Cx} {o e f : Expr} {apos cpos : Pos} {td ty tx : TE}
end
section
variable {X : Cx} {pins : List (Addr × Obj)} {σ : St} {H : Hp} {s : Shared} {a : Addr} {kvs : List (Key × V)} {A : Around} {E : Value → Shared → Prop}
end
section
variable {X : Cx} {pins : List (Addr × Obj)} {σ : St} {H : Hp} {s : Shared} {a : Addr} {y : V} {u : Value} {A : Around} {E : Value → Shared → Prop}
end
end L2
namespace L2
open PySem PySem.Spec PyProof.Rows
section
variable {prog : Program} {w : World} {A : Around} {E : Value → Shared → Prop}
end
section
variable {X : Cx}
end
end L2
namespace L2
open PySem PySem.Spec PyProof.Rows
section
variable {X : Cx} {pins : List (Addr × Obj)} {σ : St} {H : Hp} {s : Shared} {h' : Heap}
theorem Inv.turnedNew {t' : Nat} {ch : List Addr} {T : Addr} {ob : HO} (I : Inv X pins σ H s) (k : ∀ b o, b ∉ ch → s.heap.get? b = some o → h'.get? b = some o) (hf : ∀ b ∈ ch, FpOk X pins H b) (hT : s.heap.objs.size ≤ T)
    (new : ObjOk X.prog X.w (upd H T ob) h' T ob) : Inv X pins σ (upd H T ob) { s with heap := h', toks := t' } := by
  have hn : H T = none := I.hok.fresh hT
  have nit : ∀ b u, H b = some u → b ∉ ch := fun b u e z => by
    have q := (hf b z).1
    rw [q] at e; cases e
  refine I.step (g' := s.gens) (d' := s.drawn) (ch := ch) (fun b hb => ⟨(hf b hb).2.2.2.1, (hf b hb).2.1, (hf b hb).2.2.2.2.1, (hf b hb).2.2.2.2.2⟩) (fun b o _ _ hc e _ => k b o hc e) (fun b o _ _ hc e _ => ⟨o.slots, k b o hc e⟩)
    (fun b o _ e n => ?_) (fun b o hc e => ⟨o, k b o hc e⟩) (fun b xs e => ?_) (fun b o u e => ?_) (fun b ps e => ⟨#[], ?_⟩) (fun m hm => ?_) (fun b u e => ?_) I.bare
  · rw [upd_ne (Nat.ne_of_lt (Nat.lt_of_lt_of_le (Heap.lt_size e) hT))]; exact n
  · rw [upd_ne (ne_of_none e hn)]; exact e
  · rw [upd_ne (ne_of_none e hn)]; exact e
  · rw [upd_ne (ne_of_none e hn), e]; simp
  · obtain ⟨o, es, ep, ho, r⟩ := hm
    exact ⟨o, es, ep, k _ o (fun z => (hf _ z).2.1 rfl) ho, r⟩
  · by_cases hb : b = T
    · subst hb
      rw [upd_same] at e
      cases e
      exact new
    · rw [upd_ne hb] at e
      refine (I.hok b u e).stay (fun c v hc q => k c v ?_ q) (fun c q => by rw [upd_ne (ne_of_none q hn)]; exact q) fun c xs q => by rw [upd_ne (ne_of_none q hn)]; exact q
      rcases hc with z | z
      · rw [z]; exact nit b u e
      · exact nit c _ z
end
section
variable {X : Cx}
theorem pi_one {tg : Expr} {pins : List (Addr × Obj)} {σ : St} {H : Hp} {s : Shared} {R : It → Hp → Prop} {J : It} {tn : Nat → Heap → Prop} {tk : Nat} (I : Inv X pins σ H s) (o : Obj)
    (T : Turn X.prog X.w X.K tg J [s.heap.objs.size] s.heap.objs.size tn) (st : tn 0 (s.heap.push o)) (q : R J H) : PIE X pins σ tg R (.ref s.heap.objs.size) { s with heap := s.heap.push o, toks := tk } := by
  refine ⟨s.heap.objs.size, [s.heap.objs.size], tn, J, H, rfl, I.kept fun b ob e => Heap.get?_push_of_some _ e, T, st, fun b hb => ?_, q⟩
  have e : b = s.heap.objs.size := by simpa using hb
  subst e
  exact I.fpOk (Nat.le_refl _) (I.hok.fresh (Nat.le_refl _))
end
section
variable {X : Cx} {tg : Expr}
end
section
variable {X : Cx} {tg : Expr}
end
def Its (x : Str) : It := ⟨fun i _ => i < x.cps.size, fun i H v H' => H' = H ∧ ∃ c, x.cps[i]? = some c ∧ v = .str ⟨#[c]⟩, fun i _ => x.cps.size ≤ i⟩
theorem turn_str {P : Program} {w : World} {K : PySem.W.Frag} {tg : Expr} (it : Addr) (x : Str) (t : Tok) (ty : String) (hty : ty = "str_ascii_iterator" ∨ ty = "str_iterator") :
    Turn P w K tg (Its x) [it] it (fun i h => h.IsStrIter it ty x t i) where
  mem := by simp
  obj := fun i h st b hb => by
    have e : b = it := by simpa using hb
    subst e
    obtain ⟨o, e, c, d⟩ := st
    exact ⟨o, e, fun v z => by rw [d] at z; cases z⟩
  keep := fun i h h' st k => let ⟨o, ho, r⟩ := st; ⟨o, k it (by simp) o ho, r⟩
  item := by
    intro X hP hw hK hc i pins s σ H E I hf st hg
    subst hP hw hK
    obtain ⟨f0, f1, f2, f3, f4, f5⟩ := hf it (by simp)
    have W : Walks X.prog X.w X.A it [it] [it] x.cps.size (SignAt x) (fun i h => h.IsStrIter it ty x t i) := by
      rcases hty with e | e
      · rw [e]; exact Walks.strAscii (I.ok.hd hc) it x t
      · rw [e]; exact Walks.strWide (I.ok.hd hc) it x t
    have hno : ["enumerate", "zip", "dict_itemiterator", "dict_reverseitemiterator", "odict_iterator", "itertools.zip_longest", "itertools.pairwise"].contains ty = false := by
      rcases hty with e | e
      · rw [e]; decide
      · rw [e]; decide
    refine W.item i s _ _ hg st fun v h' tk hv st' kk => ?_
    obtain ⟨c, u, hcx, rfl⟩ := hv
    have I1 : Inv X pins σ H { s with heap := h', toks := tk } := I.turned (fun b o hb e => kk b o (by simpa using hb) e) f0 f1 f3 f4 f5
    obtain ⟨oi, e, cc, dd⟩ := id st'
    exact ⟨_, rfl, go_of (s := { s with heap := h', toks := tk }) e cc dd hno ⟨.str ⟨#[c]⟩, H, I1, ⟨u, rfl⟩, ⟨rfl, c, hcx, rfl⟩, st', fun b hb => (hf b hb).1⟩⟩
  done := by
    intro X hP hw hK hc i pins s σ H E I hf st hg
    subst hP hw hK
    obtain ⟨f0, f1, f2, f3, f4, f5⟩ := hf it (by simp)
    have hx : x.cps[i]? = none := Array.getElem?_eq_none hg
    rcases hty with e | e
    · rw [e] at st
      exact wpAny_pyNext_ascii_end (I.ok.hd hc) st hx fun h' eb => ⟨rfl, I.turned (t' := s.toks) (fun b o hb e => eb b o hb e) f0 f1 f3 f4 f5⟩
    · rw [e] at st
      exact wpAny_pyNext_wide_end (I.ok.hd hc) st hx fun h' eb => ⟨rfl, I.turned (t' := s.toks) (fun b o hb e => eb b o hb e) f0 f1 f3 f4 f5⟩
  self := fun A i s Q E st h => by
    rcases hty with e | e
    · rw [e] at st; exact wpAny_pyIter_striter_ascii st h
    · rw [e] at st; exact wpAny_pyIter_striter_wide st h
def iStr (te : TE) : TI := fun σ H R => te σ H fun v H1 => ∃ x, v = .str x ∧ R (Its x) H1
theorem pi_str {X : Cx} {tg e : Expr} {te : TE} (he : PE X e te) : PI X tg e (iStr te) := by
  intro pins s σ H R I h
  refine thn (he pins s σ H _ I h) fun v s1 ⟨y, H1, I1, r1, x, ex, q⟩ => ?_
  subst ex
  obtain ⟨t, rfl⟩ := r1
  cases ha : x.cps.all (· < 128)
  · exact wpAny_pyIter_wide ha (pi_one (tk := s1.toks) I1 _ (turn_str _ x t "str_iterator" (.inr rfl)) ⟨_, Heap.get?_push_size _ rfl, rfl, rfl⟩ q)
  · exact wpAny_pyIter_ascii ha (pi_one (tk := s1.toks) I1 _ (turn_str _ x t "str_ascii_iterator" (.inl rfl)) ⟨_, Heap.get?_push_size _ rfl, rfl, rfl⟩ q)
section
variable {prog : Program} {w : World} {A : Around} {E : Value → Shared → Prop} {s : Shared}
end
section
variable {X : Cx} {pins : List (Addr × Obj)} {σ : St} {H : Hp} {s : Shared} {d : Addr} {o : Obj}
end
section
variable {P : Program} {w : World} {K : PySem.W.Frag} {tg : Expr} {d : Addr} {o : Obj} {es : Array DictEntry} {ep : Nat}
end
section
variable {X : Cx} {tg e : Expr} {td : TE} {apos cpos : Pos}
end
def Ite (K : PySem.W.Frag) (a : Addr) : It :=
  ⟨fun i H => ∃ (xs : List V) (x : V), SqL K H a xs ∧ xs[i]? = some x, fun i H v H' => ∃ T x, v = .ref T ∧ H T = none ∧ H' = upd H T (.tup [.int (i : Nat), x]) ∧ ∀ xs, SqL K H a xs → xs[i]? = some x, fun i H => ∃ xs : List V, SqL K H a xs ∧ xs.length ≤ i⟩
theorem turn_enum {P : Program} {w : World} {K : PySem.W.Frag} {elts : List Expr} {kk : Nat} {tpos : Pos} (a e it : Addr) :
    Turn P w K (.Tuple elts kk tpos) (Ite K a) [e, it] e (fun i h => (∃ old, IsEnum h e it ((i : Nat) : Int) old) ∧ h.IsListIter it a i ∧ e ≠ it) where
  mem := by simp
  obj := fun i h st b hb => by
    obtain ⟨⟨old, he⟩, ⟨o, ho, hc, hd⟩, _⟩ := st
    have e' : b = e ∨ b = it := by simpa using hb
    rcases e' with z | z
    · rw [z]; exact ⟨_, he, fun v q => nomatch q⟩
    · rw [z]; exact ⟨o, ho, fun v q => by rw [hd] at q; cases q⟩
  keep := fun i h h' st k => let ⟨⟨old, he⟩, hi, hne⟩ := st; ⟨⟨old, k e (by simp) _ he⟩, hi.at fun o q => k it (by simp) o q, hne⟩
  item := by
    intro X hP hw hK hc i pins s σ H E I hf st hg
    subst hP hw hK
    obtain ⟨⟨old, he⟩, hit, hne⟩ := st
    obtain ⟨xs, x, hq, hx⟩ := hg
    obtain ⟨its, rv, p, hz⟩ := I.list hq
    obtain ⟨u, hu, ru⟩ := rv.get hx
    have hel : e < s.heap.objs.size := Heap.lt_size he
    have hil : it < s.heap.objs.size := by obtain ⟨_, q, _⟩ := hit; exact Heap.lt_size q
    refine wpAny_pyNext_enum_item he hit p.isList (x := u) (by simpa using hu) hne fun h' ho hit' hT hsz hk => ?_
    refine ⟨_, rfl, wpAny_letOwnedTupleGo_enum (s := { s with heap := h', toks := s.toks + 1 }) ho fun h'' he' sb => ?_⟩
    have hT2 : h''.get? s.heap.objs.size = some { cls := .type "tuple", data := .seq #[.int i s.toks, u] } := (sb.2 _ (Nat.ne_of_gt hel)).trans hT
    have new : ObjOk X.prog X.w (upd H s.heap.objs.size (.tup [.int (i : Nat), x])) h'' s.heap.objs.size (.tup [.int (i : Nat), x]) :=
      ⟨by show 2 ≤ sizeLine; decide, [.int i s.toks, u], .cons ⟨_, rfl⟩ (.cons ru .nil), ⟨_, hT2, rfl, _, rfl⟩⟩
    have I1 : Inv X pins σ (upd H s.heap.objs.size (.tup [.int (i : Nat), x])) { s with heap := h'', toks := s.toks + 1 } :=
      I.turnedNew (ch := [e, it]) (fun b ob hb q => (sb.2 b (fun z => hb (by simp [z]))).trans (hk b ob (fun z => hb (by simp [z])) (fun z => hb (by simp [z])) q)) hf (Nat.le_refl _) new
    refine ⟨.ref s.heap.objs.size, _, I1, rfl, ⟨_, x, rfl, I.hok.fresh (Nat.le_refl _), rfl, fun ys hy => by rw [I.list_inj hy hq]; exact hx⟩, ⟨⟨u, ?_⟩, hit'.at fun o q => (sb.2 it (Ne.symm hne)).trans q, hne⟩, fun b hb => ?_⟩
    · have e1 : ((i + 1 : Nat) : Int) = (i : Int) + 1 := by omega
      rw [e1]; exact he'
    · have hb' : b < s.heap.objs.size := by
        have e' : b = e ∨ b = it := by simpa using hb
        rcases e' with z | z
        · rw [z]; exact hel
        · rw [z]; exact hil
      rw [upd_ne (Nat.ne_of_lt hb')]
      exact (hf b hb).1
  done := by
    intro X hP hw hK hc i pins s σ H E I hf st hg
    subst hP hw hK
    obtain ⟨⟨old, he⟩, hit, hne⟩ := st
    obtain ⟨xs, hq, hx⟩ := hg
    obtain ⟨its, rv, p, hz⟩ := I.list hq
    obtain ⟨f0, f1, f2, f3, f4, f5⟩ := hf it (by simp)
    have hl := rv.length
    exact wpAny_pyNext_enum_end (I.ok.hd hc) he hit p.isList (by simp; omega) fun h' eb => ⟨rfl, I.turned (t' := s.toks) (fun b o hb q => eb b o hb q) f0 f1 f3 f4 f5⟩
  self := fun A i s Q E st h => let ⟨⟨_, he⟩, _⟩ := st; wpAny_pyIter_enum he h
def iEnum (K : PySem.W.Frag) (ta : TA) : TI := fun σ H R => ta σ H fun vs H1 => ∃ a xs, vs = [.ref a] ∧ SqL K H1 a xs ∧ R (Ite K a) H1
theorem pi_enum {X : Cx} {e : Expr} {ta : TA} {p pos tpos : Pos} {elts : List Expr} {kk : Nat} (hg : Gl X "enumerate") (hm : X.mg "enumerate" = none) (ha : PA X [e] ta) (hs : starEach [e] X.env = [(false, eval e X.env)] := by rfl) :
    PI X (.Tuple elts kk tpos) (.Call (.Name "enumerate" p) [e] [] pos) (iEnum X.K ta) := by
  intro pins s σ H R I h
  refine Call_ (ld_blt I hg hm boot_enumerate (PyProof.Rows.callWith_type1 (thn (ha pos pins s σ H _ I h) fun us s1 ⟨vs, H1, I1, r1, q1⟩ => ?_) hs rfl))
  obtain ⟨a, xs, ex, hq, q⟩ := q1
  subst ex
  cases r1 with
  | cons r rr =>
    cases rr
    cases r
    obtain ⟨its, rv, p', hz⟩ := I1.list hq
    refine call_enumerate_list p'.isList fun h' he hit hsz hk => wpAny_pyIter_enum he ?_
    have I2 : Inv X pins σ H1 { s1 with heap := h' } := I1.kept (t' := s1.toks) hk
    refine ⟨s1.heap.objs.size + 1, [s1.heap.objs.size + 1, s1.heap.objs.size], _, _, H1, rfl, I2, turn_enum a (s1.heap.objs.size + 1) s1.heap.objs.size, ⟨⟨.none, he⟩, hit, Nat.succ_ne_self _⟩, fun b hb => ?_, q⟩
    have e' : b = s1.heap.objs.size + 1 ∨ b = s1.heap.objs.size := by simpa using hb
    have hle : s1.heap.objs.size ≤ b := by
      rcases e' with z | z
      · rw [z]; exact Nat.le_add_right _ _
      · rw [z]; exact Nat.le_refl _
    exact I1.fpOk hle (I1.hok.fresh hle)
end L2
section 
namespace Bits
open PySem PyProof.Rows
end Bits
end 
section 
namespace TL
open PySem PySem.Builtin PySem.Builtin.Str PySem.StrLaws
end TL
end 
namespace L2
open PySem PySem.Spec PyProof.Rows
section
variable {X : Cx} {pins : List (Addr × Obj)} {σ : St} {H : Hp} {s : Shared} {Q : VK}
end
section
variable {X : Cx}
end
section
variable {X : Cx} {o e : Expr} {to te : TE}
end
end L2
namespace L2
open PySem PySem.Spec PyProof.Rows
section
variable {X : Cx}
end
end L2
namespace Att
open PySem PySem.W PySem.Calls PyProof.Rows
section
variable {prog : Program} {w : World} {A : Around} {E : Value → Shared → Prop} {s : Shared} {K : Frag}
/-! the whole heap as the ledger: makes every rule that writes through a ledger a rule over any heap -/
end
end Att
namespace L2
open PySem PySem.Spec PyProof.Rows
end L2
namespace L2
open PySem PySem.Spec PyProof.Rows
end L2
/- THE LAST THEOREM (shape; LID, My.* are yours):
   My.Adr: a structure of the addresses that your layer names (classes, functions); My.Txt K t: a structure (Prop) of the equations over K;
   My.txt_mk : {K} {implicit addresses ..} (e1 : nsIn K mainGlobals "law" = some (some (.ref f))) (e2 : K.lookup f = some ⟨oc, od, .func (fnOf "law" "law" params body scope dV kV doc pm an cdv ct), sl⟩) (e3 : codeIn K cdv "law" = true) .. : ∃ t, My.Txt K t
set_option maxRecDepth 100000 in
set_option maxHeartbeats 0 in
theorem PySem.Challenge.cw_LID_holds : PySem.Challenge.rw_LID.Holds := by
  w_on; o_law; k_head; (case hw => w_witness2)
  k_fill
  refine L2.walk_of (l := PySem.Challenge.rw_LID) (n := 63) (k := 40) (x := "script") (CX := fun w => ..) (sp := fun _ => My.sp_law) rfl (by decide) rfl ⟨rfl, by decide, by decide⟩ (fun w h Y => PySem.W.kIn_of Y) ?F ?S ?C
  case F =>
    intro w mg fa h KX G hmg
    have T : ∃ t, My.Txt (L2.KOf KX) t := by
      dsimp only [L2.KOf]                          -- K must stand as «<heap const> w.params» for k_is
      refine' My.txt_mk ?e1 ?e2 ?e3 ..
      (case e1 => PySem.W.k_is)                    -- in the order: a name -> its address -> its object -> its parts
      (case e2 => PySem.W.k_is)
      ..
    obtain ⟨t, T⟩ := T
    have e0 := hmg.symm.trans (PySem.W.mg_of KX G T.law)
    cases e0                                       -- fa is the law's own address
    exact ⟨_, fun s u => .of_eq rfl, fun base kb nb => My.law_fn T kb nb⟩     -- if «.of_eq rfl» comes too early: refine' ⟨_, ?b, fun base kb nb => My.law_fn T kb nb⟩; exact fun s u => .of_eq rfl
  case S => exact fun w H a ns hl hO hS => ..
  case C => exact ..
(the tactic k_is has no namespace: write k_is) -/
/-! SHORT WORDS over the layer: a def of the text, its body, what a loop and a test want. -/
namespace L2
open PySem PySem.Spec PyProof.Rows
def inClass (s : Stmt) (j : Nat) : Stmt := match s with
  | .ClassDef _ _ _ body _ _ _ _ _ _ _ => body.getD j (.Pass ⟨0, 0, 0, 0⟩)
  | _ => .Pass ⟨0, 0, 0, 0⟩
def defArgs (s : Stmt) : Arguments := match s with
  | .FunctionDef _ a _ _ _ _ _ _ _ _ => a
  | _ => { posonlyargs := [], args := [], vararg := none, kwonlyargs := [], kw_defaults := [], kwarg := none, defaults := [] }
def defBody (s : Stmt) : List Stmt := match s with
  | .FunctionDef _ _ b _ _ _ _ _ _ _ => b
  | _ => []
def defScope (s : Stmt) : Scope := match s with
  | .FunctionDef _ _ _ _ _ _ sc _ _ _ => sc
  | _ => { kind := .function, names := [], isGenerator := false, isCoroutine := false }
abbrev CX0 : CXT := fun _ _ _ _ _ _ => False
abbrev E0 : XK := fun _ _ _ => False
theorem pass0 {X : Cx} : Passes CX0 X E0 := fun _ _ _ _ _ _ _ h => h.elim
structure Fun (K : PySem.W.Frag) (x qual : Str) (st : Stmt) (f : Addr) (fd : FuncData) : Prop where
  ex : ∃ (oc : Value) (od : Option Addr) (kV doc pm : Value) (an : Option Addr) (cdv ct : Value) (osl : Array (Option Value)),
    fd = PySem.W.fnOf x qual (defArgs st) (defBody st) (defScope st) .none kV doc pm an cdv ct ∧ K.lookup f = some ⟨oc, od, .func fd, osl⟩ ∧ PySem.W.codeIn K cdv qual = true
  kp : PySem.W.keepIn K (.ref f) = true
section
variable {P : Program} {w : World} {K : PySem.W.Frag} {mg : Str → Option Value} {base : Heap}
theorem Fun.ok {x qual : Str} {st : Stmt} {f : Addr} {fd : FuncData} {N ps : List Str} {k : Nat} {sp : Sp} (F : Fun K x qual st f fd) (S : FnScope N ps (defScope st)) (len : ∀ vs H Q E, sp vs H Q E → vs.length = ps.length)
    (hbody : ∀ (cdv : Value) (A : Around) (outer : List Env) (s : Shared) (H : Hp) (vs : List V) (Q : VK) (E : XK), Room k (A.deeper (envOfC qual (defScope st) s.heap.objs.size f cdv)) → sp vs H Q E →
      ∃ t, PSs (cxOf CX0 P w K mg base N qual (defScope st) f cdv A outer s H E).nox (defBody st) t ∧ t { nx := fun _ H' => Q .non H', rt := Q } (start N vs) H) : FnOk P w K mg base CX0 (k + 1) f fd ps sp := by
  obtain ⟨oc, od, kV, doc, pm, an, cdv, ct, osl, rfl, lk, hcd⟩ := F.ex
  refine fn_of lk hcd S len fun A outer s H vs Q E hr hsp => ?_
  obtain ⟨t, h, q⟩ := hbody cdv A outer s H vs Q E hr hsp
  exact ⟨t, h.nox, q⟩
theorem Fun.binds {x qual : Str} {st : Stmt} {f : Addr} {fd : FuncData} {ps : List Str} (F : Fun K x qual st f fd)
    (h : ∀ (kV doc pm : Value) (an : Option Addr) (cdv ct : Value) (us : List Value), us.length = ps.length → bindArgs (PySem.W.fnOf x qual (defArgs st) (defBody st) (defScope st) .none kV doc pm an cdv ct) ⟨us, []⟩ = pure (ps.zip us)) : Binds K fd ps [] := by
  obtain ⟨oc, od, kV, doc, pm, an, cdv, ct, osl, rfl, lk, hcd⟩ := F.ex
  exact .all (h kV doc pm an cdv ct)
theorem fun_mk {x qual : Str} {st : Stmt} {f : Addr} {oc : Value} {od an : Option Addr} {osl : Array (Option Value)} {kV doc pm cdv ct : Value} (l : K.lookup f = some ⟨oc, od, .func (PySem.W.fnOf x qual (defArgs st) (defBody st) (defScope st) .none kV doc pm an cdv ct), osl⟩)
    (c : PySem.W.codeIn K cdv qual = true) (k : PySem.W.keepIn K (.ref f) = true) : Fun K x qual st f (PySem.W.fnOf x qual (defArgs st) (defBody st) (defScope st) .none kV doc pm an cdv ct) := ⟨⟨oc, od, kV, doc, pm, an, cdv, ct, osl, rfl, l, c⟩, k⟩
end
section
variable {X : Cx}
theorem pv (i : Nat) {x : Str} {pos : Pos} (hN : X.N[i]? = some x := by rfl) (hv : Vis X.env.scope x := by first | exact Or.inl rfl | exact Or.inr (Or.inl rfl) | exact Or.inr (Or.inr rfl)) (hd : (x == ("__debug__" : Str)) = false := by decide)
    (hcd : (x == ("__classdict__" : Str)) = false := by decide) : PE X (.Name x pos) (tVar i) := pe_var hN hv hd hcd
end
theorem iteF {A B : Prop} (h : B) : if false = true then A else B := by
  rw [if_neg Bool.false_ne_true]
  exact h
theorem iteT {A B : Prop} (h : A) : if true = true then A else B := by
  rw [if_pos rfl]
  exact h
def Same (H H' : Hp) : Prop := ∀ b o, H b = some o → H' b = some o
theorem Same.refl (H : Hp) : Same H H := fun _ _ h => h
theorem Same.trans {H H1 H2 : Hp} (a : Same H H1) (b : Same H1 H2) : Same H H2 := fun c o h => b c o (a c o h)
theorem Same.free {H H' : Hp} (e : Same H H') {l : Addr} (h : H' l = Option.none) : H l = Option.none := by
  cases q : H l with
  | none => rfl
  | some o =>
    rw [e l o q] at h
    cases h
theorem Same.seq {K : PySem.W.Frag} {H H' : Hp} {a : Addr} {xs : List V} (e : Same H H') (h : SqL K H a xs) : SqL K H' a xs := by
  rcases h with (h | ⟨o, h⟩) | h
  · exact .inl (.inl (e _ _ h))
  · exact .inl (.inr ⟨o, e _ _ h⟩)
  · exact .inr h
section
variable {κ : Type} [DecidableEq κ]
end
theorem at_of {xs : List V} {z : Int} {j : Nat} {v : V} (e : z = (j : Int)) (h : xs[j]? = some v) : atI xs z = some v := by
  rw [e]
  exact atI_nat h
theorem Same.made {H H1 : Hp} {x dx C : Addr} (nx : H x = Option.none) (nd : H dx = Option.none) (k : ∀ b o, (upd (upd H dx (.own x)) x (.ins C dx [])) b = some o → b ≠ x → H1 b = some o) : Same H H1 := fun b o e =>
  k b o (by rw [upd_ne (ne_of_none e nx), upd_ne (ne_of_none e nd)]; exact e) (ne_of_none e nx)
end L2
end
section
set_option Elab.async false
set_option linter.all false
set_option maxRecDepth 100000
set_option maxHeartbeats 2000000
namespace L2
open PySem PySem.Spec PyProof.Rows
open PySem.W (WData Codec OpenSpec Well WellAll ReadsW ReadsAllW)
mutual
inductive Dw (K : PySem.W.Frag) (H : Hp) : V → WData → Prop
  | non : Dw K H .non .none
  | bl (b : Bool) : Dw K H (.bl b) (.bool b)
  | int (i : Int) : Dw K H (.int i) (.int i)
  | str (x : Str) : Dw K H (.str x) (.str x)
  | byt (b : Array UInt8) : Dw K H (.byt b) (.bytes b.toList)
  | lst {a : Addr} {xs : List V} {ds : List WData} : SqL K H a xs → DwAll K H xs ds → Dw K H (.ref a) (.list ds)
  | tup {a : Addr} {xs : List V} {ds : List WData} : SqT K H a xs → DwAll K H xs ds → Dw K H (.ref a) (.tuple ds)
inductive DwAll (K : PySem.W.Frag) (H : Hp) : List V → List WData → Prop
  | nil : DwAll K H [] []
  | cons {v : V} {vs : List V} {d : WData} {ds : List WData} : Dw K H v d → DwAll K H vs ds → DwAll K H (v :: vs) (d :: ds)
end
theorem dw_ints {K : PySem.W.Frag} {H : Hp} : ∀ ns : List Int, DwAll K H (ns.map V.int) (ns.map WData.int)
  | [] => .nil
  | n :: r => .cons (.int n) (dw_ints r)
theorem ints_dw {K : PySem.W.Frag} {H : Hp} : ∀ (ns : List Int) (xs : List V), DwAll K H xs (ns.map WData.int) → xs = ns.map V.int
  | [], xs, h => by
    cases h
    rfl
  | n :: r, xs, h => by
    cases h with
    | cons h1 h2 =>
      cases h1
      rw [ints_dw r _ h2] <;> rfl
section
variable {P : Program} {w : World} {K : PySem.W.Frag} {H : Hp} {h : Heap} {R : PySem.W.WRecords} {cl : Str → Option Addr}
theorem sqL_at {a : Addr} {xs : List V} (hok : HOk P w H h) (KX : K.In h) (q : SqL K H a xs) : ∃ (its : List Value) (o : Obj) (n : Nat), Vals xs its ∧ h.get? a = some o ∧ o.cls = .type "list" ∧ o.data = .seq its.toArray n := by
  rcases q with q | ⟨o, its, n, e, hc, _, hd, _, hv⟩
  · obtain ⟨_, its, n, hv, e⟩ := (show ObjOk P w H h a (.lst xs) from q.ok hok)
    exact ⟨its, _, n, hv, e, rfl, rfl⟩
  · exact ⟨its.toList, o, n, hv, KX _ _ e, hc, by simp [hd]⟩
theorem sqT_at {a : Addr} {xs : List V} (hok : HOk P w H h) (KX : K.In h) (q : SqT K H a xs) : ∃ (its : List Value) (o : Obj) (n : Nat), Vals xs its ∧ h.get? a = some o ∧ o.cls = .type "tuple" ∧ o.data = .seq its.toArray n := by
  rcases q with q | ⟨o, its, n, e, hc, hd, _, hv⟩
  · obtain ⟨_, its, hv, o, e, hc, n, hd⟩ := (show ObjOk P w H h a (.tup xs) from q.ok hok)
    exact ⟨its, o, n, hv, e, hc, hd⟩
  · exact ⟨its.toList, o, n, hv, KX _ _ e, hc, by simp [hd]⟩
mutual
theorem Dw.reads (hok : HOk P w H h) (KX : K.In h) : ∀ (d : WData) (v : V) (u : Value), Dw K H v d → RelV v u → ∃ as, ReadsW R cl h u d as
  | .none, _, _, x, r => by
    cases x
    cases r
    exact ⟨_, ReadsW.none⟩
  | .bool b, _, _, x, r => by
    cases x
    cases r
    exact ⟨_, ReadsW.bool b⟩
  | .int i, _, _, x, r => by
    cases x
    obtain ⟨t, rfl⟩ := r
    exact ⟨_, ReadsW.int i t⟩
  | .str s, _, _, x, r => by
    cases x
    obtain ⟨t, rfl⟩ := r
    exact ⟨_, ReadsW.str s t⟩
  | .bytes b, _, _, x, r => by
    cases x
    obtain ⟨t, rfl⟩ := r
    exact ⟨_, ReadsW.bytes _ t⟩
  | .list ds, _, _, x, r => by
    cases x with
    | lst hs ha =>
      cases r
      obtain ⟨its, o, n, rv, ho, hc, hd⟩ := sqL_at hok KX hs
      obtain ⟨as, hr⟩ := Dw.readsAll hok KX ds _ its ha rv
      exact ⟨_, ReadsW.list ho hc hd hr⟩
  | .tuple ds, _, _, x, r => by
    cases x with
    | tup hs ha =>
      cases r
      obtain ⟨its, o, n, rv, ho, hc, hd⟩ := sqT_at hok KX hs
      obtain ⟨as, hr⟩ := Dw.readsAll hok KX ds _ its ha rv
      exact ⟨_, ReadsW.tuple ho hc hd hr⟩
  | .float _, _, _, x, _ => by cases x
  | .dict _, _, _, x, _ => by cases x
  | .bytearray _, _, _, x, _ => by cases x
  | .set _, _, _, x, _ => by cases x
  | .frozenset _, _, _, x, _ => by cases x
  | .obj _ _, _, _, x, _ => by cases x
theorem Dw.readsAll (hok : HOk P w H h) (KX : K.In h) : ∀ (ds : List WData) (vs : List V) (us : List Value), DwAll K H vs ds → Vals vs us → ∃ as, ReadsAllW R cl h us ds as
  | [], _, _, x, r => by
    cases x
    cases r
    exact ⟨_, ReadsAllW.nil⟩
  | d :: ds, _, _, x, r => by
    cases x with
    | cons h1 h2 =>
      cases r with
      | cons r1 r2 =>
        obtain ⟨as, q1⟩ := Dw.reads hok KX d _ _ h1 r1
        obtain ⟨bs, q2⟩ := Dw.readsAll hok KX ds _ _ h2 r2
        exact ⟨_, ReadsAllW.cons q1 q2⟩
end
end
mutual
def plW : WData → Bool
  | .none => true
  | .bool _ => true
  | .int _ => true
  | .str _ => true
  | .bytes _ => true
  | .list xs => plWs xs
  | .tuple xs => plWs xs
  | _ => false
def plWs : List WData → Bool
  | [] => true
  | x :: r => plW x && plWs r
end
theorem plWs_map {α : Type} {f : α → WData} (h : ∀ a, plW (f a) = true) : ∀ l : List α, plWs (l.map f) = true
  | [] => rfl
  | x :: r => by
    show (plW (f x) && plWs (r.map f)) = true
    rw [h x, plWs_map h r] <;> rfl
theorem pl_enc : ∀ (c : Codec) (a : c.denote), plW (c.enc a) = true
  | .unit, _ => rfl
  | .bool, _ => rfl
  | .int _ _, _ => rfl
  | .nat _ _, _ => rfl
  | .u8, _ => rfl
  | .bytes _ _, _ => rfl
  | .text _ _ _ _, _ => rfl
  | .list _ _ c, a => plWs_map (fun x => pl_enc c x) a
  | .pair c d, a => by
    show (plW (c.enc a.1) && (plW (d.enc a.2) && true)) = true
    rw [pl_enc c a.1, pl_enc d a.2] <;> rfl
  | .triple c d e, a => by
    show (plW (c.enc a.1) && (plW (d.enc a.2.1) && (plW (e.enc a.2.2) && true))) = true
    rw [pl_enc c a.1, pl_enc d a.2.1, pl_enc e a.2.2] <;> rfl
  | .option c, none => rfl
  | .option c, some x => pl_enc c x
theorem pl_encAll : ∀ (cs : List Codec) (a : Codec.denoteAll cs), plWs (Codec.encAll cs a) = true
  | [], _ => rfl
  | c :: cs, a => by
    show (plW (c.enc a.1) && plWs (Codec.encAll cs a.2)) = true
    rw [pl_enc c a.1, pl_encAll cs a.2] <;> rfl
theorem weight_mem : ∀ {xs : List WData} {d : WData}, d ∈ xs → d.weight ≤ WData.weightAll xs
  | [], d, h => absurd h (by simp)
  | x :: r, d, h => by
    show d.weight ≤ x.weight + 1 + WData.weightAll r
    rcases List.mem_cons.mp h with e | m
    · rw [e]
      omega
    · have z := weight_mem m
      omega
def toV : Value → V
  | .none => .non
  | .bool b => .bl b
  | .int i _ => .int i
  | .str x _ => .str x
  | .bytes b _ => .byt b
  | .ref a => .ref a
  | _ => .non
def OkU (A : List Addr) : Value → Prop
  | .none => True
  | .bool _ => True
  | .int _ _ => True
  | .str _ _ => True
  | .bytes _ _ => True
  | .ref a => a ∈ A
  | _ => False
theorem OkU.mono {A B : List Addr} (h : ∀ a ∈ A, a ∈ B) : ∀ {u : Value}, OkU A u → OkU B u := fun {u} x => by
  cases u with
  | ref a => exact h a x
  | none => trivial
  | bool b => trivial
  | int i t => trivial
  | str s t => trivial
  | bytes b t => trivial
  | _ => exact False.elim x
theorem relV_toV {A : List Addr} {u : Value} (x : OkU A u) : RelV (toV u) u := by
  cases u with
  | ref a => rfl
  | none => rfl
  | bool b => rfl
  | int i t => exact ⟨t, rfl⟩
  | str s t => exact ⟨t, rfl⟩
  | bytes b t => exact ⟨t, rfl⟩
  | _ => exact False.elim x
theorem vals_toV {A : List Addr} : ∀ {vs : List Value}, (∀ u ∈ vs, OkU A u) → Vals (vs.map toV) vs
  | [], _ => .nil
  | u :: r, h => .cons (relV_toV (h u (List.mem_cons_self ..))) (vals_toV fun x hx => h x (List.mem_cons_of_mem _ hx))
def ArgOb (h : Heap) (A : List Addr) (a : Addr) : Prop := ∃ vs : List Value, vs.length ≤ sizeLine ∧ (∀ u ∈ vs, OkU A u) ∧
  (h.get? a = some { cls := .type "list", data := .seq vs.toArray } ∨ h.get? a = some { cls := .type "tuple", data := .seq vs.toArray })
theorem ArgOb.mono {h : Heap} {A B : List Addr} {a : Addr} (k : ∀ a ∈ A, a ∈ B) (x : ArgOb h A a) : ArgOb h B a := by
  obtain ⟨vs, h1, h2, h3⟩ := x
  exact ⟨vs, h1, fun u hu => (h2 u hu).mono k, h3⟩
theorem wellAll_len {P : Params} {h : Heap} : ∀ {vs : List Value} {ds : List WData}, WellAll P h vs ds → vs.length = ds.length
  | _, _, .nil => rfl
  | _, _, .cons _ b => by
    show _ + 1 = _ + 1
    rw [wellAll_len b]
theorem well_list {P : Params} {h : Heap} {v : Value} {ds : List WData} (x : Well P h v (.list ds)) : ∃ (a : Addr) (vs : List Value), v = .ref a ∧ h.get? a = some { cls := .type "list", data := .seq vs.toArray } ∧ WellAll P h vs ds := by
  cases x with
  | list ho hall => exact ⟨_, _, rfl, ho, hall⟩
theorem well_tuple {P : Params} {h : Heap} {v : Value} {ds : List WData} (x : Well P h v (.tuple ds)) : ∃ (a : Addr) (vs : List Value), v = .ref a ∧ h.get? a = some { cls := .type "tuple", data := .seq vs.toArray } ∧ WellAll P h vs ds := by
  cases x with
  | tuple ho hall => exact ⟨_, _, rfl, ho, hall⟩
theorem well_cons {P : Params} {h : Heap} {us : List Value} {d : WData} {ds : List WData} (x : WellAll P h us (d :: ds)) : ∃ (v : Value) (vs : List Value), us = v :: vs ∧ Well P h v d ∧ WellAll P h vs ds := by
  cases x with
  | cons a b => exact ⟨_, _, rfl, a, b⟩
theorem line_of {n : Nat} (h : n ≤ 1048576) : n ≤ sizeLine := Nat.le_trans h (by decide)
section
variable {P : Params} {h : Heap}
mutual
theorem area_one : ∀ (d : WData) (v : Value), Well P h v d → plW d = true → d.weight ≤ 1048576 → ∃ A : List Addr, OkU A v ∧ ∀ a ∈ A, ArgOb h A a
  | .none, _, x, _, _ => by
    cases x
    exact ⟨[], trivial, fun a m => absurd m (by simp)⟩
  | .bool b, _, x, _, _ => by
    cases x
    exact ⟨[], trivial, fun a m => absurd m (by simp)⟩
  | .int i, _, x, _, _ => by
    cases x
    exact ⟨[], trivial, fun a m => absurd m (by simp)⟩
  | .str s, _, x, _, _ => by
    cases x
    exact ⟨[], trivial, fun a m => absurd m (by simp)⟩
  | .bytes b, _, x, _, _ => by
    cases x
    exact ⟨[], trivial, fun a m => absurd m (by simp)⟩
  | .list ds, _, x, p, z => by
    obtain ⟨a, vs, rfl, ho, hall⟩ := well_list x
    have z2 : WData.weightAll ds ≤ 1048576 := z
    obtain ⟨A, h1, h2⟩ := area_all ds _ hall p fun d hd => Nat.le_trans (weight_mem hd) z2
    have k : ∀ b ∈ A, b ∈ a :: A := fun b hb => List.mem_cons_of_mem _ hb
    refine ⟨a :: A, List.mem_cons_self .., fun b hb => ?_⟩
    rcases List.mem_cons.mp hb with e | m
    · rw [e]
      exact ⟨vs, line_of (by rw [wellAll_len hall]; exact Nat.le_trans (PySem.W.length_le_weightAllW ds) z2), fun u hu => (h1 u hu).mono k, .inl ho⟩
    · exact (h2 b m).mono k
  | .tuple ds, _, x, p, z => by
    obtain ⟨a, vs, rfl, ho, hall⟩ := well_tuple x
    have z2 : WData.weightAll ds ≤ 1048576 := z
    obtain ⟨A, h1, h2⟩ := area_all ds _ hall p fun d hd => Nat.le_trans (weight_mem hd) z2
    have k : ∀ b ∈ A, b ∈ a :: A := fun b hb => List.mem_cons_of_mem _ hb
    refine ⟨a :: A, List.mem_cons_self .., fun b hb => ?_⟩
    rcases List.mem_cons.mp hb with e | m
    · rw [e]
      exact ⟨vs, line_of (by rw [wellAll_len hall]; exact Nat.le_trans (PySem.W.length_le_weightAllW ds) z2), fun u hu => (h1 u hu).mono k, .inr ho⟩
    · exact (h2 b m).mono k
  | .float _, _, _, p, _ => Bool.noConfusion (show false = true from p)
  | .dict _, _, _, p, _ => Bool.noConfusion (show false = true from p)
  | .bytearray _, _, _, p, _ => Bool.noConfusion (show false = true from p)
  | .set _, _, _, p, _ => Bool.noConfusion (show false = true from p)
  | .frozenset _, _, _, p, _ => Bool.noConfusion (show false = true from p)
  | .obj _ _, _, _, p, _ => Bool.noConfusion (show false = true from p)
theorem area_all : ∀ (ds : List WData) (vs : List Value), WellAll P h vs ds → plWs ds = true → (∀ d ∈ ds, d.weight ≤ 1048576) → ∃ A : List Addr, (∀ u ∈ vs, OkU A u) ∧ ∀ a ∈ A, ArgOb h A a
  | [], _, x, _, _ => by
    cases x
    exact ⟨[], fun u m => absurd m (by simp), fun a m => absurd m (by simp)⟩
  | d :: ds, _, x, p, z => by
    obtain ⟨v, vs, rfl, x1, x2⟩ := well_cons x
    have q : plW d = true ∧ plWs ds = true := Bool.and_eq_true_iff.mp p
    obtain ⟨A, a1, a2⟩ := area_one d v x1 q.1 (z d (List.mem_cons_self ..))
    obtain ⟨B, b1, b2⟩ := area_all ds vs x2 q.2 fun e he => z e (List.mem_cons_of_mem _ he)
    have kA : ∀ b ∈ A, b ∈ A ++ B := fun b hb => List.mem_append.mpr (.inl hb)
    have kB : ∀ b ∈ B, b ∈ A ++ B := fun b hb => List.mem_append.mpr (.inr hb)
    refine ⟨A ++ B, fun u hu => ?_, fun b hb => ?_⟩
    · rcases List.mem_cons.mp hu with e | m
      · rw [e]
        exact a1.mono kA
      · exact (b1 u m).mono kB
    · rcases List.mem_append.mp hb with m | m
      · exact (a2 b m).mono kA
      · exact (b2 b m).mono kB
end
end
def hoOf (o : Obj) : Option HO := match o.data with
  | .seq vs _ => if (o.cls == Value.type "list") = true then some (.frz o (.lst (vs.toList.map toV))) else some (.frz o (.tup (vs.toList.map toV)))
  | _ => none
def argH (K : PySem.W.Frag) (h : Heap) (A : List Addr) : Hp := fun b => if b ∈ A then (if (K.lookup b).isNone = true then (h.get? b).bind hoOf else none) else none
def OnlyF (H : Hp) : Prop := ∀ b, H b = none ∨ ∃ o u, H b = some (.frz o u)
theorem hoOf_lst (vs : List Value) : hoOf { cls := .type "list", data := .seq vs.toArray } = some (.frz { cls := .type "list", data := .seq vs.toArray } (.lst (vs.map toV))) := by
  show (if (Value.type "list" == Value.type "list") = true then some (HO.frz { cls := .type "list", data := .seq vs.toArray } (.lst (vs.toArray.toList.map toV))) else some (HO.frz { cls := .type "list", data := .seq vs.toArray } (.tup (vs.toArray.toList.map toV)))) = _
  rw [if_pos (beq_self_eq_true _)]
theorem hoOf_tup (vs : List Value) : hoOf { cls := .type "tuple", data := .seq vs.toArray } = some (.frz { cls := .type "tuple", data := .seq vs.toArray } (.tup (vs.map toV))) := by
  show (if (Value.type "tuple" == Value.type "list") = true then some (HO.frz { cls := .type "tuple", data := .seq vs.toArray } (.lst (vs.toArray.toList.map toV))) else some (HO.frz { cls := .type "tuple", data := .seq vs.toArray } (.tup (vs.toArray.toList.map toV)))) = _
  rw [if_neg (by decide)]
section
variable {P : Program} {w : World} {K : PySem.W.Frag} {h : Heap} {A : List Addr}
theorem argH_at {b : Addr} {o : Obj} (hb : b ∈ A) (hk : K.lookup b = none) (e : h.get? b = some o) : argH K h A b = hoOf o := by
  unfold argH
  rw [if_pos hb, hk, if_pos (show (none : Option Obj).isNone = true from rfl), e] <;> rfl
theorem of_argH {b : Addr} {u : HO} (q : argH K h A b = some u) : b ∈ A ∧ K.lookup b = none := by
  unfold argH at q
  by_cases hb : b ∈ A
  · rw [if_pos hb] at q
    cases hk : K.lookup b with
    | none => exact ⟨hb, rfl⟩
    | some o =>
      rw [hk, if_neg (by simp)] at q
      cases q
  · rw [if_neg hb] at q
    cases q
theorem argH_is (ar : ∀ a ∈ A, ArgOb h A a) {b : Addr} {u : HO} (q : argH K h A b = some u) : K.lookup b = none ∧ ∃ vs : List Value, vs.length ≤ sizeLine ∧ (∀ u ∈ vs, OkU A u) ∧
    ((h.get? b = some { cls := .type "list", data := .seq vs.toArray } ∧ u = .frz { cls := .type "list", data := .seq vs.toArray } (.lst (vs.map toV))) ∨
     (h.get? b = some { cls := .type "tuple", data := .seq vs.toArray } ∧ u = .frz { cls := .type "tuple", data := .seq vs.toArray } (.tup (vs.map toV)))) := by
  obtain ⟨hb, hk⟩ := of_argH q
  obtain ⟨vs, h1, h2, h3⟩ := ar b hb
  refine ⟨hk, vs, h1, h2, ?_⟩
  rcases h3 with e | e
  · rw [argH_at hb hk e, hoOf_lst] at q
    exact .inl ⟨e, (Option.some.inj q).symm⟩
  · rw [argH_at hb hk e, hoOf_tup] at q
    exact .inr ⟨e, (Option.some.inj q).symm⟩
theorem argH_only (ar : ∀ a ∈ A, ArgOb h A a) : OnlyF (argH K h A) := fun b => by
  cases q : argH K h A b with
  | none => exact .inl rfl
  | some u =>
    obtain ⟨_, vs, _, _, ⟨_, e⟩ | ⟨_, e⟩⟩ := argH_is ar q
    · exact .inr ⟨_, _, by rw [e]⟩
    · exact .inr ⟨_, _, by rw [e]⟩
theorem argH_ok (ar : ∀ a ∈ A, ArgOb h A a) : HOk P w (argH K h A) h := fun b u q => by
  obtain ⟨_, vs, h1, h2, ⟨e, rfl⟩ | ⟨e, rfl⟩⟩ := argH_is ar q
  · exact ⟨e, by rw [List.length_map]; exact h1, vs, _, vals_toV h2, e⟩
  · exact ⟨e, by rw [List.length_map]; exact h1, vs, vals_toV h2, _, e, rfl, _, rfl⟩
theorem seq_inj {c c' : Value} {vs us : List Value} (e : (some { cls := c, data := .seq vs.toArray } : Option Obj) = some { cls := c', data := .seq us.toArray }) : c = c' ∧ vs = us := by
  have e1 := Option.some.inj e
  have e2 : c = c' := congrArg Obj.cls e1
  have e3 : Data.seq vs.toArray = Data.seq us.toArray := congrArg Obj.data e1
  injection e3 with e4
  refine ⟨e2, ?_⟩
  have e5 := congrArg Array.toList e4
  simpa using e5
theorem argL (KX : K.In h) (ar : ∀ a ∈ A, ArgOb h A a) {a : Addr} {vs : List Value} (ha : a ∈ A) (e : h.get? a = some { cls := .type "list", data := .seq vs.toArray }) : (∀ u ∈ vs, OkU A u) ∧ SqL K (argH K h A) a (vs.map toV) := by
  obtain ⟨us, h1, h2, h3⟩ := ar a ha
  have hu : us = vs := by
    rcases h3 with q | q
    · rw [e] at q
      exact (seq_inj q).2.symm
    · rw [e] at q
      exact absurd (Value.type.inj (seq_inj q).1) (by decide)
  subst hu
  refine ⟨h2, ?_⟩
  cases hk : K.lookup a with
  | none => exact .inl (.inr ⟨_, by rw [argH_at ha hk e, hoOf_lst]⟩)
  | some o =>
    have e2 := KX a o hk
    rw [e] at e2
    obtain rfl := Option.some.inj e2
    exact .inr ⟨_, us.toArray, _, hk, rfl, rfl, rfl, by rw [List.size_toArray]; exact h1, by simpa using vals_toV h2⟩
theorem argT (KX : K.In h) (ar : ∀ a ∈ A, ArgOb h A a) {a : Addr} {vs : List Value} (ha : a ∈ A) (e : h.get? a = some { cls := .type "tuple", data := .seq vs.toArray }) : (∀ u ∈ vs, OkU A u) ∧ SqT K (argH K h A) a (vs.map toV) := by
  obtain ⟨us, h1, h2, h3⟩ := ar a ha
  have hu : us = vs := by
    rcases h3 with q | q
    · rw [e] at q
      exact absurd (Value.type.inj (seq_inj q).1) (by decide)
    · rw [e] at q
      exact (seq_inj q).2.symm
  subst hu
  refine ⟨h2, ?_⟩
  cases hk : K.lookup a with
  | none => exact .inl (.inr ⟨_, by rw [argH_at ha hk e, hoOf_tup]⟩)
  | some o =>
    have e2 := KX a o hk
    rw [e] at e2
    obtain rfl := Option.some.inj e2
    exact .inr ⟨_, us.toArray, _, hk, rfl, rfl, by rw [List.size_toArray]; exact h1, by simpa using vals_toV h2⟩
mutual
theorem dw_one {Pm : Params} (KX : K.In h) (ar : ∀ a ∈ A, ArgOb h A a) : ∀ (d : WData) (v : Value), Well Pm h v d → plW d = true → OkU A v → Dw K (argH K h A) (toV v) d
  | .none, _, x, _, _ => by
    cases x
    exact .non
  | .bool b, _, x, _, _ => by
    cases x
    exact .bl b
  | .int i, _, x, _, _ => by
    cases x
    exact .int i
  | .str s, _, x, _, _ => by
    cases x
    exact .str s
  | .bytes b, _, x, _, _ => by
    cases x
    have z := Dw.byt (K := K) (H := argH K h A) b.toArray
    exact z
  | .list ds, _, x, p, hu => by
    obtain ⟨a, vs, rfl, ho, hall⟩ := well_list x
    obtain ⟨h2, hs⟩ := argL KX ar hu ho
    exact .lst hs (dw_all KX ar ds _ hall p h2)
  | .tuple ds, _, x, p, hu => by
    obtain ⟨a, vs, rfl, ho, hall⟩ := well_tuple x
    obtain ⟨h2, hs⟩ := argT KX ar hu ho
    exact .tup hs (dw_all KX ar ds _ hall p h2)
  | .float _, _, _, p, _ => Bool.noConfusion (show false = true from p)
  | .dict _, _, _, p, _ => Bool.noConfusion (show false = true from p)
  | .bytearray _, _, _, p, _ => Bool.noConfusion (show false = true from p)
  | .set _, _, _, p, _ => Bool.noConfusion (show false = true from p)
  | .frozenset _, _, _, p, _ => Bool.noConfusion (show false = true from p)
  | .obj _ _, _, _, p, _ => Bool.noConfusion (show false = true from p)
theorem dw_all {Pm : Params} (KX : K.In h) (ar : ∀ a ∈ A, ArgOb h A a) : ∀ (ds : List WData) (vs : List Value), WellAll Pm h vs ds → plWs ds = true → (∀ u ∈ vs, OkU A u) → DwAll K (argH K h A) (vs.map toV) ds
  | [], _, x, _, _ => by
    cases x
    exact .nil
  | d :: ds, _, x, p, hu => by
    obtain ⟨v, vs, rfl, x1, x2⟩ := well_cons x
    have q : plW d = true ∧ plWs ds = true := Bool.and_eq_true_iff.mp p
    exact .cons (dw_one KX ar d v x1 q.1 (hu _ (List.mem_cons_self ..))) (dw_all KX ar ds vs x2 q.2 fun u m => hu u (List.mem_cons_of_mem _ m))
end
end
theorem spec_call {P : Program} {w : World} {K : PySem.W.Frag} {mg mb : Str → Option Value} {CX : CXT} {k : Nat} {fa : Addr} {fd : FuncData} {ps : List Str} {sp : Sp} {s₁ : Shared} {vals : List Value} {ds : List WData} {R : PySem.W.WRecords} {cl : Str → Option Addr} {d0 : WData}
    (KX : K.In s₁.heap) (hns : s₁.heap.Ns mainGlobals mg) (hb : s₁.heap.Ns builtinsNs mb) (hbb : ∀ x : Str, x ≠ "__name__" → mb x = bootBuiltins x) (hlim : s₁.heap.NoLimit) (hg : s₁.gens = #[])
    (hwl : WellAll w.params s₁.heap vals ds) (hpl : plWs ds = true) (hwt : ∀ d ∈ ds, d.weight ≤ 1048576) (hr : Room k callerA)
    (F : ∀ base : Heap, K.In base → base.Ns mainGlobals mg → FnOk P w K mg base CX k fa fd ps sp) (hbind : ∀ (s : Shared) (us : List Value), us.length = ps.length → BindsTo s fd ⟨us, []⟩ (ps.zip us)) (hlen : ds.length = ps.length)
    (hsp : ∀ (H : Hp) (xs : List V), OnlyF H → DwAll K H xs ds → sp xs H (fun v H' => Dw K H' v d0) fun _ _ _ => False)
    (hCX : ∀ H e s', CX [] H s₁ (fun _ _ _ => False) e s' → False) :
    codeAny (model P w) callerA (.call (.ref fa) ⟨vals, []⟩) (fun r s' => ∃ u as, r = .ok (.ret u) ∧ ReadsW R cl s'.heap u d0 as ∧ OldK s₁.heap s'.heap ∧ s'.os = s₁.os ∧ AllBare s'.gens) s₁ := by
  obtain ⟨A, ho, ar⟩ := area_all ds vals hwl hpl hwt
  have hO : OnlyF (argH K s₁.heap A) := argH_only ar
  have hok : HOk P w (argH K s₁.heap A) s₁.heap := argH_ok ar
  have hS := dw_all KX ar ds vals hwl hpl ho
  have hV := vals_toV ho
  have hK : ∀ b u, argH K s₁.heap A b = some u → K.lookup b = none := fun b u q => (argH_is ar q).1
  have noA : ∀ {b : Addr} {o : Obj} {es : Array DictEntry} {ep : Nat}, s₁.heap.get? b = some o → o.data = .dict es ep → argH K s₁.heap A b = none := fun {b o es ep} e d => by
    cases q : argH K s₁.heap A b with
    | none => rfl
    | some u =>
      obtain ⟨_, vs, _, _, ⟨e2, _⟩ | ⟨e2, _⟩⟩ := argH_is ar q
      · rw [e2] at e
        cases e
        have d' : Data.seq vs.toArray _ = Data.dict es ep := d
        cases d'
      · rw [e2] at e
        cases e
        have d' : Data.seq vs.toArray _ = Data.dict es ep := d
        cases d'
  generalize argH K s₁.heap A = H at hO hok hS hK noA
  have base_of : ∀ {b : Addr} {o : Obj}, s₁.heap.get? b = some o → H b = none → (hidT s₁.heap H).get? b = some o := fun e n => hidT_get e n
  have nsK : ∀ {b : Addr} {m : Str → Option Value}, s₁.heap.Ns b m → (hidT s₁.heap H).Ns b m := fun {b m} ⟨o, es, ep, e, d, r⟩ => ⟨o, es, ep, base_of e (noA e d), d, r⟩
  have nK : ∀ b o, K.lookup b = some o → H b = none := fun b o e => by
    cases q : H b with
    | none => rfl
    | some u =>
      rw [hK b u q] at e
      cases e
  have hKb : K.In (hidT s₁.heap H) := fun b o e => base_of (KX b o e) (nK b o e)
  have hM : Mod K mg (hidT s₁.heap H) := ⟨hKb, nsK hns, ⟨mb, nsK hb, hbb⟩, let ⟨mc, h1, h2⟩ := hlim; ⟨mc, nsK h1, h2⟩⟩
  have e0 : Env0 P w K mg (hidT s₁.heap H) callerA [] s₁ H := ⟨rfl, hM, fun b o e => of_hidT e, Nat.le_of_eq (hidT_size _ _), trivial, fun b hb => absurd (show b ∈ ([] : List Addr) from hb) (by simp), hok, .of_eq hg⟩
  have hl : vals.length = ps.length := by rw [wellAll_len hwl]; exact hlen
  refine codeAny_mono ((F _ hKb (nsK hns)).run callerA [] s₁ H ⟨vals, []⟩ vals (vals.map toV) _ _ hr e0 (hbind s₁ vals hl) hV (hsp H _ hO hS)) fun r s' x => ?_
  cases r with
  | error e => exact (hCX H e s' x).elim
  | ok fl =>
    cases fl with
    | next => exact False.elim x
    | brk => exact False.elim x
    | cont => exact False.elim x
    | ret u =>
      obtain ⟨v, H', os, bare, un, hok', r', q⟩ := x
      have kept : ∀ b o, s₁.heap.get? b = some o → s'.heap.get? b = some o := fun b o e => by
        cases q2 : H b with
        | none => exact un.keep b o e q2 (by intro z; exact absurd (show b ∈ ([] : List Addr) from z) (by simp)) (by simp)
        | some u2 =>
          rcases hO b with z | ⟨ob, u3, z⟩
          · rw [q2] at z
            cases z
          · have z2 := un.frzs b ob _ z
            obtain ⟨e1, _⟩ := hok b _ z
            obtain ⟨e2, _⟩ := hok' b _ z2
            rw [e] at e1
            cases e1
            exact e2
      have KX' : K.In s'.heap := fun b o e => kept b o (KX b o e)
      obtain ⟨as, hrd⟩ := Dw.reads (R := R) (cl := cl) hok' KX' d0 v u q r'
      exact ⟨u, as, rfl, hrd, OldK.of_keep kept, os, bare⟩
theorem layable_weight {ds : List WData} (h : WData.layableAll ds = true) : ∀ d ∈ ds, d.weight ≤ 1048576 := fun d hd =>
  (PySem.W.layableW_iff.mp (List.all_eq_true.mp h d hd)).2.2
theorem encAll_len : ∀ (cs : List Codec) (a : Codec.denoteAll cs), (Codec.encAll cs a).length = cs.length
  | [], _ => rfl
  | c :: cs, a => by
    show (Codec.encAll cs a.2).length + 1 = cs.length + 1
    rw [encAll_len cs a.2]
theorem walk_spec {r : OpenSpec} {k : Nat} {q : Program} {loose : List Str} {XP : (Str → Option Value) → Heap → Prop} {YP : World → Heap → Prop} {d : DefRec} {K : Params → PySem.W.Frag} {CX : World → CXT} {ps : List Str} {sp : World → Sp}
    (hwell : r.wellSaid = true) (hdf : d.params.defaults = []) (hlen : r.args.length = ps.length) (hr : Room k callerA)
    (hY : ∀ (w : World) (h : Heap), YP w h → (K w.params).In h)
    (F : ∀ (w : World) (mg : Str → Option Value) (fa : Addr) (h : Heap), YP w h → (K w.params).In h → h.Ns mainGlobals mg → mg d.name = some (.ref fa) →
      ∃ fd : FuncData, (∀ (s : Shared) (us : List Value), us.length = ps.length → BindsTo s fd ⟨us, []⟩ (ps.zip us)) ∧
        ∀ base : Heap, (K w.params).In base → base.Ns mainGlobals mg → FnOk r.prog w (K w.params) mg base (CX w) k fa fd ps (sp w))
    (hsp : ∀ (w : World) (H : Hp) (xs : List V) (a : Codec.denoteAll r.args), OnlyF H → Codec.withinAll r.args a = true → Codec.app r.args r.asked a = true → DwAll (K w.params) H xs (Codec.encAll r.args a) →
      sp w xs H (fun v H' => Dw (K w.params) H' v (r.ret.enc (Codec.app r.args r.f a))) fun _ _ _ => False)
    (hCX : ∀ (w : World) (H : Hp) (s : Shared) (e : Value) (s' : Shared), CX w [] H s (fun _ _ _ => False) e s' → False) :
    PySem.W.WalkOS q loose XP YP r d [] (fun f vs => PySem.call f vs) := by
  intro w s_0 s₁ mg mb G Y fa o pm cd doc dV kV ho hd hcd hD hmg hg args vals as hpre hlay hrd hwl hlo
  obtain ⟨a, e1, e2⟩ := PySem.W.os_pre_some hpre
  obtain ⟨e3, hwi⟩ := Codec.encAll_of_decAll r.args args a e1
  subst e3
  have KX := hY w _ Y
  obtain ⟨fd, hb, hF⟩ := F w mg fa _ Y KX G.T.g hmg
  refine PySem.W.enter_call (codeAny_mono (spec_call (R := []) (cl := classAt s_0.heap) (d0 := r.ret.enc (Codec.app r.args r.f a)) KX G.T.g G.T.b G.T.builtins G.T.nolimit hg hwl (pl_encAll _ _) (layable_weight hlay) hr hF hb (by rw [encAll_len]; exact hlen)
    (fun H xs hO hS => hsp w H xs a hO hwi e2 hS) fun H e s' => hCX w H s₁ e s') fun r' s' hq => ?_)
  obtain ⟨u, as', rfl, h1, h2, h3, h4⟩ := hq
  exact ⟨.inl ⟨u, _, as', rfl, fun _ => rfl, h1, (OpenSpec.post_iff hwell hwi _ _).mpr rfl, fun z => Bool.noConfusion (show false = true from z)⟩, h2, h3, h4⟩
theorem walk_specK {r : OpenSpec} {k : Nat} {q : Program} {loose : List Str} {XP : (Str → Option Value) → Heap → Prop} {YP : World → Heap → Prop} {d : DefRec} {K : Params → PySem.W.Frag} {CX : CXT} {ps : List Str} {sp : PySem.W.Frag → Sp}
    (hwell : r.wellSaid = true) (hdf : d.params.defaults = []) (hlen : r.args.length = ps.length) (hr : Room k callerA)
    (hY : ∀ (w : World) (h : Heap), YP w h → (K w.params).In h)
    (F : ∀ (w : World) (mg : Str → Option Value) (fa : Addr) (h : Heap), YP w h → (K w.params).In h → h.Ns mainGlobals mg → mg d.name = some (.ref fa) →
      ∃ fd : FuncData, (∀ (s : Shared) (us : List Value), us.length = ps.length → BindsTo s fd ⟨us, []⟩ (ps.zip us)) ∧
        ∀ base : Heap, (K w.params).In base → base.Ns mainGlobals mg → FnOk r.prog w (K w.params) mg base CX k fa fd ps (sp (K w.params)))
    (hsp : ∀ (K : PySem.W.Frag) (H : Hp) (xs : List V) (a : Codec.denoteAll r.args), OnlyF H → Codec.withinAll r.args a = true → Codec.app r.args r.asked a = true → DwAll K H xs (Codec.encAll r.args a) →
      sp K xs H (fun v H' => Dw K H' v (r.ret.enc (Codec.app r.args r.f a))) fun _ _ _ => False)
    (hCX : ∀ (H : Hp) (s : Shared) (e : Value) (s' : Shared), CX [] H s (fun _ _ _ => False) e s' → False) :
    PySem.W.WalkOS q loose XP YP r d [] (fun f vs => PySem.call f vs) :=
  walk_spec (K := K) (CX := fun _ => CX) (sp := fun w => sp (K w.params)) hwell hdf hlen hr hY F (fun w H xs a h1 h2 h3 h4 => hsp (K w.params) H xs a h1 h2 h3 h4) fun _ H s e s' => hCX H s e s'
end L2
end
section
set_option linter.all false
namespace Md
open Mix
def isW (c : UInt8) : Bool := c != BLANK && c != NEW
def wordAt (b : Bytes) (p : Nat) : Bytes := (b.drop p).takeWhile isW
def mByte (b : Bytes) (c : UInt8) (p : Nat) : Except Fault Nat := if (b.drop p).head? = some c then .ok (p + 1) else .error ⟨1, p⟩
def isName (w : Bytes) : Bool := (nameForm w).isSome
def mName (b : Bytes) (p : Nat) : Except Fault (Bytes × Nat × Nat) := match mByte b BLANK p with
  | .error e => .error e
  | .ok q => if isName (wordAt b q) = true then .ok (wordAt b q, q, q + (wordAt b q).length) else .error ⟨1, q⟩
def mTold (b : Bytes) (d : Desk) (ks : List Nat) (p : Nat) : Except Fault (Nat × Nat × Nat) := match mName b p with
  | .error e => .error e
  | .ok r => match d.find r.1 with
    | none => .error ⟨3, r.2.1⟩
    | some x => if d.kind x ∈ ks then .ok (x, r.2.1, r.2.2) else .error ⟨3, r.2.1⟩
def mNum (b : Bytes) (lo hi p : Nat) : Except Fault (Nat × Nat) := match mByte b BLANK p with
  | .error e => .error e
  | .ok q => match numForm (wordAt b q) with
    | none => .error ⟨1, q⟩
    | some n => if n < lo ∨ hi < n then .error ⟨2, q⟩ else .ok (n, q + (wordAt b q).length)
def mPre (b : Bytes) (p : Nat) : Except Fault (Bool × Nat) := match mByte b BLANK p with
  | .error e => .error e
  | .ok q => if wordAt b q = ascii "pre" then .ok (true, q + (wordAt b q).length) else if wordAt b q = ascii "post" then .ok (false, q + (wordAt b q).length) else .error ⟨1, q⟩
def addNode (d : Desk) (k : Nat) (w : Bytes) : Desk := { d with nodes := d.nodes ++ [⟨k, w⟩] }
def addSet (d : Desk) (s : Setting) : Desk := { d with settings := d.settings ++ [s] }
def mNode (b : Bytes) (d : Desk) (k p : Nat) : Except Fault (Desk × Nat) :=
  if most k ≤ d.counts k then .error ⟨4, p⟩ else match mName b (p + (wordAt b p).length) with
  | .error e => .error e
  | .ok r => if (d.find r.1).isSome = true then .error ⟨3, r.2.1⟩ else match mByte b NEW r.2.2 with
    | .error e => .error e
    | .ok q => .ok (addNode d k r.1, q)
def mSafe (b : Bytes) (d : Desk) (p : Nat) : Except Fault (Desk × Nat) := match mTold b d [0, 1, 2] p with
  | .error e => .error e
  | .ok r => if d.isSafe r.1 = true then .error ⟨3, r.2.1⟩ else .ok (addSet d (.safe r.1), r.2.2)
def mLate (b : Bytes) (d : Desk) (p : Nat) : Except Fault (Desk × Nat) := match mTold b d [0, 1, 2] p with
  | .error e => .error e
  | .ok r => if d.late r.1 ≠ 0 then .error ⟨3, r.2.1⟩ else match mNum b 1 63 r.2.2 with
    | .error e => .error e
    | .ok n => .ok (addSet d (.late r.1 n.1), n.2)
def mMember (b : Bytes) (d : Desk) (p : Nat) : Except Fault (Desk × Nat) := match mTold b d [3] p with
  | .error e => .error e
  | .ok g => match mTold b d [0, 1, 2] g.2.2 with
    | .error e => .error e
    | .ok r => if d.isMember g.1 r.1 = true then .error ⟨3, r.2.1⟩ else .ok (addSet d (.member g.1 r.1), r.2.2)
def between (d : Desk) (a x : Nat) : Bool := d.sends.any fun (s : Send) => s.src == a && s.dst == x
def mSend (b : Bytes) (d : Desk) (p0 p : Nat) : Except Fault (Desk × Nat) :=
  if 48 ≤ d.sends.length then .error ⟨4, p0⟩ else match mTold b d [0, 1] p with
  | .error e => .error e
  | .ok a => match mTold b d [1, 2] a.2.2 with
    | .error e => .error e
    | .ok x => if x.1 ≤ a.1 ∨ between d a.1 x.1 = true then .error ⟨3, x.2.1⟩ else match mNum b 0 65535 x.2.2 with
      | .error e => .error e
      | .ok g => match mPre b g.2 with
        | .error e => .error e
        | .ok h => .ok (addSet d (.send ⟨a.1, x.1, g.1, h.1⟩), h.2)
def mRest (b : Bytes) (d : Desk) (p0 : Nat) : Except Fault (Desk × Nat) :=
  let w := wordAt b p0
  let p := p0 + w.length
  if w = ascii "safe" then mSafe b d p else if w = ascii "late" then mLate b d p else if w = ascii "member" then mMember b d p else if w = ascii "send" then mSend b d p0 p else .error ⟨1, p0⟩
def mSetting (b : Bytes) (d : Desk) (p0 : Nat) : Except Fault (Desk × Nat) := match mRest b d p0 with
  | .error e => .error e
  | .ok r => match mByte b NEW r.2 with
    | .error e => .error e
    | .ok q => .ok (r.1, q)
theorem byte_eq (b : Bytes) (c : UInt8) (p : Nat) : byte c ⟨b.drop p, p⟩ = match mByte b c p with
    | .error e => .error e
    | .ok q => .ok ((), ⟨b.drop q, q⟩) := by
  unfold byte mByte
  by_cases h : (b.drop p).head? = some c
  · simp only [h, if_true, List.drop_drop]
  · simp only [h, if_false]
theorem word_eq (b : Bytes) (p : Nat) : word ⟨b.drop p, p⟩ = if wordAt b p = [] then .error ⟨1, p⟩ else .ok ((wordAt b p, p), ⟨b.drop (p + (wordAt b p).length), p + (wordAt b p).length⟩) := by
  unfold word wordAt isW
  simp only [List.drop_drop]
theorem item_eq {α β : Type} (form : Bytes → Option α) (good : α → Option β) (kind : Nat) (hf : form [] = none) (b : Bytes) (p : Nat) : item form good kind ⟨b.drop p, p⟩ = match mByte b BLANK p with
    | .error e => .error e
    | .ok q => match form (wordAt b q) with
      | none => .error ⟨1, q⟩
      | some a => match good a with
        | some y => .ok (y, ⟨b.drop (q + (wordAt b q).length), q + (wordAt b q).length⟩)
        | none => .error ⟨kind, q⟩ := by
  unfold item
  rw [byte_eq]
  cases mByte b BLANK p with
  | error e => rfl
  | ok q =>
    dsimp only
    rw [word_eq]
    by_cases h : wordAt b q = []
    · rw [if_pos h, h, hf]
    · rw [if_neg h]
      rfl
theorem nameForm_nil : nameForm [] = none := by decide
theorem numForm_nil : numForm [] = none := by decide
theorem nameForm_some {w a : Bytes} (h : nameForm w = some a) : a = w := by
  unfold nameForm at h
  split at h
  · exact (Option.some.inj h).symm
  · cases h
theorem isName_iff {w : Bytes} : nameForm w = if isName w = true then some w else none := by
  unfold isName
  cases h : nameForm w with
  | none => rfl
  | some a => rw [nameForm_some h]; rfl
theorem node_eq (b : Bytes) (d : Desk) (good : Nat → Bool) (p : Nat) : node d good ⟨b.drop p, p⟩ = match mName b p with
    | .error e => .error e
    | .ok r => match d.find r.1 with
      | none => .error ⟨3, r.2.1⟩
      | some x => if good x = true then .ok (x, ⟨b.drop r.2.2, r.2.2⟩) else .error ⟨3, r.2.1⟩ := by
  unfold node mName
  rw [item_eq _ _ _ nameForm_nil]
  cases mByte b BLANK p with
  | error e => rfl
  | ok q =>
    dsimp only
    rw [isName_iff]
    by_cases h : isName (wordAt b q) = true
    · simp only [h, if_true]
      cases hd : d.find (wordAt b q) with
      | none => rfl
      | some x =>
        simp only [Option.bind_some]
        by_cases hg : good x = true
        · simp only [hg, if_true]
        · simp only [hg, if_false, Bool.false_eq_true]
    · simp only [h, if_false, Bool.false_eq_true]
theorem node_two (b : Bytes) (d : Desk) (ks : List Nat) (more : Nat → Bool) (good : Nat → Bool) (h : ∀ x, good x = (decide (d.kind x ∈ ks) && more x)) (p : Nat) :
    node d good ⟨b.drop p, p⟩ = match mTold b d ks p with
    | .error e => .error e
    | .ok r => if more r.1 = true then .ok (r.1, ⟨b.drop r.2.2, r.2.2⟩) else .error ⟨3, r.2.1⟩ := by
  rw [node_eq]
  unfold mTold
  cases mName b p with
  | error e => rfl
  | ok r =>
    dsimp only
    cases d.find r.1 with
    | none => rfl
    | some x =>
      dsimp only
      rw [h]
      by_cases hk : d.kind x ∈ ks
      · simp only [hk, decide_true, Bool.true_and, if_true]
      · simp only [hk, decide_false, Bool.false_and, Bool.false_eq_true, if_false]
theorem num_eq (b : Bytes) (lo hi p : Nat) : num lo hi ⟨b.drop p, p⟩ = match mNum b lo hi p with
    | .error e => .error e
    | .ok r => .ok (r.1, ⟨b.drop r.2, r.2⟩) := by
  unfold num mNum
  rw [item_eq _ _ _ numForm_nil]
  cases mByte b BLANK p with
  | error e => rfl
  | ok q =>
    dsimp only
    cases numForm (wordAt b q) with
    | none => rfl
    | some n =>
      dsimp only
      by_cases h : lo ≤ n ∧ n ≤ hi
      · rw [if_pos h, if_neg (by omega)]
      · rw [if_neg h, if_pos (by omega)]
theorem how_eq (b : Bytes) (p : Nat) : how ⟨b.drop p, p⟩ = match mPre b p with
    | .error e => .error e
    | .ok r => .ok (r.1, ⟨b.drop r.2, r.2⟩) := by
  unfold how mPre
  rw [item_eq _ _ _ (by decide)]
  cases mByte b BLANK p with
  | error e => rfl
  | ok q =>
    dsimp only
    by_cases h1 : wordAt b q = ascii "pre"
    · simp only [h1, if_true]
    · by_cases h2 : wordAt b q = ascii "post"
      · rw [if_neg h1, if_pos h2, if_neg h1, if_pos h2]
      · rw [if_neg h1, if_neg h2, if_neg h1, if_neg h2]
theorem newName_eq (b : Bytes) (d : Desk) (p : Nat) : newName d ⟨b.drop p, p⟩ = match mName b p with
    | .error e => .error e
    | .ok r => if (d.find r.1).isSome = true then .error ⟨3, r.2.1⟩ else .ok (r.1, ⟨b.drop r.2.2, r.2.2⟩) := by
  unfold newName mName
  rw [item_eq _ _ _ nameForm_nil]
  cases mByte b BLANK p with
  | error e => rfl
  | ok q =>
    dsimp only
    rw [isName_iff]
    by_cases h : isName (wordAt b q) = true
    · simp only [h, if_true]
      cases hd : d.find (wordAt b q) with
      | none => rfl
      | some x => rfl
    · simp only [h, if_false, Bool.false_eq_true]
theorem mByte_ok {b : Bytes} {c : UInt8} {p q : Nat} (h : mByte b c p = .ok q) : q = p + 1 ∧ p < b.length := by
  unfold mByte at h
  split at h
  · rename_i h1
    refine ⟨(Except.ok.inj h).symm, ?_⟩
    cases hd : b.drop p with
    | nil => rw [hd] at h1; cases h1
    | cons x r =>
      have := congrArg List.length hd
      rw [List.length_drop, List.length_cons] at this
      omega
  · cases h
theorem wordAt_len (b : Bytes) (p : Nat) : (wordAt b p).length ≤ b.length - p := by
  unfold wordAt
  rw [← List.length_drop]
  exact (List.takeWhile_sublist _).length_le
theorem mName_ok {b : Bytes} {p : Nat} {r : Bytes × Nat × Nat} (h : mName b p = .ok r) : p < b.length ∧ r.2.1 = p + 1 ∧ r.1 = wordAt b (p + 1) ∧ r.2.2 = p + 1 + r.1.length ∧ isName r.1 = true ∧ r.2.2 ≤ b.length := by
  unfold mName at h
  split at h
  · cases h
  · rename_i q hq
    obtain ⟨rfl, h2⟩ := mByte_ok hq
    split at h
    · rename_i hn
      cases h
      have := wordAt_len b (p + 1)
      exact ⟨h2, rfl, rfl, rfl, hn, by dsimp only; omega⟩
    · cases h
theorem mTold_ok {b : Bytes} {d : Desk} {ks : List Nat} {p : Nat} {r : Nat × Nat × Nat} (h : mTold b d ks p = .ok r) : p < b.length ∧ r.2.1 = p + 1 ∧ p < r.2.2 ∧ r.2.2 ≤ b.length ∧ d.kind r.1 ∈ ks ∧ ∃ w, d.find w = some r.1 := by
  unfold mTold at h
  split at h
  · cases h
  · rename_i r' hr
    obtain ⟨h1, h2, h3, h4, h5, h6⟩ := mName_ok hr
    split at h
    · cases h
    · rename_i x hx
      split at h
      · rename_i hk
        cases h
        exact ⟨h1, h2, by dsimp only; omega, h6, hk, _, hx⟩
      · cases h
theorem mNum_ok {b : Bytes} {lo hi p : Nat} {r : Nat × Nat} (h : mNum b lo hi p = .ok r) : p < r.2 ∧ r.2 ≤ b.length ∧ lo ≤ r.1 ∧ r.1 ≤ hi := by
  unfold mNum at h
  split at h
  · cases h
  · rename_i q hq
    obtain ⟨rfl, h2⟩ := mByte_ok hq
    split at h
    · cases h
    · split at h
      · cases h
      · cases h
        have := wordAt_len b (p + 1)
        exact ⟨by dsimp only; omega, by dsimp only; omega, by dsimp only; omega, by dsimp only; omega⟩
theorem mPre_ok {b : Bytes} {p : Nat} {r : Bool × Nat} (h : mPre b p = .ok r) : p < r.2 ∧ r.2 ≤ b.length := by
  unfold mPre at h
  split at h
  · cases h
  · rename_i q hq
    obtain ⟨rfl, h2⟩ := mByte_ok hq
    have := wordAt_len b (p + 1)
    split at h
    · cases h
      exact ⟨by dsimp only; omega, by dsimp only; omega⟩
    · split at h
      · cases h
        exact ⟨by dsimp only; omega, by dsimp only; omega⟩
      · cases h
theorem mNode_ok {b : Bytes} {d : Desk} {k p : Nat} {r : Desk × Nat} (h : mNode b d k p = .ok r) : p < r.2 ∧ r.2 ≤ b.length ∧ d.counts k < most k ∧ ∃ w, isName w = true ∧ d.find w = none ∧ r.1 = addNode d k w := by
  unfold mNode at h
  split at h
  · cases h
  · split at h
    · cases h
    · rename_i r' hr
      obtain ⟨h1, h2, h3, h4, h5, h6⟩ := mName_ok hr
      split at h
      · cases h
      · rename_i hf
        split at h
        · cases h
        · rename_i q hq
          obtain ⟨rfl, h7⟩ := mByte_ok hq
          cases h
          refine ⟨by dsimp only; omega, by dsimp only; omega, by omega, r'.1, h5, ?_, rfl⟩
          cases hd : d.find r'.1 with
          | none => rfl
          | some x => rw [hd] at hf; exact absurd rfl hf
theorem linesIn_zero {b : Bytes} {n : Nat} {d : Desk} {p : Nat} (h : b.drop p = []) : linesIn (n + 1) d ⟨b.drop p, p⟩ = .ok (d, ⟨b.drop p, p⟩) := by
  unfold linesIn
  rw [if_pos h]
theorem linesIn_word {b : Bytes} {n : Nat} {d : Desk} {p : Nat} (h : b.drop p ≠ []) (hw : wordAt b p = []) : linesIn (n + 1) d ⟨b.drop p, p⟩ = .error ⟨1, p⟩ := by
  unfold linesIn
  rw [if_neg h, word_eq, if_pos hw]
theorem word_drop {b : Bytes} {p : Nat} (h : wordAt b p ≠ []) : b.drop p ≠ [] := by
  intro e
  apply h
  unfold wordAt
  rw [e]
  rfl
theorem kindOf_ne {w : Bytes} {k : Nat} (h : kindOf w = some k) : w ≠ [] := by
  rintro rfl
  revert h
  decide +revert
theorem linesIn_node {b : Bytes} {n : Nat} {d : Desk} {k p : Nat} (hk : kindOf (wordAt b p) = some k) (hs : d.settings = []) (hc : d.counts k ≤ most k) :
    linesIn (n + 1) d ⟨b.drop p, p⟩ = match mNode b d k p with
      | .error e => .error e
      | .ok r => linesIn n r.1 ⟨b.drop r.2, r.2⟩ := by
  have hw : wordAt b p ≠ [] := kindOf_ne hk
  conv => lhs; unfold linesIn
  rw [if_neg (word_drop hw), word_eq, if_neg hw]
  dsimp only
  rw [hk, hs]
  dsimp only [List.isEmpty]
  rw [if_neg (by decide)]
  unfold mNode
  by_cases h : d.counts k = most k
  · rw [if_pos h, if_pos (by omega)]
  · rw [if_neg h, if_neg (by omega)]
    unfold Rd.then
    rw [newName_eq]
    cases mName b (p + (wordAt b p).length) with
    | error e => rfl
    | ok r =>
      dsimp only
      by_cases hf : (d.find r.1).isSome = true
      · rw [if_pos hf, if_pos hf]
      · rw [if_neg hf, if_neg hf]
        dsimp only
        rw [byte_eq]
        cases mByte b NEW r.2.2 with
        | error e => rfl
        | ok q => 
          dsimp only [addNode]
          rw [hs]
theorem in3 (k : Nat) : decide (k < 3) = decide (k ∈ [0, 1, 2]) := by
  refine decide_eq_decide.mpr ?_
  simp only [List.mem_cons, List.not_mem_nil, or_false]
  omega
theorem in01 (k : Nat) : decide (k ≤ 1) = decide (k ∈ [0, 1]) := by
  refine decide_eq_decide.mpr ?_
  simp only [List.mem_cons, List.not_mem_nil, or_false]
  omega
theorem in3' (k : Nat) : (k == 3) = decide (k ∈ [3]) := by
  rw [Bool.beq_eq_decide_eq]
  refine decide_eq_decide.mpr ?_
  simp only [List.mem_cons, List.not_mem_nil, or_false]
theorem in12 (k : Nat) : (k == 1 || k == 2) = decide (k ∈ [1, 2]) := by
  rw [Bool.beq_eq_decide_eq, Bool.beq_eq_decide_eq, ← Bool.decide_or]
  refine decide_eq_decide.mpr ?_
  simp only [List.mem_cons, List.not_mem_nil, or_false]
theorem kindOf_words {w : Bytes} {k : Nat} (h : kindOf w = some k) : w ≠ ascii "safe" ∧ w ≠ ascii "late" ∧ w ≠ ascii "member" ∧ w ≠ ascii "send" := by
  unfold kindOf at h
  split at h
  · rename_i e; rw [e]; decide
  · split at h
    · rename_i e; rw [e]; decide
    · split at h
      · rename_i e; rw [e]; decide
      · split at h
        · rename_i e; rw [e]; decide
        · cases h
theorem mRest_other {b : Bytes} {d : Desk} {p : Nat} (h : wordAt b p ≠ ascii "safe" ∧ wordAt b p ≠ ascii "late" ∧ wordAt b p ≠ ascii "member" ∧ wordAt b p ≠ ascii "send") : mRest b d p = .error ⟨1, p⟩ := by
  unfold mRest
  dsimp only
  rw [if_neg h.1, if_neg h.2.1, if_neg h.2.2.1, if_neg h.2.2.2]
theorem setting_eq (b : Bytes) (d : Desk) (p : Nat) (h48 : d.sends.length ≤ 48) (f : Rd Setting) (hf : settingOf d (wordAt b p) = some f) :
    ((if wordAt b p = ascii "send" ∧ d.sends.length = SENDS then Except.error ⟨4, p⟩ else match f ⟨b.drop (p + (wordAt b p).length), p + (wordAt b p).length⟩ with
      | .error e => .error e
      | .ok x => .ok (addSet d x.1, x.2)) : Except Fault (Desk × At)) = match mRest b d p with
      | .error e => .error e
      | .ok r => .ok (r.1, ⟨b.drop r.2, r.2⟩) := by
  unfold mRest
  dsimp only
  generalize hp : p + (wordAt b p).length = p'
  unfold settingOf at hf
  by_cases h1 : wordAt b p = ascii "safe"
  · rw [if_pos h1] at hf
    cases hf
    rw [if_pos h1, if_neg (fun z => absurd (h1.symm.trans z.1) (by decide))]
    unfold Rd.then
    rw [node_two b d [0, 1, 2] (fun x => !d.isSafe x) _ (fun x => by unfold Desk.isSound; rw [in3])]
    unfold mSafe
    cases mTold b d [0, 1, 2] p' with
    | error e => rfl
    | ok r =>
      dsimp only
      cases d.isSafe r.1 <;> rfl
  · rw [if_neg h1] at hf ⊢
    by_cases h2 : wordAt b p = ascii "late"
    · rw [if_pos h2] at hf
      cases hf
      rw [if_pos h2, if_neg (fun z => absurd (h2.symm.trans z.1) (by decide))]
      unfold Rd.then
      rw [node_two b d [0, 1, 2] (fun x => d.late x == 0) _ (fun x => by unfold Desk.isSound; rw [in3])]
      unfold mLate
      cases mTold b d [0, 1, 2] p' with
      | error e => rfl
      | ok r =>
        dsimp only
        by_cases hl : d.late r.1 = 0
        · rw [if_pos (by rw [hl]; rfl), if_neg (fun z => z hl)]
          dsimp only
          rw [show LATE = 63 from rfl, num_eq]
          cases mNum b 1 63 r.2.2 with
          | error e => rfl
          | ok n => rfl
        · rw [if_neg (by simpa using hl), if_pos hl]
    · rw [if_neg h2] at hf ⊢
      by_cases h3 : wordAt b p = ascii "member"
      · rw [if_pos h3] at hf
        cases hf
        rw [if_pos h3, if_neg (fun z => absurd (h3.symm.trans z.1) (by decide))]
        unfold Rd.then
        rw [node_two b d [3] (fun _ => true) _ (fun x => by rw [in3', Bool.and_true])]
        unfold mMember
        cases mTold b d [3] p' with
        | error e => rfl
        | ok g =>
          dsimp only
          rw [if_pos rfl]
          dsimp only
          rw [node_two b d [0, 1, 2] (fun x => !d.isMember g.1 x) _ (fun x => by unfold Desk.isSound; rw [in3])]
          cases mTold b d [0, 1, 2] g.2.2 with
          | error e => rfl
          | ok r =>
            dsimp only
            cases d.isMember g.1 r.1 <;> rfl
      · rw [if_neg h3] at hf ⊢
        by_cases h4 : wordAt b p = ascii "send"
        · rw [if_pos h4] at hf
          cases hf
          rw [if_pos h4]
          unfold mSend
          by_cases hc : d.sends.length = 48
          · rw [if_pos ⟨h4, hc⟩, if_pos (by omega)]
          · rw [if_neg (fun z => hc z.2), if_neg (by omega)]
            unfold Rd.then
            rw [node_two b d [0, 1] (fun _ => true) _ (fun x => by rw [in01, Bool.and_true])]
            cases mTold b d [0, 1] p' with
            | error e => rfl
            | ok a =>
              dsimp only
              rw [if_pos rfl]
              dsimp only
              rw [node_two b d [1, 2] (fun x => decide (a.1 < x) && !between d a.1 x) _ (fun x => by rw [in12]; rfl)]
              cases mTold b d [1, 2] a.2.2 with
              | error e => rfl
              | ok x =>
                dsimp only
                by_cases hx : x.1 ≤ a.1 ∨ between d a.1 x.1 = true
                · rw [if_pos hx, if_neg]
                  intro z
                  rw [Bool.and_eq_true, decide_eq_true_eq, Bool.not_eq_true'] at z
                  rcases hx with hx | hx
                  · omega
                  · rw [z.2] at hx; cases hx
                · rw [if_neg hx, if_pos]
                  · dsimp only
                    rw [show TOP = 65535 from rfl, num_eq]
                    cases mNum b 0 65535 x.2.2 with
                    | error e => rfl
                    | ok g =>
                      dsimp only
                      rw [how_eq]
                      cases mPre b g.2 with
                      | error e => rfl
                      | ok h => rfl
                  · rw [Bool.and_eq_true, decide_eq_true_eq, Bool.not_eq_true']
                    refine ⟨by omega, ?_⟩
                    cases hb : between d a.1 x.1 with
                    | false => rfl
                    | true => exact absurd (.inr hb) hx
        · rw [if_neg h4] at hf
          cases hf
theorem settingOf_none {d : Desk} {w : Bytes} (h : settingOf d w = none) : w ≠ ascii "safe" ∧ w ≠ ascii "late" ∧ w ≠ ascii "member" ∧ w ≠ ascii "send" := by
  unfold settingOf at h
  split at h
  · cases h
  · split at h
    · cases h
    · split at h
      · cases h
      · split at h
        · cases h
        · exact ⟨by assumption, by assumption, by assumption, by assumption⟩
theorem linesIn_setting {b : Bytes} {n : Nat} {d : Desk} {p : Nat} (hne : b.drop p ≠ []) (hs : d.settings ≠ [] ∨ kindOf (wordAt b p) = none) (h48 : d.sends.length ≤ 48) :
    linesIn (n + 1) d ⟨b.drop p, p⟩ = match mSetting b d p with
      | .error e => .error e
      | .ok r => linesIn n r.1 ⟨b.drop r.2, r.2⟩ := by
  unfold mSetting
  by_cases hw : wordAt b p = []
  · rw [linesIn_word hne hw, mRest_other (by rw [hw]; decide)]
  · conv => lhs; unfold linesIn
    rw [if_neg hne, word_eq, if_neg hw]
    dsimp only
    cases hk : kindOf (wordAt b p) with
    | some k =>
      dsimp only
      have he : d.settings.isEmpty = false := by
        rcases hs with hs | hs
        · cases hd : d.settings with
          | nil => exact absurd hd hs
          | cons _ _ => rfl
        · rw [hs] at hk; cases hk
      rw [if_pos he, mRest_other (kindOf_words hk)]
    | none =>
      dsimp only
      cases hf : settingOf d (wordAt b p) with
      | none =>
        dsimp only
        rw [mRest_other (settingOf_none hf)]
      | some f =>
        dsimp only
        have e := setting_eq b d p h48 f hf
        by_cases h4 : wordAt b p = ascii "send" ∧ d.sends.length = SENDS
        · rw [if_pos h4] at e ⊢
          cases hr : mRest b d p with
          | error e' => rw [hr] at e; cases e; rfl
          | ok r => rw [hr] at e; cases e
        · rw [if_neg h4] at e ⊢
          unfold Rd.then
          cases hx : f ⟨b.drop (p + (wordAt b p).length), p + (wordAt b p).length⟩ with
          | error e' =>
            rw [hx] at e
            cases hr : mRest b d p with
            | error e'' => rw [hr] at e; cases e; rfl
            | ok r => rw [hr] at e; cases e
          | ok x =>
            rw [hx] at e
            cases hr : mRest b d p with
            | error e'' => rw [hr] at e; cases e
            | ok r =>
              rw [hr] at e
              dsimp only at e ⊢
              have e1 := congrArg Prod.fst (Except.ok.inj e)
              have e2 := congrArg Prod.snd (Except.ok.inj e)
              dsimp only at e1 e2
              rw [e2, byte_eq]
              cases mByte b NEW r.2 with
              | error e'' => rfl
              | ok q =>
                dsimp only
                rw [← e1]
                rfl
def OkSet (d : Desk) : Setting → Prop
  | .safe x => d.kind x < 3 ∧ d.isSafe x = false
  | .late x n => d.kind x < 3 ∧ d.late x = 0 ∧ 1 ≤ n ∧ n ≤ 63
  | .member g x => d.kind g = 3 ∧ d.kind x < 3 ∧ d.isMember g x = false
  | .send q => d.sends.length < 48 ∧ d.kind q.src ≤ 1 ∧ (d.kind q.dst = 1 ∨ d.kind q.dst = 2) ∧ q.src < q.dst ∧ between d q.src q.dst = false ∧ q.gain ≤ 65535
theorem mem3 {k : Nat} (h : k ∈ [0, 1, 2]) : k < 3 := by
  simp only [List.mem_cons, List.not_mem_nil, or_false] at h
  omega
theorem mRest_ok {b : Bytes} {d : Desk} {p : Nat} {r : Desk × Nat} (h : mRest b d p = .ok r) : p < r.2 ∧ r.2 ≤ b.length ∧ ∃ s, r.1 = addSet d s ∧ OkSet d s := by
  unfold mRest at h
  dsimp only at h
  split at h
  · unfold mSafe at h
    split at h
    · cases h
    · rename_i r' hr
      obtain ⟨h1, h2, h3, h4, h5, _⟩ := mTold_ok hr
      split at h
      · cases h
      · rename_i hf
        cases h
        exact ⟨by dsimp only; omega, h4, _, rfl, mem3 h5, by simpa using hf⟩
  · split at h
    · unfold mLate at h
      split at h
      · cases h
      · rename_i r' hr
        obtain ⟨h1, h2, h3, h4, h5, _⟩ := mTold_ok hr
        split at h
        · cases h
        · rename_i hf
          split at h
          · cases h
          · rename_i n hn
            obtain ⟨h6, h7, h8, h9⟩ := mNum_ok hn
            cases h
            exact ⟨by dsimp only; omega, h7, _, rfl, mem3 h5, by simpa using hf, h8, h9⟩
    · split at h
      · unfold mMember at h
        split at h
        · cases h
        · rename_i g hg
          obtain ⟨h1, h2, h3, h4, h5, _⟩ := mTold_ok hg
          split at h
          · cases h
          · rename_i r' hr
            obtain ⟨i1, i2, i3, i4, i5, _⟩ := mTold_ok hr
            split at h
            · cases h
            · rename_i hf
              cases h
              exact ⟨by dsimp only; omega, i4, _, rfl, by simpa using h5, mem3 i5, by simpa using hf⟩
      · split at h
        · unfold mSend at h
          split at h
          · cases h
          · rename_i h48
            split at h
            · cases h
            · rename_i a ha
              obtain ⟨h1, h2, h3, h4, h5, _⟩ := mTold_ok ha
              split at h
              · cases h
              · rename_i x hx
                obtain ⟨i1, i2, i3, i4, i5, _⟩ := mTold_ok hx
                split at h
                · cases h
                · rename_i hf
                  split at h
                  · cases h
                  · rename_i g hg
                    obtain ⟨j1, j2, j3, j4⟩ := mNum_ok hg
                    split at h
                    · cases h
                    · rename_i q hq
                      obtain ⟨k1, k2⟩ := mPre_ok hq
                      cases h
                      simp only [List.mem_cons, List.not_mem_nil, or_false] at h5 i5
                      refine ⟨by dsimp only; omega, k2, _, rfl, by omega, by dsimp only; omega, i5, by dsimp only; omega, ?_, j4⟩
                      cases hb : between d a.1 x.1 with
                      | false => rfl
                      | true => exact absurd (.inr hb) hf
        · cases h
theorem mSetting_ok {b : Bytes} {d : Desk} {p : Nat} {r : Desk × Nat} (h : mSetting b d p = .ok r) : p < r.2 ∧ r.2 ≤ b.length ∧ ∃ s, r.1 = addSet d s ∧ OkSet d s := by
  unfold mSetting at h
  split at h
  · cases h
  · rename_i r' hr
    obtain ⟨h1, h2, h3⟩ := mRest_ok hr
    split at h
    · cases h
    · rename_i q hq
      obtain ⟨rfl, h4⟩ := mByte_ok hq
      cases h
      exact ⟨by dsimp only; omega, by dsimp only; omega, h3⟩
inductive Fits (ns : List Node) : List Setting → Prop
  | nil : Fits ns []
  | snoc {l : List Setting} {s : Setting} : Fits ns l → OkSet ⟨ns, l⟩ s → Fits ns (l ++ [s])
structure Good (d : Desk) : Prop where
  kinds : ∀ n ∈ d.nodes, n.kind ≤ 3
  cnt : ∀ k, d.counts k ≤ most k
  names : ∀ n ∈ d.nodes, isName n.name = true
  nd : (d.nodes.map fun n => n.name).Nodup
  fits : Fits d.nodes d.settings
theorem good_nil : Good ⟨[], []⟩ := ⟨by simp, fun k => Nat.zero_le _, by simp, by simp, .nil⟩
theorem find_none {d : Desk} {w : Bytes} (h : d.find w = none) : ∀ n ∈ d.nodes, n.name ≠ w := by
  unfold Desk.find at h
  rw [List.findIdx?_eq_none_iff] at h
  intro n hn e
  have := h n hn
  rw [e] at this
  simp at this
theorem good_node {d : Desk} {k : Nat} {w : Bytes} (g : Good d) (hs : d.settings = []) (hk : k ≤ 3) (hc : d.counts k < most k) (hn : isName w = true) (hf : d.find w = none) : Good (addNode d k w) := by
  refine ⟨fun n h => ?_, fun j => ?_, fun n h => ?_, ?_, ?_⟩
  · rcases List.mem_append.mp h with h | h
    · exact g.kinds n h
    · rw [List.mem_singleton.mp h]; exact hk
  · unfold addNode Desk.counts
    dsimp only
    rw [List.filter_append, List.length_append]
    have := g.cnt j
    unfold Desk.counts at this hc
    by_cases hj : k = j
    · subst hj
      rw [List.filter_cons, if_pos (by simp)]
      simp only [List.filter_nil, List.length_cons, List.length_nil]
      omega
    · rw [List.filter_cons, if_neg (by simpa using hj)]
      simpa using this
  · rcases List.mem_append.mp h with h | h
    · exact g.names n h
    · rw [List.mem_singleton.mp h]; exact hn
  · unfold addNode
    dsimp only
    rw [List.map_append, List.nodup_append]
    refine ⟨g.nd, by simp, ?_⟩
    intro a ha c hc' e
    simp only [List.map_cons, List.map_nil, List.mem_singleton] at hc'
    subst hc'
    obtain ⟨n, hn1, hn2⟩ := List.mem_map.mp ha
    exact find_none hf n hn1 (hn2.trans e)
  · unfold addNode
    dsimp only
    rw [hs]
    exact .nil
theorem good_set {d : Desk} {s : Setting} (g : Good d) (h : OkSet d s) : Good (addSet d s) := ⟨g.kinds, g.cnt, g.names, g.nd, .snoc g.fits h⟩
theorem sends_add (d : Desk) (s : Setting) : (addSet d s).sends = d.sends ++ (sendIn s).toList := by
  unfold Desk.sends addSet
  dsimp only
  rw [List.filterMap_append]
  cases s <;> rfl
theorem Fits.s48 {ns : List Node} {l : List Setting} (h : Fits ns l) : (Desk.sends ⟨ns, l⟩).length ≤ 48 := by
  induction h with
  | nil => exact Nat.zero_le _
  | @snoc l s _ ok ih =>
    have e := sends_add ⟨ns, l⟩ s
    unfold addSet at e
    dsimp only at e
    rw [e, List.length_append]
    cases s with
    | send q =>
      have := ok.1
      simp only [sendIn, Option.toList_some, List.length_cons, List.length_nil]
      omega
    | _ => simpa [sendIn] using ih
theorem Good.s48 {d : Desk} (g : Good d) : d.sends.length ≤ 48 := g.fits.s48
theorem kindOf_le {w : Bytes} {k : Nat} (h : kindOf w = some k) : k ≤ 3 := by
  unfold kindOf at h
  split at h
  · cases h; decide
  · split at h
    · cases h; decide
    · split at h
      · cases h; decide
      · split at h
        · cases h; decide
        · cases h
theorem addSet_ne (d : Desk) (s : Setting) : (addSet d s).settings ≠ [] := by
  unfold addSet
  simp
theorem drop_nil {b : Bytes} {p : Nat} (h : b.length ≤ p) : b.drop p = [] := List.drop_eq_nil_iff.mpr h
theorem drop_ne {b : Bytes} {p : Nat} (h : p < b.length) : b.drop p ≠ [] := fun e => by
  have := List.drop_eq_nil_iff.mp e
  omega
theorem fuel (b : Bytes) : ∀ (k n m : Nat) (d : Desk) (p : Nat), Good d → b.length - p ≤ k → b.length - p < n → b.length - p < m →
    linesIn n d ⟨b.drop p, p⟩ = linesIn m d ⟨b.drop p, p⟩
  | k, 0, m, d, p, _, _, h, _ => by omega
  | k, n, 0, d, p, _, _, _, h => by omega
  | k, n + 1, m + 1, d, p, g, hk, hn, hm => by
    by_cases hp : b.length ≤ p
    · rw [linesIn_zero (drop_nil hp), linesIn_zero (drop_nil hp)]
    · cases k with
      | zero => omega
      | succ k =>
        by_cases hc : d.settings = [] ∧ (kindOf (wordAt b p)).isSome = true
        · obtain ⟨hs, hk'⟩ := hc
          obtain ⟨j, hj⟩ := Option.isSome_iff_exists.mp hk'
          rw [linesIn_node hj hs (g.cnt j), linesIn_node hj hs (g.cnt j)]
          cases hr : mNode b d j p with
          | error e => rfl
          | ok r =>
            dsimp only
            obtain ⟨h1, h2, h3, w, h4, h5, h6⟩ := mNode_ok hr
            exact fuel b k n m r.1 r.2 (by rw [h6]; exact good_node g hs (kindOf_le hj) h3 h4 h5) (by omega) (by omega) (by omega)
        · have hs : d.settings ≠ [] ∨ kindOf (wordAt b p) = none := by
            by_cases hs : d.settings = []
            · right
              cases hk' : kindOf (wordAt b p) with
              | none => rfl
              | some j => exact absurd ⟨hs, by rw [hk']; rfl⟩ hc
            · exact .inl hs
          rw [linesIn_setting (drop_ne (by omega)) hs g.s48, linesIn_setting (drop_ne (by omega)) hs g.s48]
          cases hr : mSetting b d p with
          | error e => rfl
          | ok r =>
            dsimp only
            obtain ⟨h1, h2, s, h3, h4⟩ := mSetting_ok hr
            exact fuel b k n m r.1 r.2 (by rw [h3]; exact good_set g h4) (by omega) (by omega) (by omega)
structure Fine (d : Desk) : Prop where
  good : Good d
  sz : d.nodes.length + d.settings.length ≤ 4096
def L (b : Bytes) (d : Desk) (p : Nat) : Except Fault Desk := match linesIn (b.length - p + 1) d ⟨b.drop p, p⟩ with
  | .ok x => .ok x.1
  | .error e => .error e
theorem L_start (b : Bytes) : readDesk b = L b ⟨[], []⟩ 0 := rfl
theorem L_end {b : Bytes} {d : Desk} {p : Nat} (h : b.length ≤ p) : L b d p = .ok d := by
  unfold L
  rw [linesIn_zero (drop_nil h)]
theorem L_node {b : Bytes} {d : Desk} {k p : Nat} (g : Good d) (hs : d.settings = []) (hk : kindOf (wordAt b p) = some k) : L b d p = match mNode b d k p with
    | .error e => .error e
    | .ok r => L b r.1 r.2 := by
  unfold L
  rw [linesIn_node hk hs (g.cnt k)]
  cases hr : mNode b d k p with
  | error e => rfl
  | ok r =>
    dsimp only
    obtain ⟨h1, h2, h3, w, h4, h5, h6⟩ := mNode_ok hr
    rw [fuel b (b.length - r.2) (b.length - p) (b.length - r.2 + 1) r.1 r.2 (by rw [h6]; exact good_node g hs (kindOf_le hk) h3 h4 h5) (Nat.le_refl _) (by omega) (by omega)]
theorem L_setting {b : Bytes} {d : Desk} {p : Nat} (g : Good d) (hp : p < b.length) (hs : d.settings ≠ [] ∨ kindOf (wordAt b p) = none) : L b d p = match mSetting b d p with
    | .error e => .error e
    | .ok r => L b r.1 r.2 := by
  unfold L
  rw [linesIn_setting (drop_ne hp) hs g.s48]
  cases hr : mSetting b d p with
  | error e => rfl
  | ok r =>
    dsimp only
    obtain ⟨h1, h2, s, h3, h4⟩ := mSetting_ok hr
    rw [fuel b (b.length - r.2) (b.length - p) (b.length - r.2 + 1) r.1 r.2 (by rw [h3]; exact good_set g h4) (Nat.le_refl _) (by omega) (by omega)]
end Md
end
section
set_option linter.all false
namespace Md
open Mix
structure SendOk (d : Desk) (q : Send) : Prop where
  lt : q.src < q.dst
  ks : d.kind q.src ≤ 1
  kd : d.kind q.dst = 1 ∨ d.kind q.dst = 2
  gn : q.gain ≤ 65535
theorem Fits.send {ns : List Node} {l : List Setting} (h : Fits ns l) : (∀ q ∈ Desk.sends ⟨ns, l⟩, SendOk ⟨ns, l⟩ q) ∧ ∀ i, (((Desk.sends ⟨ns, l⟩).filter fun s => s.src == i).map fun s => s.dst).Nodup := by
  induction h with
  | nil =>
    refine ⟨fun q hq => ?_, fun i => ?_⟩
    · simp [Desk.sends] at hq
    · simp [Desk.sends]
  | @snoc l s _ ok ih =>
    have e := sends_add ⟨ns, l⟩ s
    unfold addSet at e
    dsimp only at e
    have kk : ∀ x, Desk.kind ⟨ns, l ++ [s]⟩ x = Desk.kind ⟨ns, l⟩ x := fun x => rfl
    rw [e]
    cases s with
    | send p =>
      obtain ⟨o1, o2, o3, o4, o5, o6⟩ := ok
      refine ⟨fun q hq => ?_, fun i => ?_⟩
      · rcases List.mem_append.mp hq with h | h
        · obtain ⟨a, b, c, d⟩ := ih.1 q h
          exact ⟨a, b, c, d⟩
        · have : q = p := by simpa [sendIn] using h
          subst this
          exact ⟨o4, o2, o3, o6⟩
      · simp only [sendIn, Option.toList_some, List.filter_append, List.map_append]
        rw [List.nodup_append]
        refine ⟨ih.2 i, ?_, ?_⟩
        · rw [List.filter_cons]
          split <;> simp
        · intro a ha c hc e2
          subst e2
          rw [List.filter_cons] at hc
          split at hc
          · rename_i hi
            have hc : a = p.dst := by simpa using hc
            obtain ⟨q, hq, rfl⟩ := List.mem_map.mp ha
            obtain ⟨hq1, hq2⟩ := List.mem_filter.mp hq
            have hb : between ⟨ns, l⟩ p.src p.dst = true := by
              unfold between
              rw [List.any_eq_true]
              refine ⟨q, hq1, ?_⟩
              have e3 : q.src = i := by simpa using hq2
              have e4 : p.src = i := by simpa using hi
              simp [e3, e4, hc]
            rw [o5] at hb
            cases hb
          · simp at hc
    | safe x =>
      refine ⟨fun q hq => ?_, fun i => ?_⟩
      · obtain ⟨a, b, c, d⟩ := ih.1 q (by simpa [sendIn] using hq)
        exact ⟨a, b, c, d⟩
      · simpa [sendIn] using ih.2 i
    | late x n =>
      refine ⟨fun q hq => ?_, fun i => ?_⟩
      · obtain ⟨a, b, c, d⟩ := ih.1 q (by simpa [sendIn] using hq)
        exact ⟨a, b, c, d⟩
      · simpa [sendIn] using ih.2 i
    | member x n =>
      refine ⟨fun q hq => ?_, fun i => ?_⟩
      · obtain ⟨a, b, c, d⟩ := ih.1 q (by simpa [sendIn] using hq)
        exact ⟨a, b, c, d⟩
      · simpa [sendIn] using ih.2 i
theorem Good.send {d : Desk} (g : Good d) {q : Send} (h : q ∈ d.sends) : SendOk d q := g.fits.send.1 q h
theorem lt_size {d : Desk} {x : Nat} (h : d.kind x < 4) : x < d.size := by
  unfold Desk.kind at h
  unfold Desk.size
  cases e : d.nodes[x]? with
  | none => rw [e] at h; simp at h
  | some n => exact (List.getElem?_eq_some_iff.mp e).1
theorem Good.dst {d : Desk} (g : Good d) {q : Send} (h : q ∈ d.sends) : q.dst < d.size := lt_size (by have := (g.send h).kd; omega)
theorem Good.src {d : Desk} (g : Good d) {q : Send} (h : q ∈ d.sends) : q.src < d.size := Nat.lt_trans (g.send h).lt (g.dst h)
theorem sorted_lt : ∀ {l : List Nat}, l.Pairwise (· < ·) → l.Pairwise (· ≤ ·) := fun h => h.imp fun a => Nat.le_of_lt a
theorem eq_of_sorted : ∀ {l m : List Nat}, l.Perm m → l.Pairwise (· ≤ ·) → m.Pairwise (· ≤ ·) → l = m := fun h a b => h.eq_of_pairwise (fun x y _ _ h1 h2 => Nat.le_antisymm h1 h2) a b
theorem mem_next {d : Desk} {a x : Nat} : x ∈ d.next a ↔ x < d.size ∧ ∃ s ∈ d.sends, s.src = a ∧ s.dst = x := by
  unfold Desk.next
  rw [List.mem_filter, List.mem_range, List.any_eq_true]
  simp
theorem next_gt {d : Desk} (g : Good d) {a x : Nat} (h : x ∈ d.next a) : a < x ∧ x < d.size := by
  obtain ⟨h1, s, h2, h3, h4⟩ := mem_next.mp h
  have := (g.send h2).lt
  exact ⟨by omega, h1⟩
theorem four : ∀ (ns : List Node), (∀ n ∈ ns, n.kind ≤ 3) → ns.length = (ns.filter fun n => n.kind == 0).length + (ns.filter fun n => n.kind == 1).length + (ns.filter fun n => n.kind == 2).length + (ns.filter fun n => n.kind == 3).length
  | [], _ => rfl
  | n :: r, h => by
    have ih := four r fun m hm => h m (List.mem_cons_of_mem _ hm)
    have hk := h n (List.mem_cons_self ..)
    have : n.kind = 0 ∨ n.kind = 1 ∨ n.kind = 2 ∨ n.kind = 3 := by omega
    rcases this with e | e | e | e <;> simp [List.filter_cons, e] <;> omega
theorem Good.size {d : Desk} (g : Good d) : d.size ≤ 24 := by
  have h := four d.nodes g.kinds
  have h0 := g.cnt 0
  have h1 := g.cnt 1
  have h2 := g.cnt 2
  have h3 := g.cnt 3
  unfold Desk.counts at h0 h1 h2 h3
  unfold most at h0 h1 h2 h3
  unfold Desk.size
  simp at h0 h1 h2 h3
  omega
end Md
end
section
set_option linter.all false
namespace Md
open Mix
def mx (l : List Nat) : Nat := l.foldl max 0
theorem arr_size (d : Desk) : ∀ n, (d.arrivals n).size = n
  | 0 => rfl
  | n + 1 => by
    unfold Desk.arrivals
    rw [Array.size_push, arr_size d n]
theorem arr_old (d : Desk) {x n : Nat} (h : x < n) : (d.arrivals (n + 1)).getD x none = (d.arrivals n).getD x none := by
  conv => lhs; unfold Desk.arrivals
  simp only [Array.getD_eq_getD_getElem?]
  rw [Array.getElem?_push_lt (by rw [arr_size]; exact h)]
  rw [Array.getElem?_eq_getElem (by rw [arr_size]; exact h)]
theorem arr_stay (d : Desk) {x : Nat} : ∀ {m n : Nat}, x < n → n ≤ m → (d.arrivals m).getD x none = (d.arrivals n).getD x none
  | 0, n, h, hm => by omega
  | m + 1, n, h, hm => by
    by_cases e : n = m + 1
    · rw [e]
    · rw [arr_old d (show x < m by omega), arr_stay d h (by omega)]
def arr (d : Desk) (x : Nat) : Option Nat := (d.arrivals d.size).getD x none
def inF (d : Desk) (x : Nat) (q : Send) : Option Nat := if q.dst = x then (arr d q.src).map (fun t => t + d.late q.src) else none
theorem arr_none {d : Desk} {x : Nat} (h : d.size ≤ x) : arr d x = none := by
  unfold arr
  rw [Array.getD_eq_getD_getElem?, Array.getElem?_eq_none (by rw [arr_size]; exact h)]
  rfl
theorem arr_eq {d : Desk} (g : Good d) {x : Nat} (h : x < d.size) : arr d x = if d.kind x = 0 then some 0 else if d.sends.filterMap (inF d x) = [] then none else some (mx (d.sends.filterMap (inF d x))) := by
  unfold arr
  rw [arr_stay d (show x < x + 1 by omega) (show x + 1 ≤ d.size by omega)]
  conv => lhs; unfold Desk.arrivals
  dsimp only
  rw [Array.getD_eq_getD_getElem?]
  have e1 : ∀ v, ((d.arrivals x).push v)[x]? = some v := fun v => by
    have := Array.getElem?_push_size (xs := d.arrivals x) (x := v)
    rwa [arr_size] at this
  rw [e1]
  have e2 : (d.sends.filterMap fun (q : Send) => if q.dst = x then ((d.arrivals x).getD q.src none).map (fun (t : Nat) => t + d.late q.src) else none) = d.sends.filterMap (inF d x) := by
    have : ∀ l : List Send, (∀ q ∈ l, q ∈ d.sends) → (l.filterMap fun (q : Send) => if q.dst = x then ((d.arrivals x).getD q.src none).map (fun (t : Nat) => t + d.late q.src) else none) = l.filterMap (inF d x) := fun l => by
      induction l with
      | nil => exact fun _ => rfl
      | cons q r ih =>
        intro hq
        have hr := ih fun p hp => hq p (List.mem_cons_of_mem _ hp)
        have e : (if q.dst = x then ((d.arrivals x).getD q.src none).map (fun (t : Nat) => t + d.late q.src) else none) = inF d x q := by
          unfold inF
          by_cases c : q.dst = x
          · rw [if_pos c, if_pos c]
            have := (g.send (hq q (List.mem_cons_self ..))).lt
            unfold arr
            rw [arr_stay d (x := q.src) (m := d.size) (n := x) (show q.src < x by omega) (by omega)]
          · rw [if_neg c, if_neg c]
        rw [List.filterMap_cons, List.filterMap_cons, e, hr]
    exact this _ fun _ h => h
  rw [e2]
  rfl
theorem fed_eq {d : Desk} (g : Good d) (x : Nat) : (arr d x).isSome = (decide (d.kind x = 0) || d.sends.any fun q => q.dst == x && (arr d q.src).isSome) := by
  by_cases h : x < d.size
  · rw [arr_eq g h]
    by_cases c : d.kind x = 0
    · rw [if_pos c, decide_eq_true c]
      rfl
    · rw [if_neg c, decide_eq_false c, Bool.false_or]
      have e : (d.sends.any fun q => q.dst == x && (arr d q.src).isSome) = !(d.sends.filterMap (inF d x)).isEmpty := by
        generalize d.sends = l
        induction l with
        | nil => rfl
        | cons q r ih =>
          rw [List.any_cons, ih, List.filterMap_cons]
          by_cases c2 : q.dst = x
          · have e3 : (q.dst == x) = true := by simpa using c2
            rw [e3]
            cases e4 : arr d q.src with
            | none =>
              have : inF d x q = none := by unfold inF; rw [if_pos c2, e4]; rfl
              rw [this]
              rfl
            | some t =>
              have : inF d x q = some (t + d.late q.src) := by unfold inF; rw [if_pos c2, e4]; rfl
              rw [this]
              rfl
          · have e3 : (q.dst == x) = false := by simpa using c2
            have : inF d x q = none := by unfold inF; rw [if_neg c2]
            rw [e3, this]
            rfl
      rw [e]
      by_cases c3 : d.sends.filterMap (inF d x) = []
      · rw [if_pos c3, c3]
        rfl
      · rw [if_neg c3]
        cases e5 : d.sends.filterMap (inF d x) with
        | nil => exact absurd e5 c3
        | cons _ _ => rfl
  · rw [arr_none (by omega)]
    have k4 : d.kind x = 4 := by
      unfold Desk.kind
      rw [List.getElem?_eq_none (show d.nodes.length ≤ x by unfold Desk.size at h; omega)]
      rfl
    rw [k4]
    have : (d.sends.any fun q => q.dst == x && (arr d q.src).isSome) = false := by
      rw [List.any_eq_false]
      intro q hq
      have := g.dst hq
      have e : (q.dst == x) = false := by simp; omega
      rw [e]
      simp
    rw [this]
    rfl
def cOf (d : Desk) (x : Nat) : Nat := (arr d x).getD 0
end Md
end
section
set_option linter.all false
namespace Md
open Mix
theorem getD_range {α : Type} {n x : Nat} (h : x < n) (F : Nat → α) (z : α) : ((List.range n).map F).toArray.getD x z = F x := by
  rw [Array.getD_eq_getD_getElem?]
  simp [h]
theorem rd_kind {d : Desk} {x : Nat} (h : x < d.size) : d.ready.kind x = d.kind x := getD_range h d.kind 4
theorem rd_group {d : Desk} {x : Nat} (h : x < d.size) : d.ready.group x = d.groups x := getD_range h d.groups []
end Md
end
section
set_option linter.all false
namespace Md
open Mix
def wt2 (d : Desk) (x y : Nat) : Nat := if (arr d x).isSome = true then cOf d y - (cOf d x + d.late x) else 0
theorem feed_eq {d : Desk} (g : Good d) {b : Nat} (hb : b < d.size) : d.ready.feed b = (d.sends.filter fun (p : Send) => p.dst == b).map fun (p : Send) => (⟨p.src, p.gain, p.pre, wt2 d p.src p.dst⟩ : Feed) := by
  refine (getD_range hb _ _).trans ?_
  refine List.map_congr_left fun p hp => ?_
  have hp1 := (List.mem_filter.mp hp).1
  have ew : (match arr d p.src, arr d p.dst with | some t, some u => u - (t + d.late p.src) | _, _ => 0) = wt2 d p.src p.dst := by
    unfold wt2 cOf
    cases e : arr d p.src with
    | none => rfl
    | some t =>
      have : (arr d p.dst).isSome = true := by
        rw [fed_eq g p.dst]
        simp only [Bool.or_eq_true, List.any_eq_true]
        exact .inr ⟨p, hp1, by rw [e]; simp⟩
      cases e2 : arr d p.dst with
      | none => rw [e2] at this; cases this
      | some u => rfl
  exact congrArg (fun z => (⟨p.src, p.gain, p.pre, z⟩ : Feed)) ew
end Md
end
section
set_option linter.all false
namespace Md
open Mix
def setBy (f : (Nat → Bool) → Nat → Bool) (s : Array Bool) (a : Nat) : Array Bool := s.setIfInBounds a (f (fun x => s.getD x false) a)
theorem getD_set (s : Array Bool) (a x : Nat) (v : Bool) : (s.setIfInBounds a v).getD x false = if a = x ∧ a < s.size then v else s.getD x false := by
  rw [Array.getD_eq_getD_getElem?, Array.getD_eq_getD_getElem?, Array.getElem?_setIfInBounds]
  by_cases c : a = x
  · subst c
    by_cases c2 : a < s.size
    · simp [c2]
    · simp [c2]
  · simp [c]
theorem fold_fix (f : (Nat → Bool) → Nat → Bool) (loc : ∀ s s' a, (∀ y, a < y → s y = s' y) → f s a = f s' a) : ∀ (n : Nat) (s0 : Array Bool), n ≤ s0.size →
    ((List.range n).reverse.foldl (setBy f) s0).size = s0.size ∧ (∀ x, n ≤ x → ((List.range n).reverse.foldl (setBy f) s0).getD x false = s0.getD x false) ∧ ∀ x, x < n → ((List.range n).reverse.foldl (setBy f) s0).getD x false = f (fun y => ((List.range n).reverse.foldl (setBy f) s0).getD y false) x
  | 0, s0, _ => ⟨rfl, fun _ _ => rfl, fun x hx => by omega⟩
  | n + 1, s0, h => by
    have e : (List.range (n + 1)).reverse.foldl (setBy f) s0 = (List.range n).reverse.foldl (setBy f) (setBy f s0 n) := by
      rw [List.range_succ, List.reverse_append]
      rfl
    have sz : (setBy f s0 n).size = s0.size := by unfold setBy; simp
    obtain ⟨i1, i2, i3⟩ := fold_fix f loc n (setBy f s0 n) (by omega)
    rw [e]
    refine ⟨by rw [i1, sz], fun x hx => ?_, fun x hx => ?_⟩
    · rw [i2 x (by omega)]
      unfold setBy
      rw [getD_set, if_neg (by omega)]
    · by_cases c : x < n
      · exact i3 x c
      · have : x = n := by omega
        subst this
        rw [i2 x (Nat.le_refl _)]
        conv => lhs; unfold setBy
        rw [getD_set, if_pos ⟨rfl, by omega⟩]
        refine loc _ _ x fun y hy => ?_
        rw [i2 y (by omega)]
        unfold setBy
        rw [getD_set, if_neg (by omega)]
def tw (d : Desk) (b a : Nat) : Bool := (d.towards b).getD a false
def twF (d : Desk) (b : Nat) (s : Nat → Bool) (a : Nat) : Bool := a == b || (d.next a).any s
theorem any_congr {α : Type} {l : List α} {p q : α → Bool} (h : ∀ x ∈ l, p x = q x) : l.any p = l.any q := by
  induction l with
  | nil => rfl
  | cons x r ih => rw [List.any_cons, List.any_cons, h x (List.mem_cons_self ..), ih fun y hy => h y (List.mem_cons_of_mem _ hy)]
theorem tw_fix {d : Desk} (g : Good d) (b : Nat) : (∀ x, x < d.size → tw d b x = twF d b (tw d b) x) ∧ ∀ x, d.size ≤ x → tw d b x = false := by
  have h := fold_fix (twF d b) (fun s s' a hs => by
    unfold twF
    congr 1
    exact any_congr fun x hx => hs x (next_gt g hx).1) d.size (List.replicate d.size false).toArray (by simp)
  refine ⟨fun x hx => h.2.2 x hx, fun x hx => ?_⟩
  have := h.2.1 x hx
  show ((List.range d.size).reverse.foldl (setBy (twF d b)) _).getD x false = false
  rw [this, Array.getD_eq_getD_getElem?, Array.getElem?_eq_none (by simpa using hx)]
  rfl
theorem tw_iff {d : Desk} (g : Good d) {a b : Nat} (hb : b < d.size) : tw d b a = true ↔ a = b ∨ ∃ q ∈ d.sends, q.src = a ∧ tw d b q.dst = true := by
  by_cases ha : a < d.size
  · rw [(tw_fix g b).1 a ha]
    unfold twF
    rw [Bool.or_eq_true, List.any_eq_true, beq_iff_eq]
    constructor
    · rintro (h | ⟨x, hx, h⟩)
      · exact .inl h
      · obtain ⟨_, s, h1, h2, h3⟩ := mem_next.mp hx
        exact .inr ⟨s, h1, h2, by rw [h3]; exact h⟩
    · rintro (h | ⟨q, hq, h1, h2⟩)
      · exact .inl h
      · exact .inr ⟨q.dst, mem_next.mpr ⟨g.dst hq, q, hq, h1, rfl⟩, h2⟩
  · rw [(tw_fix g b).2 a (by omega)]
    constructor
    · intro z; cases z
    · rintro (h | ⟨q, hq, h1, h2⟩)
      · omega
      · have := g.src hq
        omega
theorem tw_last {d : Desk} (g : Good d) : ∀ (k a b : Nat), d.size - a ≤ k → b < d.size → (tw d b a = true ↔ a = b ∨ ∃ q ∈ d.sends, q.dst = b ∧ tw d q.src a = true)
  | k, a, b, hk, hb => by
    rw [tw_iff g hb]
    constructor
    · rintro (h | ⟨q, hq, h1, h2⟩)
      · exact .inl h
      · have hl := (g.send hq).lt
        have hs := g.src hq
        cases k with
        | zero => omega
        | succ k =>
          rcases (tw_last g k q.dst b (by omega) hb).mp h2 with h3 | ⟨p, hp, h3, h4⟩
          · exact .inr ⟨q, hq, h3, (tw_iff g hs).mpr (.inl h1.symm)⟩
          · exact .inr ⟨p, hp, h3, (tw_iff g (g.src hp)).mpr (.inr ⟨q, hq, h1, h4⟩)⟩
    · rintro (h | ⟨p, hp, h1, h2⟩)
      · exact .inl h
      · rcases (tw_iff g (g.src hp)).mp h2 with h3 | ⟨q, hq, h3, h4⟩
        · exact .inr ⟨p, hp, h3.symm, (tw_iff g hb).mpr (.inl h1)⟩
        · have hl := (g.send hq).lt
          have hs := g.src hq
          cases k with
          | zero => omega
          | succ k => exact .inr ⟨q, hq, h3, (tw_last g k q.dst b (by omega) hb).mpr (.inr ⟨p, hp, h1, h4⟩)⟩
theorem rd_reaches {d : Desk} {a b : Nat} (hb : b < d.size) : d.ready.reaches a b = tw d b a := by
  unfold Ready.reaches tw
  rw [show d.ready.reach.getD b #[] = d.towards b from getD_range hb _ _]
theorem on_eq {d : Desk} (g : Good d) (B : Nat → Bool) (l : List Nat) (hl : ∀ y ∈ l, y < d.size) (hB : ∀ x, B x = true ↔ x ∈ l) : ∀ x, (decide (x < d.size) && l.any fun y => tw d x y) = (B x || d.sends.any fun q => q.dst == x && (decide (q.src < d.size) && l.any fun y => tw d q.src y)) := fun x => by
  rw [Bool.eq_iff_iff]
  simp only [Bool.and_eq_true, Bool.or_eq_true, List.any_eq_true, decide_eq_true_eq, beq_iff_eq]
  constructor
  · rintro ⟨hx, y, hy, h⟩
    rcases (tw_last g _ y x (Nat.le_refl _) hx).mp h with h1 | ⟨q, hq, h1, h2⟩
    · exact .inl ((hB x).mpr (by rw [← h1]; exact hy))
    · exact .inr ⟨q, hq, h1, g.src hq, y, hy, h2⟩
  · rintro (h | ⟨q, hq, h1, _, y, hy, h2⟩)
    · have hx := hl x ((hB x).mp h)
      exact ⟨hx, x, (hB x).mp h, (tw_iff g hx).mpr (.inl rfl)⟩
    · have hx := g.dst hq
      rw [h1] at hx
      exact ⟨hx, y, hy, (tw_last g _ y x (Nat.le_refl _) hx).mpr (.inr ⟨q, hq, h1, h2⟩)⟩
theorem back_eq {d : Desk} (g : Good d) (B : Nat → Bool) (l : List Nat) (hl : ∀ y ∈ l, y < d.size) (hB : ∀ x, B x = true ↔ x ∈ l) : ∀ x, (l.any fun y => tw d y x) = (B x || d.sends.any fun q => q.src == x && (l.any fun y => tw d y q.dst)) := fun x => by
  rw [Bool.eq_iff_iff]
  simp only [Bool.and_eq_true, Bool.or_eq_true, List.any_eq_true, beq_iff_eq]
  constructor
  · rintro ⟨y, hy, h⟩
    rcases (tw_iff g (hl y hy)).mp h with h1 | ⟨q, hq, h1, h2⟩
    · exact .inl ((hB x).mpr (by rw [h1]; exact hy))
    · exact .inr ⟨q, hq, h1, y, hy, h2⟩
  · rintro (h | ⟨q, hq, h1, y, hy, h2⟩)
    · exact ⟨x, (hB x).mp h, (tw_iff g (hl x ((hB x).mp h))).mpr (.inl rfl)⟩
    · exact ⟨y, hy, (tw_iff g (hl y hy)).mpr (.inr ⟨q, hq, h1, h2⟩)⟩
def swOf (ns : List Nat) (b x : Nat) : Bool := (ns.getD x 0).testBit b
def swAll (d : Desk) (ns : List Nat) (b x : Nat) : Bool := swOf ns b x || (d.groups x).any (swOf ns b)
def soloF (d : Desk) (ns : List Nat) (x : Nat) : Bool := decide (d.kind x ≠ 3) && swAll d ns 1 x
def solosL (d : Desk) (ns : List Nat) : List Nat := (List.range d.size).filter (soloF d ns)
def liveF (d : Desk) (ns : List Nat) (x : Nat) : Bool := decide (d.kind x ≠ 3) && ((!(solosL d ns).any (fun _ => true) || (d.isSafe x || ((solosL d ns).any (fun y => tw d x y) || (solosL d ns).any fun y => tw d y x))) && !swAll d ns 0 x)
theorem kind_le {d : Desk} (g : Good d) {i : Nat} (h : i < d.size) : d.kind i ≤ 3 := by
  obtain ⟨n, hn⟩ : ∃ n, d.nodes[i]? = some n := ⟨_, List.getElem?_eq_getElem h⟩
  have e : d.kind i = n.kind := by unfold Desk.kind; rw [hn]; rfl
  rw [e]
  exact g.kinds n (List.mem_of_getElem? hn)
theorem sound_eq {d : Desk} (g : Good d) {i : Nat} (h : i < d.size) : d.ready.isSound i = decide (d.kind i ≠ 3) := by
  unfold Ready.isSound
  rw [rd_kind h]
  have := kind_le g h
  exact decide_eq_decide.mpr (by omega)
theorem mutes_eq (ns ng : List Nat) (x : Nat) : Board.mutes ⟨ns.toArray, ng.toArray⟩ x = swOf ns 0 x := by
  unfold Board.mutes swOf
  simp
theorem bsolos_eq (ns ng : List Nat) (x : Nat) : Board.solos ⟨ns.toArray, ng.toArray⟩ x = swOf ns 1 x := by
  unfold Board.solos swOf
  simp
theorem muted_eq {d : Desk} {ns ng : List Nat} {x : Nat} (h : x < d.size) : d.ready.muted ⟨ns.toArray, ng.toArray⟩ x = swAll d ns 0 x := by
  unfold Ready.muted swAll
  rw [mutes_eq, rd_group h]
  congr 1
  exact any_congr fun y _ => mutes_eq ns ng y
theorem soloed_eq {d : Desk} (g : Good d) {ns ng : List Nat} {x : Nat} (h : x < d.size) : d.ready.soloed ⟨ns.toArray, ng.toArray⟩ x = soloF d ns x := by
  unfold Ready.soloed soloF swAll
  rw [sound_eq g h, bsolos_eq, rd_group h]
  congr 2
  exact any_congr fun y _ => bsolos_eq ns ng y
theorem solos_eq {d : Desk} (g : Good d) {ns ng : List Nat} : d.ready.solos ⟨ns.toArray, ng.toArray⟩ = solosL d ns := by
  show (List.range d.size).filter _ = (List.range d.size).filter _
  refine List.filter_congr fun x hx => soloed_eq g (List.mem_range.mp hx)
theorem live_eq {d : Desk} (g : Good d) {ns ng : List Nat} {x : Nat} (h : x < d.size) : d.ready.live ⟨ns.toArray, ng.toArray⟩ x = liveF d ns x := by
  unfold Ready.live Ready.lives
  refine (getD_range h _ _).trans ?_
  rw [solos_eq g, sound_eq g h, muted_eq h]
  have e1 : d.ready.safes.getD x false = d.isSafe x := getD_range h _ _
  rw [e1]
  have e2 : (solosL d ns).isEmpty = !(solosL d ns).any fun _ => true := by cases solosL d ns <;> rfl
  have hm : ∀ y ∈ solosL d ns, y < d.size := fun y hy => List.mem_range.mp (List.mem_filter.mp hy).1
  have e3 : ((solosL d ns).any fun y => d.ready.reaches x y || d.ready.reaches y x) = ((solosL d ns).any (fun y => tw d x y) || (solosL d ns).any fun y => tw d y x) := by
    rw [any_congr fun y hy => show (d.ready.reaches x y || d.ready.reaches y x) = (tw d y x || tw d x y) by rw [rd_reaches (hm y hy), rd_reaches h]]
    generalize solosL d ns = l
    induction l with
    | nil => rfl
    | cons y r ih =>
      rw [List.any_cons, List.any_cons, List.any_cons, ih]
      cases tw d y x <;> cases tw d x y <;> simp
  rw [e2, e3]
  unfold liveF
  congr 1
  exact Bool.and_comm _ _
end Md
end
section
set_option linter.all false
namespace Md
open Mix
theorem held_lo (z : Int) : -8388608 ≤ held z ∧ held z ≤ 8388607 := by
  unfold held HIGH LOW
  split
  · omega
  · split <;> omega
theorem held_held (z : Int) : held (held z) = held z := by
  have h := held_lo z
  generalize held z = y at h
  unfold held HIGH LOW
  rw [if_neg (by omega), if_neg (by omega)]
theorem held_zero : held 0 = 0 := by decide
def cntTo (d : Desk) (m : Nat) : Nat := ((List.range m).filter fun i => d.kind i == 0).length
theorem cntTo_succ (d : Desk) (m : Nat) : cntTo d (m + 1) = cntTo d m + if d.kind m = 0 then 1 else 0 := by
  unfold cntTo
  rw [List.range_succ, List.filter_append, List.length_append, List.filter_cons, List.filter_nil]
  by_cases c : d.kind m = 0 <;> simp [c]
theorem cntTo_mono (d : Desk) {m n : Nat} (h : m ≤ n) : cntTo d m ≤ cntTo d n := by
  induction n with
  | zero => rw [Nat.le_zero.mp h]; exact Nat.le_refl _
  | succ n ih =>
    by_cases c : m = n + 1
    · rw [c]; exact Nat.le_refl _
    · have := ih (by omega)
      rw [cntTo_succ]
      omega
theorem cnt_take (d : Desk) : ∀ m, m ≤ d.size → cntTo d m = ((d.nodes.take m).filter fun n => n.kind == 0).length
  | 0, _ => by simp [cntTo]
  | m + 1, h => by
    have hm : m < d.nodes.length := h
    rw [cntTo_succ, cnt_take d m (by omega), List.take_succ_eq_append_getElem hm, List.filter_append, List.length_append]
    have e : d.kind m = d.nodes[m].kind := by unfold Desk.kind; rw [List.getElem?_eq_getElem hm]; rfl
    rw [e]
    by_cases c : d.nodes[m].kind = 0 <;> simp [c]
theorem cnt_all (d : Desk) : cntTo d d.size = d.counts 0 := by
  rw [cnt_take d d.size (Nat.le_refl _)]
  unfold Desk.counts Desk.size
  rw [List.take_length]
theorem idx_eq (p : Nat → Bool) {x : Nat} (hp : p x = true) : ∀ n, x < n → ((List.range n).filter p).idxOf x = ((List.range x).filter p).length
  | 0, h => by omega
  | n + 1, h => by
    rw [List.range_succ, List.filter_append, List.idxOf_append]
    by_cases c : x < n
    · rw [if_pos (List.mem_filter.mpr ⟨List.mem_range.mpr c, hp⟩)]
      exact idx_eq p hp n c
    · have : x = n := by omega
      subst this
      rw [if_neg (fun z => by have := List.mem_range.mp (List.mem_filter.mp z).1; omega), List.filter_cons, if_pos hp, List.idxOf_cons_self]
      omega
theorem ins_idx {d : Desk} {x : Nat} (hx : x < d.size) (hk : d.kind x = 0) : d.ready.ins.idxOf x = cntTo d x := idx_eq (fun i => d.kind i == 0) (by simpa using hk) d.size hx
def lvA (d : Desk) (b : Board) (zs : List Int) : Nat → Array Sounding
  | 0 => #[]
  | m + 1 => (lvA d b zs m).push (d.ready.sound b (d.ready.lives b) zs.toArray (lvA d b zs m) m)
theorem mix_eq (d : Desk) (b : Board) (zs : List Int) : d.ready.mix b zs.toArray = lvA d b zs d.size := by
  have : ∀ n, (List.range n).foldl (fun (l : Array Sounding) (x : Nat) => l.push (d.ready.sound b (d.ready.lives b) zs.toArray l x)) #[] = lvA d b zs n := fun n => by
    induction n with
    | zero => rfl
    | succ n ih => rw [List.range_succ, List.foldl_append, ih]; rfl
  exact this d.size
def sn (d : Desk) (b : Board) (zs : List Int) (x : Nat) : Sounding := d.ready.sound b (d.ready.lives b) zs.toArray (lvA d b zs x) x
theorem lvA_list (d : Desk) (b : Board) (zs : List Int) : ∀ m, (lvA d b zs m).toList = (List.range m).map (sn d b zs)
  | 0 => rfl
  | m + 1 => by
    unfold lvA
    rw [Array.toList_push, lvA_list d b zs m, List.range_succ, List.map_append]
    rfl
theorem lvA_get (d : Desk) (b : Board) (zs : List Int) {x m : Nat} (h : x < m) : (lvA d b zs m).getD x silent = sn d b zs x := by
  rw [Array.getD_eq_getD_getElem?, ← Array.getElem?_toList, lvA_list, List.getElem?_map, List.getElem?_range h]
  rfl
def levOf (s : Nat → Sounding) (q : Send) : Int := if q.pre = true then (s q.src).sum else (s q.src).give
def sentF (lv : Nat → Bool) (s : Nat → Sounding) (x : Nat) (t : Int) (q : Send) : Int := if q.dst = x ∧ lv q.src = true then t + held (levOf s q) * (q.gain : Int) else t
theorem sn_live {d : Desk} (b : Board) (zs : List Int) (x : Nat) : (sn d b zs x).live = d.ready.live b x := rfl
theorem sn_give {d : Desk} (b : Board) (zs : List Int) {x : Nat} (hw : d.ready.whole b x ≤ 65535) : (sn d b zs x).give = if d.ready.live b x = true then rounded (held (sn d b zs x).sum * (d.ready.whole b x : Int)) ONE else 0 := by
  show (if d.ready.live b x = true then exact [(held (sn d b zs x).sum, d.ready.whole b x)] else 0) = _
  unfold exact
  rw [List.foldl_cons, List.foldl_nil, held_held, Int.zero_add]
  unfold gainOf TOP
  rw [Nat.min_eq_left hw]
theorem fold_step {d : Desk} (b : Board) (zs : List Int) (x : Nat) (hw : ∀ y, y < d.size → d.ready.whole b y ≤ 65535) : ∀ (l : List Send) (t : Int), (∀ q ∈ l, q.src < q.dst ∧ q.dst < d.size ∧ q.gain ≤ 65535) →
    (((l.filter fun (p : Send) => p.dst == x).map fun (p : Send) => (⟨p.src, p.gain, p.pre, wt2 d p.src p.dst⟩ : Feed)).map fun (f : Feed) => let y := (lvA d b zs x).getD f.src silent; (if f.pre = true then y.pre else y.post, f.gain)).foldl (fun (s : Int) (q : Int × Nat) => s + held q.1 * (gainOf q.2 : Int)) t = l.foldl (sentF (d.ready.live b) (sn d b zs) x) t
  | [], _, _ => rfl
  | q :: r, t, h => by
    have ih := fun t => fold_step b zs x hw r t fun p hp => h p (List.mem_cons_of_mem _ hp)
    obtain ⟨h1, h2, h3⟩ := h q (List.mem_cons_self ..)
    rw [List.foldl_cons]
    by_cases c : q.dst = x
    · rw [List.filter_cons, if_pos (by simpa using c), List.map_cons, List.map_cons, List.foldl_cons, ih]
      congr 1
      dsimp only
      rw [lvA_get d b zs (show q.src < x by omega)]
      have eG : gainOf q.gain = q.gain := Nat.min_eq_left h3
      rw [eG]
      cases e : d.ready.live b q.src with
      | true =>
        have eR : sentF (d.ready.live b) (sn d b zs) x t q = t + held (levOf (sn d b zs) q) * (q.gain : Int) := by unfold sentF; exact if_pos ⟨c, e⟩
        have eH : held (if q.pre = true then (sn d b zs q.src).pre else (sn d b zs q.src).post) = held (levOf (sn d b zs) q) := by
          unfold levOf
          cases q.pre with
          | true =>
            show held (sn d b zs q.src).pre = held (sn d b zs q.src).sum
            unfold Sounding.pre
            rw [sn_live, e, if_pos rfl, held_held]
          | false => exact held_held _
        rw [eR, eH]
      | false =>
        have eR : sentF (d.ready.live b) (sn d b zs) x t q = t := by unfold sentF; exact if_neg (fun z => by rw [e] at z; cases z.2)
        have e2 : (sn d b zs q.src).give = 0 := by
          rw [sn_give b zs (hw q.src (by omega)), e]
          rfl
        have eH : held (if q.pre = true then (sn d b zs q.src).pre else (sn d b zs q.src).post) = 0 := by
          cases q.pre with
          | true =>
            show held (sn d b zs q.src).pre = 0
            unfold Sounding.pre
            rw [sn_live, e]
            exact held_zero
          | false =>
            show held (held (sn d b zs q.src).give) = 0
            rw [e2, held_zero, held_zero]
        rw [eR, eH, Int.zero_mul, Int.add_zero]
    · rw [List.filter_cons, if_neg (by simpa using c), ih]
      congr 1
      unfold sentF
      rw [if_neg (fun z => c z.1)]
def sent (d : Desk) (b : Board) (zs : List Int) (x : Nat) : Int := d.sends.foldl (sentF (d.ready.live b) (sn d b zs) x) 0
theorem sn_sum {d : Desk} (g : Good d) (b : Board) (zs : List Int) {x : Nat} (hx : x < d.size) (hw : ∀ y, y < d.size → d.ready.whole b y ≤ 65535) : (sn d b zs x).sum = if d.kind x = 0 then held (zs.getD (cntTo d x) 0) else rounded (sent d b zs x) ONE := by
  show (if d.ready.kind x = 0 then d.ready.inOf zs.toArray x else if d.ready.kind x = 3 then 0 else exact ((d.ready.feed x).map fun (f : Feed) => let y := (lvA d b zs x).getD f.src silent; (if f.pre = true then y.pre else y.post, f.gain))) = _
  rw [rd_kind hx]
  by_cases c : d.kind x = 0
  · rw [if_pos c, if_pos c]
    unfold Ready.inOf
    rw [ins_idx hx c]
    simp
  · rw [if_neg c, if_neg c]
    have e1 : exact ((d.ready.feed x).map fun (f : Feed) => let y := (lvA d b zs x).getD f.src silent; (if f.pre = true then y.pre else y.post, f.gain)) = rounded (sent d b zs x) ONE := by
      unfold exact sent
      rw [feed_eq g hx, fold_step b zs x hw d.sends 0 fun q hq => ⟨(g.send hq).lt, g.dst hq, (g.send hq).gn⟩]
    by_cases c3 : d.kind x = 3
    · rw [if_pos c3]
      have : sent d b zs x = 0 := by
        unfold sent
        have : ∀ l : List Send, (∀ q ∈ l, q.dst ≠ x) → l.foldl (sentF (d.ready.live b) (sn d b zs) x) 0 = 0 := fun l => by
          induction l with
          | nil => exact fun _ => rfl
          | cons q r ih =>
            intro h
            rw [List.foldl_cons]
            unfold sentF
            rw [if_neg (fun z => h q (List.mem_cons_self ..) z.1)]
            exact ih fun p hp => h p (List.mem_cons_of_mem _ hp)
        refine this _ fun q hq e => ?_
        have := (g.send hq).kd
        rw [e] at this
        omega
      rw [this]
      decide
    · rw [if_neg c3, e1]
end Md
end
section
set_option linter.all false
namespace Mx
open PySem
abbrev frOf (l : List Env) : List Addr := l.filterMap (·.frame)
structure Noted (l : List Env) (e : Addr) (oe : Obj) (Ts : List Addr) (fl : Value) (h h' : Heap) : Prop where
  keep : ∀ b o, h.get? b = some o → b ∉ frOf l → b ≠ e → b ∉ Ts → h'.get? b = some o
  slot : ∀ b o, h.get? b = some o → b ≠ e → b ∉ Ts → ∃ sl, h'.get? b = some { o with slots := sl }
  there : ∀ b o, h.get? b = some o → ∃ o', h'.get? b = some o'
  exc : ∃ vs T oT ts, h'.get? e = some { oe with data := .fields vs } ∧ vs[1]? = some (.ref T) ∧ h.objs.size ≤ T ∧ T ≠ e ∧ h'.get? T = some oT ∧ oT.data = .fields ts ∧ ts[3]? = some fl
section
variable {M : Model} {A : Around} {E : Value → Shared → Prop} {s : Shared}
theorem mapF_eq {o : Obj} {vs : Array Value} (hd : o.data = .fields vs) (f : Array Value → Array Value) : Obj.mapFields f o = { o with data := .fields (f vs) } := by
  obtain ⟨c, d, dt, sl⟩ := o
  cases hd
  rfl
theorem entry_laid {base : Heap} {env : Env} {outer : List Env} {L e : Addr} {oe : Obj} {vs : Array Value} {hd0 : Value} {hn : Bool} {Q : Unit → Shared → Prop}
    (hfr : A.frames = some (env :: outer)) (hl : s.heap.FunFrames base (env :: outer)) (hf : env.frame = some L) (he : s.heap.get? e = some oe) (hd : oe.data = .fields vs) (hz : 1 < vs.size)
    (h : ∀ h', Noted (env :: outer) e oe [] (rawInt L) s.heap h' → Q () { s with heap := h' }) :
    wpAny M A (do let a ← frameOf env; let pl ← entryPlaceOf L hn; let b ← EntryCells.newEntry hd0 a .none (rawInt L) .none pl; setField (.ref e) 1 b) Q E s := by
  have nf : e ∉ frOf (env :: outer) := fun z => by
    obtain ⟨_, o, ho, q⟩ := hl.mem z
    rw [he] at ho
    cases ho
    exact q vs hd
  refine wpAny_bind (wpAny_frameOf_fun hfr hl hf fun h1 ⟨k0, k1, k2⟩ => wpAny_bind (wpAny_entryPlaceOf fun pl hpl => ?_))
  unfold EntryCells.newEntry newFields
  refine wpAny_bind (wpAny_newObj_type ?_ (hpl.sizeOk5 _ _ _ _ _))
  have e1 : h1.get? e = some oe := (k1 e nf).trans he
  generalize hT : ({ cls := .type "traceback", dict := none, data := .fields ([hd0, .ref L, .none, rawInt L, .none] ++ (if pl.isEmpty then List.replicate 6 Value.none else pl)).toArray } : Obj) = oT
  have e2 := Heap.get?_push_of_some oT e1
  have ne : h1.objs.size ≠ e := Nat.ne_of_gt (Heap.lt_size e1)
  refine wpAny_setField e2 hd hz (h _ ?_)
  have e3 : ((h1.push oT).update e (Obj.mapFields (·.setIfInBounds 1 (.ref h1.objs.size)))).get? e = some { oe with data := .fields (vs.setIfInBounds 1 (.ref h1.objs.size)) } := by
    rw [← mapF_eq hd (·.setIfInBounds 1 (.ref h1.objs.size))]
    exact Heap.get?_update_self _ e2 (Obj.isFreed_of_fields (Obj.data_mapFields hd _))
  have k3 : ∀ b o, b ≠ e → h1.get? b = some o → ((h1.push oT).update e (Obj.mapFields (·.setIfInBounds 1 (.ref h1.objs.size)))).get? b = some o := fun b o hb q => by
    rw [Heap.get?_update_other _ _ (Ne.symm hb)]
    exact Heap.get?_push_of_some _ q
  have hfree : h1.objs.size ≤ h1.objs.size := Nat.le_refl _
  refine ⟨fun b o q nb ne' _ => k3 b o ne' ((k1 b nb).trans q), fun b o q ne' _ => ?_, fun b o q => ?_, _, h1.objs.size, oT, _, e3, by simp [hz], ?_, ne, ?_, by rw [← hT], by rcases hpl with rfl | ⟨_, _, _, _, _, _, _, rfl⟩ <;> simp⟩
  · obtain ⟨sl, q1⟩ := k2 b o q
    exact ⟨sl, k3 b _ ne' q1⟩
  · by_cases hb : b = e
    · subst hb
      exact ⟨_, e3⟩
    · obtain ⟨sl, q1⟩ := k2 b o q
      exact ⟨_, k3 b _ hb q1⟩
  · rw [k0]
    exact Nat.le_refl _
  · rw [Heap.get?_update_other _ _ (Ne.symm ne)]
    exact Heap.get?_push_size h1 (by rw [← hT]; rfl)
theorem note_first {base : Heap} {env : Env} {outer : List Env} {L e : Addr} {oe : Obj} {vs : Array Value} {Q : Unit → Shared → Prop}
    (hfr : A.frames = some (env :: outer)) (hl : s.heap.FunFrames base (env :: outer)) (hf : env.frame = some L) (he : s.heap.get? e = some oe) (hd : oe.data = .fields vs) (h1 : vs[1]? = some .none)
    (h : ∀ h', Noted (env :: outer) e oe [] (rawInt L) s.heap h' → Q () { s with heap := h' }) : wpAny M A (noteFrame (.ref e) env) Q E s := by
  unfold noteFrame
  simp only [hf]
  refine wpAny_bind (wpAny_field he hd h1 ?_)
  rw [if_neg (by decide)]
  exact entry_laid hfr hl hf he hd (Array.getElem?_eq_some_iff.mp h1).1 h
theorem note_next {base : Heap} {env : Env} {outer : List Env} {L e T : Addr} {oe oT : Obj} {vs ts : Array Value} {Q : Unit → Shared → Prop}
    (hfr : A.frames = some (env :: outer)) (hl : s.heap.FunFrames base (env :: outer)) (hf : env.frame = some L) (he : s.heap.get? e = some oe) (hd : oe.data = .fields vs) (h1 : vs[1]? = some (.ref T))
    (hT : s.heap.get? T = some oT) (hdT : oT.data = .fields ts) (h3 : ts[3]? = some .none) (hTe : T ≠ e)
    (h : ∀ h', Noted (env :: outer) e oe [T] (rawInt L) s.heap h' → Q () { s with heap := h' }) : wpAny M A (noteFrame (.ref e) env) Q E s := by
  unfold noteFrame
  simp only [hf]
  refine wpAny_bind (wpAny_field he hd h1 ?_)
  rw [if_pos (show (Value.ref T != Value.none) = true from by simp)]
  refine wpAny_bind (wpAny_field hT hdT h3 ?_)
  rw [if_neg (show ¬ ((Value.none == rawInt L) = true) from by simp [rawInt])]
  refine wpAny_bind (wpAny_setField hT hdT (Array.getElem?_eq_some_iff.mp h3).1 ?_)
  have other : ∀ b, b ≠ T → (s.heap.update T (Obj.mapFields (·.setIfInBounds 3 Value.none))).get? b = s.heap.get? b := fun b hb => Heap.get?_update_other _ _ (Ne.symm hb)
  have self : (s.heap.update T (Obj.mapFields (·.setIfInBounds 3 Value.none))).get? T = some { oT with data := .fields (ts.setIfInBounds 3 .none) } := by
    rw [← mapF_eq hdT (·.setIfInBounds 3 Value.none)]
    exact Heap.get?_update_self _ hT (Obj.isFreed_of_fields (Obj.data_mapFields hdT _))
  have nr : ∀ b o, s.heap.get? b = some o → (∀ vs, o.data ≠ .fields vs) → b ≠ T := fun b o hb q z => by
    rw [z, hT] at hb
    cases hb
    exact q ts hdT
  refine entry_laid (s := { s with heap := s.heap.update T (Obj.mapFields (·.setIfInBounds 3 Value.none)) }) hfr (hl.of_keeps fun b o hb q => ⟨o, (other b (nr b o hb q)).trans hb, rfl⟩) hf ((other e (Ne.symm hTe)).trans he) hd (Array.getElem?_eq_some_iff.mp h1).1 fun h' N => h h' ?_
  obtain ⟨k1, k2, k3, vs', T', oT', ts', x1, x2, x3, x4, x5⟩ := N
  refine ⟨fun b o q nb ne nt => k1 b o ((other b (fun z => nt (by simp [z]))).trans q) nb ne (by simp), fun b o q ne nt => k2 b o ((other b (fun z => nt (by simp [z]))).trans q) ne (by simp), fun b o q => ?_, vs', T', oT', ts', x1, x2, ?_, x4, x5⟩
  · by_cases hb : b = T
    · subst hb
      exact k3 _ _ self
    · exact k3 b o ((other b hb).trans q)
  · have x3 : (s.heap.update T (Obj.mapFields (·.setIfInBounds 3 Value.none))).objs.size ≤ T' := x3
    rw [Heap.size_after_update] at x3
    exact x3
theorem flight_none {e T : Addr} {oe oT : Obj} {vs ts : Array Value} {fl : Value} {Q : Unit → Shared → Prop} (he : s.heap.get? e = some oe) (hd : oe.data = .fields vs) (h1 : vs[1]? = some (.ref T))
    (hT : s.heap.get? T = some oT) (hdT : oT.data = .fields ts) (h3 : ts[3]? = some fl)
    (h : ∀ h', (∀ b, b ≠ T → h'.get? b = s.heap.get? b) → (∃ ts', h'.get? T = some { oT with data := .fields ts' } ∧ ts'[3]? = some .none) → Q () { s with heap := h' }) : wpAny M A (setFlight (.ref e) none) Q E s := by
  have hz : 3 < ts.size := (Array.getElem?_eq_some_iff.mp h3).1
  unfold setFlight
  refine wpAny_bind (wpAny_field he hd h1 ?_)
  rw [if_pos (show (Value.ref T != Value.none) = true from by simp)]
  refine wpAny_setField hT hdT hz (h _ (fun b hb => Heap.get?_update_other _ _ (Ne.symm hb)) ⟨ts.setIfInBounds 3 .none, ?_, by simp [hz]⟩)
  rw [← mapF_eq hdT (·.setIfInBounds 3 Value.none)]
  exact Heap.get?_update_self _ hT (Obj.isFreed_of_fields (Obj.data_mapFields hdT _))
theorem Noted.land {l : List Env} {e : Addr} {oe : Obj} {Ts : List Addr} {fl : Value} {h0 : Heap} {Q : Unit → Shared → Prop} (N : Noted l e oe Ts fl h0 s.heap)
    (h : ∀ h', Noted l e oe Ts .none h0 h' → Q () { s with heap := h' }) : wpAny M A (setFlight (.ref e) none) Q E s := by
  obtain ⟨k1, k2, k3, vs, T, oT, ts, x1, x2, x3, x4, x5, x6, x7⟩ := N
  have nT : ∀ b o, h0.get? b = some o → b ≠ T := fun b o q z => absurd (Heap.lt_size q) (by rw [z]; exact Nat.not_lt.mpr x3)
  refine flight_none x1 rfl x2 x5 x6 x7 fun h' o1 ⟨ts', o2, o3⟩ => h h' ⟨fun b o q a1 a2 a3 => (o1 b (nT b o q)).trans (k1 b o q a1 a2 a3), fun b o q a2 a3 => ?_, fun b o q => ?_, vs, T, _, ts', (o1 e (Ne.symm x4)).trans x1, x2, x3, x4, o2, rfl, o3⟩
  · obtain ⟨sl, q1⟩ := k2 b o q a2 a3
    exact ⟨sl, (o1 b (nT b o q)).trans q1⟩
  · obtain ⟨o', q1⟩ := k3 b o q
    exact ⟨o', (o1 b (nT b o q)).trans q1⟩
theorem leave_first {base : Heap} {env : Env} {outer : List Env} {L e : Addr} {oe : Obj} {vs : Array Value} {Q : Unit → Shared → Prop}
    (hfr : A.frames = some (env :: outer)) (hl : s.heap.FunFrames base (env :: outer)) (hf : env.frame = some L) (he : s.heap.get? e = some oe) (hd : oe.data = .fields vs) (h1 : vs[1]? = some .none)
    (h : ∀ h', Noted (env :: outer) e oe [] .none s.heap h' → Q () { s with heap := h' }) : wpAny M A (leaving env (.ref e)) Q E s := by
  unfold leaving
  exact wpAny_bind (note_first hfr hl hf he hd h1 fun h' N => Noted.land (s := { s with heap := h' }) N h)
theorem leave_next {base : Heap} {env : Env} {outer : List Env} {L e T : Addr} {oe oT : Obj} {vs ts : Array Value} {Q : Unit → Shared → Prop}
    (hfr : A.frames = some (env :: outer)) (hl : s.heap.FunFrames base (env :: outer)) (hf : env.frame = some L) (he : s.heap.get? e = some oe) (hd : oe.data = .fields vs) (h1 : vs[1]? = some (.ref T))
    (hT : s.heap.get? T = some oT) (hdT : oT.data = .fields ts) (h3 : ts[3]? = some .none) (hTe : T ≠ e)
    (h : ∀ h', Noted (env :: outer) e oe [T] .none s.heap h' → Q () { s with heap := h' }) : wpAny M A (leaving env (.ref e)) Q E s := by
  unfold leaving
  exact wpAny_bind (note_next hfr hl hf he hd h1 hT hdT h3 hTe fun h' N => Noted.land (s := { s with heap := h' }) N h)
end
end Mx
end
section
set_option linter.all false
set_option maxRecDepth 100000
set_option maxHeartbeats 4000000
namespace Mx
open PySem PySem.W PySem.Calls PyProof.Rows Builtin Builtin.ObjectAttr
def bmV : List Value := [.type "ValueError", .type "Exception", .type "BaseException", .type "object"]
inductive TailX : List Value → Prop
  | base : TailX bmV
  | own {a : Addr} {l : List Value} : TailX l → TailX (.ref a :: l)
def tailX : List Value → Bool
  | [] => false
  | v :: r => match v with
    | .ref _ => tailX r
    | _ => (v :: r) == bmV
theorem tailX_of : ∀ {l : List Value}, tailX l = true → TailX l
  | [], h => by cases h
  | v :: r, h => by
    unfold tailX at h
    split at h
    · exact .own (tailX_of h)
    · rw [beq_iff_eq.mp h]; exact .base
theorem TailX.has {l : List Value} (t : TailX l) {T : String} {b : Bool} (e : bmV.contains (.type T) = b) : l.contains (.type T) = b := by
  induction t with
  | base => exact e
  | own _ ih => rw [List.contains_cons, ih]; rfl
theorem pass_bmV (self : Value) : refuseLoop self "__setattr__" bmV = pure () := by
  unfold bmV
  kernel_rfl
theorem TailX.pass {l : List Value} (t : TailX l) (self : Value) : refuseLoop self "__setattr__" l = pure () := by
  induction t with
  | base => exact pass_bmV self
  | own _ ih => rw [refuseLoop_ref]; exact ih
def excOk (K : Frag) (C : Addr) : Bool := match K.lookup C with
  | some ⟨.type "type", _, .cls cd, sl⟩ => (match cd.mro, sl.toList with
    | .ref C' :: bm, [_, _, _, _, some (.builtin n), _] => C' == C && n == "ValueError.__new__" && !cd.hasDel && cd.hasDict && tailX bm
    | _, _ => false)
  | _ => false
theorem excOk_at {K : Frag} {h : Heap} {C : Addr} (X : K.In h) (q : excOk K C = true) : ∃ nm qn N bs bm sn sub ab col dd k0 k1 k2 k3 k5,
    h.get? C = some (excClassObj nm qn C N bs bm true sn sub ab col dd k0 k1 k2 k3 k5 "ValueError.__new__") ∧ TailX bm ∧
    clsIn K C = some { name := nm, bases := bs, mro := .ref C :: bm, ns := N, qualname := qn, hasDict := true, slotNames := sn, subclasses := sub, abstract := ab, collection := col, hasDel := false } := by
  unfold excOk at q
  split at q
  · rename_i dd cd sl ho
    split at q
    · rename_i C' bm k0 k1 k2 k3 n k5 hm hs
      simp only [Bool.and_eq_true, beq_iff_eq, Bool.not_eq_true'] at q
      obtain ⟨⟨⟨⟨rfl, rfl⟩, hdel⟩, hdic⟩, ht⟩ := q
      obtain ⟨nm, bs, mro, ns, qn, hd, sn, sub, ab, col, del⟩ := cd
      dsimp only at hm hdel hdic
      subst hm hdel hdic
      have hsl : sl = #[k0, k1, k2, k3, some (.builtin "ValueError.__new__"), k5] := by
        obtain ⟨l⟩ := sl
        simp only at hs
        rw [hs]
      subst hsl
      refine ⟨nm, qn, ns, bs, bm, sn, sub, ab, col, dd, k0, k1, k2, k3, k5, X _ _ ho, tailX_of ht, ?_⟩
      unfold clsIn
      rw [ho]
    · cases q
  · cases q
abbrev excObj (C a0 : Addr) (dx : Option Addr) : Obj := { cls := .ref C, dict := dx, data := .fields #[.ref a0, .none, .none, .none, .bool false, .none] }
section
variable {prog : Program} {w : World} {A : Around} {R : Result → Shared → Prop} {h : Heap} {g : Array GenState} {d : Drawn} {t : Nat} {os : OsState}
variable {nm q : Str} {C N : Addr} {bs bm : List Value} {sn : List Str} {sub : List Value} {ab : Bool} {col : Option Bool} {dd : Option Addr} {k0 k1 k2 k3 k5 : Option Value}
theorem chk_new (T : TailX bm) {E : Value → Shared → Prop} {M : Model} {us : List Value} {Q : Unit → Shared → Prop} (hC : h.get? C = some (excClassObj nm q C N bs bm true sn sub ab col dd k0 k1 k2 k3 k5 "ValueError.__new__"))
    (hq : Q () ⟨h, g, d, t, os⟩) : wpAny M A (checkBuiltinCall "ValueError.__new__" ⟨.ref C :: us, []⟩) Q E ⟨h, g, d, t, os⟩ := by
  have F := PySem.F.excBase_ValueError
  have hcont : (Value.ref C :: bm).contains (.type "ValueError") = true := by rw [List.contains_cons, T.has F.hasB, Bool.or_true]
  have hstar := F.noStar
  simp only [checkBuiltinCall, F.newKind, F.newSplit, F.newRow]
  repeat (first
    | refine wpAny_loadPart_at hC ?_
    | (refine wpAny_isSubtype_exc hC ?_; rw [hcont])
    | refine wpAny_staticBase_exc hC ?_
    | refine wpAny_madeBy_exc hC ?_
    | simp only [bne_self_eq_false, Bool.false_eq_true, if_false]
    | wp_step)
  exact hq
theorem new_exc (T : TailX bm) {us : List Value} (hC : h.get? C = some (excClassObj nm q C N bs bm true sn sub ab col dd k0 k1 k2 k3 k5 "ValueError.__new__"))
    (hq : R (.ok (.ret (.ref (h.objs.size + 1)))) ⟨(h.push { cls := .type "tuple", data := .seq us.toArray }).push (excObj C h.objs.size none), g, d, t, os⟩) (hus : us.length ≤ sizeLine) :
    codeAny (model prog w) A (.builtin "ValueError.__new__" ⟨.ref C :: us, []⟩) R ⟨h, g, d, t, os⟩ := by
  have F := PySem.F.excBase_ValueError
  have hends := F.ends
  have hcB : (Value.ref C :: bm).contains (.type "ValueError") = true := by rw [List.contains_cons, T.has F.hasB, Bool.or_true]
  have hcA : (Value.ref C :: bm).contains (.type "AttributeError") = false := by
    rw [List.contains_cons, T.has F.noAttr]
    rfl
  have hcN : (Value.ref C :: bm).contains (.type "NameError") = false := by
    rw [List.contains_cons, T.has F.noName]
    rfl
  refine codeAny_builtinAt F.entry ?_
  unfold Builtin.«BaseException.__new__»
  refine PySem.wpAt_bind ?_
  show PySem.wpAt _ _ _ (stack >>= _) _ _ _
  refine PySem.wpAt_bind (PySem.wpAt_stack fun p below => PySem.wpAt_of_wpAny ?_)
  wp_walk
  refine PySem.wpAt_of_wpAny ?_
  rw [F.owner]
  repeat (first
    | with_reducible refine wpAny_madeHere_exc F.canon hC ?_
    | with_reducible refine wpAny_loadPart_at hC ?_
    | (with_reducible refine wpAny_isSubtype_exc hC ?_; first | rw [hcB] | rw [hcA] | rw [hcN])
    | wp_step)
  show R _ _
  rw [Heap.size_push]
  exact hq
theorem make_exc {K : Frag} {f : Addr} {us : List Value} (X : K.In h) (ok : excOk K C = true) (hi : findIn K (.ref C) "__init__" = some (some (.ref f))) (hf : typeIn K (.ref f) = some (.type "function")) (hus : us.length ≤ sizeLine)
    (hq : codeAny (model prog w) (A.under (.builtin "type.__call__" ⟨.ref C :: us, []⟩)) (.call (.ref f) ⟨.ref (h.objs.size + 1) :: us, []⟩) (InitBack (h.objs.size + 1) R)
      ⟨(h.push { cls := .type "tuple", data := .seq us.toArray }).push (excObj C h.objs.size none), g, d, t, os⟩) :
    codeAny (model prog w) A (.call (.ref C) ⟨us, []⟩) R ⟨h, g, d, t, os⟩ := by
  obtain ⟨nm, qn, N, bs, bm, sn, sub, ab, col, dd, k0, k1, k2, k3, k5, hC, T, hc⟩ := excOk_at X ok
  have F := PySem.F.excBase_ValueError
  have f1 := tc_lookup
  have f2 := tc_bind (.ref C)
  have hT : (⟨h, g, d, t, os⟩ : Shared).TypeIs (.ref C) "type" := ⟨_, hC, rfl⟩
  refine codeAny_of_tree ?_
  show wpAny _ _ (callAny (.ref C) _) _ _ _
  repeat (any_goals (first
    | assumption
    | with_reducible refine wpAny_loadPart_at hC ?_
    | wp_step))
  refine ⟨rfl, ?_⟩
  refine codeAny_call_builtin_at (Code.quiet_builtin _ (by decide +kernel)) entry_typeCall (wpAny_check_type_call_sub hC ?_)
  repeat (first
    | with_reducible refine wpAny_loadPart_at hC ?_
    | with_reducible refine wpAny_madeBy_exc hC ?_
    | wp_step)
  refine codeAny_call_builtin_code (Code.quiet_builtin _ F.quiet) (chk_new T hC ?_)
  refine new_exc T hC ?_ hus
  show wpAny _ _ _ _ _ _
  have kp : ∀ b o, h.get? b = some o → ((h.push { cls := .type "tuple", data := .seq us.toArray }).push (excObj C h.objs.size none)).get? b = some o := fun b o e => Heap.get?_push_of_some _ (Heap.get?_push_of_some _ e)
  have hC1 := kp _ _ hC
  have hget : ((h.push { cls := .type "tuple", data := .seq us.toArray }).push (excObj C h.objs.size none)).get? (h.objs.size + 1) = some (excObj C h.objs.size none) := by heap_get
  have hcC : (Value.ref C :: bm).contains (.ref C) = true := by simp
  have i1 := (looks_findIn (M := model prog w) X hi).keeps kp
  have b1 := (bind_fn (M := model prog w) X (.ref (h.objs.size + 1)) hf).keeps kp
  unfold isInstance
  repeat (first
    | with_reducible refine wpAny_loadPart_at hget ?_
    | (show wpAny _ _ (isSubtype (Value.ref C) (Value.ref C)) _ _ _; refine wpAny_isSubtype_exc hC1 ?_; rw [hcC])
    | wp_step)
  refine i1.at ?_
  refine wpAny_holding (wpAny_bind (b1.at ?_))
  refine wpAny_bind (wpAny_call ?_)
  refine codeAny_mono hq fun r s' z => ?_
  rcases r with e | (v | _ | _ | _)
  · exact z
  · exact z.elim
  · exact z.elim
  · exact z.elim
  · obtain ⟨rfl, z⟩ := z
    exact wpAny_pure (wpAny_pure z)
end
section
variable {prog : Program} {w : World} {A : Around} {K : Frag} {x C : Addr} {s : Shared} {name : Str} {v : Value}
theorem osa_exc {R : Result → Shared → Prop} {ox : Obj} {od : Option Obj} {tk : Tok} (X : K.In s.heap) (I : InstAt s.heap x ox C od) (ok : excOk K C = true) (hna : findIn K (.ref C) name = some none)
    (h : wpAny (model prog w) A.in1 (storeInOwnDict (.ref x) (.ref C) (.str name tk) name v false)
      (fun fin s' => match fin with | .done f => R (.ok f) s' | .again c' => c'.quiet = true ∧ codeAny (model prog w) A c' R s') (fun e s' => R (.error e) s') s) :
    codeAny (model prog w) A (.call (.builtin "object.__setattr__") ⟨[.ref x, .str name tk, v], []⟩) R s := by
  obtain ⟨nm, qn, N, bs, bm, sn, sub, ab, col, dd, k0, k1, k2, k3, k5, hC, T, hc⟩ := excOk_at X ok
  have SF := PySem.F.store_object
  have hob : (Value.ref C :: bm).contains (.type "object") = true := by rw [List.contains_cons, T.has (T := "object") (b := true) (by decide +kernel), Bool.or_true]
  have sb : Looks (model prog w) s.heap (isInstance (.ref x) (.type "object")) true := I.type.andThen (looks_mroIn X (by unfold mroIn; rw [hc, Option.bind_some]; dsimp only; rw [if_neg (by simp), hob]))
  refine codeAny_call_builtin SF.slot.plain SF.entry (@check_slot (model prog w) _ _ s "object.__setattr__" "object" "__setattr__" (.ref x) [.str name tk, v] [] _ SF.kind SF.split sb (SF.args (.ref x) (.str name tk) v) ?_)
  have hm : Looks (model prog w) s.heap (mroOf (.ref C)) (.ref C :: bm) := (looks_clsIn X hc).andThen .now
  rw [osa_eq, refuse_eq]
  refine wpAny_bind (wpAny_bind (I.type.here (wpAny_bind (hm.here ?_))))
  rw [refuseLoop_ref, T.pass]
  refine wpAny_pure (wpAny_bind (I.type.here (wpAny_bind ((looks_findIn X hna).here (wpAny_bind (wpAny_pure ?_))))))
  exact h
theorem set_exc0 {E : Value → Shared → Prop} {ox : Obj} {vs : Array Value} {Q : Unit → Shared → Prop} (X : K.In s.heap) (ok : excOk K C = true) (hsa : findIn K (.ref C) "__setattr__" = some (some (.builtin "object.__setattr__"))) (hna : findIn K (.ref C) name = some none)
    (hx : s.heap.get? x = some ox) (hc : ox.cls = .ref C) (hd : ox.data = .fields vs) (hdn : ox.dict = none)
    (h : ∀ h', h'.Ns1 s.heap.objs.size (fun y => if y = name then some v else none) → h'.get? x = some { ox with dict := some s.heap.objs.size } → (∀ b o, b ≠ x → s.heap.get? b = some o → h'.get? b = some o) → Q () { s with heap := h', toks := s.toks + 2 }) :
    wpAny (model prog w) A (setAttr (.ref x) name v) Q E s := by
  have I : InstAt s.heap x ox C none := ⟨hx, hc, by unfold notCls; rw [hd], by rw [hdn]; trivial⟩
  obtain ⟨nm, qn, N, bs, bm, sn, sub, ab, col, dd, k0, k1, k2, k3, k5, hC, T, hcl⟩ := excOk_at X ok
  refine set_plain X I hsa (osa_exc (s := { s with toks := s.toks + 1 }) X I ok hna ?_)
  obtain ⟨oc, odi, oda, osl⟩ := ox
  dsimp only at hc hd hdn
  subst hc hd hdn
  refine wpAny_bind (wpAny_pure (wpAny_bind (wpAny_bind (wpAny_loadPart hx (wpAny_bind (Looks.here (s := { s with toks := s.toks + 1 }) (looks_clsIn X hcl) ?_))))))
  have hx1 : (s.heap.push { cls := .type "dict", data := .dict #[] }).get? x = some ⟨.ref C, none, .fields vs, osl⟩ := Heap.get?_push_of_some _ hx
  have hxs : x ≠ s.heap.objs.size := Nat.ne_of_lt (Heap.lt_size hx)
  refine wpAny_bind (wpAny_alloc (s := { s with toks := s.toks + 1 }) (wpAny_bind (wpAny_update hx1 (wpAny_pure (wpAny_bind (wpAny_pure (wpAny_bind ?_)))))))
  have e1 : ((s.heap.push { cls := .type "dict", data := .dict #[] }).update x fun o => { cls := o.cls, dict := some s.heap.objs.size, data := o.data, slots := o.slots }).get? s.heap.objs.size = some { cls := .type "dict", data := .dict #[] } := by
    rw [Heap.get?_update_other _ _ hxs]
    exact Heap.get?_push_size _ rfl
  have e2 : ((s.heap.push { cls := .type "dict", data := .dict #[] }).update x fun o => { cls := o.cls, dict := some s.heap.objs.size, data := o.data, slots := o.slots }).Ns s.heap.objs.size (fun _ => none) :=
    ⟨_, #[], _, e1, rfl, fun e he => absurd he (by simp), fun _ => rfl⟩
  refine wpAny_nsSet1 (Heap.Ns1.of_empty e2) fun h' hn' hs => ?_
  obtain ⟨oD, esD, epD, hoD, hdD, hcD⟩ := hn'.count (Within.cons name v Within.nil)
  refine wpAny_bind (wpAny_lookBehind hoD (by rw [hdD]; exact pastItsLine_dict (Nat.le_trans hcD (by rw [List.length_cons, List.length_nil, sizeLine_eq]; omega))) (wpAny_pure (h h' hn' ?_ fun b o hb q => ?_)))
  · rw [hs.2 x hxs]
    exact Heap.get?_update_self _ hx1 rfl
  · rw [hs.2 b (Nat.ne_of_lt (Heap.lt_size q)), Heap.get?_update_other _ _ (Ne.symm hb)]
    exact Heap.get?_push_of_some _ q
theorem set_exc1 {E : Value → Shared → Prop} {ox : Obj} {vs : Array Value} {dx : Addr} {mA : Str → Option Value} {ns : List Str} {Q : Unit → Shared → Prop} (X : K.In s.heap) (ok : excOk K C = true) (hsa : findIn K (.ref C) "__setattr__" = some (some (.builtin "object.__setattr__"))) (hna : findIn K (.ref C) name = some none)
    (hx : s.heap.get? x = some ox) (hc : ox.cls = .ref C) (hd : ox.data = .fields vs) (hdx : ox.dict = some dx) (hn : s.heap.Ns1 dx mA) (hw : Within mA ns) (hz : ns.length < sizeLine)
    (h : ∀ h', h'.Ns1 dx (fun y => if y = name then some v else mA y) → Heap.SameBut dx s.heap h' → Q () { s with heap := h', toks := s.toks + 2 }) :
    wpAny (model prog w) A (setAttr (.ref x) name v) Q E s := by
  obtain ⟨od, _, _, hod, _⟩ := id hn
  have I : InstAt s.heap x ox C (some od) := ⟨hx, hc, by unfold notCls; rw [hd], by rw [hdx]; exact hod⟩
  obtain ⟨nm, qn, N, bs, bm, sn, sub, ab, col, dd, k0, k1, k2, k3, k5, hC, T, hcl⟩ := excOk_at X ok
  refine set_plain X I hsa (osa_exc (s := { s with toks := s.toks + 1 }) X I ok hna ?_)
  obtain ⟨oc, odi, oda, osl⟩ := ox
  dsimp only at hc hd hdx
  subst hc hd hdx
  refine wpAny_bind (wpAny_pure (wpAny_bind (wpAny_bind (wpAny_loadPart hx (wpAny_bind (Looks.here (s := { s with toks := s.toks + 1 }) (looks_clsIn X hcl) ?_))))))
  refine wpAny_pure (a := some dx) (wpAny_bind (wpAny_pure (wpAny_bind ?_)))
  refine wpAny_nsSet1 (s := { s with toks := s.toks + 1 }) hn fun h' hn' hs => ?_
  obtain ⟨oD, esD, epD, hoD, hdD, hcD⟩ := hn'.count (Within.cons name v hw)
  exact wpAny_bind (wpAny_lookBehind hoD (by rw [hdD]; exact pastItsLine_dict (Nat.le_trans hcD (by rw [List.length_cons]; omega))) (wpAny_pure (h h' hn' hs)))
theorem get_exc {E : Value → Shared → Prop} {ox od : Obj} {vs : Array Value} {dx : Addr} {expr : Bool} {Q : Value → Shared → Prop} (X : K.In s.heap) (ok : excOk K C = true)
    (hga : findIn K (.ref C) "__getattribute__" = some (some (.builtin "BaseException.__getattribute__"))) (hk : findIn K (.ref C) "__getattr__" = some none) (hna : findIn K (.ref C) name = some none)
    (hx : s.heap.get? x = some ox) (hc : ox.cls = .ref C) (hd : ox.data = .fields vs) (hdx : ox.dict = some dx) (hod : s.heap.get? dx = some od) (hl : lookIn name od = some (some v)) (hv : handedIn v = true)
    (h : Q v { s with toks := s.toks + 1 }) : wpAny (model prog w) A (getAttr (.ref x) name expr) Q E s := by
  have I : InstAt s.heap x ox C (some od) := ⟨hx, hc, by unfold notCls; rw [hd], by rw [hdx]; exact hod⟩
  obtain ⟨nm, qn, N, bs, bm, sn, sub, ab, col, dd, k0, k1, k2, k3, k5, hC, T, hcl⟩ := excOk_at X ok
  have hf : findObj K C (some od) name = some (.value v) := findObj_own (by unfold hasDictIn; rw [hcl]; rfl) hna rfl hl
  have FA := PySem.F.attr_ValueError
  obtain ⟨hh, g, d, t, os⟩ := s
  have L0 := I.type (M := model prog w)
  have L1 := looks_findIn (M := model prog w) X hga
  have L2 := looks_findIn (M := model prog w) X hk
  have L3 := looks_find (M := model prog w) X I hf
  have hcB : (Value.ref C :: bm).contains (.type "BaseException") = true := by rw [List.contains_cons, T.has (T := "BaseException") (b := true) (by decide +kernel), Bool.or_true]
  have sb : Looks (model prog w) hh (isInstance (.ref x) (.type "BaseException")) true := I.type.andThen (looks_mroIn X (by unfold mroIn; rw [hcl, Option.bind_some]; dsimp only; rw [if_neg (by simp), hcB]))
  unfold getAttr getAttrBy
  refine wpAny_bind (wpAny_mkText (wpAny_holding (wpAny_bind (L0.at (wpAny_bind (L1.at ?_))))))
  dsimp only
  rw [show (onTheHeap (Value.ref C) && Value.builtin "BaseException.__getattribute__" == Value.builtin "object.__getattribute__") = false from by rw [show (Value.builtin "BaseException.__getattribute__" == Value.builtin "object.__getattribute__") = false from by decide +kernel, Bool.and_false], if_neg (by decide)]
  unfold getAttrByItsOwn
  refine wpAny_bind (L2.at (wpAny_bind (wpAny_attempt (wpAny_holding ?_))))
  unfold callGetattribute
  rw [show (expr && onTheHeap (Value.builtin "BaseException.__getattribute__")) = false from Bool.and_false _, if_neg (by decide)]
  unfold boundAndCalled
  rw [FA.ga.bind]
  refine wpAny_bind (wpAny_pure (wpAny_call ?_))
  refine codeAny_call_builtin FA.ga.plain PySem.F.entry_bexc_ga ?_
  refine @check_slot (model prog w) _ _ ⟨hh, g, d, t + 1, os⟩ "BaseException.__getattribute__" "BaseException" "__getattribute__" (.ref x) [.str name t] [] _ (by decide +kernel) (by decide +kernel) sb (PySem.F.args_bexc_ga (.ref x) (.str name t)) ?_
  unfold Builtin.«object.__getattribute__»
  refine wpAny_bind (wpAny_pure (wpAny_bind (wpAny_pure (wpAny_bind (L0.at (wpAny_bind (L3.at ?_)))))))
  refine wpAny_pure ?_
  show wpAny _ _ (handedOut v) _ _ _
  rw [handedOut_of hv]
  exact wpAny_pure h
theorem raise_exc {E : Value → Shared → Prop} {env : Env} {e : Sem Value} {Q : Flow → Shared → Prop} (hh : A.handled = none)
    (h : wpAny (model prog w) A e (fun u s1 => ∃ x C ox vs, u = .ref x ∧ K.In s1.heap ∧ excOk K C = true ∧ s1.heap.get? x = some ox ∧ ox.cls = .ref C ∧ ox.data = .fields vs ∧ vs[1]? = some .none ∧ E (.ref x) s1) E s) :
    wpAny (model prog w) A (raiseStmt env (some e) none) Q E s := by
  unfold raiseStmt
  refine wpAny_bind (wpAny_mono h (fun u s1 z => ?_) fun _ _ z => z)
  obtain ⟨x, C, ox, vs, rfl, X, ok, hx, hc, hd, h1, hE⟩ := z
  obtain ⟨nm, qn, N, bs, bm, sn, sub, ab, col, dd, k0, k1, k2, k3, k5, hC, T, hcl⟩ := excOk_at X ok
  have hcB : (Value.ref C :: bm).contains (.type "BaseException") = true := by rw [List.contains_cons, T.has (T := "BaseException") (b := true) (by decide +kernel), Bool.or_true]
  obtain ⟨hp, g, d, tk, os⟩ := s1
  obtain ⟨oc, odi, oda, osl⟩ := ox
  dsimp only at hc hd
  subst hc hd
  repeat (first
    | with_reducible refine wpAny_loadPart_at hx ?_
    | with_reducible refine wpAny_loadPart_at hC ?_
    | (with_reducible refine wpAny_isSubtype_exc hC ?_; rw [hcB])
    | with_reducible refine wpAny_field hx rfl h1 ?_
    | wp_step)
  exact wpAny_raiseNew_none hh hE
theorem exc_matches {E : Value → Shared → Prop} {M : Model} {B : Addr} {ox : Obj} {Q : Bool → Shared → Prop} (X : K.In s.heap) (ok : excOk K C = true) (okB : excOk K B = true) (hm : mroIn K C (.ref B) = some true) (hx : s.heap.get? x = some ox) (hc : ox.cls = .ref C)
    (h : Q true s) : wpAny M A (excMatches (.ref x) (.ref B)) Q E s := by
  obtain ⟨nm, qn, N, bs, bm, sn, sub, ab, col, dd, k0, k1, k2, k3, k5, hC, T, hcl⟩ := excOk_at X ok
  obtain ⟨nm', qn', N', bs', bm', sn', sub', ab', col', dd', k0', k1', k2', k3', k5', hB, T', hcl'⟩ := excOk_at X okB
  have hcB : (Value.ref B :: bm').contains (.type "BaseException") = true := by rw [List.contains_cons, T'.has (T := "BaseException") (b := true) (by decide +kernel), Bool.or_true]
  have hcC : (Value.ref C :: bm).contains (.ref B) = true := by
    unfold mroIn at hm
    rw [hcl, Option.bind_some] at hm
    dsimp only at hm
    rw [if_neg (by simp)] at hm
    exact Option.some.inj hm
  obtain ⟨hp, g, d, tk, os⟩ := s
  have f := tc_notTuple
  have hT : (⟨hp, g, d, tk, os⟩ : Shared).TypeIs (.ref B) "type" := ⟨_, hB, rfl⟩
  unfold excMatches
  repeat (first
    | (with_reducible refine wpAny_loadPart_at hx ?_; rw [hc])
    | with_reducible refine wpAny_loadPart_at hB ?_
    | (with_reducible refine wpAny_isSubtype_exc hB ?_; rw [hcB])
    | (with_reducible refine wpAny_isSubtype_exc hC ?_; rw [hcC])
    | wp_step)
  exact h
end
end Mx
end
section
set_option Elab.async false
set_option linter.all false
set_option maxRecDepth 100000
namespace L2
open PySem PySem.Spec PyProof.Rows Mx
def XN (x C : Addr) (dx : Option Addr) : HO := .ext fun h => ∃ oe vs, h.get? x = some oe ∧ oe.cls = .ref C ∧ oe.dict = dx ∧ oe.data = .fields vs ∧ vs[1]? = some .none
def XF (x C : Addr) (dx : Option Addr) : HO := .ext fun h => ∃ oe vs, h.get? x = some oe ∧ oe.cls = .ref C ∧ oe.dict = dx ∧ oe.data = .fields vs ∧ 1 < vs.size
def XD (d : Addr) (fs : List (Str × V)) : HO := .ext fun h => ∃ mA, h.Ns1 d mA ∧ (∀ f, RelO (fs.lookup f) (mA f)) ∧ PySem.Within mA (fs.map (·.1)) ∧ fs.length ≤ 1000
section
variable {P : Program} {w : World} {H : Hp} {h : Heap} {x C d : Addr} {dx : Option Addr} {fs : List (Str × V)}
theorem xn_ok {oe : Obj} {vs : Array Value} (e : h.get? x = some oe) (hc : oe.cls = .ref C) (hd : oe.dict = dx) (hv : oe.data = .fields vs) (h1 : vs[1]? = some .none) : ObjOk P w H h x (XN x C dx) :=
  ⟨⟨oe, vs, e, hc, hd, hv, h1⟩, ⟨oe, e⟩, fun _ _ ⟨o, us, q, r⟩ k => ⟨o, us, k o q, r⟩⟩
theorem xf_ok {oe : Obj} {vs : Array Value} (e : h.get? x = some oe) (hc : oe.cls = .ref C) (hd : oe.dict = dx) (hv : oe.data = .fields vs) (h1 : 1 < vs.size) : ObjOk P w H h x (XF x C dx) :=
  ⟨⟨oe, vs, e, hc, hd, hv, h1⟩, ⟨oe, e⟩, fun _ _ ⟨o, us, q, r⟩ k => ⟨o, us, k o q, r⟩⟩
theorem xd_ok {mA : Str → Option Value} (n : h.Ns1 d mA) (r : ∀ f, RelO (fs.lookup f) (mA f)) (q : PySem.Within mA (fs.map (·.1))) (z : fs.length ≤ 1000) : ObjOk P w H h d (XD d fs) :=
  ⟨⟨mA, n, r, q, z⟩, let ⟨o, _, _, e, _⟩ := n; ⟨o, e⟩, fun _ _ ⟨m, n', r', q', z'⟩ k => ⟨m, n'.at k, r', q', z'⟩⟩
end
def FlyAt (H : Hp) (h0 h : Heap) (x : Addr) : Prop := ∃ oe vs T oT ts, h.get? x = some oe ∧ oe.data = .fields vs ∧ vs[1]? = some (.ref T) ∧ T ≠ x ∧ h.get? T = some oT ∧ oT.data = .fields ts ∧ ts[3]? = some .none ∧ H T = none ∧ h0.objs.size ≤ T
def CXr (P : Program) (w : World) : CXT := fun outer H s E e s' => ∃ (x C : Addr) (dx : Option Addr) (H' : Hp), e = .ref x ∧ s'.os = s.os ∧ AllBare s'.gens ∧ Un (frs outer) [] H H' s.heap s'.heap ∧ HOk P w H' s'.heap ∧
  H' x = some (XF x C dx) ∧ FlyAt H' s.heap s'.heap x ∧ E (.ref x) none H'
theorem upd_eq {H : Hp} {a : Addr} {o : HO} (h : H a = some o) : upd H a o = H := by
  funext b
  unfold upd
  split
  · rename_i e; rw [e, h]
  · rfl
section
variable {X : Cx} {pins : List (Addr × Obj)} {σ : St} {H : Hp} {s : Shared} {x C : Addr} {dx : Option Addr}
theorem noted_inv {oe : Obj} {Ts : List Addr} {fl : Value} {h' : Heap} {φ : Heap → Prop} (I : Inv X pins σ H s) (hx : H x = some (.ext φ)) (hc : oe.cls = .ref C) (hdx : oe.dict = dx)
    (hT : ∀ T ∈ Ts, H T = none ∧ X.s_0.heap.objs.size ≤ T ∧ T ≠ X.env.locals ∧ (∀ y c, X.env.cells.lookup y = some c → c ≠ T) ∧ ∀ p ∈ X.pn ++ pins, p.1 ≠ T) (N : Noted X.stack x oe Ts fl s.heap h') :
    Inv X pins σ (upd H x (XF x C dx)) { s with heap := h' } := by
  have nx : ∀ b, H b = none → b ≠ x := fun b n z => by rw [z, hx] at n; cases n
  have ne : ∀ b (u : HO), H b = some u → (∀ ψ, u ≠ .ext ψ) → b ≠ x := fun b u q n z => by rw [z, hx] at q; cases q; exact n φ rfl
  refine I.call (g' := s.gens) (t' := s.toks) (d' := s.drawn) (ch := Ts) ⟨fun b o q n hb hc => N.keep b o q hb (nx b n) hc, fun b o q n _ hc => N.slot b o q (nx b n) hc, fun b o q n _ => by rw [upd_ne (nx b n)]; exact n,
    fun b o q _ => N.there b o q, fun b xs q => by rw [upd_ne (ne b _ q fun _ z => nomatch z)]; exact q, fun b o u q => by rw [upd_ne (ne b _ q fun _ z => nomatch z)]; exact q,
    fun b ps q => ⟨#[], by rw [upd_ne (ne b _ q fun _ z => nomatch z), q]; simp⟩⟩ (fun b u q => ?_) I.bare (fun b hb => ⟨.inr (hT b hb).2.1, (hT b hb).2.2⟩)
  by_cases hb : b = x
  · subst hb
    rw [upd_same] at q
    cases q
    obtain ⟨vs, T, oT, ts, x1, x2, _⟩ := N.exc
    exact xf_ok x1 hc hdx rfl (Array.getElem?_eq_some_iff.mp x2).1
  · rw [upd_ne hb] at q
    refine (I.hok b u q).stay (fun c v hc' r => N.keep c v r (fun z => ?_) ?_ fun z => ?_) (fun c r => ?_) fun c xs r => ?_
    · have n := I.stkFree c z
      rcases hc' with e | e
      · rw [e, q] at n; cases n
      · rw [e] at n; cases n
    · rcases hc' with e | e
      · rw [e]; exact hb
      · exact ne c _ e fun _ z => nomatch z
    · have n := (hT c z).1
      rcases hc' with e | e
      · rw [e, q] at n; cases n
      · rw [e] at n; cases n
    · rw [upd_ne (ne c _ r fun _ z => nomatch z)]; exact r
    · rw [upd_ne (ne c _ r fun _ z => nomatch z)]; exact r
theorem noted_fly {oe : Obj} {Ts : List Addr} {h' : Heap} {φ : Heap → Prop} (I : Inv X pins σ H s) (hx : H x = some (.ext φ)) (N : Noted X.stack x oe Ts .none s.heap h') : FlyAt (upd H x (XF x C dx)) s.heap h' x := by
  obtain ⟨vs, T, oT, ts, x1, x2, x3, x4, x5, x6, x7⟩ := N.exc
  exact ⟨_, vs, T, oT, ts, x1, rfl, x2, x4, x5, x6, x7, by rw [upd_ne x4]; exact I.hok.fresh x3, x3⟩
def Throws (X : Cx) (E : XK) : Prop := ∀ (pins : List (Addr × Obj)) (σ : St) (H : Hp) (s : Shared) (x C : Addr) (dx : Option Addr), Inv X pins σ H s → H x = some (XN x C dx) → E (.ref x) none (upd H x (XF x C dx)) → X.xe (.ref x) s
end
section
variable {P : Program} {w : World} {K : PySem.W.Frag} {mg : Str → Option Value} {base : Heap} {N : List Str} {qual : Str} {scope : Scope} {f : Addr} {cd : Value} {A : Around} {outer : List Env} {s0 : Shared} {H0 : Hp} {E : XK}
theorem throws_r : Throws (cxOf (CXr P w) P w K mg base N qual scope f cd A outer s0 H0 E) E := by
  intro pins σ H s x C dx I hx hE
  obtain ⟨⟨oe, vs, e1, e2, e3, e4, e5⟩, _, _⟩ := I.hok x _ hx
  refine leave_first (base := base) (L := (envOfC qual scope s0.heap.objs.size f cd).locals) I.ok.frames I.stack rfl e1 e4 e5 fun h' Nt => ?_
  have I' := noted_inv (dx := dx) I hx e2 e3 (fun T z => absurd z (by simp)) Nt
  exact ⟨x, C, dx, _, rfl, I'.os, I'.bare, I'.base, I'.hok, upd_same, let ⟨oe, vs, T, oT, ts, a1, a2, a3, a4, a5, a6, a7, a8, a9⟩ := noted_fly (C := C) (dx := dx) I hx Nt; ⟨oe, vs, T, oT, ts, a1, a2, a3, a4, a5, a6, a7, a8, Nat.le_trans I.sz a9⟩, hE⟩
theorem passes_r : Passes (CXr P w) (cxOf (CXr P w) P w K mg base N qual scope f cd A outer s0 H0 E) E := by
  intro pins σ H s e s' I hx
  obtain ⟨x, C, dx, H', rfl, os, bare, un, hok, hx, ⟨oe, vs, T, oT, ts, a1, a2, a3, a4, a5, a6, a7, a8, a9⟩, hE⟩ := hx
  have I1 := I.call' (ch := []) os un hok bare (fun b z => absurd z (by simp))
  obtain ⟨⟨oe', vs', e1, e2, e3, e4, e5⟩, _, _⟩ := I1.hok x _ hx
  rw [a1] at e1
  cases e1
  refine leave_next (base := base) (L := (envOfC qual scope s0.heap.objs.size f cd).locals) I1.ok.frames I1.stack rfl a1 a2 a3 a5 a6 a7 a4 fun h' Nt => ?_
  have hT : ∀ T' ∈ [T], H' T' = none ∧ s0.heap.objs.size ≤ T' ∧ T' ≠ (envOfC qual scope s0.heap.objs.size f cd).locals ∧ (∀ y c, (envOfC qual scope s0.heap.objs.size f cd).cells.lookup y = some c → c ≠ T') ∧ ∀ p ∈ ([] : List (Addr × Obj)) ++ pins, p.1 ≠ T' := fun T' z => by
    rw [List.mem_singleton.mp z]
    refine ⟨a8, Nat.le_trans I.sz a9, fun q => ?_, fun y c q z' => ?_, fun p hp q => ?_⟩
    · exact absurd I.lt (by show ¬ (envOfC qual scope s0.heap.objs.size f cd).locals < _; rw [← q]; exact Nat.not_lt.mpr a9)
    · obtain ⟨v, o, ho, _⟩ := I.cell y c q
      exact absurd (Heap.lt_size ho) (by rw [z']; exact Nat.not_lt.mpr a9)
    · obtain ⟨ho, _⟩ := I.pin p hp
      exact absurd (Heap.lt_size ho) (by rw [q]; exact Nat.not_lt.mpr a9)
  have I' := noted_inv (dx := dx) I1 hx e2 e3 hT Nt
  have fl := noted_fly (C := C) (dx := dx) I1 hx Nt
  rw [upd_eq hx] at I' fl
  obtain ⟨oe, vs, T, oT, ts, a1, a2, a3, a4, a5, a6, a7, a8, a9⟩ := fl
  exact ⟨x, C, dx, _, rfl, I'.os, I'.bare, I'.base, I'.hok, hx, ⟨oe, vs, T, oT, ts, a1, a2, a3, a4, a5, a6, a7, a8, Nat.le_trans I1.sz a9⟩, hE⟩
end
structure ClsX (K : PySem.W.Frag) (C : Addr) : Prop where
  ok : excOk K C = true
  sa : PySem.W.findIn K (.ref C) "__setattr__" = some (some (.builtin "object.__setattr__"))
  ga : PySem.W.findIn K (.ref C) "__getattribute__" = some (some (.builtin "BaseException.__getattribute__"))
  gt : PySem.W.findIn K (.ref C) "__getattr__" = some none
structure MkX (K : PySem.W.Frag) (C f : Addr) : Prop where
  ok : excOk K C = true
  init : PySem.W.findIn K (.ref C) "__init__" = some (some (.ref f))
  fn : PySem.W.isFn K (.ref f) = true
  kp : PySem.W.keepIn K (.ref C) = true
def tMakeX (C : Addr) (sp : Sp) (E : XK) (t : TA) : TE := fun σ H Q => t σ H fun vs H1 => vs.length ≤ sizeLine ∧ ∀ x, H1 x = none → sp (.ref x :: vs) (upd H1 x (XN x C none)) (fun v H2 => v = .non ∧ Q (.ref x) H2) E
section
variable {X : Cx} {CX : CXT} {k : Nat} {f C : Addr} {fd : FuncData} {ps : List Str} {sp : Sp} {E : XK} {x m : Str} {p pos apos : Pos} {e o : Expr} {es : List Expr} {ta : TE} {t : TA}
theorem run_makeX {pins : List (Addr × Obj)} {σ : St} {H : Hp} {s : Shared} {Q : VK} {us : List Value} {vs : List V} (M : MkX X.K C f) (F : FnOk X.prog X.w X.K X.mg X.base CX k f fd ps sp) (hr : Room (k + 1) X.A) (hb : Binds X.K fd ps [])
    (hx : Passes CX X E) (I : Inv X pins σ H s) (r : Vals vs us) (hz : vs.length ≤ sizeLine) (h : ∀ x, H x = none → sp (.ref x :: vs) (upd H x (XN x C none)) (fun v H2 => v = .non ∧ Q (.ref x) H2) E) :
    wpAny (model X.prog X.w) X.A (call (.ref C) us) (EP X pins σ Q) X.xe s := by
  have hq := h (s.heap.objs.size + 1) (I.hok.fresh (Nat.le_succ _))
  have I1 : Inv X pins σ H { s with heap := s.heap.push { cls := .type "tuple", data := .seq us.toArray } } := I.kept (t' := s.toks) fun b u q => Heap.get?_push_of_some _ q
  have eX : ((s.heap.push { cls := .type "tuple", data := .seq us.toArray }).push (excObj C s.heap.objs.size none)).get? (s.heap.objs.size + 1) = some (excObj C s.heap.objs.size none) := by
    have := Heap.get?_push_size (s.heap.push { cls := .type "tuple", data := .seq us.toArray }) (o := excObj C s.heap.objs.size none) rfl
    rwa [Heap.size_push] at this
  have I2 : Inv X pins σ (upd H (s.heap.objs.size + 1) (XN (s.heap.objs.size + 1) C none)) { s with heap := (s.heap.push { cls := .type "tuple", data := .seq us.toArray }).push (excObj C s.heap.objs.size none) } :=
    I1.laid (t' := s.toks) (fun b u q => Heap.get?_push_of_some _ q) (Nat.le_of_eq (Heap.size_push _ _)) (xn_ok eX rfl rfl rfl rfl)
  have r2 : Vals (V.ref (s.heap.objs.size + 1) :: vs) (Value.ref (s.heap.objs.size + 1) :: us) := .cons rfl r
  have hl : (Value.ref (s.heap.objs.size + 1) :: us ++ []).length = ps.length := by
    have e := r2.length
    rw [F.len _ _ _ _ hq] at e
    rw [List.append_nil]
    exact e.symm
  have hbd := hb { s with heap := (s.heap.push { cls := .type "tuple", data := .seq us.toArray }).push (excObj C s.heap.objs.size none) } (Value.ref (s.heap.objs.size + 1) :: us) I2.kIn hl
  rw [List.append_nil] at hbd
  refine wpAny_call (make_exc I.kIn M.ok M.init (beq_iff_eq.mp M.fn) (by rw [← r.length]; exact hz) (codeAny_mono (F.run _ X.stack _ _ ⟨Value.ref (s.heap.objs.size + 1) :: us, []⟩ _ _ _ E (hr.make C us []) (I2.env0.make C us []) hbd r2 hq) fun r s' hq' => ?_))
  cases r with
  | error e => exact hx pins σ _ _ e s' I2 hq'
  | ok fl =>
    cases fl with
    | ret u =>
      obtain ⟨v, H', I3, rv, ev, q3⟩ := I2.after hq'
      subst ev
      exact ⟨rv, ⟨V.ref (s.heap.objs.size + 1), H', I3, rfl, q3⟩⟩
    | next => exact False.elim hq'
    | brk => exact False.elim hq'
    | cont => exact False.elim hq'
theorem pe_makeX (M : MkX X.K C f) (F : FnOk X.prog X.w X.K X.mg X.base CX k f fd ps sp) (hr : Room (k + 1) X.A) (hg : Gl X x) (hm : X.mg x = some (.ref C)) (hb : Binds X.K fd ps []) (hx : Passes CX X E)
    (ha : PA X (e :: es) t) (hdb : (x == ("__debug__" : Str)) = false := by decide) (he : starEach (e :: es) X.env = (false, eval e X.env) :: starEach es X.env := by rfl) (hpl : (backTo pos (starEach es X.env)).any (·.1) = false := by rfl) :
    PE X (.Call (.Name x p) (e :: es) [] pos) (tMakeX C sp E t) := by
  intro pins s σ H Q I h
  refine wpAny_Call_Name_kw (ld_glob I hg hm ?_ hdb)
  refine PySem.W.callWith_K (h₀ := X.base) I.ok.mod.kin M.kp (thn (ha pos pins s σ H _ I h) fun us s1 ⟨vs, H1, I1, r, z, q⟩ => ⟨I1.kIn, ?_⟩) he hpl
  exact run_makeX M F hr hb hx I1 r z q
theorem pe_makeX0 (M : MkX X.K C f) (F : FnOk X.prog X.w X.K X.mg X.base CX k f fd ps sp) (hr : Room (k + 1) X.A) (hg : Gl X x) (hm : X.mg x = some (.ref C)) (hb : Binds X.K fd ps []) (hx : Passes CX X E)
    (hdb : (x == ("__debug__" : Str)) = false := by decide) : PE X (.Call (.Name x p) [] [] pos) (tMakeX C sp E tNil) := by
  intro pins s σ H Q I h
  obtain ⟨z, h⟩ := h
  refine wpAny_Call_Name_kw (ld_glob I hg hm ?_ hdb)
  exact PySem.W.callWith_K0 I.kIn M.kp (run_makeX (us := []) (vs := []) M F hr hb hx I .nil z h)
structure CMeth (K : PySem.W.Frag) (C : Addr) (m : Str) (f : Addr) : Prop where
  ga : PySem.W.specialIn K (.ref C) "__getattribute__" = some (some (.builtin "type.__getattribute__"))
  rd : PySem.W.readsIn K C (.type "type") = true
  at_ : PySem.W.findCls K (.ref C) (.type "type") m = some (.val (.ref f))
  kp : PySem.W.keepIn K (.ref f) = true
theorem pe_cmeth {pl : Sem Bool} (M : CMeth X.K C m f) (F : FnOk X.prog X.w X.K X.mg X.base CX k f fd ps sp) (hr : Room k X.A) (hg : Gl X x) (hm : X.mg x = some (.ref C)) (hb : Binds X.K fd ps []) (hx : Passes CX X E) (ha : PA X (e :: es) t)
    (hdb : (x == ("__debug__" : Str)) = false := by decide) (hst : starEach (e :: es) X.env = (false, eval e X.env) :: starEach es X.env := by rfl) (hpl : (backTo pos (starEach es X.env)).any (·.1) = false := by rfl)
    (ht : eval (.Call (.Attribute (.Name x p) m apos) (e :: es) [] pos) X.env = (do
      let ov ← eval (.Name x p) X.env
      standAt apos.atName
      let (f, first) ← holding [ov] (getMethod ov m pl)
      callWith pos f first (backTo pos (starEach (e :: es) X.env)) (backToKw pos (keywordEach [] X.env))) := by rfl) :
    PE X (.Call (.Attribute (.Name x p) m apos) (e :: es) [] pos) (tCall sp [] E t) := by
  intro pins s σ H Q I h
  refine PySem.W.methodCall_KW (pl := pl) (ld_glob I hg hm ?_ hdb) ht
  refine PySem.W.method_cls I.kIn M.ga (PySem.W.cls_value I.kIn M.rd M.at_ rfl ?_)
  have I1 := I.tok (s.toks + 1)
  refine PySem.W.callWith_K (first := []) (h₀ := X.base) I.ok.mod.kin M.kp (thn (ha pos pins _ σ H _ I1 h) fun us s2 ⟨vs, H2, I2, r, q2⟩ => ⟨I2.kIn, ?_⟩) hst hpl
  exact run_fn F hr hb .nil hx I2 r q2
end
def sXFld0 (K : PySem.W.Frag) (ta tv : TE) (f : Str) : TS := fun D σ H => tv σ H fun y H1 => ta σ H1 fun v H2 => ∃ x C, v = .ref x ∧ H2 x = some (XN x C none) ∧ ClsX K C ∧ NoAttr K C f ∧
  ∀ d, H2 d = none → D.nx σ (upd (upd H2 x (XN x C (some d))) d (XD d [(f, y)]))
def sXFld1 (K : PySem.W.Frag) (ta tv : TE) (f : Str) : TS := fun D σ H => tv σ H fun y H1 => ta σ H1 fun v H2 => ∃ x C d fs, v = .ref x ∧ H2 x = some (XN x C (some d)) ∧ H2 d = some (XD d fs) ∧ ClsX K C ∧ NoAttr K C f ∧ fs.length < 1000 ∧
  D.nx σ (upd H2 d (XD d (putF f y fs)))
def tXFld (K : PySem.W.Frag) (ta : TE) (f : Str) : TE := fun σ H Q => ta σ H fun v H1 => ∃ x C d fs y, v = .ref x ∧ H1 x = some (XF x C (some d)) ∧ H1 d = some (XD d fs) ∧ ClsX K C ∧ NoAttr K C f ∧ fs.lookup f = some y ∧ Q y H1
section
variable {X : Cx} {o e value : Expr} {f : Str} {pos pos' tpos : Pos} {ta tv : TE}
theorem ps_xfld0 (ha : PE X o ta) (hv : PE X value tv) (hs : swapsWith value (some (.Attribute o f pos')) pos.line X.env = pure false) : PS X (.Assign [.Attribute o f pos'] value pos) (sXFld0 X.K ta tv f) := by
  intro pins s σ H D I h
  refine plainObj_wpAny_Assign_Attribute (thn (hv pins s σ H _ I h) fun u s1 ⟨y, H1, I1, ry, q⟩ => thn (ha pins s1 σ H1 _ I1 q) fun ov s2 ⟨v, H2, I2, rx, x, C, ex, hx, c, n, q2⟩ => ?_) hs
  subst ex
  obtain rfl : ov = Value.ref x := rx
  obtain ⟨⟨oe, vs, e1, e2, e3, e4, e5⟩, _, _⟩ := I2.hok x _ hx
  refine set_exc0 I2.kIn c.ok c.sa n e1 e2 e4 e3 fun h' k1 k2 k3 => ?_
  have hf : H2 s2.heap.objs.size = none := I2.hok.fresh (Nat.le_refl _)
  have hne : s2.heap.objs.size ≠ x := Ne.symm (Nat.ne_of_lt (Heap.lt_size e1))
  refine ⟨σ, _, ?_, q2 _ hf⟩
  have kx : ∀ b u, (b = x → False) → s2.heap.get? b = some u → h'.get? b = some u := fun b u hb q => k3 b u hb q
  have mu : Mut (H2 x) := by rw [hx]; exact True.intro
  have un : Un X.fs [] H2 (upd (upd H2 x (XN x C (some s2.heap.objs.size))) s2.heap.objs.size (XD s2.heap.objs.size [(f, y)])) s2.heap h' := by
    have u1 : Un X.fs [] H2 (upd H2 x (XN x C (some s2.heap.objs.size))) s2.heap h' := Un.write mu (.inl rfl) (fun b u hb q => k3 b u hb q) ⟨_, k2⟩
    refine ⟨u1.keep, u1.slot, fun b ob q n hb => ?_, u1.there, fun b xs q => ?_, fun b ob u q => ?_, fun b ps q => ?_⟩
    · rw [upd_ne (Nat.ne_of_lt (Heap.lt_size q))]; exact u1.free b ob q n hb
    · rw [upd_ne (ne_of_none q hf)]; exact u1.tups b xs q
    · rw [upd_ne (ne_of_none q hf)]; exact u1.frzs b ob u q
    · obtain ⟨more, z⟩ := u1.tbls b ps q
      exact ⟨more, by rw [upd_ne (ne_of_none q hf)]; exact z⟩
  refine I2.un un fun b u q => ?_
  by_cases hd : b = s2.heap.objs.size
  · subst hd
    rw [upd_same] at q
    cases q
    refine xd_ok k1 (fun g => ?_) (fun g hg => ?_) (by simp)
    · show RelO (List.lookup g [(f, y)]) (if g = f then some u else none)
      by_cases hgf : g = f
      · subst hgf
        simp only [List.lookup, beq_self_eq_true, if_true]
        exact ry
      · have hb : (g == f) = false := beq_eq_false_iff_ne.mpr hgf
        simp only [List.lookup, hb, if_neg hgf]
        exact True.intro
    · by_cases hgf : g = f
      · simp [hgf]
      · exact absurd (if_neg hgf) hg
  · rw [upd_ne hd] at q
    by_cases hb : b = x
    · subst hb
      rw [upd_same] at q
      cases q
      exact xn_ok k2 e2 rfl e4 e5
    · rw [upd_ne hb] at q
      refine (I2.hok b u q).stay (fun c v hc r => k3 c v ?_ r) (fun c r => ?_) fun c xs r => ?_
      · rcases hc with z | z
        · rw [z]; exact hb
        · intro e; rw [e, hx] at z; cases z
      · rw [upd_ne (ne_of_none r hf), upd_ne (fun z => by rw [z, hx] at r; cases r)]; exact r
      · rw [upd_ne (ne_of_none r hf), upd_ne (fun z => by rw [z, hx] at r; cases r)]; exact r
theorem ps_xfld1 (ha : PE X o ta) (hv : PE X value tv) (hs : swapsWith value (some (.Attribute o f pos')) pos.line X.env = pure false) : PS X (.Assign [.Attribute o f pos'] value pos) (sXFld1 X.K ta tv f) := by
  intro pins s σ H D I h
  refine plainObj_wpAny_Assign_Attribute (thn (hv pins s σ H _ I h) fun u s1 ⟨y, H1, I1, ry, q⟩ => thn (ha pins s1 σ H1 _ I1 q) fun ov s2 ⟨v, H2, I2, rx, x, C, d, fs, ex, hx, hd, c, n, hl, q2⟩ => ?_) hs
  subst ex
  obtain rfl : ov = Value.ref x := rx
  obtain ⟨⟨oe, vs, e1, e2, e3, e4, e5⟩, _, _⟩ := I2.hok x _ hx
  obtain ⟨⟨mA, k1, k2, k3, k4⟩, _, _⟩ := I2.hok d _ hd
  refine set_exc1 I2.kIn c.ok c.sa n e1 e2 e4 e3 k1 k3 (by rw [List.length_map, sizeLine_eq]; omega) fun h' n1 sb => ⟨σ, _, ?_, q2⟩
  refine I2.write (x := d) (e := d) (by rw [hd]; exact True.intro) (.inl rfl) (fun b q hb z => (sb.2 b hb).trans z) (let ⟨o, _, _, z, _⟩ := n1; ⟨o, z⟩) ?_
  refine xd_ok n1 (fun g => ?_) (fun g hg => ?_) (by have := length_putF f y fs; omega)
  · rw [lookup_putF]
    by_cases q : g = f
    · rw [if_pos q, if_pos q]; exact ry
    · rw [if_neg q, if_neg q]; exact k2 g
  · by_cases q : g = f
    · rw [q]; exact (keys_putF f y fs).1
    · refine (keys_putF f y fs).2 g (k3 g fun z => hg ?_)
      show (if g = f then some u else mA g) = none
      rw [if_neg q]; exact z
theorem pe_xfld (he : PE X e ta) (hb : attributeBase e f X.env (eval e X.env) = eval e X.env) : PE X (.Attribute e f pos) (tXFld X.K ta f) := by
  intro pins s σ H Q I h
  refine attr_of hb (thn (he pins s σ H _ I h) fun u s1 ⟨v, H1, I1, rx, x, C, d, fs, y, ex, hx, hd, c, n, l, q⟩ => ?_)
  subst ex
  obtain rfl : u = Value.ref x := rx
  obtain ⟨⟨oe, vs, e1, e2, e3, e4, e5⟩, _, _⟩ := I1.hok x _ hx
  obtain ⟨⟨mA, k1, k2, k3, k4⟩, _, _⟩ := I1.hok d _ hd
  obtain ⟨w', hw, rw'⟩ := RelO.some_of (v := y) (o := mA f) (by rw [← l]; exact k2 f)
  obtain ⟨od, ho, hlk⟩ := lookIn_ns k1
  exact get_exc I1.kIn c.ok c.ga c.gt n e1 e2 e4 e3 ho (by rw [hlk, hw]) (handed_of rw') ⟨y, H1, I1.tok _, rw', q⟩
end
def tRaise (K : PySem.W.Frag) (E : XK) (te : TE) : TS := fun D σ H => te σ H fun v H1 => ∃ x C dx, v = .ref x ∧ H1 x = some (XN x C dx) ∧ excOk K C = true ∧ E (.ref x) none (upd H1 x (XF x C dx))
theorem ps_raise {X : Cx} {E : XK} {e : Expr} {te : TE} {pos : Pos} (he : PE X e te) (hc : X.calm = true) (hth : Throws X E) : PS X (.Raise (some e) none pos) (tRaise X.K E te) := by
  intro pins s σ H D I h
  rw [arm_exec_Raise]
  refine wpAny_bind (wpAny_standAt (raise_exc (K := X.K) (I.ok.hd hc) ?_))
  refine wpAny_bind (thn (he pins s σ H _ I h) fun u s1 ⟨v, H1, I1, rx, x, C, dx, ex, hx, ok, hE⟩ => wpAny_bind (wpAny_standAt (wpAny_pure ?_)))
  subst ex
  obtain rfl : u = Value.ref x := rx
  obtain ⟨⟨oe, vs, e1, e2, e3, e4, e5⟩, _, _⟩ := I1.hok x _ hx
  exact ⟨x, C, oe, vs, rfl, I1.kIn, ok, e1, e2, e4, e5, hth pins σ H1 s1 x C dx I1 hx hE⟩
structure RoomH (k : Nat) (A : Around) : Prop where
  dp : A.depth + 3 * k + 5 < recursionLimit
  un : A.units + 16 * k + 200 < cLine
theorem Room.h {k : Nat} {A : Around} (r : Room k A) : RoomH k A := ⟨r.dp, r.un⟩
theorem RoomH.deeper {k : Nat} {A : Around} (r : RoomH (k + 1) A) (env : Env) : RoomH k (A.deeper env) :=
  ⟨by have := r.dp; show A.depth + 1 + 3 * k + 5 < _; omega, by have := r.un; show A.units + 3 + 16 * k + 200 < _; omega⟩
theorem RoomH.depth {k : Nat} {A : Around} (r : RoomH k A) : A.depth < recursionLimit := by have := r.dp; omega
structure FnOkH (P : Program) (w : World) (K : PySem.W.Frag) (mg : Str → Option Value) (base : Heap) (CX : CXT) (k : Nat) (f : Addr) (fd : FuncData) (ps : List Str) (sp : Sp) : Prop where
  len : ∀ vs H Q E, sp vs H Q E → vs.length = ps.length
  run : ∀ (A : Around) (outer : List Env) (s : Shared) (H : Hp) (args : Args) (us : List Value) (vs : List V) (Q : VK) (E : XK), RoomH k A → Env0 P w K mg base A outer s H → BindsTo s fd args (ps.zip us) → Vals vs us → sp vs H Q E →
    codeAny (model P w) A (.call (.ref f) args) (CR CX outer P w H s Q E) s
theorem FnOkH.ok {P : Program} {w : World} {K : PySem.W.Frag} {mg : Str → Option Value} {base : Heap} {CX : CXT} {k : Nat} {f : Addr} {fd : FuncData} {ps : List Str} {sp : Sp} (F : FnOkH P w K mg base CX k f fd ps sp) : FnOk P w K mg base CX k f fd ps sp :=
  ⟨F.len, fun A outer s H args us vs Q E hr => F.run A outer s H args us vs Q E hr.h⟩
def cxH (CX : CXT) (P : Program) (w : World) (K : PySem.W.Frag) (mg : Str → Option Value) (base : Heap) (N : List Str) (qual : Str) (scope : Scope) (f : Addr) (cd : Value) (A : Around) (outer : List Env) (s : Shared) (H : Hp) (E : XK) : Cx :=
  { cxOf CX P w K mg base N qual scope f cd A outer s H E with calm := false }
theorem inv_startH {CX : CXT} {P : Program} {w : World} {K : PySem.W.Frag} {mg : Str → Option Value} {base : Heap} {N ps : List Str} {qual : Str} {scope : Scope} {f : Addr} {cd : Value} {A : Around} {outer : List Env} {s s1 : Shared} {H : Hp} {E : XK} {us : List Value} {vs : List V}
    (S : FnScope N ps scope) (e0 : Env0 P w K mg base A outer s H) (hl : vs.length = ps.length) (r : Vals vs us)
    (x : InCallC s s.heap.objs.size (bindL (envOfC qual scope s.heap.objs.size f cd).kindOf (ps.zip us) fun _ => none) (cellsFrom (s.heap.objs.size + 1) scope.names []) (bindC (envOfC qual scope s.heap.objs.size f cd).kindOf (ps.zip us) fun _ => none) s1) :
    Inv (cxH CX P w K mg base N qual scope f cd A outer s H E) [] (start N vs) H s1 := by
  have hpl : ps.length ≤ N.length := by have := congrArg List.length S.pre; rw [List.length_take] at this; omega
  obtain ⟨h1, tk, rfl, hk⟩ := x.done
  have noA : ∀ b : Addr, b ∉ (cxH CX P w K mg base N qual scope f cd A outer s H E).ex := fun b z => absurd (show b ∈ ([] : List Addr) from z) (by simp)
  refine ⟨⟨e0.mod, S.kind, rfl, rfl, Nat.le_refl _, fun y z c h1 h2 => ?_, fun y hy => ?_, fun y c _ h => ?_, (fun z => nomatch (show false = true from z)), Around.frames_deeper e0.frames, .inr ⟨rfl, rfl⟩, fun b z => absurd z (noA b), e0.bs, e0.bsz, fun b _ _ => noA b, fun b z => absurd z (noA b), e0.funs, e0.frf⟩,
    rfl, e0.bare, Un.kept hk, ⟨_, x.toInCall.ns, fun i y v h1 h2 h3 => ?_⟩, fun y c h => ⟨_, x.cell y c h⟩, e0.hok.fresh (Nat.le_refl _), fun y c h => ?_, fun p hp => absurd (show p ∈ ([] : List (Addr × Obj)) from hp) (by simp), e0.hok.kept hk, ?_⟩
  · exact name_of_addr x.apart (PySem.mem_of_lookup h1) (PySem.mem_of_lookup h2)
  · have hy : scope.names.lookup y = some .cell ∨ scope.names.lookup y = some .free := hy
    rcases hy with hy | hy
    · exact cell_has hy
    · exact absurd rfl (S.nofree _ (PySem.mem_of_lookup hy))
  · exact Nat.le_of_lt (x.above y c (PySem.mem_of_lookup h))
  · have hi : i < vs.length := by
      unfold start at h2
      by_cases hi : i < vs.length
      · exact hi
      · rw [List.getElem?_append_right (by simpa using hi)] at h2
        rw [List.getElem?_replicate] at h2
        split at h2 <;> cases h2
    have ha : vs[i]? = some v := by
      unfold start at h2
      rw [List.getElem?_append_left (by simpa using hi), List.getElem?_map] at h2
      cases e : vs[i]? with
      | none => rw [e] at h2; cases h2
      | some a => rw [e] at h2; cases h2; rfl
    obtain ⟨u, hu, rv⟩ := r.get ha
    have hp : ps[i]? = some y := by
      rw [← S.pre, List.getElem?_take_of_lt (by omega)]; exact h1
    have ndP : ps.Nodup := by rw [← S.pre]; exact S.nd.sublist (List.take_sublist _ _)
    refine ⟨u, rv, ?_⟩
    rcases S.par y (List.mem_of_getElem? hp) with k | k
    · exact .inl ⟨k, bindL_get ndP hp hu k⟩
    · obtain ⟨c, e⟩ := cell_has (n := s.heap.objs.size + 1) k
      refine .inr ⟨.inl k, c, e, ?_⟩
      have q := x.cell y c e
      rw [bindC_get ndP hp hu (by show scope.names.lookup y ≠ _; rw [k]; decide)] at q
      exact q
  · exact e0.hok.fresh (Nat.le_of_lt (x.above y c (PySem.mem_of_lookup h)))
  · unfold start
    show _ = N.length
    rw [List.length_append, List.length_map, List.length_replicate]
    omega
theorem fn_ofH {CX : CXT} {P : Program} {w : World} {K : PySem.W.Frag} {mg : Str → Option Value} {base : Heap} {k : Nat} {f : Addr} {name qual : Str} {params : Arguments} {body : List Stmt} {scope : Scope} {dV kV doc pm cdv ct oc : Value} {an od : Option Addr}
    {osl : Array (Option Value)} {N ps : List Str} {sp : Sp} (lk : K.lookup f = some ⟨oc, od, .func (PySem.W.fnOf name qual params body scope dV kV doc pm an cdv ct), osl⟩) (hcd : PySem.W.codeIn K cdv qual = true) (S : FnScope N ps scope)
    (len : ∀ vs H Q E, sp vs H Q E → vs.length = ps.length)
    (hbody : ∀ (A : Around) (outer : List Env) (s : Shared) (H : Hp) (vs : List V) (Q : VK) (E : XK), RoomH k (A.deeper (envOfC qual scope s.heap.objs.size f cdv)) → sp vs H Q E →
      ∃ t, PSs (cxH CX P w K mg base N qual scope f cdv A outer s H E) body t ∧ t { nx := fun _ H' => Q .non H', rt := Q } (start N vs) H) :
    FnOkH P w K mg base CX (k + 1) f (PySem.W.fnOf name qual params body scope dV kV doc pm an cdv ct) ps sp := by
  refine ⟨len, fun A outer s H args us vs Q E hr e0 hb r hsp => ?_⟩
  have hl := len _ _ _ _ hsp
  have KX : K.In s.heap := e0.mod.kin.keeps fun b o e => (e0.bs b o e).1
  have lim : s.heap.NoLimit := e0.mod.nolimit.keeps fun b o e => (e0.bs b o e).1
  have hkind : ∀ y ∈ ps.zip us, scope.names.lookup y.1 = some .local ∨ (scope.names.lookup y.1 = some .cell ∧ ((cellsFrom (s.heap.objs.size + 1) scope.names []).lookup y.1).isSome = true) := fun ⟨n, v⟩ hy => by
    rcases S.par n (List.of_mem_zip hy).1 with q | q
    · exact .inl q
    · exact .inr ⟨q, PySem.W.cellsFrom_some _ _ _ (.inl q)⟩
  refine codeAny_call_function hr.depth (KX _ _ lk) rfl S.co S.gen rfl (PySem.W.codeRec_of KX hcd) (hb _ _ _ _ ?_)
  refine wpAny_newFunctionEnv_cells S.kind hkind fun env he s1 x => ?_
  subst he
  refine ⟨lim.keeps x.toInCall.keep, codeAny_func ?_⟩
  obtain ⟨t, ht, hq⟩ := hbody A outer s H vs Q E (hr.deeper _) hsp
  have I : Inv (cxH CX P w K mg base N qual scope f cdv A outer s H E) [] (start N vs) H s1 := inv_startH S e0 hl r x
  refine wpAny_mono (ht [] s1 (start N vs) H _ I hq) (fun fl s' hs => ?_) fun e s' hs => hs
  have fin : ∀ {σ' : St} {H' : Hp} {v : V} {u : Value}, Inv (cxH CX P w K mg base N qual scope f cdv A outer s H E) [] σ' H' s' → RelV v u → Q v H' → CE outer P w H s Q u s' :=
    fun {σ' H' v u} J rv q => ⟨v, H', J.os, J.bare, J.base, J.hok, rv, q⟩
  cases fl with
  | ret u =>
    obtain ⟨v, σ', H', J, rv, q⟩ := hs
    exact fin J rv q
  | next =>
    obtain ⟨σ', H', J, q⟩ := hs
    exact fin (v := V.non) (u := Value.none) J rfl q
  | brk =>
    obtain ⟨_, _, _, q⟩ := hs
    exact False.elim q
  | cont =>
    obtain ⟨_, _, _, q⟩ := hs
    exact False.elim q
section
variable {X : Cx} {CX : CXT} {k : Nat} {f C : Addr} {fd : FuncData} {ps : List Str} {sp : Sp} {E : XK} {x m : Str} {p pos apos : Pos} {e o : Expr} {es : List Expr} {ta : TE} {t : TA}
theorem run_fnH {pins : List (Addr × Obj)} {σ : St} {H : Hp} {s : Shared} {Q : VK} {us : List Value} {vs : List V} (F : FnOkH X.prog X.w X.K X.mg X.base CX k f fd ps sp) (hr : RoomH k X.A) (hb : Binds X.K fd ps []) (hx : Passes CX X E)
    (I : Inv X pins σ H s) (r : Vals vs us) (h : sp vs H Q E) : wpAny (model X.prog X.w) X.A (call (.ref f) us) (EP X pins σ Q) X.xe s := by
  have hl : (us ++ []).length = ps.length := by rw [List.append_nil, ← r.length]; exact F.len _ _ _ _ h
  have hbd := hb s us I.kIn hl
  rw [List.append_nil] at hbd
  refine wpAny_call (codeAny_mono (F.run X.A X.stack s H ⟨us, []⟩ us vs Q E hr I.env0 hbd r h) fun r s' hq => ?_)
  cases r with
  | error e => exact hx pins σ H s e s' I hq
  | ok fl =>
    cases fl with
    | ret u => exact I.after hq
    | next => exact False.elim hq
    | brk => exact False.elim hq
    | cont => exact False.elim hq
theorem pe_callH (F : FnOkH X.prog X.w X.K X.mg X.base CX k f fd ps sp) (hr : RoomH k X.A) (hg : Gl X x) (hm : X.mg x = some (.ref f)) (hk : PySem.W.keepIn X.K (.ref f) = true) (hb : Binds X.K fd ps []) (hx : Passes CX X E)
    (ha : PA X (e :: es) t) (hdb : (x == ("__debug__" : Str)) = false := by decide) (he : starEach (e :: es) X.env = (false, eval e X.env) :: starEach es X.env := by rfl) (hpl : (backTo pos (starEach es X.env)).any (·.1) = false := by rfl) :
    PE X (.Call (.Name x p) (e :: es) [] pos) (tCall sp [] E t) := by
  intro pins s σ H Q I h
  refine wpAny_Call_Name_kw (ld_glob I hg hm ?_ hdb)
  refine PySem.W.callWith_K (h₀ := X.base) I.ok.mod.kin hk (thn (ha pos pins s σ H _ I h) fun us s1 ⟨vs, H1, I1, r, q⟩ => ⟨I1.kIn, ?_⟩) he hpl
  have q : sp (vs ++ []) H1 Q E := q
  rw [List.append_nil] at q
  exact run_fnH F hr hb hx I1 r q
end
abbrev Cx.tr (X : Cx) (pins : List (Addr × Obj)) (E : Value → Shared → Prop) : Cx := { X with xe := E, pn := X.pn ++ pins }
theorem Inv.tr {X : Cx} {pins : List (Addr × Obj)} {σ : St} {H : Hp} {s : Shared} (I : Inv X pins σ H s) (E : Value → Shared → Prop) : Inv (X.tr pins E) [] σ H s :=
  ⟨⟨I.ok.mod, I.ok.kind, I.ok.glob, I.ok.blt, I.ok.above, I.ok.inj, I.ok.has, I.ok.cab, I.ok.hd, I.ok.frames, I.ok.stk, I.ok.exf, I.ok.bs, I.ok.bsz, I.ok.noex, I.ok.exfs, I.ok.funs, I.ok.frf⟩, I.os, I.bare, I.base, I.loc, I.cell, I.free, I.freeC,
    fun p hp => I.pin p (by have hp : p ∈ (X.pn ++ pins) ++ [] := hp; rwa [List.append_nil] at hp), I.hok, I.len⟩
theorem Inv.untr {X : Cx} {pins pins' : List (Addr × Obj)} {E : Value → Shared → Prop} {σ : St} {H : Hp} {s : Shared} (I : Inv (X.tr pins E) pins' σ H s) : Inv X pins σ H s :=
  ⟨⟨I.ok.mod, I.ok.kind, I.ok.glob, I.ok.blt, I.ok.above, I.ok.inj, I.ok.has, I.ok.cab, I.ok.hd, I.ok.frames, I.ok.stk, I.ok.exf, I.ok.bs, I.ok.bsz, I.ok.noex, I.ok.exfs, I.ok.funs, I.ok.frf⟩, I.os, I.bare, I.base, I.loc, I.cell, I.free, I.freeC,
    fun p hp => I.pin p (List.mem_append_left _ hp), I.hok, I.len⟩
abbrev Cx.hn (X : Cx) (x : Addr) : Cx := { X with A := X.A.mark (some (.ref x)), calm := false, xe := fun _ _ => False }
theorem Inv.hn {X : Cx} {pins : List (Addr × Obj)} {σ : St} {H : Hp} {s : Shared} (I : Inv X pins σ H s) (x : Addr) : Inv (X.hn x) pins σ H s :=
  ⟨⟨I.ok.mod, I.ok.kind, I.ok.glob, I.ok.blt, I.ok.above, I.ok.inj, I.ok.has, I.ok.cab, (fun z => nomatch (show false = true from z)), I.ok.frames, I.ok.stk, I.ok.exf, I.ok.bs, I.ok.bsz, I.ok.noex, I.ok.exfs, I.ok.funs, I.ok.frf⟩, I.os, I.bare, I.base, I.loc, I.cell, I.free, I.freeC, I.pin, I.hok, I.len⟩
theorem Inv.unhn {X : Cx} {pins : List (Addr × Obj)} {σ : St} {H : Hp} {s : Shared} {x : Addr} (I : Inv (X.hn x) pins σ H s) (hd : X.calm = true → X.A.handled = none) : Inv X pins σ H s :=
  ⟨⟨I.ok.mod, I.ok.kind, I.ok.glob, I.ok.blt, I.ok.above, I.ok.inj, I.ok.has, I.ok.cab, hd, I.ok.frames, I.ok.stk, I.ok.exf, I.ok.bs, I.ok.bsz, I.ok.noex, I.ok.exfs, I.ok.funs, I.ok.frf⟩, I.os, I.bare, I.base, I.loc, I.cell, I.free, I.freeC, I.pin, I.hok, I.len⟩
theorem Inv.goes {X : Cx} {pins : List (Addr × Obj)} {σ : St} {H : Hp} {s : Shared} {h' : Heap} {m' : Str → Option Value} {t' : Nat} (I : Inv X pins σ H s) (hn : h'.Ns X.env.locals m') (sb : Heap.SameBut X.env.locals s.heap h') :
    Inv X pins (List.replicate X.N.length none) H { s with heap := h', toks := t' } := by
  have nl : ∀ b o, X.s_0.heap.get? b = some o → b ≠ X.env.locals := fun b o e => Nat.ne_of_lt (Nat.lt_of_lt_of_le (Heap.lt_size e) I.ok.above)
  refine ⟨I.ok, I.os, I.bare, ⟨fun b o e n hb hx => (sb.2 b (nl b o e)).trans (I.base.keep b o e n hb hx), fun b o e n hb hx => ?_, I.base.free, fun b o e hx => ?_, I.base.tups, I.base.frzs, I.base.tbls⟩, ⟨m', hn, fun i x v e1 e2 e3 => ?_⟩, fun y c e => ?_, I.free, I.freeC, fun p hp => ?_, fun b u e => ?_, by simp⟩
  · obtain ⟨sl, q⟩ := I.base.slot b o e n hb hx
    exact ⟨sl, (sb.2 b (nl b o e)).trans q⟩
  · obtain ⟨o', q⟩ := I.base.there b o e hx
    exact ⟨o', (sb.2 b (nl b o e)).trans q⟩
  · rw [List.getElem?_replicate] at e2
    split at e2 <;> cases e2
  · obtain ⟨v, z⟩ := I.cell y c e
    exact ⟨v, z.sameBut sb (I.cne y c e)⟩
  · obtain ⟨e, n, ne, nf, d⟩ := I.pin p hp
    exact ⟨(sb.2 p.1 ne).trans e, n, ne, nf, d⟩
  · refine (I.hok b u e).stay (fun c v hc q => (sb.2 c ?_).trans q) (fun _ q => q) fun _ _ q => q
    intro z
    have n := I.free
    rcases hc with y | y
    · rw [← z, y, e] at n; cases n
    · rw [← z, y] at n; cases n
def xeT (X : Cx) (pins : List (Addr × Obj)) (D : Ends) (hs : List ExceptHandler) : Value → Shared → Prop := fun e s1 =>
  wpAny (model X.prog X.w) X.A (noteFrame e X.env) (fun _ s2 => wpAny (model X.prog X.w) X.A (setFlight e none) (fun _ s3 => wpAny (model X.prog X.w) X.A (handleBy e X.env hs) (SP X pins D) X.xe s3) X.xe s2) X.xe s1
def exT (X : Cx) (D : Ends) (i : Nat) (th : TS) (B : Addr) : XK := fun v _ H' => ∃ x C dx, v = .ref x ∧ H' x = some (XF x C dx) ∧ excOk X.K C = true ∧ PySem.W.mroIn X.K C (.ref B) = some true ∧
  ∀ σ : St, σ.length = X.N.length → th { nx := fun _ _ => False, rt := D.rt } (σ.set i (some (.ref x))) H'
section
variable {X : Cx} {i : Nat} {n cn : Str} {np pos hpos : Pos} {b0 : Stmt} {suite body : List Stmt} {th : TS} {tb : Ends → TS} {B : Addr}
theorem passes_try {pins : List (Addr × Obj)} {D : Ends} (hst : X.stack = X.env :: X.outer) (hfr : X.env.frame = some X.env.locals) (hN : X.N.Nodup) (hi : X.N[i]? = some n) (hl : X.env.scope.names.lookup n = some .local) (hg : Gl X cn) (hm : X.mg cn = some (.ref B)) (okB : excOk X.K B = true)
    (hh : ∀ x, PSs (X.hn x) (b0 :: suite) th) (hd : (cn == ("__debug__" : Str)) = false := by decide) :
    Passes (CXr X.prog X.w) (X.tr pins (xeT X pins D [.ExceptHandler (some (.Name cn np)) (some n) (b0 :: suite) hpos])) (exT X D i th B) := by
  intro pins' σ H s e s' I hx
  obtain ⟨x, C0, dx0, H', rfl, os, bare, un, hok, _, ⟨oe, vs, T, oT, ts, a1, a2, a3, a4, a5, a6, a7, a8, a9⟩, x', C, dx, ev, hx, ok, hmro, hth⟩ := hx
  cases ev
  have I1 := I.call' (ch := []) os un hok bare (fun b z => absurd z (by simp))
  have J1 : Inv X pins σ H' s' := I1.untr
  obtain ⟨⟨oe', vs', e1, e2, e3, e4, e5⟩, _, _⟩ := J1.hok x _ hx
  rw [a1] at e1
  cases e1
  have hT : ∀ T' ∈ [T], H' T' = none ∧ X.s_0.heap.objs.size ≤ T' ∧ T' ≠ X.env.locals ∧ (∀ y c, X.env.cells.lookup y = some c → c ≠ T') ∧ ∀ p ∈ X.pn ++ pins, p.1 ≠ T' := fun T' z => by
    rw [List.mem_singleton.mp z]
    refine ⟨a8, Nat.le_trans I.sz a9, fun q => ?_, fun y c q z' => ?_, fun p hp q => ?_⟩
    · exact absurd I.lt (by show ¬ X.env.locals < _; rw [← q]; exact Nat.not_lt.mpr a9)
    · obtain ⟨v, o, ho, _⟩ := I.cell y c q
      exact absurd (Heap.lt_size ho) (by rw [z']; exact Nat.not_lt.mpr a9)
    · obtain ⟨ho, _⟩ := I.pin p (List.mem_append_left _ hp)
      exact absurd (Heap.lt_size ho) (by rw [q]; exact Nat.not_lt.mpr a9)
  have stk := J1.stack
  have frm := J1.ok.frames
  rw [hst] at stk frm
  have inv2 : ∀ h2, Noted (X.env :: X.outer) x oe [T] .none s'.heap h2 → Inv X pins σ H' { s' with heap := h2 } := fun h2 N2 => by
    have z := noted_inv (dx := dx) J1 hx e2 e3 hT (hst ▸ N2)
    rwa [upd_eq hx] at z
  refine note_next (base := X.base) (L := X.env.locals) frm stk hfr a1 a2 a3 a5 a6 a7 a4 fun h1 N1 => ?_
  refine Noted.land (s := { s' with heap := h1 }) N1 fun h2 N2 => ?_
  have J2 := inv2 h2 N2
  refine wpAny_handleBy_cons (codeAny_handlers_test ?_) (by intro q; cases q)
  refine ld_glob (J2.hn x) hg hm ?_ hd
  obtain ⟨⟨o2, vs2, q1, q2, _⟩, _, _⟩ := J2.hok x _ hx
  refine exc_matches J2.kIn ok okB hmro q1 q2 (codeAny_handlers_suite_as ?_)
  refine Noted.land (s := { s' with heap := h2 }) N2 fun h3 N3 => ?_
  have J3 := inv2 h3 N3
  refine store_ok (X := X.hn x) (v := V.ref x) (J3.hn x) hN hi (.inl hl) rfl (fun s4 J4 => ?_) (.inr hl)
  refine wpAny_mono (hh x pins s4 _ H' _ J4 (hth σ J1.len)) (fun fl s5 hs => ?_) fun _ _ z => z.elim
  cases fl with
  | next => obtain ⟨_, _, _, z⟩ := hs; exact z.elim
  | brk => obtain ⟨_, _, _, z⟩ := hs; exact z.elim
  | cont => obtain ⟨_, _, _, z⟩ := hs; exact z.elim
  | ret u =>
    obtain ⟨v, σ', H5, J5, rv, q⟩ := hs
    have K5 : Inv X pins σ' H5 s5 := J5.unhn J1.ok.hd
    obtain ⟨m, hn, _⟩ := K5.loc
    refine wpAny_nameGoes hl hn (by rw [K5.ok.kind]; rfl) fun h' m' hn' sb => ?_
    exact ⟨v, _, H5, K5.goes hn' sb, rv, q⟩
theorem ps_try (hb : ∀ (pins : List (Addr × Obj)) (D : Ends), PSs (X.tr pins (xeT X pins D [.ExceptHandler (some (.Name cn np)) (some n) (b0 :: suite) hpos])) body (tb D)) :
    PS X (.Try body [.ExceptHandler (some (.Name cn np)) (some n) (b0 :: suite) hpos] [] [] pos) (fun D σ H => tb D D σ H) := by
  intro pins s σ H D I q
  refine wpAny_Try_except (wpAny_mono (hb pins D [] s σ H D (I.tr _) q) (fun fl s1 hs => ?_) fun e s1 z => z)
  cases fl with
  | next =>
    obtain ⟨σ', H', J, z⟩ := hs
    exact wpAny_execs_nil ⟨σ', H', J.untr, z⟩
  | brk =>
    obtain ⟨σ', H', J, z⟩ := hs
    exact ⟨σ', H', J.untr, z⟩
  | cont =>
    obtain ⟨σ', H', J, z⟩ := hs
    exact ⟨σ', H', J.untr, z⟩
  | ret u =>
    obtain ⟨v, σ', H', J, rv, z⟩ := hs
    exact ⟨v, σ', H', J.untr, rv, z⟩
end
end L2
end
section
set_option Elab.async false
set_option linter.all false
set_option maxRecDepth 100000
namespace L2
open PySem PySem.Spec PyProof.Rows
section
variable {X : Cx}
def rInD (K : PySem.W.Frag) (neg : Bool) : R2 := fun x y H Q => ∃ (p : Addr) (ys : List V) (ds : List PyData) (d : PyData), y = .ref p ∧ SqL K H p ys ∧ DpAll K H ys ds ∧ Dp K H x d ∧ PyData.canLayAll0 ds = true ∧ d.canLay0 = true ∧ d.depth ≤ 64 ∧
  Q (.bl (if neg then !(ds.any fun e => PyData.eqv e d) else ds.any fun e => PyData.eqv e d)) H
theorem op_inD (hu : X.A.units + 100 < cLine) : OpR X (compareOp .In) (rInD X.K false) := by
  intro pins s σ H x y v u Q I rx ry h
  obtain ⟨p, ys, ds, d, rfl, hs, ha, hd, c1, c2, c3, q⟩ := h
  obtain ⟨as, r1⟩ := Dp.reads I (.list ds) (.ref p) u (.lst hs ha) ry
  obtain ⟨bs, r2⟩ := Dp.reads I d x v hd rx
  exact SeqAt.in_list_reads r1 r2 c1 c2 (by have := Nat.min_le_right (PyData.depthAll ds) d.depth; omega) ⟨.bl _, H, I, rfl, q⟩
theorem op_notInD (hu : X.A.units + 100 < cLine) : OpR X (compareOp .NotIn) (rInD X.K true) := by
  intro pins s σ H x y v u Q I rx ry h
  obtain ⟨p, ys, ds, d, rfl, hs, ha, hd, c1, c2, c3, q⟩ := h
  obtain ⟨as, r1⟩ := Dp.reads I (.list ds) (.ref p) u (.lst hs ha) ry
  obtain ⟨bs, r2⟩ := Dp.reads I d x v hd rx
  exact SeqAt.notIn_list_reads r1 r2 c1 c2 (by have := Nat.min_le_right (PyData.depthAll ds) d.depth; omega) ⟨.bl _, H, I, rfl, q⟩
def rIndexD (K : PySem.W.Frag) : V → List V → Hp → VK → Prop := fun x xs H Q => ∃ (a : Addr) (ys : List V) (y : V) (ds : List PyData) (d : PyData) (j : Nat), x = V.ref a ∧ xs = [y] ∧ SqL K H a ys ∧ DpAll K H ys ds ∧ Dp K H y d ∧ PyData.canLayAll0 ds = true ∧ d.canLay0 = true ∧ d.depth ≤ 64 ∧
  (∃ z, ds[j]? = some z ∧ PyData.eqv z d = true) ∧ (∀ (m : Nat) (z : PyData), m < j → ds[m]? = some z → PyData.eqv z d = false) ∧ Q (.int (j : Nat)) H
theorem mt_indexD (hu : X.A.units + 100 < cLine) : MtR X "list.index" (rIndexD X.K) := by
  intro pins s σ H x xs v us Q I rx rxs h
  obtain ⟨a, ys, y, ds, d, j, rfl, rfl, hs, ha, hd, c1, c2, c3, ⟨z, hz, hzj⟩, hno, q⟩ := h
  cases rx
  cases rxs with
  | cons ry rt =>
    rename_i uy ut
    cases rt
    obtain ⟨its, rv, ⟨⟨cls, dd, data, sl⟩, n, ho, hc, hdn, hdt⟩, hlen⟩ := I.list hs
    simp only at hc hdt
    subst hc hdt
    obtain ⟨as, rs⟩ := Dp.readsAll I ds ys its ha rv
    obtain ⟨bs, r2⟩ := Dp.reads I d y uy hd ry
    have hmap := SeqAt.readsAll_map ds its as c1 rs
    have hl1 : its.length = ds.length := by rw [← hmap, List.length_map]
    obtain ⟨hjl, hje⟩ := List.getElem?_eq_some_iff.mp hz
    have hj : j < its.toArray.size := by rw [List.size_toArray]; omega
    have at_ : ∀ (m : Nat) (hm : m < its.toArray.size) (z : PyData), ds[m]? = some z → SeqAt.readOf s.heap its.toArray[m] = z := fun m hm z e => by
      have hm' : m < its.length := by simpa using hm
      rw [← hmap, List.getElem?_map, List.getElem?_eq_getElem hm'] at e
      simpa using e
    have hsl := sizeLine_eq
    have hvl := rv.length
    refine call_meets PySem.F.slot_list_index ⟨_, ho, rfl⟩ PySem.F.entry_list_index (PySem.F.args_list_index_2 _ _)
      (SeqAt.list_indexAt a its.toArray n dd sl uy (fun w => PyData.eqv (SeqAt.readOf s.heap w) d) j hj (by omega) ?_ ?_) ⟨ho, SeqAt.items_eqAt (vs := its.toArray) (by simpa using rs) r2 c1 c2 (by have := Nat.min_le_right (PyData.depthAll ds) d.depth; show X.A.units + 1 + _ < _; omega), ?_⟩
    · rw [at_ j hj z hz]
      exact hzj
    · intro m hm hmj
      have hml : m < ds.length := by
        have : m < its.length := by simpa using hm
        omega
      rw [at_ m hm _ (List.getElem?_eq_getElem hml)]
      exact hno m _ hmj (List.getElem?_eq_getElem hml)
    · exact ⟨.int (j : Nat), H, I.tok _, ⟨_, rfl⟩, q⟩
def rCount (K : PySem.W.Frag) : V → List V → Hp → VK → Prop := fun x xs H Q => ∃ (a : Addr) (ns : List Int) (k : Int), x = V.ref a ∧ xs = [V.int k] ∧ SqL K H a (ns.map V.int) ∧ Q (.int (ns.count k : Nat)) H
theorem mt_count_ints : MtR X "list.count" (rCount X.K) := by
  intro pins s σ H x xs v us Q I rx rxs h
  obtain ⟨a, ns, k, rfl, rfl, hs, q⟩ := h
  cases rx
  cases rxs with
  | cons ry rt =>
    cases rt
    obtain ⟨t, rfl⟩ := ry
    obtain ⟨its, rv, hl, _⟩ := I.list hs
    exact count_list_ints hl.isList (intsAre_of rv) ⟨.int _, H, I.tok _, ⟨_, rfl⟩, q⟩
end
end L2
end
section
set_option Elab.async false
set_option linter.all false
set_option maxRecDepth 100000
namespace Mx
open PySem PySem.Spec PyProof.Rows L2
def vB (b : Mix.Bytes) : List V := b.map fun c => V.int (c.toNat : Int)
def iB (b : Mix.Bytes) : List Int := b.map fun c => (c.toNat : Int)
theorem vB_ints (b : Mix.Bytes) : vB b = (iB b).map V.int := by
  unfold vB iB
  rw [List.map_map]
  rfl
theorem vB_len (b : Mix.Bytes) : (vB b).length = b.length := List.length_map _
theorem iB_inj {a b : Mix.Bytes} (h : iB a = iB b) : a = b := by
  unfold iB at h
  refine (List.map_inj_right (f := fun c : UInt8 => (c.toNat : Int)) fun x y e => ?_).mp h
  exact UInt8.toNat_inj.mp (by exact_mod_cast e)
def dI (l : List Int) : PyData := .list (l.map PyData.int)
theorem lay_ints : ∀ l : List Int, PyData.canLayAll0 (l.map PyData.int) = true
  | [] => rfl
  | x :: r => by
    rw [List.map_cons, PyData.canLayAll0, lay_ints r]
    rfl
theorem dI_lay (l : List Int) : (dI l).canLay0 = true := by
  unfold dI
  rw [PyData.canLay0]
  exact lay_ints l
theorem depth_ints : ∀ l : List Int, PyData.depthAll (l.map PyData.int) ≤ 1
  | [] => by simp [PyData.depthAll]
  | x :: r => by
    have := depth_ints r
    rw [List.map_cons, PyData.depthAll]
    simp only [PyData.depth]
    omega
theorem dI_depth (l : List Int) : (dI l).depth ≤ 64 := by
  have := depth_ints l
  unfold dI
  simp only [PyData.depth]
  omega
theorem eqv_ints : ∀ a b : List Int, PyData.eqvAll (a.map PyData.int) (b.map PyData.int) = decide (a = b)
  | [], [] => by simp [PyData.eqvAll]
  | [], y :: b => by simp [PyData.eqvAll]
  | x :: a, [] => by simp [PyData.eqvAll]
  | x :: a, y :: b => by
    rw [List.map_cons, List.map_cons, PyData.eqvAll, eqv_ints a b, PyData.eqv, Bool.beq_eq_decide_eq, ← Bool.decide_and]
    refine decide_eq_decide.mpr ?_
    rw [List.cons.injEq]
theorem eqv_dI (a b : List Int) : PyData.eqv (dI a) (dI b) = decide (a = b) := by
  unfold dI
  rw [PyData.eqv]
  exact eqv_ints a b
theorem eqv_dB (a b : Mix.Bytes) : PyData.eqv (dI (iB a)) (dI (iB b)) = decide (a = b) := by
  rw [eqv_dI]
  exact decide_eq_decide.mpr ⟨iB_inj, fun e => by rw [e]⟩
theorem dpAll_ints {K : PySem.W.Frag} {H : Hp} : ∀ l : List Int, DpAll K H (l.map V.int) (l.map PyData.int)
  | [] => .nil
  | x :: r => .cons (.int x) (dpAll_ints r)
theorem dp_ints {K : PySem.W.Frag} {H : Hp} {a : Addr} {l : List Int} (h : SqL K H a (l.map V.int)) : Dp K H (.ref a) (dI l) := .lst h (dpAll_ints l)
theorem dp_vB {K : PySem.W.Frag} {H : Hp} {a : Addr} {b : Mix.Bytes} (h : SqL K H a (vB b)) : Dp K H (.ref a) (dI (iB b)) := dp_ints (by rw [← vB_ints]; exact h)
def Keeps (T : List Addr) (H H' : Hp) : Prop := ∀ b o, H b = some o → b ∉ T → H' b = some o
theorem Keeps.trans {T : List Addr} {H H1 H2 : Hp} (a : Keeps T H H1) (b : Keeps T H1 H2) : Keeps T H H2 := fun c o h n => b c o (a c o h n) n
theorem Keeps.mono {T U : List Addr} {H H1 : Hp} (a : Keeps T H H1) (h : ∀ b ∈ T, b ∈ U) : Keeps U H H1 := fun c o q n => a c o q fun z => n (h c z)
theorem Keeps.new {T : List Addr} {H : Hp} {p : Addr} {o : HO} (h : H p = none) : Keeps T H (upd H p o) := fun b u q _ => by rw [upd_ne (ne_of_none q h)]; exact q
theorem Keeps.set {T : List Addr} {H : Hp} {p : Addr} {o : HO} (h : p ∈ T) : Keeps T H (upd H p o) := fun b u q n => by rw [upd_ne (fun z => n (by rw [z]; exact h))]; exact q
theorem Keeps.then_new {T : List Addr} {H H1 : Hp} {p : Addr} {o : HO} (a : Keeps T H H1) (h : H1 p = none) : Keeps T H (upd H1 p o) := a.trans (.new h)
theorem Keeps.then_set {T : List Addr} {H H1 : Hp} {p : Addr} {o : HO} (a : Keeps T H H1) (h : p ∈ T) : Keeps T H (upd H1 p o) := a.trans (.set h)
theorem Same.keeps {H H1 : Hp} {T : List Addr} (a : Same H H1) : Keeps T H H1 := fun b o q _ => a b o q
theorem Keeps.since {T : List Addr} {H0 H H1 : Hp} (s : Same H0 H) (a : Keeps T H H1) (n : ∀ b ∈ T, H0 b = none) : Same H0 H1 := fun b o q => a b o (s b o q) fun z => by rw [n b z] at q; cases q
theorem Keeps.free {T : List Addr} {H H1 : Hp} {b : Addr} (a : Keeps T H H1) (h : H1 b = none) (n : b ∉ T) : H b = none := by
  cases q : H b with
  | none => rfl
  | some o => rw [a b o q n] at h; cases h
def rdF (t : Addr) (p wp : Nat) : List (Str × V) := [("text", .ref t), ("place", .int p), ("word_place", .int wp)]
theorem rdF_text (t : Addr) (p wp : Nat) : (rdF t p wp).lookup ("text" : Str) = some (.ref t) := rfl
theorem rdF_place (t : Addr) (p wp : Nat) : (rdF t p wp).lookup ("place" : Str) = some (.int p) := rfl
theorem rdF_word (t : Addr) (p wp : Nat) : (rdF t p wp).lookup ("word_place" : Str) = some (.int wp) := rfl
theorem rdF_put (t : Addr) (p wp : Nat) (q : Nat) : putF "place" (.int q) (rdF t p wp) = rdF t q wp := rfl
theorem rdF_putw (t : Addr) (p wp : Nat) (q : Nat) : putF "word_place" (.int q) (rdF t p wp) = rdF t p q := rfl
def TxL (K : PySem.W.Frag) (H : Hp) (t : Addr) (xs : List V) : Prop := (∃ o, H t = some (.frz o (.lst xs))) ∨
  ∃ (o : Obj) (its : Array Value) (n : Nat), K.lookup t = some o ∧ o.cls = .type "list" ∧ o.dict = none ∧ o.data = .seq its n ∧ its.size ≤ sizeLine ∧ Vals xs its.toList
theorem TxL.sq {K : PySem.W.Frag} {H : Hp} {t : Addr} {xs : List V} (h : TxL K H t xs) : SqL K H t xs := by
  rcases h with h | h
  · exact .inl (.inr h)
  · exact .inr h
theorem TxL.keep {K : PySem.W.Frag} {H H' : Hp} {t : Addr} {xs : List V} (h : TxL K H t xs) (k : ∀ o u, H t = some (.frz o u) → H' t = some (.frz o u)) : TxL K H' t xs := by
  rcases h with ⟨o, h⟩ | h
  · exact .inl ⟨o, k _ _ h⟩
  · exact .inr h
theorem TxL.new {K : PySem.W.Frag} {H : Hp} {t p : Addr} {xs : List V} {o : HO} (h : TxL K H t xs) (hp : H p = none) : TxL K (upd H p o) t xs := h.keep fun _ _ e => by rw [upd_ne (ne_of_none e hp)]; exact e
theorem TxL.set {K : PySem.W.Frag} {H : Hp} {t p : Addr} {xs : List V} {o u : HO} (h : TxL K H t xs) (hp : H p = some u) (hu : ∀ q v, u ≠ .frz q v) : TxL K (upd H p o) t xs := h.keep fun q v e => by
  rw [upd_ne (fun z => by rw [z, hp] at e; cases e; exact hu q v rfl)]
  exact e
theorem TxL.same {K : PySem.W.Frag} {H H' : Hp} {t : Addr} {xs : List V} (h : TxL K H t xs) (s : Same H H') : TxL K H' t xs := h.keep fun _ _ e => s _ _ e
def RdAt (K : PySem.W.Frag) (cR : Addr) (H : Hp) (b : Mix.Bytes) (r : Addr) (p wp : Nat) : Prop := ∃ dr t, H r = some (.ins cR dr (rdF t p wp)) ∧ TxL K H t (vB b) ∧ p ≤ b.length ∧ b.length ≤ 4096
end Mx
end
section
set_option Elab.async false
set_option linter.all false
set_option maxRecDepth 100000
namespace L2
open PySem PySem.Spec PyProof.Rows Mx
section
variable {P : Program} {w : World} {K : PySem.W.Frag} {mg : Str → Option Value} {base : Heap}
theorem Fun.okR {x qual : Str} {st : Stmt} {f : Addr} {fd : FuncData} {N ps : List Str} {k : Nat} {sp : Sp} (F : Fun K x qual st f fd) (S : FnScope N ps (defScope st)) (len : ∀ vs H Q E, sp vs H Q E → vs.length = ps.length)
    (hbody : ∀ (cdv : Value) (A : Around) (outer : List Env) (s : Shared) (H : Hp) (vs : List V) (Q : VK) (E : XK), Room k (A.deeper (envOfC qual (defScope st) s.heap.objs.size f cdv)) → sp vs H Q E →
      ∃ t, PSs (cxOf (CXr P w) P w K mg base N qual (defScope st) f cdv A outer s H E) (defBody st) t ∧ t { nx := fun _ H' => Q .non H', rt := Q } (start N vs) H) : FnOk P w K mg base (CXr P w) (k + 1) f fd ps sp := by
  obtain ⟨oc, od, kV, doc, pm, an, cdv, ct, osl, rfl, lk, hcd⟩ := F.ex
  exact fn_of lk hcd S len fun A outer s H vs Q E hr hsp => hbody cdv A outer s H vs Q E hr hsp
theorem Fun.okH {x qual : Str} {st : Stmt} {f : Addr} {fd : FuncData} {N ps : List Str} {k : Nat} {sp : Sp} (F : Fun K x qual st f fd) (S : FnScope N ps (defScope st)) (len : ∀ vs H Q E, sp vs H Q E → vs.length = ps.length)
    (hbody : ∀ (cdv : Value) (A : Around) (outer : List Env) (s : Shared) (H : Hp) (vs : List V) (Q : VK) (E : XK), RoomH k (A.deeper (envOfC qual (defScope st) s.heap.objs.size f cdv)) → sp vs H Q E →
      ∃ t, PSs (cxH CX0 P w K mg base N qual (defScope st) f cdv A outer s H E).nox (defBody st) t ∧ t { nx := fun _ H' => Q .non H', rt := Q } (start N vs) H) : FnOkH P w K mg base CX0 (k + 1) f fd ps sp := by
  obtain ⟨oc, od, kV, doc, pm, an, cdv, ct, osl, rfl, lk, hcd⟩ := F.ex
  refine fn_ofH lk hcd S len fun A outer s H vs Q E hr hsp => ?_
  obtain ⟨t, h, q⟩ := hbody cdv A outer s H vs Q E hr hsp
  exact ⟨t, h.nox, q⟩
theorem gint {X : Cx} {x : Str} {i : Int} {pos : Pos} (h : ∃ t, X.mg x = some (.int i t)) (hg : Gl X x := by rfl) (hd : (x == ("__debug__" : Str)) = false := by decide) : PE X (.Name x pos) (tC (.int i)) := by
  obtain ⟨t, e⟩ := h
  exact pe_glob hg e ⟨t, rfl⟩ hd
theorem gref {X : Cx} {x : Str} {b : Addr} {pos : Pos} (h : X.mg x = some (.ref b)) (hg : Gl X x := by rfl) (hd : (x == ("__debug__" : Str)) = false := by decide) : PE X (.Name x pos) (tC (.ref b)) := pe_glob hg h rfl hd
end
end L2
end
section
set_option Elab.async false
set_option linter.all false
set_option maxRecDepth 100000
set_option maxHeartbeats 1000000
namespace L2
open PySem PySem.Spec PyProof.Rows Mx
theorem Paired.perm {α β : Type} {R : α → β → Prop} {ys zs : List β} (h : ys.Perm zs) : ∀ {xs : List α}, Paired R xs ys → ∃ ws, xs.Perm ws ∧ Paired R ws zs := by
  induction h with
  | nil => exact fun {xs} p => ⟨xs, .refl _, p⟩
  | cons x _ ih =>
    intro xs p
    cases p with
    | cons r t =>
      obtain ⟨ws, h1, h2⟩ := ih t
      exact ⟨_, h1.cons _, .cons r h2⟩
  | swap x y l =>
    intro xs p
    cases p with
    | cons r t =>
      cases t with
      | cons r' t => exact ⟨_, .swap _ _ _, .cons r' (.cons r t)⟩
  | trans _ _ i1 i2 =>
    intro xs p
    obtain ⟨ws, h1, h2⟩ := i1 p
    obtain ⟨vs, h3, h4⟩ := i2 h2
    exact ⟨vs, h1.trans h3, h4⟩
def KOut (b : Bool) (kz : List Int) (xs ys : List V) : Prop := ∃ qs : List (Int × V), qs.Perm (kz.zip xs) ∧ ys = qs.map (·.2) ∧ qs.Pairwise (fun p q => if b then q.1 ≤ p.1 else p.1 ≤ q.1)
theorem zipP : ∀ {kz : List Int} {xs : List V} {us : List Value}, Vals xs us → Paired (fun (p : Int × V) (q : Int × Value) => p.1 = q.1 ∧ RelV p.2 q.2) (kz.zip xs) (kz.zip us)
  | [], _, _, _ => by
    rw [List.zip_nil_left, List.zip_nil_left]
    exact .nil
  | k :: kz, _, _, .nil => by
    rw [List.zip_nil_right, List.zip_nil_right]
    exact .nil
  | k :: kz, _, _, .cons r t => by
    rw [List.zip_cons_cons, List.zip_cons_cons]
    exact .cons ⟨rfl, r⟩ (zipP t)
theorem sndP : ∀ {qs : List (Int × V)} {ps : List (Int × Value)}, Paired (fun (p : Int × V) (q : Int × Value) => p.1 = q.1 ∧ RelV p.2 q.2) qs ps → Vals (qs.map (·.2)) (ps.map Prod.snd) ∧ qs.map (·.1) = ps.map (·.1)
  | _, _, .nil => ⟨.nil, rfl⟩
  | _, _, .cons r t => by
    obtain ⟨h1, h2⟩ := sndP t
    exact ⟨.cons r.2 h1, by rw [List.map_cons, List.map_cons, h2, r.1]⟩
theorem KOut.of {b : Bool} {kz : List Int} {xs : List V} {us out : List Value} (r : Vals xs us) (h : KskOut b kz us out) : ∃ ys, Vals ys out ∧ KOut b kz xs ys := by
  obtain ⟨ps, hp, ho, hs⟩ := h
  obtain ⟨qs, h1, h2⟩ := Paired.perm hp.symm (zipP (kz := kz) r)
  obtain ⟨h3, h4⟩ := sndP h2
  refine ⟨qs.map (·.2), by rw [ho]; exact h3, qs, h1.symm, rfl, ?_⟩
  have e1 : (ps.map (·.1)).Pairwise (fun p q => if b then q ≤ p else p ≤ q) := List.pairwise_map.mpr hs
  rw [← h4] at e1
  exact List.pairwise_map.mp e1
section
variable {prog : Program} {w : World} {A : Around} {E : Value → Shared → Prop} {s : Shared} {a kS : Addr} {b : Bool} {vs : List Value} {kz : List Int} {keys : Array Value} {e e1 : Nat} {P : PySem.Fin → Shared → Prop}
theorem tail_raw {st : SortSt} (nk : s.heap.get? kS = some (seqObj "list" keys e)) (na : s.heap.get? a = some (seqObj "list" #[] e1)) (hka : kS ≠ a) (hk : IntsAre keys.toList kz) (hlen : kz.length = vs.length) (h64 : vs.length < 64)
    (hp : (arrOf st).Perm (keys.zip vs.toArray)) (hs : SortedTo (arrOf st) (arrOf st).size) (hfl : failedOf st = none)
    (h : ∀ out : Array Value, out.size = vs.length → KskOut b kz vs out.toList → P (.done (.ret .none)) { s with heap := (s.heap.update kS (Obj.mapSeq fun _ => (#[] : Array Value))).update a (Obj.mapSeq fun _ => out) }) :
    wpAny (model prog w) A (ksk_tail a b e1 (.ref kS) st) P E s := by
  have hsz : keys.size = vs.length := by
    have h1 := hk.length
    rw [Array.length_toList] at h1
    omega
  have hsz2 : (arrOf st).size = vs.length := by rw [hp.size_eq, Array.size_zip, hsz, List.size_toArray, Nat.min_self]
  have hout : (if b then ((arrOf st).map (·.2)).reverse else (arrOf st).map (·.2)).size = vs.length := by
    cases b with
    | false => simp only [Bool.false_eq_true, if_false, Array.size_map]; exact hsz2
    | true => simp only [if_true, Array.size_reverse, Array.size_map]; exact hsz2
  have s1 := Heap.SameBut.update s.heap kS (Obj.mapSeq fun _ => (#[] : Array Value))
  have na1 : (s.heap.update kS (Obj.mapSeq fun _ => (#[] : Array Value))).get? a = some (seqObj "list" #[] e1) := (s1.2 a hka.symm).trans na
  unfold ksk_tail
  try dsimp only
  refine wpAny_bind (listUpdate_at nk rfl ?_ (by rw [hsz, sizeLine_eq]; omega) (Nat.zero_le _))
  refine wpAny_bind (wpAny_letGo ?_)
  refine wpAny_bind (seqEpoch_at na1 rfl ?_)
  refine wpAny_bind (listUpdate_at na1 rfl ?_ (Nat.zero_le _) (Nat.le_trans (Nat.le_of_eq hout) (by rw [sizeLine_eq]; omega)))
  rw [hfl]
  simp only [bne_self_eq_false, Bool.false_eq_true, if_false]
  exact wpAny_pure (h _ hout (ksk_out hk hp hs))
theorem end_raw (nk : s.heap.get? kS = some (seqObj "list" keys e)) (na : s.heap.get? a = some (seqObj "list" #[] e1)) (hka : kS ≠ a) (hk : IntsAre keys.toList kz) (hlen : kz.length = vs.length) (h64 : vs.length < 64)
    (h : ∀ out : Array Value, out.size = vs.length → KskOut b kz vs out.toList → P (.done (.ret .none)) { s with heap := (s.heap.update kS (Obj.mapSeq fun _ => (#[] : Array Value))).update a (Obj.mapSeq fun _ => out) }) :
    wpAny (model prog w) A (ksk_end a b vs.toArray e1 (.ref kS) keys) P E s := by
  have hsz : keys.size = vs.length := by
    have h1 := hk.length
    rw [Array.length_toList] at h1
    omega
  have hzs : (keys.zip vs.toArray).size = vs.length := by rw [Array.size_zip, hsz, List.size_toArray, Nat.min_self]
  have step : ∀ t : Sem PySem.Fin, wpAny (model prog w) A t P E s → wpAny (model prog w) A (if b = true then (do let _ ← rule "list.sort.reverse"; t) else t) P E s := by
    intro t ht
    split
    · exact wpAny_bind (wpAny_rule ht)
    · exact ht
  have hstart : (if b = true then (keys.zip vs.toArray).reverse else keys.zip vs.toArray).Perm (keys.zip vs.toArray) := by
    cases b with
    | false => exact Array.Perm.refl _
    | true => exact Array.perm_iff_toList_perm.mpr (by rw [if_pos rfl, Array.toList_reverse]; exact List.reverse_perm _)
  unfold ksk_end
  try dsimp only
  refine step _ ?_
  by_cases h2 : vs.toArray.size < 2
  · rw [if_pos h2, if_pos h2]
    refine wpAny_bind (wpAny_pure ?_)
    rw [StateT.run_pure]
    refine wpAny_bind (wpAny_pure ?_)
    try dsimp only
    refine tail_raw (st := SortSt.mk' general' (if b = true then (keys.zip vs.toArray).reverse else keys.zip vs.toArray) #[] 7 none) nk na hka hk hlen h64 hstart ?_ rfl h
    intro i j hij hj
    have hj2 : j < (if b = true then (keys.zip vs.toArray).reverse else keys.zip vs.toArray).size := hj
    rw [hstart.size_eq, hzs] at hj2
    rw [List.size_toArray] at h2
    have : i = j := by omega
    subst this
    exact Int.le_refl _
  · rw [if_neg h2, if_neg h2]
    rw [List.size_toArray] at h2
    rw [ksk_kind hk (by rw [hsz]; omega)]
    refine wpAny_bind (wpAny_pure ?_)
    refine wpAny_bind (wpAny_mono (wpS_sortRuns (a₀ := keys.zip vs.toArray) (st := SortSt.mk' oneType' (if b = true then (keys.zip vs.toArray).reverse else keys.zip vs.toArray) #[] 7 none)
      (Q := fun _ st' => (arrOf st').Perm (keys.zip vs.toArray) ∧ failedOf st' = none ∧ SortedTo (arrOf st') (keys.zip vs.toArray).size)
      (ksk_intKeys hk) ⟨hstart, rfl, rfl, rfl⟩ (by rw [hzs]; omega) (by rw [hzs]; exact h64) fun st' a1 a2 a3 => ⟨a1, a2, a3⟩) ?_ fun _ _ e => e)
    rintro ⟨⟨⟩, st'⟩ s' ⟨rfl, hp, hf, hs⟩
    try dsimp only
    exact tail_raw nk na hka hk hlen h64 hp (by rw [hp.size_eq]; exact hs) hf h
end
abbrev Cx.in2 (X : Cx) : Cx := { X with A := X.A.in1.in1, xe := fun _ _ => False }
theorem Inv.in2 {X : Cx} {pins : List (Addr × Obj)} {σ : St} {H : Hp} {s : Shared} (I : Inv X pins σ H s) : Inv X.in2 pins σ H s :=
  ⟨⟨I.ok.mod, I.ok.kind, I.ok.glob, I.ok.blt, I.ok.above, I.ok.inj, I.ok.has, I.ok.cab, I.ok.hd, I.ok.frames, I.ok.stk, I.ok.exf, I.ok.bs, I.ok.bsz, I.ok.noex, I.ok.exfs, I.ok.funs, I.ok.frf⟩, I.os, I.bare, I.base, I.loc, I.cell, I.free, I.freeC, I.pin, I.hok, I.len⟩
theorem Inv.out2 {X : Cx} {pins : List (Addr × Obj)} {σ : St} {H : Hp} {s : Shared} (I : Inv X.in2 pins σ H s) : Inv X pins σ H s :=
  ⟨⟨I.ok.mod, I.ok.kind, I.ok.glob, I.ok.blt, I.ok.above, I.ok.inj, I.ok.has, I.ok.cab, I.ok.hd, I.ok.frames, I.ok.stk, I.ok.exf, I.ok.bs, I.ok.bsz, I.ok.noex, I.ok.exfs, I.ok.funs, I.ok.frf⟩, I.os, I.bare, I.base, I.loc, I.cell, I.free, I.freeC, I.pin, I.hok, I.len⟩
section
variable {X : Cx} {pins : List (Addr × Obj)} {σ : St} {H : Hp} {s : Shared}
theorem Inv.adopt {a : Addr} {o : HO} {h' : Heap} (I : Inv X pins σ H s) (hn : H a = none) (k : ∀ b u, b ≠ a → s.heap.get? b = some u → h'.get? b = some u) (h1 : X.s_0.heap.objs.size ≤ a) (hL : a ≠ X.env.locals) (h2 : ∀ x c, X.env.cells.lookup x = some c → c ≠ a)
    (h3 : ∀ p ∈ X.pn ++ pins, p.1 ≠ a) (new : ObjOk X.prog X.w (upd H a o) h' a o) : Inv X pins σ (upd H a o) { s with heap := h' } := by
  have ne : ∀ b u, H b = some u → b ≠ a := fun b u q z => by rw [z, hn] at q; cases q
  have un : Un (frs X.stack) [a] H (upd H a o) s.heap h' := by
    refine ⟨fun b u q n _ hx => k b u (fun z => hx (by simp [z])) q, fun b u q n _ hx => ⟨u.slots, k b u (fun z => hx (by simp [z])) q⟩, fun b u q n hx => by rw [upd_ne (fun z => hx (by simp [z]))]; exact n,
      fun b u q hx => ⟨u, k b u (fun z => hx (by simp [z])) q⟩, fun b xs q => by rw [upd_ne (ne b _ q)]; exact q, fun b ob u q => by rw [upd_ne (ne b _ q)]; exact q, fun b ps q => ⟨#[], by rw [upd_ne (ne b _ q), q]; simp⟩⟩
  refine I.call (g' := s.gens) (t' := s.toks) (d' := s.drawn) (ch := [a]) un (fun b u q => ?_) I.bare (fun b hb => ?_)
  · by_cases hb : b = a
    · subst hb
      rw [upd_same] at q
      cases q
      exact new
    · rw [upd_ne hb] at q
      refine (I.hok b u q).stay (fun c v hc r => k c v ?_ r) (fun c r => ?_) fun c xs r => ?_
      · rcases hc with z | z
        · rw [z]; exact hb
        · exact ne c _ z
      · rw [upd_ne (ne c _ r)]; exact r
      · rw [upd_ne (ne c _ r)]; exact r
  · rw [List.mem_singleton.mp hb]
    exact ⟨.inr h1, hL, h2, h3⟩
theorem run_sortedK {Q : VK} {k : Nat} {f : Addr} {fd : FuncData} {x : Str} {sp : Sp} {p : Addr} {xs : List V} {kz : List Int} {b : Bool} {kw : List (Str × Value)} (F : FnOk X.prog X.w X.K X.mg X.base CX0 k f fd [x] sp) (hr : Room (k + 1) X.A) (hb : Binds X.K fd [x] [])
    (I : Inv X pins σ H s) (hs : SqL X.K H p xs) (hlen : kz.length = xs.length) (h64 : xs.length < 64)
    (ha1 : argsOk "sorted" ⟨[.ref p], kw⟩) (ha2 : ∀ y, argsOk "list.sort" ⟨[.ref y], kw⟩) (ht : ∀ y, Builtin.«list.sort» ⟨[.ref y], kw⟩ = ksk_tree y (.ref f) b)
    (turn : ∀ (i : Nat) (v : V) (z : Int), xs[i]? = some v → kz[i]? = some z → ∀ H', Same H H' → sp [v] H' (fun u H2 => u = .int z ∧ H2 = H') E0)
    (q : ∀ (H' : Hp) (D : Addr) (ys : List V), KOut b kz xs ys → Same H H' → H D = none → H' D = some (.lst ys) → Q (.ref D) H') :
    wpAny (model X.prog X.w) X.A (call (.builtin "sorted") [.ref p] kw) (EP X pins σ Q) X.xe s := by
  obtain ⟨its, rv, hl, hxl⟩ := I.list hs
  have hil : its.length = xs.length := rv.length.symm
  have hsl := sizeLine_eq
  refine call_function_entry_kw kind_sorted plain_sorted entry_sorted ha1 ?_
  unfold Builtin.«sorted»
  refine wpAny_bind (m := checkCount "sorted" 1 1 _) (wpAny_pure ?_)
  refine wpAny_bind (collect_list hl.isList ?_ (by omega))
  refine wpAny_bind (wpAny_newList ?_ (by omega))
  have hsz : ((s.heap.push (seqObj "list" #[] 0)).update s.heap.objs.size (Obj.mapSeq (· ++ its.toArray))).objs.size = s.heap.objs.size + 1 := by
    rw [Heap.size_update, size_push']
  have hoL : (((s.heap.push (seqObj "list" #[] 0)).update s.heap.objs.size (Obj.mapSeq (· ++ its.toArray))).push (seqObj "list" its.toArray 0)).get? (s.heap.objs.size + 1) = some (seqObj "list" its.toArray 0) := by
    rw [← hsz]; exact Heap.get?_push_size _ rfl
  have keep : ∀ b o, s.heap.get? b = some o → (((s.heap.push (seqObj "list" #[] 0)).update s.heap.objs.size (Obj.mapSeq (· ++ its.toArray))).push (seqObj "list" its.toArray 0)).get? b = some o := fun b o q => by
    have hlt : b < s.heap.objs.size := Heap.lt_size q
    rw [Heap.get?_push_ne _ _ _ (by rw [hsz]; exact Nat.ne_of_lt (Nat.lt_succ_of_lt hlt)), Heap.get?_update_ne _ _ _ _ (Nat.ne_of_lt hlt), Heap.get?_push_ne _ _ _ (Nat.ne_of_lt hlt)]
    exact q
  have hbig : (((s.heap.push (seqObj "list" #[] 0)).update s.heap.objs.size (Obj.mapSeq (· ++ its.toArray))).push (seqObj "list" its.toArray 0)).objs.size = s.heap.objs.size + 1 + 1 := by rw [size_push', hsz]
  show wpAny _ _ _ _ _ { s with heap := ((s.heap.push (seqObj "list" #[] 0)).update s.heap.objs.size (Obj.mapSeq (· ++ its.toArray))).push (seqObj "list" its.toArray 0) }
  rw [hsz]
  have I1 : Inv X pins σ H { s with heap := ((s.heap.push (seqObj "list" #[] 0)).update s.heap.objs.size (Obj.mapSeq (· ++ its.toArray))).push (seqObj "list" its.toArray 0) } := I.kept (t' := s.toks) keep
  have nD : H (s.heap.objs.size + 1) = none := I.hok.fresh (Nat.le_succ _)
  have DL : s.heap.objs.size + 1 ≠ X.env.locals := Nat.ne_of_gt (Nat.lt_succ_of_lt I.lt)
  have DC : ∀ y c, X.env.cells.lookup y = some c → c ≠ s.heap.objs.size + 1 := fun y c ey => by
    obtain ⟨v, o, ho, _⟩ := I.cell y c ey
    exact Nat.ne_of_lt (Nat.lt_succ_of_lt (Heap.lt_size ho))
  have DP : ∀ z ∈ X.pn ++ pins, z.1 ≠ s.heap.objs.size + 1 := fun z hz => Nat.ne_of_lt (Nat.lt_succ_of_lt (Heap.lt_size (I.pin z hz).1))
  have DS : X.s_0.heap.objs.size ≤ s.heap.objs.size + 1 := Nat.le_succ_of_le I.sz
  have DF : s.heap.objs.size + 1 ∉ X.fs := I.nofs (Nat.le_succ _)
  generalize ((s.heap.push (seqObj "list" #[] 0)).update s.heap.objs.size (Obj.mapSeq (· ++ its.toArray))).push (seqObj "list" its.toArray 0) = h1 at hoL keep hbig I1
  generalize s.heap.objs.size + 1 = D at hoL nD DL DC DP DS DF hbig
  refine wpAny_bind (wpAny_holding (wpAny_call_entry_kw slot_list_sort ⟨_, hoL, rfl⟩ entry_list_sort ?body (ha2 _)))
  show wpAny (model X.prog X.w) X.A.in1.in1 (Builtin.«list.sort» ⟨[.ref D], kw⟩) _ _ _
  rw [ht D]
  unfold ksk_tree
  have sb := Heap.SameBut.update h1 D (Obj.mapSeq fun _ => (#[] : Array Value))
  obtain ⟨e1, ho1⟩ : ∃ e1, (h1.update D (Obj.mapSeq fun _ => (#[] : Array Value))).get? D = some (seqObj "list" #[] e1) := ⟨_, get?_update_seq hoL fun _ => #[]⟩
  refine wpAny_bind (listItems_at hoL rfl ?_)
  refine wpAny_bind (listUpdate_at hoL rfl ?_ (by rw [List.size_toArray]; omega) (Nat.zero_le _))
  refine wpAny_bind (seqEpoch_at ho1 rfl ?_)
  refine wpAny_bind (wpAny_newTuple ?_ (by show its.length ≤ _; omega))
  refine wpAny_bind (wpAny_newList ?_ (Nat.zero_le _))
  refine wpAny_holding ?_
  have I2 : Inv X pins σ H { s with heap := h1.update D (Obj.mapSeq fun _ => (#[] : Array Value)) } := Inv.turned (s := { s with heap := h1 }) (t' := s.toks) (it := D) I1 (fun b o hb e => (sb.2 b hb).trans e) nD DL (.inr DS) DC DP
  have hks : ((h1.update D (Obj.mapSeq fun _ => (#[] : Array Value))).push (seqObj "tuple" its.toArray 0)).objs.size = D + 2 := by rw [size_push', Heap.size_update, hbig]
  have I3 : Inv X pins σ (upd H (D + 2) (.lst [])) { s with heap := ((h1.update D (Obj.mapSeq fun _ => (#[] : Array Value))).push (seqObj "tuple" its.toArray 0)).push (seqObj "list" #[] 0) } := by
    have J : Inv X pins σ H { s with heap := (h1.update D (Obj.mapSeq fun _ => (#[] : Array Value))).push (seqObj "tuple" its.toArray 0) } := I2.kept (t' := s.toks) fun b u q => Heap.get?_push_of_some _ q
    have J2 := J.lnew (ys := []) (its := []) (t' := s.toks) .nil (Nat.zero_le _)
    have e2 : (((h1.update D (Obj.mapSeq fun _ => (#[] : Array Value))).push (seqObj "tuple" its.toArray 0))).objs.size = D + 2 := hks
    have J3 : Inv X pins σ (upd H (((h1.update D (Obj.mapSeq fun _ => (#[] : Array Value))).push (seqObj "tuple" its.toArray 0))).objs.size (.lst [])) { s with heap := ((h1.update D (Obj.mapSeq fun _ => (#[] : Array Value))).push (seqObj "tuple" its.toArray 0)).push (seqObj "list" #[] 0) } := J2
    rwa [e2] at J3
  have nK : H (D + 2) = none := by
    have z : h1.objs.size ≤ D + 2 := by rw [hbig]; omega
    exact I1.hok.fresh z
  have pD : (((h1.update D (Obj.mapSeq fun _ => (#[] : Array Value))).push (seqObj "tuple" its.toArray 0)).push (seqObj "list" #[] 0)).get? D = some (seqObj "list" #[] e1) := Heap.get?_push_of_some _ (Heap.get?_push_of_some _ ho1)
  have nDK : D ≠ D + 2 := by omega
  have I4 : Inv X ((D, seqObj "list" #[] e1) :: pins) σ (upd H (D + 2) (.lst [])) { s with heap := ((h1.update D (Obj.mapSeq fun _ => (#[] : Array Value))).push (seqObj "tuple" its.toArray 0)).push (seqObj "list" #[] 0) } := by
    refine I3.pins_of fun z hz => ?_
    rcases List.mem_cons.mp hz with rfl | hz
    · exact ⟨pD, by rw [upd_ne nDK]; exact nD, DL, DF, fun v => nofun⟩
    · exact I3.pin z (List.mem_append_right _ hz)
  show wpAny (model X.prog X.w) X.A.in1.in1 (ksk_rest D (.ref f) b its.toArray e1 (.ref ((h1.update D (Obj.mapSeq fun _ => (#[] : Array Value))).push (seqObj "tuple" its.toArray 0)).objs.size)) _ _ { s with heap := ((h1.update D (Obj.mapSeq fun _ => (#[] : Array Value))).push (seqObj "tuple" its.toArray 0)).push (seqObj "list" #[] 0) }
  rw [hks]
  generalize ((h1.update D (Obj.mapSeq fun _ => (#[] : Array Value))).push (seqObj "tuple" its.toArray 0)).push (seqObj "list" #[] 0) = h4 at I4
  unfold ksk_rest
  refine wpAny_bind (wpAny_rule ?_)
  first
    | rw [List.forIn_toArray]
    | (rw [← Array.forIn_toList]; simp only [List.toList_toArray])
    | rw [← Array.forIn_toList]
  have hr' : Room k X.in2.A := ⟨hr.hd, by have := hr.dp; show X.A.depth + 3 * k + 5 < _; omega, by have := hr.un; show X.A.units + 1 + 1 + 16 * k + 200 < _; omega⟩
  have hsame : ∀ (l : List V), Same H (upd H (D + 2) (.lst l)) := fun l b o e => by rw [upd_ne (fun z => by rw [z, nK] at e; cases e)]; exact e
  refine wpAny_bind (ksk_fold (fun j s' => Inv X ((D, seqObj "list" #[] e1) :: pins) σ (upd H (D + 2) (.lst ((kz.take j).map V.int))) s') its 0 _ (by simpa using I4) ?step ?done)
  case step =>
    intro j u s' hu J
    rw [Nat.zero_add] at J ⊢
    have hj : j < its.length := (List.getElem?_eq_some_iff.mp hu).1
    obtain ⟨z, hz⟩ : ∃ z, kz[j]? = some z := ⟨_, List.getElem?_eq_getElem (by omega)⟩
    obtain ⟨v, hv⟩ : ∃ v, xs[j]? = some v := ⟨_, List.getElem?_eq_getElem (by omega)⟩
    obtain ⟨u', hu', ru⟩ := rv.get hv
    rw [hu] at hu'
    cases hu'
    have tr := turn j v z hv hz _ (hsame ((kz.take j).map V.int))
    refine wpAny_bind (wpAny_attempt (wpAny_mono (run_fn (X := X.in2) (ds := []) (dvs := []) F hr' hb .nil pass0 J.in2 (vs := [v]) (us := [u]) (.cons ru .nil) tr) (fun w' s2 hq => ?_) fun _ _ hF => hF.elim))
    obtain ⟨y, H2, J2, ry, ey, eH⟩ := hq
    rw [ey] at ry
    obtain ⟨t, rfl⟩ := ry
    rw [eH] at J2
    have J3 := J2.out2
    obtain ⟨zl, is, n, r, hl2, ek⟩ := J3.lstM upd_same
    have hz2 : is.length ≤ its.length := by
      rw [← hl2, List.length_map, List.length_take]
      omega
    try dsimp only
    refine wpAny_bind (listUpdate_at ek rfl ?_ (by rw [List.size_toArray]; omega) (Nat.le_trans (Nat.le_of_eq (Array.size_push ..)) (by rw [List.size_toArray]; omega)))
    refine wpAny_pure ⟨rfl, ?_⟩
    have J4 := J3.lset (t' := s2.toks) (f := (·.push (.int z t))) (its' := is ++ [.int z t]) (ys := (kz.take j).map V.int ++ [.int z]) upd_same ek (by simp) (r.append (.cons (show RelV (V.int z) (Value.int z t) from ⟨t, rfl⟩) .nil)) (by rw [List.length_append, hl2]; show is.length + 1 ≤ _; omega)
    rw [upd_upd] at J4
    have ek2 : (kz.take (j + 1)).map V.int = (kz.take j).map V.int ++ [.int z] := by
      rw [List.take_add_one, hz, List.map_append]
      rfl
    rw [ek2]
    exact J4
  case done =>
    intro s' J
    rw [Nat.zero_add, List.take_of_length_le (by omega)] at J
    obtain ⟨zl, is, n, r, hl2, ek⟩ := J.lstM upd_same
    have pd := (J.pin (D, seqObj "list" #[] e1) (List.mem_append_right _ (.head _))).1
    try dsimp only
    refine wpAny_bind (listItems_at ek rfl ?_)
    refine end_raw (vs := its) (keys := is.toArray) (e := n) ek pd (fun z => nDK z.symm) (by simpa using r.ints) (by omega) (by omega) fun out ho hk => ?_
    obtain ⟨ys, hy, ko⟩ := KOut.of rv hk
    have J2 := J.lset (t' := s'.toks) (f := fun _ => (#[] : Array Value)) (its' := []) (ys := []) upd_same ek (by simp) .nil (Nat.zero_le _)
    rw [upd_upd] at J2
    have J3 : Inv X pins σ (upd H (D + 2) (.lst [])) { s' with heap := s'.heap.update (D + 2) (Obj.mapSeq fun _ => (#[] : Array Value)) } := J2.pins_of fun z hz => J2.pin z (List.mem_append_right _ (List.mem_cons_of_mem _ hz))
    have sk := Heap.SameBut.update s'.heap (D + 2) (Obj.mapSeq fun _ => (#[] : Array Value))
    have pd2 : (s'.heap.update (D + 2) (Obj.mapSeq fun _ => (#[] : Array Value))).get? D = some (seqObj "list" #[] e1) := (sk.2 D nDK).trans pd
    have sD := Heap.SameBut.update (s'.heap.update (D + 2) (Obj.mapSeq fun _ => (#[] : Array Value))) D (Obj.mapSeq fun _ => out)
    obtain ⟨c2, hc2⟩ : ∃ c2, ((s'.heap.update (D + 2) (Obj.mapSeq fun _ => (#[] : Array Value))).update D (Obj.mapSeq fun _ => out)).get? D = some (seqObj "list" out c2) := ⟨_, get?_update_seq pd2 fun _ => out⟩
    have hyl : ys.length = its.length := by rw [hy.length, Array.length_toList, ho]
    have J4 : Inv X pins σ (upd (upd H (D + 2) (.lst [])) D (.lst ys)) { s' with heap := (s'.heap.update (D + 2) (Obj.mapSeq fun _ => (#[] : Array Value))).update D (Obj.mapSeq fun _ => out) } := by
      refine J3.adopt (o := .lst ys) (by rw [upd_ne nDK]; exact nD) (fun c o hc e => (sD.2 c hc).trans e) DS DL DC DP ?_
      refine ⟨by omega, out.toList, c2, hy, ?_⟩
      rw [hc2]
      all_goals simp [seqObj]
    refine ⟨_, rfl, wpAny_pure ⟨_, rfl, V.ref D, _, J4, rfl, ?_⟩⟩
    refine q _ D ys ko (fun c o ec => ?_) nD upd_same
    rw [upd_ne (fun z => by rw [z, nD] at ec; cases ec)]
    exact hsame [] c o ec
end
def CallRK (X : Cx) (u : Value) (ks : List Str) (r : List V → List V → Hp → VK → Prop) : Prop :=
  ∀ (pins : List (Addr × Obj)) (s : Shared) (σ : St) (H : Hp) (vs zs : List V) (us ws : List Value) (Q : VK), Inv X pins σ H s → Vals vs us → Vals zs ws → r vs zs H Q → wpAny (model X.prog X.w) X.A (call u us (ks.zip ws)) (EP X pins σ Q) X.xe s
def tCBK (r : List V → List V → Hp → VK → Prop) (t tk : TA) : TE := fun σ H Q => t σ H fun vs H1 => tk σ H1 fun zs H2 => r vs zs H2 Q
section
variable {X : Cx} {x : Str} {p pos : Pos} {e : Expr} {es : List Expr} {kws : List Keyword} {t tk : TA} {id : String} {ks : List Str} {r : List V → List V → Hp → VK → Prop}
theorem pe_callBK (hc : CallRK X (.builtin id) ks r) (hg : Gl X x) (hm : X.mg x = none) (hv : bootBuiltins x = some (.builtin id)) (ha : PA X (e :: es) t) (hkw : PK X kws tk) (hks : (backToKw pos (keywordEach kws X.env)).filterMap (·.1) = ks := by rfl)
    (hn : x ≠ "__name__" := by decide) (hdb : (x == ("__debug__" : Str)) = false := by decide) (he : backTo pos (starEach (e :: es) X.env) = (false, eval e X.env) :: backTo pos (starEach es X.env) := by rfl)
    (hpl : (backTo pos (starEach (e :: es) X.env)).any (·.1) = false := by rfl) (hall : (backToKw pos (keywordEach kws X.env)).all (·.1.isSome) = true := by rfl) (hno : (backToKw pos (keywordEach kws X.env)).any (·.1.isNone) = false := by rfl) :
    PE X (.Call (.Name x p) (e :: es) kws pos) (tCBK r t tk) := by
  intro pins s σ H Q I h
  refine wpAny_Call_Name_kw (ld_blt I hg hm hv ?_ hn hdb)
  refine PyProof.Rows.callWith_kw (thn (ha pos pins s σ H _ I h) fun us s1 ⟨vs, H1, I1, r1, q1⟩ => thn (hkw pos pins s1 σ H1 _ I1 q1) fun ws s2 ⟨zs, H2, I2, rz, q2⟩ => ?_) he hpl hall hno
  rw [hks]
  exact hc pins s2 σ H2 vs zs us ws Q I2 r1 rz q2
def rSortK (K : PySem.W.Frag) (f : Addr) (sp : Sp) (b : Bool) (more : List V) : List V → List V → Hp → VK → Prop := fun vs zs H Q => ∃ (p : Addr) (xs : List V) (kz : List Int), vs = [.ref p] ∧ zs = .ref f :: more ∧ SqL K H p xs ∧ kz.length = xs.length ∧ xs.length < 64 ∧
  (∀ (i : Nat) (v : V) (z : Int), xs[i]? = some v → kz[i]? = some z → ∀ H', Same H H' → sp [v] H' (fun u H2 => u = .int z ∧ H2 = H') E0) ∧
  ∀ (H' : Hp) (D : Addr) (ys : List V), KOut b kz xs ys → Same H H' → H D = none → H' D = some (.lst ys) → Q (.ref D) H'
theorem crk_sorted {k : Nat} {f : Addr} {fd : FuncData} {y : Str} {sp : Sp} (F : FnOk X.prog X.w X.K X.mg X.base CX0 k f fd [y] sp) (hr : Room (k + 1) X.A) (hb : Binds X.K fd [y] []) : CallRK X (.builtin "sorted") ["key"] (rSortK X.K f sp false []) := by
  intro pins s σ H vs zs us ws Q I r1 rz h
  obtain ⟨p, xs, kz, rfl, rfl, hs, hlen, h64, turn, q⟩ := h
  rw [Vals.ref1 r1, Vals.ref1 rz]
  exact run_sortedK F hr hb I hs hlen h64 (ksk_s1 _ _) (fun y => ksk_l1 _ _) (fun y => ksk_t1 f y) turn q
theorem crk_sortedR {k : Nat} {f : Addr} {fd : FuncData} {y : Str} {sp : Sp} (F : FnOk X.prog X.w X.K X.mg X.base CX0 k f fd [y] sp) (hr : Room (k + 1) X.A) (hb : Binds X.K fd [y] []) : CallRK X (.builtin "sorted") ["key", "reverse"] (rSortK X.K f sp true [.bl true]) := by
  intro pins s σ H vs zs us ws Q I r1 rz h
  obtain ⟨p, xs, kz, rfl, rfl, hs, hlen, h64, turn, q⟩ := h
  rw [Vals.ref1 r1]
  cases rz with
  | cons a1 a2 =>
    cases a2 with
    | cons a3 a4 =>
      cases a4
      cases a1
      cases a3
      exact run_sortedK F hr hb I hs hlen h64 (ksk_s2 _ _ _) (fun y => ksk_l2 _ _ _) (fun y => ksk_t2 f y true) turn q
end
end L2
end
section
set_option Elab.async false
set_option linter.all false
set_option maxRecDepth 100000
namespace L2
open PySem PySem.Spec PyProof.Rows
theorem lc_by {J : It} {n : Nat} {g : TG} {tt : TT} {te : TE} {vs : List Nat} {σ : St} {H1 : Hp} {D : Addr} {Qd : Hp → Prop} (Pv : Nat → Hp → Prop) (h0 : Pv 0 (upd H1 D (.lst []))) (hgo : ∀ i H, i < n → Pv i H → J.go i H) (hst : ∀ H, Pv n H → J.stop n H)
    (hs : ∀ i x H H', i < n → Pv i H → J.yld i H x H' → g x (wipe σ vs) H' fun σ2 H2 => wipe σ2 vs = wipe σ vs ∧ tt σ2 H2 fun b H3 =>
      if b = true then te σ2 H3 fun y H4 => ∃ acc, H4 D = some (.lst acc) ∧ acc.length < sizeLine ∧ Pv (i + 1) (upd H4 D (.lst (acc ++ [y]))) else Pv (i + 1) H3) (hd : ∀ H, Pv n H → Qd H) :
    ∃ W : Nat → Nat → Hp → Prop, (∃ m, W 0 m (upd H1 D (.lst []))) ∧ ∀ i m H, W i m H →
      (J.stop i H ∧ Qd H) ∨ (J.go i H ∧ ∃ Nx : Hp → Prop, (∀ H', Nx H' → ∃ m', m' < m ∧ W (i + 1) m' H') ∧ ∀ x H', J.yld i H x H' → g x (wipe σ vs) H' fun σ2 H2 => wipe σ2 vs = wipe σ vs ∧ tt σ2 H2 fun b H3 =>
        if b = true then te σ2 H3 fun y H4 => ∃ acc, H4 D = some (.lst acc) ∧ acc.length < sizeLine ∧ Nx (upd H4 D (.lst (acc ++ [y]))) else Nx H3) := by
  refine ⟨fun i m H => m + i = n ∧ Pv i H, ⟨n, rfl, h0⟩, ?_⟩
  rintro i m H ⟨hm, p⟩
  by_cases z : m = 0
  · have e : i = n := by omega
    subst e
    exact .inl ⟨hst H p, hd H p⟩
  · exact .inr ⟨hgo i H (by omega) p, Pv (i + 1), fun H' p' => ⟨m - 1, by omega, by omega, p'⟩, fun x H' y => hs i x H H' (by omega) p y⟩
theorem for_by {J : It} {n : Nat} {g : TG} {tb : TS} {D : Ends} {σ : St} {H : Hp} (Pv : Nat → St → Hp → Prop) (h0 : Pv 0 σ H) (hgo : ∀ i σ H, i < n → Pv i σ H → J.go i H) (hst : ∀ σ H, Pv n σ H → J.stop n H)
    (hs : ∀ i x σ H H', i < n → Pv i σ H → J.yld i H x H' → g x σ H' fun σ2 H2 => tb { D with nx := Pv (i + 1), ct := Pv (i + 1), bk := D.nx } σ2 H2) (hd : ∀ σ H, Pv n σ H → D.nx σ H) :
    ∃ W : Nat → Nat → St → Hp → Prop, (∃ m, W 0 m σ H) ∧ ∀ i m σ H, W i m σ H →
      (J.stop i H ∧ D.nx σ H) ∨ (J.go i H ∧ ∃ N : St → Hp → Prop, (∀ σ' H', N σ' H' → ∃ m', m' < m ∧ W (i + 1) m' σ' H') ∧ ∀ x H', J.yld i H x H' → g x σ H' fun σ2 H2 => tb { D with nx := N, ct := N, bk := D.nx } σ2 H2) := by
  refine ⟨fun i m σ H => m + i = n ∧ Pv i σ H, ⟨n, rfl, h0⟩, ?_⟩
  rintro i m σ H ⟨hm, p⟩
  by_cases z : m = 0
  · have e : i = n := by omega
    subst e
    exact .inl ⟨hst σ H p, hd σ H p⟩
  · exact .inr ⟨hgo i σ H (by omega) p, Pv (i + 1), fun σ' H' p' => ⟨m - 1, by omega, by omega, p'⟩, fun x H' y => hs i x σ H H' (by omega) p y⟩
theorem lc_enum {K : PySem.W.Frag} {a : Addr} {xs : List V} {g : TG} {tt : TT} {te : TE} {vs : List Nat} {σ : St} {H1 : Hp} {D : Addr} {Qd : Hp → Prop} (Pv : Nat → Hp → Prop) (h0 : Pv 0 (upd H1 D (.lst []))) (hl : ∀ i H, Pv i H → SqL K H a xs)
    (hs : ∀ i x T H, xs[i]? = some x → Pv i H → H T = none → g (.ref T) (wipe σ vs) (upd H T (.tup [.int (i : Nat), x])) fun σ2 H2 => wipe σ2 vs = wipe σ vs ∧ tt σ2 H2 fun b H3 =>
      if b = true then te σ2 H3 fun y H4 => ∃ acc, H4 D = some (.lst acc) ∧ acc.length < sizeLine ∧ Pv (i + 1) (upd H4 D (.lst (acc ++ [y]))) else Pv (i + 1) H3) (hd : ∀ H, Pv xs.length H → Qd H) :
    ∃ W : Nat → Nat → Hp → Prop, (∃ m, W 0 m (upd H1 D (.lst []))) ∧ ∀ i m H, W i m H →
      ((Ite K a).stop i H ∧ Qd H) ∨ ((Ite K a).go i H ∧ ∃ Nx : Hp → Prop, (∀ H', Nx H' → ∃ m', m' < m ∧ W (i + 1) m' H') ∧ ∀ x H', (Ite K a).yld i H x H' → g x (wipe σ vs) H' fun σ2 H2 => wipe σ2 vs = wipe σ vs ∧ tt σ2 H2 fun b H3 =>
        if b = true then te σ2 H3 fun y H4 => ∃ acc, H4 D = some (.lst acc) ∧ acc.length < sizeLine ∧ Nx (upd H4 D (.lst (acc ++ [y]))) else Nx H3) := by
  refine lc_by (J := Ite K a) (n := xs.length) Pv h0 (fun i H hi p => ⟨xs, xs[i], hl i H p, by simp [hi]⟩) (fun H p => ⟨xs, hl _ H p, Nat.le_refl _⟩) (fun i x H H' hi p y => ?_) hd
  obtain ⟨T, x', rfl, hT, rfl, hx⟩ := y
  exact hs i x' T H (hx xs (hl i H p)) p hT
theorem for_enum {K : PySem.W.Frag} {a : Addr} {xs : List V} {g : TG} {tb : TS} {D : Ends} {σ : St} {H : Hp} (Pv : Nat → St → Hp → Prop) (h0 : Pv 0 σ H) (hl : ∀ i σ H, Pv i σ H → SqL K H a xs)
    (hs : ∀ i x T σ H, xs[i]? = some x → Pv i σ H → H T = none → g (.ref T) σ (upd H T (.tup [.int (i : Nat), x])) fun σ2 H2 => tb { D with nx := Pv (i + 1), ct := Pv (i + 1), bk := D.nx } σ2 H2) (hd : ∀ σ H, Pv xs.length σ H → D.nx σ H) :
    ∃ W : Nat → Nat → St → Hp → Prop, (∃ m, W 0 m σ H) ∧ ∀ i m σ H, W i m σ H →
      ((Ite K a).stop i H ∧ D.nx σ H) ∨ ((Ite K a).go i H ∧ ∃ N : St → Hp → Prop, (∀ σ' H', N σ' H' → ∃ m', m' < m ∧ W (i + 1) m' σ' H') ∧ ∀ x H', (Ite K a).yld i H x H' → g x σ H' fun σ2 H2 => tb { D with nx := N, ct := N, bk := D.nx } σ2 H2) := by
  refine for_by (J := Ite K a) (n := xs.length) Pv h0 (fun i σ H hi p => ⟨xs, xs[i], hl i σ H p, by simp [hi]⟩) (fun σ H p => ⟨xs, hl _ σ H p, Nat.le_refl _⟩) (fun i x σ H H' hi p y => ?_) hd
  obtain ⟨T, x', rfl, hT, rfl, hx⟩ := y
  exact hs i x' T σ H (hx xs (hl i σ H p)) p hT
end L2
end
section
set_option Elab.async false
set_option linter.all false
set_option maxRecDepth 100000
set_option maxHeartbeats 1000000
namespace Mx
open PySem PySem.Spec PyProof.Rows L2
def top (i : Nat) : Stmt := PySem.Challenge.pw_mixdesks_s12_mix.main.body.getD i (.Pass ⟨0, 0, 0, 0⟩)
abbrev s_zH : Stmt := inClass (top 6) 0
abbrev s_zI : Stmt := inClass (top 7) 0
abbrev s_zj : Stmt := inClass (top 7) 1
abbrev s_zd : Stmt := inClass (top 7) 2
abbrev s_zh : Stmt := inClass (top 7) 4
abbrev s_zk : Stmt := inClass (top 9) 0
abbrev s_zn : Stmt := inClass (top 10) 0
abbrev s_zB : Stmt := inClass (top 11) 0
abbrev s_zg : Stmt := inClass (top 12) 0
abbrev s_zm : Stmt := inClass (top 13) 0
abbrev s_zS : Stmt := top 20
abbrev s_held : Stmt := top 21
abbrev s_zt : Stmt := inClass (top 42) 0
abbrev s_ze : Stmt := inClass (top 42) 1
abbrev s_zb : Stmt := inClass (top 42) 2
abbrev s_zc : Stmt := inClass (top 42) 3
abbrev s_zi : Stmt := inClass (top 42) 4
abbrev s_zJ : Stmt := top 43
abbrev s_zz : Stmt := top 44
abbrev s_zE : Stmt := top 45
abbrev s_zK : Stmt := top 46
abbrev s_zo : Stmt := top 47
abbrev s_zL : Stmt := top 48
abbrev s_zM : Stmt := top 49
abbrev s_zu : Stmt := top 50
abbrev s_zN : Stmt := top 51
abbrev s_zf : Stmt := top 52
abbrev s_zF : Stmt := top 53
abbrev s_zX : Stmt := top 54
abbrev s_zr : Stmt := top 55
abbrev s_z0 : Stmt := top 56
abbrev s_zO : Stmt := top 57
abbrev s_za : Stmt := top 58
abbrev s_zQ : Stmt := top 59
abbrev s_zl : Stmt := top 61
abbrev s_zv : Stmt := top 62
abbrev s_zG : Stmt := top 63
abbrev s_zA : Stmt := inClass (top 68) 0
abbrev s_zC : Stmt := top 69
abbrev s_zs : Stmt := top 70
abbrev s_zU : Stmt := top 71
abbrev s_zD : Stmt := top 72
abbrev s_zq : Stmt := top 74
abbrev s_zp : Stmt := top 75
abbrev s_zw : Stmt := inClass (top 77) 0
abbrev s_zx : Stmt := top 78
abbrev s_zR : Stmt := top 79
abbrev s_zT : Stmt := top 81
abbrev s_zY : Stmt := top 82
abbrev s_mix : Stmt := top 84
abbrev s_zV : Stmt := top 85
structure AD where
  c_Send : Addr
  c_Desk : Addr
  c_zW : Addr
  c_z1 : Addr
  c_z6 : Addr
  c_zP : Addr
  c_zZ : Addr
  c_zy : Addr
  c_z3 : Addr
  c_z2 : Addr
  f_zH : Addr
  d_zH : FuncData
  f_zI : Addr
  d_zI : FuncData
  f_zj : Addr
  d_zj : FuncData
  f_zd : Addr
  d_zd : FuncData
  f_zh : Addr
  d_zh : FuncData
  f_zk : Addr
  d_zk : FuncData
  f_zn : Addr
  d_zn : FuncData
  f_zB : Addr
  d_zB : FuncData
  f_zg : Addr
  d_zg : FuncData
  f_zm : Addr
  d_zm : FuncData
  f_zS : Addr
  d_zS : FuncData
  f_held : Addr
  d_held : FuncData
  f_zt : Addr
  d_zt : FuncData
  f_ze : Addr
  d_ze : FuncData
  f_zb : Addr
  d_zb : FuncData
  f_zc : Addr
  d_zc : FuncData
  f_zi : Addr
  d_zi : FuncData
  f_zJ : Addr
  d_zJ : FuncData
  f_zz : Addr
  d_zz : FuncData
  f_zE : Addr
  d_zE : FuncData
  f_zK : Addr
  d_zK : FuncData
  f_zo : Addr
  d_zo : FuncData
  f_zL : Addr
  d_zL : FuncData
  f_zM : Addr
  d_zM : FuncData
  f_zu : Addr
  d_zu : FuncData
  f_zN : Addr
  d_zN : FuncData
  f_zf : Addr
  d_zf : FuncData
  f_zF : Addr
  d_zF : FuncData
  f_zX : Addr
  d_zX : FuncData
  f_zr : Addr
  d_zr : FuncData
  f_z0 : Addr
  d_z0 : FuncData
  f_zO : Addr
  d_zO : FuncData
  f_za : Addr
  d_za : FuncData
  f_zQ : Addr
  d_zQ : FuncData
  f_zl : Addr
  d_zl : FuncData
  f_zv : Addr
  d_zv : FuncData
  f_zG : Addr
  d_zG : FuncData
  f_zA : Addr
  d_zA : FuncData
  f_zC : Addr
  d_zC : FuncData
  f_zs : Addr
  d_zs : FuncData
  f_zU : Addr
  d_zU : FuncData
  f_zD : Addr
  d_zD : FuncData
  f_zq : Addr
  d_zq : FuncData
  f_zp : Addr
  d_zp : FuncData
  f_zw : Addr
  d_zw : FuncData
  f_zx : Addr
  d_zx : FuncData
  f_zR : Addr
  d_zR : FuncData
  f_zT : Addr
  d_zT : FuncData
  f_zY : Addr
  d_zY : FuncData
  f_mix : Addr
  d_mix : FuncData
  f_zV : Addr
  d_zV : FuncData
  v_z5 : Addr
  v_z7 : Addr
  v_z8 : Addr
structure Txt (K : PySem.W.Frag) (mg : Str → Option Value) (a : AD) : Prop where
  F_zH : Fun K "__init__" "Send.__init__" s_zH a.f_zH a.d_zH
  B_zH : Binds K a.d_zH ["self", "sender", "target", "gain", "pre"] []
  F_zI : Fun K "__init__" "Desk.__init__" s_zI a.f_zI a.d_zI
  B_zI : Binds K a.d_zI ["self"] []
  F_zj : Fun K "add_node" "Desk.add_node" s_zj a.f_zj a.d_zj
  B_zj : Binds K a.d_zj ["self", "kind", "spelled"] []
  M_zj : Meth K a.c_Desk "add_node" a.f_zj
  F_zd : Fun K "send_between" "Desk.send_between" s_zd a.f_zd a.d_zd
  B_zd : Binds K a.d_zd ["self", "sender", "target"] []
  M_zd : Meth K a.c_Desk "send_between" a.f_zd
  F_zh : Fun K "groups_of" "Desk.groups_of" s_zh a.f_zh a.d_zh
  B_zh : Binds K a.d_zh ["self", "i"] []
  M_zh : Meth K a.c_Desk "groups_of" a.f_zh
  F_zk : Fun K "__init__" "Refusal.__init__" s_zk a.f_zk a.d_zk
  B_zk : Binds K a.d_zk ["self", "number", "told"] []
  F_zn : Fun K "__init__" "TooLong.__init__" s_zn a.f_zn a.d_zn
  B_zn : Binds K a.d_zn ["self"] []
  F_zB : Fun K "__init__" "Unfit.__init__" s_zB a.f_zB a.d_zB
  B_zB : Binds K a.d_zB ["self"] []
  F_zg : Fun K "__init__" "WrongCount.__init__" s_zg a.f_zg a.d_zg
  B_zg : Binds K a.d_zg ["self"] []
  F_zm : Fun K "__init__" "Fault.__init__" s_zm a.f_zm a.d_zm
  B_zm : Binds K a.d_zm ["self", "kind", "place"] []
  F_zS : Fun K "rounded" "rounded" s_zS a.f_zS a.d_zS
  B_zS : Binds K a.d_zS ["exact"] []
  g_zS : mg "rounded" = some (.ref a.f_zS)
  F_held : Fun K "held" "held" s_held a.f_held a.d_held
  B_held : Binds K a.d_held ["sample"] []
  g_held : mg "held" = some (.ref a.f_held)
  F_zt : Fun K "__init__" "Reader.__init__" s_zt a.f_zt a.d_zt
  B_zt : Binds K a.d_zt ["self", "text"] []
  F_ze : Fun K "next_word" "Reader.next_word" s_ze a.f_ze a.d_ze
  B_ze : Binds K a.d_ze ["self"] []
  M_ze : Meth K a.c_zy "next_word" a.f_ze
  F_zb : Fun K "take_word" "Reader.take_word" s_zb a.f_zb a.d_zb
  B_zb : Binds K a.d_zb ["self"] []
  M_zb : Meth K a.c_zy "take_word" a.f_zb
  F_zc : Fun K "take_byte" "Reader.take_byte" s_zc a.f_zc a.d_zc
  B_zc : Binds K a.d_zc ["self", "due"] []
  M_zc : Meth K a.c_zy "take_byte" a.f_zc
  F_zi : Fun K "at_end" "Reader.at_end" s_zi a.f_zi a.d_zi
  B_zi : Binds K a.d_zi ["self"] []
  M_zi : Meth K a.c_zy "at_end" a.f_zi
  F_zJ : Fun K "read_desk" "read_desk" s_zJ a.f_zJ a.d_zJ
  B_zJ : Binds K a.d_zJ ["text"] []
  g_zJ : mg "read_desk" = some (.ref a.f_zJ)
  F_zz : Fun K "bytes_of" "bytes_of" s_zz a.f_zz a.d_zz
  B_zz : Binds K a.d_zz ["written"] []
  g_zz : mg "bytes_of" = some (.ref a.f_zz)
  F_zE : Fun K "is_one_of" "is_one_of" s_zE a.f_zE a.d_zE
  B_zE : Binds K a.d_zE ["word", "written_words"] []
  g_zE : mg "is_one_of" = some (.ref a.f_zE)
  F_zK : Fun K "read_node" "read_node" s_zK a.f_zK a.d_zK
  B_zK : Binds K a.d_zK ["reader", "desk"] []
  g_zK : mg "read_node" = some (.ref a.f_zK)
  F_zo : Fun K "read_setting" "read_setting" s_zo a.f_zo a.d_zo
  B_zo : Binds K a.d_zo ["reader", "desk"] []
  g_zo : mg "read_setting" = some (.ref a.f_zo)
  F_zL : Fun K "read_safe" "read_safe" s_zL a.f_zL a.d_zL
  B_zL : Binds K a.d_zL ["reader", "desk"] []
  g_zL : mg "read_safe" = some (.ref a.f_zL)
  F_zM : Fun K "read_late" "read_late" s_zM a.f_zM a.d_zM
  B_zM : Binds K a.d_zM ["reader", "desk"] []
  g_zM : mg "read_late" = some (.ref a.f_zM)
  F_zu : Fun K "read_member" "read_member" s_zu a.f_zu a.d_zu
  B_zu : Binds K a.d_zu ["reader", "desk"] []
  g_zu : mg "read_member" = some (.ref a.f_zu)
  F_zN : Fun K "read_send" "read_send" s_zN a.f_zN a.d_zN
  B_zN : Binds K a.d_zN ["reader", "desk"] []
  g_zN : mg "read_send" = some (.ref a.f_zN)
  F_zf : Fun K "read_told_node" "read_told_node" s_zf a.f_zf a.d_zf
  B_zf : Binds K a.d_zf ["reader", "desk", "kinds"] []
  g_zf : mg "read_told_node" = some (.ref a.f_zf)
  F_zF : Fun K "read_name" "read_name" s_zF a.f_zF a.d_zF
  B_zF : Binds K a.d_zF ["reader"] []
  g_zF : mg "read_name" = some (.ref a.f_zF)
  F_zX : Fun K "is_name" "is_name" s_zX a.f_zX a.d_zX
  B_zX : Binds K a.d_zX ["word"] []
  g_zX : mg "is_name" = some (.ref a.f_zX)
  F_zr : Fun K "read_number" "read_number" s_zr a.f_zr a.d_zr
  B_zr : Binds K a.d_zr ["reader", "least", "most"] []
  g_zr : mg "read_number" = some (.ref a.f_zr)
  F_z0 : Fun K "is_num" "is_num" s_z0 a.f_z0 a.d_z0
  B_z0 : Binds K a.d_z0 ["word"] []
  g_z0 : mg "is_num" = some (.ref a.f_z0)
  F_zO : Fun K "number_of" "number_of" s_zO a.f_zO a.d_zO
  B_zO : Binds K a.d_zO ["digits"] []
  g_zO : mg "number_of" = some (.ref a.f_zO)
  F_za : Fun K "has_length_and_bytes" "has_length_and_bytes" s_za a.f_za a.d_za
  B_za : Binds K a.d_za ["word", "most", "first", "last"] []
  g_za : mg "has_length_and_bytes" = some (.ref a.f_za)
  F_zQ : Fun K "read_pre" "read_pre" s_zQ a.f_zQ a.d_zQ
  B_zQ : Binds K a.d_zQ ["reader"] []
  g_zQ : mg "read_pre" = some (.ref a.f_zQ)
  F_zl : Fun K "spread_onward" "spread_onward" s_zl a.f_zl a.d_zl
  B_zl : Binds K a.d_zl ["sends", "begun"] []
  g_zl : mg "spread_onward" = some (.ref a.f_zl)
  F_zv : Fun K "spread_back" "spread_back" s_zv a.f_zv a.d_zv
  B_zv : Binds K a.d_zv ["sends", "begun"] []
  g_zv : mg "spread_back" = some (.ref a.f_zv)
  F_zG : Fun K "sender_of" "sender_of" s_zG a.f_zG a.d_zG
  B_zG : Binds K a.d_zG ["told"] []
  g_zG : mg "sender_of" = some (.ref a.f_zG)
  F_zA : Fun K "__init__" "Setup.__init__" s_zA a.f_zA a.d_zA
  B_zA : Binds K a.d_zA ["self", "desk", "s", "g"] []
  F_zC : Fun K "live_nodes" "live_nodes" s_zC a.f_zC a.d_zC
  B_zC : Binds K a.d_zC ["desk", "s"] []
  g_zC : mg "live_nodes" = some (.ref a.f_zC)
  F_zs : Fun K "is_switched" "is_switched" s_zs a.f_zs a.d_zs
  B_zs : Binds K a.d_zs ["desk", "s", "i", "bit"] []
  g_zs : mg "is_switched" = some (.ref a.f_zs)
  F_zU : Fun K "has_bit" "has_bit" s_zU a.f_zU a.d_zU
  B_zU : Binds K a.d_zU ["switch", "bit"] []
  g_zU : mg "has_bit" = some (.ref a.f_zU)
  F_zD : Fun K "whole_gain" "whole_gain" s_zD a.f_zD a.d_zD
  B_zD : Binds K a.d_zD ["desk", "g", "x"] []
  g_zD : mg "whole_gain" = some (.ref a.f_zD)
  F_zq : Fun K "check_counts" "check_counts" s_zq a.f_zq a.d_zq
  B_zq : Binds K a.d_zq ["desk", "s", "g"] []
  g_zq : mg "check_counts" = some (.ref a.f_zq)
  F_zp : Fun K "check_bounds" "check_bounds" s_zp a.f_zp a.d_zp
  B_zp : Binds K a.d_zp ["s", "g"] []
  g_zp : mg "check_bounds" = some (.ref a.f_zp)
  F_zw : Fun K "__init__" "Levels.__init__" s_zw a.f_zw a.d_zw
  B_zw : Binds K a.d_zw ["self"] []
  F_zx : Fun K "find_levels" "find_levels" s_zx a.f_zx a.d_zx
  B_zx : Binds K a.d_zx ["setup", "samples"] []
  g_zx : mg "find_levels" = some (.ref a.f_zx)
  F_zR : Fun K "sum_sent" "sum_sent" s_zR a.f_zR a.d_zR
  B_zR : Binds K a.d_zR ["setup", "levels", "i"] []
  g_zR : mg "sum_sent" = some (.ref a.f_zR)
  F_zT : Fun K "tell_mix" "tell_mix" s_zT a.f_zT a.d_zT
  B_zT : Binds K a.d_zT ["desk", "s", "g", "ins"] []
  g_zT : mg "tell_mix" = some (.ref a.f_zT)
  F_zY : Fun K "answer" "answer" s_zY a.f_zY a.d_zY
  B_zY : Binds K a.d_zY ["number", "told_bytes", "told_numbers"] []
  g_zY : mg "answer" = some (.ref a.f_zY)
  F_mix : Fun K "mix" "mix" s_mix a.f_mix a.d_mix
  B_mix : Binds K a.d_mix ["t", "s", "g", "ins"] []
  g_mix : mg "mix" = some (.ref a.f_mix)
  F_zV : Fun K "refused" "refused" s_zV a.f_zV a.d_zV
  B_zV : Binds K a.d_zV ["refusal"] []
  g_zV : mg "refused" = some (.ref a.f_zV)
  g_Send : mg "Send" = some (.ref a.c_Send)
  C_Send : Cls K a.c_Send
  K_Send : Mk K a.c_Send a.f_zH
  N_zdb : NoAttr K a.c_Send "sender"
  N_zib : NoAttr K a.c_Send "target"
  N_zKb : NoAttr K a.c_Send "gain"
  N_zRb : NoAttr K a.c_Send "pre"
  g_Desk : mg "Desk" = some (.ref a.c_Desk)
  C_Desk : Cls K a.c_Desk
  K_Desk : Mk K a.c_Desk a.f_zI
  N_z9 : NoAttr K a.c_Desk "kinds"
  N_zob : NoAttr K a.c_Desk "names"
  N_zyb : NoAttr K a.c_Desk "safe"
  N_zCb : NoAttr K a.c_Desk "late"
  N_zkb : NoAttr K a.c_Desk "members"
  N_zgb : NoAttr K a.c_Desk "sends"
  g_zy : mg "Reader" = some (.ref a.c_zy)
  C_zy : Cls K a.c_zy
  K_zy : Mk K a.c_zy a.f_zt
  N_zbb : NoAttr K a.c_zy "text"
  N_zab : NoAttr K a.c_zy "place"
  N_z4 : NoAttr K a.c_zy "word_place"
  g_z3 : mg "Setup" = some (.ref a.c_z3)
  C_z3 : Cls K a.c_z3
  K_z3 : Mk K a.c_z3 a.f_zA
  N_zDb : NoAttr K a.c_z3 "desk"
  N_zub : NoAttr K a.c_z3 "live"
  N_zzb : NoAttr K a.c_z3 "gains"
  g_z2 : mg "Levels" = some (.ref a.c_z2)
  C_z2 : Cls K a.c_z2
  K_z2 : Mk K a.c_z2 a.f_zw
  N_zjb : NoAttr K a.c_z2 "sums"
  N_zfb : NoAttr K a.c_z2 "given"
  g_zW : mg "Refusal" = some (.ref a.c_zW)
  X_zW : ClsX K a.c_zW
  K_zW : MkX K a.c_zW a.f_zk
  R_zW : PySem.W.mroIn K a.c_zW (.ref a.c_zW) = some true
  N_zGb : NoAttr K a.c_zW "number"
  N_zNb : NoAttr K a.c_zW "told"
  g_z1 : mg "TooLong" = some (.ref a.c_z1)
  X_z1 : ClsX K a.c_z1
  K_z1 : MkX K a.c_z1 a.f_zn
  R_z1 : PySem.W.mroIn K a.c_z1 (.ref a.c_zW) = some true
  N_zAb : NoAttr K a.c_z1 "number"
  N_zHb : NoAttr K a.c_z1 "told"
  g_z6 : mg "Unfit" = some (.ref a.c_z6)
  X_z6 : ClsX K a.c_z6
  K_z6 : MkX K a.c_z6 a.f_zB
  R_z6 : PySem.W.mroIn K a.c_z6 (.ref a.c_zW) = some true
  N_zIb : NoAttr K a.c_z6 "number"
  N_zOb : NoAttr K a.c_z6 "told"
  g_zP : mg "WrongCount" = some (.ref a.c_zP)
  X_zP : ClsX K a.c_zP
  K_zP : MkX K a.c_zP a.f_zg
  R_zP : PySem.W.mroIn K a.c_zP (.ref a.c_zW) = some true
  N_znb : NoAttr K a.c_zP "number"
  N_ztb : NoAttr K a.c_zP "told"
  g_zZ : mg "Fault" = some (.ref a.c_zZ)
  X_zZ : ClsX K a.c_zZ
  K_zZ : MkX K a.c_zZ a.f_zm
  R_zZ : PySem.W.mroIn K a.c_zZ (.ref a.c_zW) = some true
  N_zJb : NoAttr K a.c_zZ "number"
  N_zPb : NoAttr K a.c_zZ "told"
  CM_zW : CMeth K a.c_zW "__init__" a.f_zk
  i_IN : ∃ t, mg "IN" = some (.int 0 t)
  i_BUS : ∃ t, mg "BUS" = some (.int 1 t)
  i_OUT : ∃ t, mg "OUT" = some (.int 2 t)
  i_zSb : ∃ t, mg "GROUP" = some (.int 3 t)
  i_zlb : ∃ t, mg "LEAST_SAMPLE" = some (.int (-8388608) t)
  i_zpb : ∃ t, mg "MOST_SAMPLE" = some (.int 8388607 t)
  i_zsb : ∃ t, mg "MOST_GAIN" = some (.int 65535 t)
  i_UNIT : ∃ t, mg "UNIT" = some (.int 16384 t)
  i_HALF : ∃ t, mg "HALF" = some (.int 8192 t)
  i_zvb : ∃ t, mg "MOST_BYTES" = some (.int 4096 t)
  i_zBb : ∃ t, mg "LINE_END" = some (.int 10 t)
  i_zQb : ∃ t, mg "BLANK" = some (.int 32 t)
  i_ZERO : ∃ t, mg "ZERO" = some (.int 48 t)
  i_NINE : ∃ t, mg "NINE" = some (.int 57 t)
  i_zLb : ∃ t, mg "LETTER_A" = some (.int 97 t)
  i_zMb : ∃ t, mg "LETTER_Z" = some (.int 122 t)
  i_zwb : ∃ t, mg "MOST_SENDS" = some (.int 48 t)
  i_zmb : ∃ t, mg "MOST_LETTERS" = some (.int 16 t)
  i_zqb : ∃ t, mg "MOST_DIGITS" = some (.int 5 t)
  i_zxb : ∃ t, mg "LEAST_LATE" = some (.int 1 t)
  i_zEb : ∃ t, mg "MOST_LATE" = some (.int 63 t)
  i_zeb : ∃ t, mg "WRONG_FORM" = some (.int 1 t)
  i_zhb : ∃ t, mg "OUT_OF_BOUNDS" = some (.int 2 t)
  i_zcb : ∃ t, mg "WRONG_NAME" = some (.int 3 t)
  i_zFb : ∃ t, mg "TOO_MANY" = some (.int 4 t)
  i_MUTE : ∃ t, mg "MUTE" = some (.int 1 t)
  i_SOLO : ∃ t, mg "SOLO" = some (.int 2 t)
  i_zrb : ∃ t, mg "MOST_SWITCH" = some (.int 3 t)
  t_z5 : mg "NODE_WORDS" = some (.ref a.v_z5)
  T_z5 : ∀ H, SqT K H a.v_z5 [.str "in", .str "bus", .str "out", .str "group"]
  t_z7 : mg "OTHER_WORDS" = some (.ref a.v_z7)
  T_z7 : ∀ H, SqT K H a.v_z7 [.str "safe", .str "late", .str "member", .str "send", .str "pre", .str "post"]
  t_z8 : mg "MOST_NODES" = some (.ref a.v_z8)
  T_z8 : ∀ H, SqT K H a.v_z8 [.int 8, .int 8, .int 4, .int 4]
  b_len : mg "len" = none
  b_ord : mg "ord" = none
  b_all : mg "all" = none
  b_any : mg "any" = none
  b_sorted : mg "sorted" = none
  b_max : mg "max" = none
  b_min : mg "min" = none
  b_range : mg "range" = none
  b_enumerate : mg "enumerate" = none
  b_list : mg "list" = none
end Mx
end
section
set_option Elab.async false
set_option linter.all false
set_option maxRecDepth 100000
set_option maxHeartbeats 1000000
namespace Mx
open PySem PySem.Spec PyProof.Rows L2
def pI (b : Bool) : Int := if b = true then 1 else 0
def sdF (s : Mix.Send) : List (Str × V) := [("sender", .int s.src), ("target", .int s.dst), ("gain", .int s.gain), ("pre", .int (pI s.pre))]
structure DA where
  k : Addr
  n : Addr
  s : Addr
  l : Addr
  m : Addr
  q : Addr
def DA.six (A : DA) : List Addr := [A.k, A.n, A.s, A.l, A.m, A.q]
def dkF (A : DA) : List (Str × V) := [("kinds", .ref A.k), ("names", .ref A.n), ("safe", .ref A.s), ("late", .ref A.l), ("members", .ref A.m), ("sends", .ref A.q)]
theorem upd_none {H : Hp} {p b : Addr} {o : HO} (h : upd H p o b = none) : b ≠ p ∧ H b = none := by
  by_cases e : b = p
  · subst e
    rw [upd_same] at h
    cases h
  · rw [upd_ne e] at h
    exact ⟨e, h⟩
def rfF (num : Int) (l : Addr) : List (Str × V) := [("number", .int num), ("told", .ref l)]
section
variable {P : Program} {w : World} {K : PySem.W.Frag} {mg : Str → Option Value} {base : Heap} {a : AD}
def spSendInit (a : AD) : Sp := fun vs H Q _ => ∃ x dx, ∃ s : Mix.Send, vs = [.ref x, .int s.src, .int s.dst, .int s.gain, .int (pI s.pre)] ∧ H x = some (.ins a.c_Send dx []) ∧ Q .non (upd H x (.ins a.c_Send dx (sdF s)))
theorem sc_zH : FnScope ["self", "sender", "target", "gain", "pre"] ["self", "sender", "target", "gain", "pre"] (defScope s_zH) := ⟨rfl, rfl, rfl, by decide +kernel, rfl, by decide +kernel, by decide +kernel⟩
theorem ok_zH (T : Txt K mg a) : FnOk P w K mg base CX0 1 a.f_zH a.d_zH ["self", "sender", "target", "gain", "pre"] (spSendInit a) := by
  refine T.F_zH.ok sc_zH (fun vs H Q E h => ?_) (fun cdv A outer s H vs Q E hr h => ?_)
  · obtain ⟨x, dx, s, rfl, _⟩ := h
    rfl
  · obtain ⟨x, dx, s, rfl, hx, k⟩ := h
    refine ⟨_, pss_cons (ps_fld (pv 0) (pv 1) rfl) (pss_cons (ps_fld (pv 0) (pv 2) rfl) (pss_cons (ps_fld (pv 0) (pv 3) rfl) (pss_one (ps_fld (pv 0) (pv 4) rfl)))), ?_⟩
    refine ⟨_, rfl, _, rfl, x, _, dx, _, rfl, hx, T.C_Send, T.N_zdb, (by show 0 < 1000; decide), ?_⟩
    refine ⟨_, rfl, _, rfl, x, _, dx, _, rfl, upd_same, T.C_Send, T.N_zib, (by show 1 < 1000; decide), ?_⟩
    refine ⟨_, rfl, _, rfl, x, _, dx, _, rfl, upd_same, T.C_Send, T.N_zKb, (by show 2 < 1000; decide), ?_⟩
    refine ⟨_, rfl, _, rfl, x, _, dx, _, rfl, upd_same, T.C_Send, T.N_zRb, (by show 3 < 1000; decide), ?_⟩
    rw [upd_upd, upd_upd, upd_upd]
    exact k
def spReaderInit (a : AD) : Sp := fun vs H Q _ => ∃ x dx t, vs = [.ref x, .ref t] ∧ H x = some (.ins a.c_zy dx []) ∧ Q .non (upd H x (.ins a.c_zy dx (rdF t 0 0)))
theorem sc_zt : FnScope ["self", "text"] ["self", "text"] (defScope s_zt) := ⟨rfl, rfl, rfl, by decide +kernel, rfl, by decide +kernel, by decide +kernel⟩
theorem ok_zt (T : Txt K mg a) : FnOk P w K mg base CX0 1 a.f_zt a.d_zt ["self", "text"] (spReaderInit a) := by
  refine T.F_zt.ok sc_zt (fun vs H Q E h => ?_) (fun cdv A outer s H vs Q E hr h => ?_)
  · obtain ⟨x, dx, s, rfl, _⟩ := h
    rfl
  · obtain ⟨x, dx, t, rfl, hx, k⟩ := h
    refine ⟨_, pss_cons (ps_fld (pv 0) (pv 1) rfl) (pss_cons (ps_fld (pv 0) pe_int rfl) (pss_one (ps_fld (pv 0) pe_int rfl))), ?_⟩
    refine ⟨_, rfl, _, rfl, x, _, dx, _, rfl, hx, T.C_zy, T.N_zbb, (by show 0 < 1000; decide), ?_⟩
    refine ⟨_, rfl, x, _, dx, _, rfl, upd_same, T.C_zy, T.N_zab, (by show 1 < 1000; decide), ?_⟩
    refine ⟨_, rfl, x, _, dx, _, rfl, upd_same, T.C_zy, T.N_z4, (by show 2 < 1000; decide), ?_⟩
    rw [upd_upd, upd_upd]
    exact k
def spDeskInit (a : AD) : Sp := fun vs H Q _ => ∃ x dx, vs = [.ref x] ∧ H x = some (.ins a.c_Desk dx []) ∧ ∀ (H' : Hp) (A : DA), Keeps [x] H H' → H' x = some (.ins a.c_Desk dx (dkF A)) → A.six.Nodup → (∀ b ∈ A.six, H b = none ∧ H' b = some (.lst [])) → Q .non H'
theorem sc_zI : FnScope ["self"] ["self"] (defScope s_zI) := ⟨rfl, rfl, rfl, by decide +kernel, rfl, by decide +kernel, by decide +kernel⟩
theorem ok_zI (T : Txt K mg a) : FnOk P w K mg base CX0 1 a.f_zI a.d_zI ["self"] (spDeskInit a) := by
  refine T.F_zI.ok sc_zI (fun vs H Q E h => ?_) (fun cdv A outer s H vs Q E hr h => ?_)
  · obtain ⟨x, dx, rfl, _⟩ := h
    rfl
  · obtain ⟨x, dx, rfl, hx, k⟩ := h
    refine ⟨_, pss_cons (ps_fld (pv 0) (pe_lst pa_nil) rfl) (pss_cons (ps_fld (pv 0) (pe_lst pa_nil) rfl) (pss_cons (ps_fld (pv 0) (pe_lst pa_nil) rfl) (pss_cons (ps_fld (pv 0) (pe_lst pa_nil) rfl) (pss_cons (ps_fld (pv 0) (pe_lst pa_nil) rfl) (pss_one (ps_fld (pv 0) (pe_lst pa_nil) rfl)))))), ?_⟩
    have st : ∀ {H : Hp} {fs : List (Str × V)} {f : Str} {c : Addr}, H x = some (.ins a.c_Desk dx fs) → H c = none → upd H c (.lst []) x = some (.ins a.c_Desk dx fs) := fun h1 h2 => by rw [upd_ne (ne_of_none h1 h2)]; exact h1
    refine ⟨Nat.zero_le _, fun c1 n1 => ⟨_, rfl, x, _, dx, _, rfl, st (f := "") hx n1, T.C_Desk, T.N_z9, (by show 0 < 1000; decide), ?_⟩⟩
    refine ⟨Nat.zero_le _, fun c2 n2 => ⟨_, rfl, x, _, dx, _, rfl, st (f := "") upd_same n2, T.C_Desk, T.N_zob, (by show 1 < 1000; decide), ?_⟩⟩
    refine ⟨Nat.zero_le _, fun c3 n3 => ⟨_, rfl, x, _, dx, _, rfl, st (f := "") upd_same n3, T.C_Desk, T.N_zyb, (by show 2 < 1000; decide), ?_⟩⟩
    refine ⟨Nat.zero_le _, fun c4 n4 => ⟨_, rfl, x, _, dx, _, rfl, st (f := "") upd_same n4, T.C_Desk, T.N_zCb, (by show 3 < 1000; decide), ?_⟩⟩
    refine ⟨Nat.zero_le _, fun c5 n5 => ⟨_, rfl, x, _, dx, _, rfl, st (f := "") upd_same n5, T.C_Desk, T.N_zkb, (by show 4 < 1000; decide), ?_⟩⟩
    refine ⟨Nat.zero_le _, fun c6 n6 => ⟨_, rfl, x, _, dx, _, rfl, st (f := "") upd_same n6, T.C_Desk, T.N_zgb, (by show 5 < 1000; decide), ?_⟩⟩
    have f2 := upd_none n2
    have g2 := upd_none f2.2
    have f3 := upd_none n3
    have g3 := upd_none f3.2
    have f3' := upd_none g3.2
    have g3' := upd_none f3'.2
    have f4 := upd_none n4
    have g4 := upd_none f4.2
    have f4' := upd_none g4.2
    have g4' := upd_none f4'.2
    have f4'' := upd_none g4'.2
    have g4'' := upd_none f4''.2
    have f5 := upd_none n5
    have g5 := upd_none f5.2
    have f5' := upd_none g5.2
    have g5' := upd_none f5'.2
    have f5'' := upd_none g5'.2
    have g5'' := upd_none f5''.2
    have h5 := upd_none g5''.2
    have i5 := upd_none h5.2
    have f6 := upd_none n6
    have g6 := upd_none f6.2
    have f6' := upd_none g6.2
    have g6' := upd_none f6'.2
    have f6'' := upd_none g6'.2
    have g6'' := upd_none f6''.2
    have h6 := upd_none g6''.2
    have i6 := upd_none h6.2
    have j6 := upd_none i6.2
    have l6 := upd_none j6.2
    have x1 : c1 ≠ x := Ne.symm (ne_of_none hx n1)
    refine k _ ⟨c1, c2, c3, c4, c5, c6⟩ (fun b o hb nb => ?_) upd_same ?_ fun b hb => ?_
    · have nx : b ≠ x := fun z => nb (by simp [z])
      rw [upd_ne nx, upd_ne (ne_of_none hb l6.2), upd_ne nx, upd_ne (ne_of_none hb i5.2), upd_ne nx, upd_ne (ne_of_none hb g4''.2), upd_ne nx, upd_ne (ne_of_none hb g3'.2), upd_ne nx, upd_ne (ne_of_none hb g2.2), upd_ne nx, upd_ne (ne_of_none hb n1)]
      exact hb
    · simp [DA.six, Ne.symm g2.1, Ne.symm g3.1, Ne.symm g3'.1, Ne.symm g4.1, Ne.symm g4'.1, Ne.symm g4''.1, Ne.symm g5.1, Ne.symm g5'.1, Ne.symm g5''.1, Ne.symm i5.1, Ne.symm g6.1, Ne.symm g6'.1, Ne.symm g6''.1, Ne.symm i6.1, Ne.symm l6.1]
    · simp only [DA.six, List.mem_cons, List.not_mem_nil, or_false] at hb
      rcases hb with rfl | rfl | rfl | rfl | rfl | rfl
      · exact ⟨n1, by rw [upd_ne x1, upd_ne (Ne.symm l6.1), upd_ne x1, upd_ne (Ne.symm i5.1), upd_ne x1, upd_ne (Ne.symm g4''.1), upd_ne x1, upd_ne (Ne.symm g3'.1), upd_ne x1, upd_ne (Ne.symm g2.1), upd_ne x1, upd_same]⟩
      · exact ⟨g2.2, by rw [upd_ne f2.1, upd_ne (Ne.symm i6.1), upd_ne f2.1, upd_ne (Ne.symm g5''.1), upd_ne f2.1, upd_ne (Ne.symm g4'.1), upd_ne f2.1, upd_ne (Ne.symm g3.1), upd_ne f2.1, upd_same]⟩
      · exact ⟨g3'.2, by rw [upd_ne f3.1, upd_ne (Ne.symm g6''.1), upd_ne f3.1, upd_ne (Ne.symm g5'.1), upd_ne f3.1, upd_ne (Ne.symm g4.1), upd_ne f3.1, upd_same]⟩
      · exact ⟨g4''.2, by rw [upd_ne f4.1, upd_ne (Ne.symm g6'.1), upd_ne f4.1, upd_ne (Ne.symm g5.1), upd_ne f4.1, upd_same]⟩
      · exact ⟨i5.2, by rw [upd_ne f5.1, upd_ne (Ne.symm g6.1), upd_ne f5.1, upd_same]⟩
      · exact ⟨l6.2, by rw [upd_ne f6.1, upd_same]⟩
end
end Mx
end
section
set_option Elab.async false
set_option linter.all false
set_option maxRecDepth 100000
set_option maxHeartbeats 1000000
namespace Mx
open PySem PySem.Spec PyProof.Rows L2
structure RCls (K : PySem.W.Frag) (a : AD) (C : Addr) : Prop where
  x : ClsX K C
  n : NoAttr K C "number"
  t : NoAttr K C "told"
  r : PySem.W.mroIn K C (.ref a.c_zW) = some true
def Rz (K : PySem.W.Frag) (a : AD) (num : Int) (told : List Int) (E : XK) : Prop := ∀ (x C d l : Addr) (H' : Hp), H' x = some (XF x C (some d)) → H' d = some (XD d (rfF num l)) → H' l = some (.lst (told.map V.int)) → RCls K a C → E (.ref x) none H'
section
variable {P : Program} {w : World} {K : PySem.W.Frag} {mg : Str → Option Value} {base : Heap} {a : AD}
def spRefusalInit (K : PySem.W.Frag) (a : AD) : Sp := fun vs H Q _ => ∃ x C num l, vs = [.ref x, .int num, .ref l] ∧ H x = some (XN x C none) ∧ RCls K a C ∧ ∀ d, H d = none → Q .non (upd (upd H x (XN x C (some d))) d (XD d (rfF num l)))
theorem sc_zk : FnScope ["self", "number", "told"] ["self", "number", "told"] (defScope s_zk) := ⟨rfl, rfl, rfl, by decide +kernel, rfl, by decide +kernel, by decide +kernel⟩
theorem ok_zk (T : Txt K mg a) : FnOk P w K mg base CX0 1 a.f_zk a.d_zk ["self", "number", "told"] (spRefusalInit K a) := by
  refine T.F_zk.ok sc_zk (fun vs H Q E h => ?_) (fun cdv A outer s H vs Q E hr h => ?_)
  · obtain ⟨x, C, num, l, rfl, _⟩ := h
    rfl
  · obtain ⟨x, C, num, l, rfl, hx, c, k⟩ := h
    refine ⟨_, pss_cons (ps_xfld0 (pv 0) (pv 1) rfl) (pss_one (ps_xfld1 (pv 0) (pv 2) rfl)), ?_⟩
    refine ⟨_, rfl, _, rfl, x, C, rfl, hx, c.x, c.n, fun d hd => ?_⟩
    have nd : x ≠ d := ne_of_none hx hd
    refine ⟨_, rfl, _, rfl, x, C, d, _, rfl, by rw [upd_ne nd, upd_same], upd_same, c.x, c.t, (by show 1 < 1000; decide), ?_⟩
    rw [upd_upd]
    exact k d hd
def spBareInit (C : Addr) (num : Int) : Sp := fun vs H Q _ => ∃ x, vs = [.ref x] ∧ H x = some (XN x C none) ∧ ∀ (H' : Hp) (d l : Addr), H' x = some (XN x C (some d)) → H' d = some (XD d (rfF num l)) → H' l = some (.lst []) → d ≠ x → Q .non H'
def spFaultInit (a : AD) : Sp := fun vs H Q _ => ∃ x k p, vs = [.ref x, .int k, .int p] ∧ H x = some (XN x a.c_zZ none) ∧ ∀ (H' : Hp) (d l : Addr), H' x = some (XN x a.c_zZ (some d)) → H' d = some (XD d (rfF (-6) l)) → H' l = some (.lst [.int k, .int p]) → d ≠ x → Q .non H'
theorem r_zZ (T : Txt K mg a) : RCls K a a.c_zZ := ⟨T.X_zZ, T.N_zJb, T.N_zPb, T.R_zZ⟩
theorem r_z1 (T : Txt K mg a) : RCls K a a.c_z1 := ⟨T.X_z1, T.N_zAb, T.N_zHb, T.R_z1⟩
theorem behind_init {H : Hp} {x C l d : Addr} {num : Int} {xs : List V} {Q : Hp → Prop} (hx : H x = some (XN x C none)) (hl : H l = none) (hd : upd H l (.lst xs) d = none)
    (k : ∀ (H' : Hp) (d l : Addr), H' x = some (XN x C (some d)) → H' d = some (XD d (rfF num l)) → H' l = some (.lst xs) → d ≠ x → Q H') : Q (upd (upd (upd H l (.lst xs)) x (XN x C (some d))) d (XD d (rfF num l))) := by
  have f := upd_none hd
  have nl : x ≠ l := ne_of_none hx hl
  have nd : x ≠ d := fun z => by rw [z] at hx; rw [hx] at f; cases f.2
  exact k _ d l (by rw [upd_ne nd, upd_same]) upd_same (by rw [upd_ne (Ne.symm f.1), upd_ne (Ne.symm nl), upd_same]) (Ne.symm nd)
theorem sc_zm : FnScope ["self", "kind", "place"] ["self", "kind", "place"] (defScope s_zm) := ⟨rfl, rfl, rfl, by decide +kernel, rfl, by decide +kernel, by decide +kernel⟩
theorem ok_zm (T : Txt K mg a) : FnOk P w K mg base CX0 2 a.f_zm a.d_zm ["self", "kind", "place"] (spFaultInit a) := by
  have G := ok_zk (P := P) (w := w) (base := base) T
  refine T.F_zm.ok sc_zm (fun vs H Q E h => ?_) (fun cdv A outer s H vs Q E hr h => ?_)
  · obtain ⟨x, k, p, rfl, _⟩ := h
    rfl
  · obtain ⟨x, k, p, rfl, hx, q⟩ := h
    refine ⟨_, pss_one (ps_expr (pe_cmeth T.CM_zW G hr rfl T.g_zW T.B_zk pass0 (pa_cons (pv 0) (pa_cons (pe_un un_neg pe_int) (pa_cons (pe_lst (pa_cons (pv 1) (pa_cons (pv 2) pa_nil))) pa_nil))))), ?_⟩
    refine ⟨_, rfl, _, rfl, _, rfl, _, rfl, (by show 2 ≤ sizeLine; decide), fun l hl => ?_⟩
    refine ⟨x, a.c_zZ, _, l, rfl, by rw [upd_ne (ne_of_none hx hl)]; exact hx, r_zZ T, fun d hd => ?_⟩
    exact behind_init hx hl hd q
theorem sc_zn : FnScope ["self"] ["self"] (defScope s_zn) := ⟨rfl, rfl, rfl, by decide +kernel, rfl, by decide +kernel, by decide +kernel⟩
theorem ok_zn (T : Txt K mg a) : FnOk P w K mg base CX0 2 a.f_zn a.d_zn ["self"] (spBareInit a.c_z1 (-2)) := by
  have G := ok_zk (P := P) (w := w) (base := base) T
  refine T.F_zn.ok sc_zn (fun vs H Q E h => ?_) (fun cdv A outer s H vs Q E hr h => ?_)
  · obtain ⟨x, rfl, _⟩ := h
    rfl
  · obtain ⟨x, rfl, hx, q⟩ := h
    refine ⟨_, pss_one (ps_expr (pe_cmeth T.CM_zW G hr rfl T.g_zW T.B_zk pass0 (pa_cons (pv 0) (pa_cons (pe_un un_neg pe_int) (pa_cons (pe_lst pa_nil) pa_nil))))), ?_⟩
    refine ⟨_, rfl, _, rfl, Nat.zero_le _, fun l hl => ?_⟩
    refine ⟨x, a.c_z1, _, l, rfl, by rw [upd_ne (ne_of_none hx hl)]; exact hx, r_z1 T, fun d hd => ?_⟩
    exact behind_init hx hl hd q
theorem fault_go {H : Hp} {k p : Int} {E E' : XK} (T : Txt K mg a) (z : Rz K a (-6) [k, p] E) : ([V.int k, V.int p] : List V).length ≤ sizeLine ∧ ∀ x, H x = none →
    spFaultInit a (.ref x :: [.int k, .int p]) (upd H x (XN x a.c_zZ none)) (fun v H3 => v = .non ∧ ∃ x' C' dx, V.ref x = .ref x' ∧ H3 x' = some (XN x' C' dx) ∧ excOk K C' = true ∧ E (.ref x') none (upd H3 x' (XF x' C' dx))) E' := by
  refine ⟨(by show 2 ≤ sizeLine; decide), fun x hx => ⟨x, k, p, rfl, upd_same, fun H' d l h1 h2 h3 hd => ⟨rfl, x, _, _, rfl, h1, T.X_zZ.ok, ?_⟩⟩⟩
  exact z x _ d l _ upd_same (by rw [upd_ne hd]; exact h2) (by rw [upd_ne (fun e => by rw [e, h1] at h3; cases h3)]; exact h3) (r_zZ T)
theorem bare_go {H : Hp} {C : Addr} {num : Int} {E E' : XK} (c : RCls K a C) (z : Rz K a num [] E) : ([] : List V).length ≤ sizeLine ∧ ∀ x, H x = none →
    spBareInit C num (.ref x :: []) (upd H x (XN x C none)) (fun v H3 => v = .non ∧ ∃ x' C' dx, V.ref x = .ref x' ∧ H3 x' = some (XN x' C' dx) ∧ excOk K C' = true ∧ E (.ref x') none (upd H3 x' (XF x' C' dx))) E' := by
  refine ⟨Nat.zero_le _, fun x hx => ⟨x, rfl, upd_same, fun H' d l h1 h2 h3 hd => ⟨rfl, x, _, _, rfl, h1, c.x.ok, ?_⟩⟩⟩
  exact z x _ d l _ upd_same (by rw [upd_ne hd]; exact h2) (by rw [upd_ne (fun e => by rw [e, h1] at h3; cases h3)]; exact h3) c
end
end Mx
end
section
set_option Elab.async false
set_option linter.all false
set_option maxRecDepth 100000
set_option maxHeartbeats 1000000
namespace Md
open Mix
theorem tw_step {f : UInt8 → Bool} : ∀ (l : Bytes) (i : Nat), i < (l.takeWhile f).length → ∃ c, l[i]? = some c ∧ f c = true
  | [], i, h => by simp at h
  | x :: l, i, h => by
    rw [List.takeWhile_cons] at h
    by_cases hx : f x = true
    · rw [if_pos hx] at h
      cases i with
      | zero => exact ⟨x, rfl, hx⟩
      | succ i =>
        rw [List.length_cons] at h
        obtain ⟨c, h1, h2⟩ := tw_step (f := f) l i (by omega)
        exact ⟨c, by simpa using h1, h2⟩
    · rw [if_neg hx] at h
      simp at h
theorem tw_stop {f : UInt8 → Bool} : ∀ (l : Bytes) (c : UInt8), l[(l.takeWhile f).length]? = some c → f c = false
  | [], c, h => by simp at h
  | x :: l, c, h => by
    rw [List.takeWhile_cons] at h
    by_cases hx : f x = true
    · rw [if_pos hx, List.length_cons] at h
      exact tw_stop l c (by simpa using h)
    · rw [if_neg hx] at h
      simp at h
      subst h
      simpa using hx
theorem tw_take {f : UInt8 → Bool} : ∀ (l : Bytes), l.take (l.takeWhile f).length = l.takeWhile f
  | [] => rfl
  | x :: l => by
    rw [List.takeWhile_cons]
    by_cases hx : f x = true
    · rw [if_pos hx, List.length_cons, List.take_succ_cons, tw_take l]
    · rw [if_neg hx]
      rfl
theorem word_step {b : Bytes} {p i : Nat} (h : i < (wordAt b p).length) : ∃ c, b[p + i]? = some c ∧ c ≠ 32 ∧ c ≠ 10 := by
  obtain ⟨c, h1, h2⟩ := tw_step (b.drop p) i h
  rw [List.getElem?_drop] at h1
  unfold isW BLANK NEW at h2
  simp at h2
  exact ⟨c, h1, h2⟩
theorem word_stop {b : Bytes} {p : Nat} {c : UInt8} (h : b[p + (wordAt b p).length]? = some c) : c = 32 ∨ c = 10 := by
  rw [← List.getElem?_drop] at h
  have := tw_stop (b.drop p) c h
  unfold isW BLANK NEW at this
  simp at this
  by_cases e : c = 32
  · exact .inl e
  · exact .inr (this e)
theorem word_cut (b : Bytes) (p : Nat) : (b.drop p).take (wordAt b p).length = wordAt b p := tw_take _
end Md
namespace Mx
open PySem PySem.Spec PyProof.Rows L2
theorem vB_at {b : Mix.Bytes} {i : Nat} {c : UInt8} (h : b[i]? = some c) : (vB b)[i]? = some (.int c.toNat) := by
  unfold vB
  rw [List.getElem?_map, h]
  rfl
theorem ne_byte {c e : UInt8} (h : c ≠ e) : ¬ V.int (c.toNat : Int) = V.int (e.toNat : Int) := fun z => h (UInt8.toNat_inj.mp (by have := V.int.inj z; omega))
theorem cut_word (b : Mix.Bytes) (p : Nat) (hp : p ≤ b.length) : cutV (vB b) (some (p : Int)) (some ((p + (Md.wordAt b p).length : Nat) : Int)) = vB (Md.wordAt b p) := by
  have hw := Md.wordAt_len b p
  unfold cutV
  rw [HT.sIx_nat, HT.sIx_nat, vB_len, Nat.min_eq_left hp, Nat.min_eq_left (by omega), Nat.add_sub_cancel_left]
  unfold vB
  rw [← List.map_drop, ← List.map_take, Md.word_cut]
theorem wh {c : TT} {tb : TS} {D : Ends} {σ : L2.St} {H : Hp} (Pv : Nat → L2.St → Hp → Prop) (m0 : Nat) (h0 : Pv m0 σ H)
    (hs : ∀ m σ H, Pv m σ H → c σ H fun b H1 => if b = true then ∃ N : L2.St → Hp → Prop, (∀ σ' H', N σ' H' → ∃ m', m' < m ∧ Pv m' σ' H') ∧ tb { D with nx := N, ct := N, bk := D.nx } σ H1 else D.nx σ H1) : tWhile c tb D σ H := ⟨Pv, ⟨m0, h0⟩, hs⟩
section
variable {P : Program} {w : World} {K : PySem.W.Frag} {mg : Str → Option Value} {base : Heap} {a : AD} {b : Mix.Bytes}
def spAtEnd (K : PySem.W.Frag) (a : AD) (b : Mix.Bytes) : Sp := fun vs H Q _ => ∃ r p wp, vs = [.ref r] ∧ RdAt K a.c_zy H b r p wp ∧ Q (.bl (decide (b.length ≤ p))) H
theorem sc_zi : FnScope ["self"] ["self"] (defScope s_zi) := ⟨rfl, rfl, rfl, by decide +kernel, rfl, by decide +kernel, by decide +kernel⟩
theorem ok_zi (T : Txt K mg a) : FnOk P w K mg base CX0 1 a.f_zi a.d_zi ["self"] (spAtEnd K a b) := by
  refine T.F_zi.ok sc_zi (fun vs H Q E h => ?_) (fun cdv A outer s H vs Q E hr h => ?_)
  · obtain ⟨r, p, wp, rfl, _⟩ := h
    rfl
  · obtain ⟨r, p, wp, rfl, ⟨dr, t, h1, h2, h4, h5⟩, k⟩ := h
    refine ⟨_, pss_one (ps_ret (pe_cmpR op_ge (pe_fld (pv 0) rfl) (pe_callB call_len_seq (by rfl) T.b_len PySem.boot_len (pa_cons (pe_fld (pv 0) rfl) pa_nil)) (nomark _))), ?_⟩
    refine ⟨_, rfl, r, _, dr, _, _, rfl, h1, T.C_zy, T.N_zab, rdF_place _ _ _, _, rfl, r, _, dr, _, _, rfl, h1, T.C_zy, T.N_zbb, rdF_text _ _ _, t, _, rfl, .inl h2.sq, _, _, rfl, rfl, ?_⟩
    rw [vB_len]
    show Q (.bl (decide ((b.length : Int) ≤ (p : Int)))) H
    rw [show decide ((b.length : Int) ≤ (p : Int)) = decide (b.length ≤ p) from decide_eq_decide.mpr Int.ofNat_le]
    exact k
def spNextWord (K : PySem.W.Frag) (a : AD) (b : Mix.Bytes) : Sp := fun vs H Q _ => ∃ r p wp, vs = [.ref r] ∧ RdAt K a.c_zy H b r p wp ∧ ∀ l, H l = none → Q (.ref l) (upd H l (.lst (vB (Md.wordAt b p))))
theorem sc_ze : FnScope ["self", "end"] ["self"] (defScope s_ze) := ⟨rfl, rfl, rfl, by decide +kernel, rfl, by decide +kernel, by decide +kernel⟩
theorem ok_ze (T : Txt K mg a) : FnOk P w K mg base CX0 1 a.f_ze a.d_ze ["self"] (spNextWord K a b) := by
  refine T.F_ze.ok sc_ze (fun vs H Q E h => ?_) (fun cdv A outer s H vs Q E hr h => ?_)
  · obtain ⟨r, p, wp, rfl, _⟩ := h
    rfl
  · obtain ⟨r, p, wp, rfl, ⟨dr, t, h1, h2, h4, h5⟩, k⟩ := h
    have nd := sc_ze.nd
    have hw := Md.wordAt_len b p
    refine ⟨_, pss_cons (ps_set (i := 1) nd rfl (Or.inl rfl) (pe_fld (pv 0) rfl))
      (pss_cons (ps_while PassesOwn.never (PW.pt (pw_and (pt_cmpR op_lt (pv 1) (pe_callB call_len_seq (by rfl) T.b_len PySem.boot_len (pa_cons (pe_fld (pv 0) rfl) pa_nil)) (nomark _))
        (pw_and (pt_cmpR op_ne (pe_ix ix_list (pe_fld (pv 0) rfl) (pv 1) (fun _ _ => rfl)) (gint T.i_zQb) (nomark _))
        (pw_and1 (pt_cmpR op_ne (pe_ix ix_list (pe_fld (pv 0) rfl) (pv 1) (fun _ _ => rfl)) (gint T.i_zBb) (nomark _))))))
        (pss_one (ps_aug (i := 1) nd rfl (Or.inl rfl) pe_int ip_add)))
      (pss_one (ps_ret (pe_slice sl_list (pe_fld (pv 0) rfl) (po_some (pe_fld (pv 0) rfl)) (po_some (pv 1)))))), ?_⟩
    refine ⟨_, rfl, r, _, dr, _, _, rfl, h1, T.C_zy, T.N_zab, rdF_place _ _ _, ?_⟩
    have fin : ∀ σ, σ = [some (V.ref r), some (.int ((p + (Md.wordAt b p).length : Nat) : Int))] → (tRet (tSl (rSlL K) (tFld K (tVar 0) "text") (tPart (tFld K (tVar 0) "place")) (tPart (tVar 1)))) { nx := fun _ H' => Q .non H', rt := Q } σ H := by
      rintro _ rfl
      refine ⟨_, rfl, r, _, dr, _, _, rfl, h1, T.C_zy, T.N_zbb, rdF_text _ _ _, _, rfl, r, _, dr, _, _, rfl, h1, T.C_zy, T.N_zab, rdF_place _ _ _, _, rfl, _, rfl, _, rfl, t, _, rfl, h2.sq, fun l hl => ?_⟩
      rw [cut_word b p h4]
      exact k l hl
    refine wh (fun m σ H' => ∃ i, i ≤ (Md.wordAt b p).length ∧ m = (Md.wordAt b p).length - i ∧ σ = [some (V.ref r), some (.int ((p + i : Nat) : Int))] ∧ H' = H) _ ⟨0, Nat.zero_le _, rfl, rfl, rfl⟩ ?_
    rintro m σ H2 ⟨i, hi, rfl, rfl, eH⟩
    rw [eH]
    refine ⟨_, rfl, _, rfl, r, _, dr, _, _, rfl, h1, T.C_zy, T.N_zbb, rdF_text _ _ _, t, _, rfl, .inl h2.sq, _, _, rfl, rfl, _, rfl, ?_⟩
    rw [vB_len, show decide (((p + i : Nat) : Int) < (b.length : Int)) = decide (p + i < b.length) from decide_eq_decide.mpr Int.ofNat_lt]
    by_cases hlt : i < (Md.wordAt b p).length
    · obtain ⟨c, hc, n1, n2⟩ := Md.word_step hlt
      have hb : p + i < b.length := (List.getElem?_eq_some_iff.mp hc).1
      rw [decide_eq_true hb]
      refine iteT ⟨_, rfl, r, _, dr, _, _, rfl, h1, T.C_zy, T.N_zbb, rdF_text _ _ _, _, rfl, t, _, _, _, rfl, rfl, h2.sq, atI_nat (vB_at hc), rfl, _, rfl, ?_⟩
      rw [decide_eq_false (show ¬ V.int (c.toNat : Int) = V.int 32 from ne_byte (e := 32) n1)]
      refine iteT ⟨_, rfl, r, _, dr, _, _, rfl, h1, T.C_zy, T.N_zbb, rdF_text _ _ _, _, rfl, t, _, _, _, rfl, rfl, h2.sq, atI_nat (vB_at hc), rfl, _, rfl, ?_⟩
      rw [decide_eq_false (show ¬ V.int (c.toNat : Int) = V.int 10 from ne_byte (e := 10) n2)]
      refine iteT ⟨fun σ' H' => σ' = [some (V.ref r), some (.int ((p + (i + 1) : Nat) : Int))] ∧ H' = H, fun σ' H' ⟨z1, z2⟩ => ⟨_, ?_, i + 1, hlt, rfl, z1, z2⟩, _, rfl, _, _, rfl, rfl, rfl, rfl⟩
      omega
    · have hie : i = (Md.wordAt b p).length := by omega
      subst hie
      by_cases hb : p + (Md.wordAt b p).length < b.length
      · rw [decide_eq_true hb]
        have hc := List.getElem?_eq_getElem hb
        refine iteT ⟨_, rfl, r, _, dr, _, _, rfl, h1, T.C_zy, T.N_zbb, rdF_text _ _ _, _, rfl, t, _, _, _, rfl, rfl, h2.sq, atI_nat (vB_at hc), rfl, _, rfl, ?_⟩
        rcases Md.word_stop hc with e | e
        · rw [e, decide_eq_true (show V.int ((32 : UInt8).toNat : Int) = V.int 32 from rfl)]
          exact iteF (iteF (fin _ rfl))
        · rw [e, decide_eq_false (show ¬ V.int ((10 : UInt8).toNat : Int) = V.int 32 by decide)]
          refine iteT ⟨_, rfl, r, _, dr, _, _, rfl, h1, T.C_zy, T.N_zbb, rdF_text _ _ _, _, rfl, t, _, _, _, rfl, rfl, h2.sq, atI_nat (vB_at hc), rfl, _, rfl, ?_⟩
          rw [e, decide_eq_true (show V.int ((10 : UInt8).toNat : Int) = V.int 10 from rfl)]
          exact iteF (fin _ rfl)
      · rw [decide_eq_false hb]
        exact iteF (iteF (fin _ rfl))
end
end Mx
end
section
set_option Elab.async false
set_option linter.all false
set_option maxRecDepth 100000
set_option maxHeartbeats 1000000
namespace Mx
open PySem PySem.Spec PyProof.Rows L2
section
variable {P : Program} {w : World} {K : PySem.W.Frag} {mg : Str → Option Value} {base : Heap} {a : AD} {b : Mix.Bytes}
theorem RdAt.set {cR : Addr} {H : Hp} {r dr t : Addr} {p wp q wq : Nat} (h1 : H r = some (.ins cR dr (rdF t p wp))) (h2 : TxL K H t (vB b)) (h4 : q ≤ b.length) (h5 : b.length ≤ 4096) : RdAt K cR (upd H r (.ins cR dr (rdF t q wq))) b r q wq :=
  ⟨dr, t, upd_same, h2.set h1 (fun _ _ z => nomatch z), h4, h5⟩
def spTakeWord (K : PySem.W.Frag) (a : AD) (b : Mix.Bytes) : Sp := fun vs H Q _ => ∃ r p wp, vs = [.ref r] ∧ RdAt K a.c_zy H b r p wp ∧
  ∀ (H' : Hp) (l : Addr), H l = none → l ≠ r → H' l = some (.lst (vB (Md.wordAt b p))) → RdAt K a.c_zy H' b r (p + (Md.wordAt b p).length) p → Keeps [r] H H' → Q (.ref l) H'
theorem sc_zb : FnScope ["self", "word"] ["self"] (defScope s_zb) := ⟨rfl, rfl, rfl, by decide +kernel, rfl, by decide +kernel, by decide +kernel⟩
theorem ok_zb (T : Txt K mg a) : FnOk P w K mg base CX0 2 a.f_zb a.d_zb ["self"] (spTakeWord K a b) := by
  have G := ok_ze (P := P) (w := w) (base := base) (b := b) T
  refine T.F_zb.ok sc_zb (fun vs H Q E h => ?_) (fun cdv A outer s H vs Q E hr h => ?_)
  · obtain ⟨r, p, wp, rfl, _⟩ := h
    rfl
  · obtain ⟨r, p, wp, rfl, ⟨dr, t, h1, h2, h4, h5⟩, k⟩ := h
    have nd := sc_zb.nd
    have hw := Md.wordAt_len b p
    refine ⟨_, pss_cons (ps_set (i := 1) nd rfl (Or.inl rfl) (pe_meth0 (pv 0) T.C_zy T.M_ze G hr T.B_ze .nil pass0))
      (pss_cons (ps_fld (pv 0) (pe_fld (pv 0) rfl) rfl)
      (pss_cons (ps_fldaug (pv 0) (pe_callB call_len_seq (by rfl) T.b_len PySem.boot_len (pa_cons (pv 1) pa_nil)) in_add)
      (pss_one (ps_ret (pv 1))))), ?_⟩
    refine ⟨_, rfl, r, dr, _, rfl, h1, rfl, r, p, wp, rfl, ⟨dr, t, h1, h2, h4, h5⟩, fun l hl => ?_⟩
    have nl : r ≠ l := ne_of_none h1 hl
    have e1 : upd H l (.lst (vB (Md.wordAt b p))) r = some (.ins a.c_zy dr (rdF t p wp)) := by rw [upd_ne nl]; exact h1
    refine ⟨_, rfl, r, _, dr, _, _, rfl, e1, T.C_zy, T.N_zab, rdF_place _ _ _, _, rfl, r, _, dr, _, rfl, e1, T.C_zy, T.N_z4, (by show 3 < 1000; decide), ?_⟩
    rw [rdF_putw]
    have e2 : upd (upd H l (.lst (vB (Md.wordAt b p)))) r (.ins a.c_zy dr (rdF t p p)) l = some (.lst (vB (Md.wordAt b p))) := by rw [upd_ne (Ne.symm nl), upd_same]
    refine ⟨_, rfl, r, _, dr, _, _, rfl, upd_same, T.C_zy, T.N_zab, rdF_place _ _ _, _, rfl, l, _, rfl, .inl (SqL.of e2), _, _, rfl, rfl, dr, _, upd_same, (by show 3 < 1000; decide), ?_⟩
    rw [vB_len, upd_upd, show putF "place" (V.int ((p : Int) + ((Md.wordAt b p).length : Int))) (rdF t p p) = rdF t (p + (Md.wordAt b p).length) p from rdF_put t p p _]
    refine ⟨_, rfl, ?_⟩
    refine k _ l hl (Ne.symm nl) (by rw [upd_ne (Ne.symm nl), upd_same]) (RdAt.set e1 (h2.new hl) (by omega) h5) ((Keeps.new hl).then_set (by simp))
def spTakeByte (K : PySem.W.Frag) (a : AD) (b : Mix.Bytes) : Sp := fun vs H Q E => ∃ r p wp, ∃ c : UInt8, vs = [.ref r, .int c.toNat] ∧ RdAt K a.c_zy H b r p wp ∧
  (∀ q, Md.mByte b c p = .ok q → ∀ H', RdAt K a.c_zy H' b r q wp → Keeps [r] H H' → Q .non H') ∧ ∀ e, Md.mByte b c p = .error e → Rz K a (-6) [e.kind, e.place] E
theorem sc_zc : FnScope ["self", "due"] ["self", "due"] (defScope s_zc) := ⟨rfl, rfl, rfl, by decide +kernel, rfl, by decide +kernel, by decide +kernel⟩
theorem ok_zc (T : Txt K mg a) : FnOk P w K mg base (CXr P w) 4 a.f_zc a.d_zc ["self", "due"] (spTakeByte K a b) := by
  have G := ok_zi (P := P) (w := w) (base := base) (b := b) T
  have GF := ok_zm (P := P) (w := w) (base := base) T
  refine T.F_zc.okR sc_zc (fun vs H Q E h => ?_) (fun cdv A outer s H vs Q E hr h => ?_)
  · obtain ⟨r, p, wp, c, rfl, _⟩ := h
    rfl
  · obtain ⟨r, p, wp, c, rfl, ⟨dr, t, h1, h2, h4, h5⟩, k, ke⟩ := h
    refine ⟨_, pss_cons (ps_if (PW.pt (pw_or (pt_val (pe_meth0 (pv 0) T.C_zy T.M_zi G (hr.mono (by decide)) T.B_zi .nil pass0))
        (pw_or1 (pt_cmpR op_ne (pe_ix ix_list (pe_fld (pv 0) rfl) (pe_fld (pv 0) rfl) (fun _ _ => rfl)) (pv 1) (nomark _)))))
        (pss_one (ps_raise (pe_makeX T.K_zZ GF hr rfl T.g_zZ T.B_zm pass0 (pa_cons (gint T.i_zeb) (pa_cons (pe_fld (pv 0) rfl) pa_nil))) rfl throws_r)) pss_nil)
      (pss_one (ps_fldaug (pv 0) pe_int in_add)), ?_⟩
    have bad : Md.mByte b c p = .error ⟨1, p⟩ → (tRaise K E (tMakeX a.c_zZ (spFaultInit a) E0 (tCons (tC (.int 1)) (tCons (tFld K (tVar 0) "place") tNil)))) { nx := (sFldAug K (tVar 0) (tC (.int 1)) rAdd "place") { nx := fun _ H' => Q .non H', rt := Q }, rt := Q } [some (V.ref r), some (.int c.toNat)] H := fun e =>
      ⟨_, rfl, r, _, dr, _, _, rfl, h1, T.C_zy, T.N_zab, rdF_place _ _ _, fault_go T (ke _ e)⟩
    refine ⟨_, rfl, r, dr, _, rfl, h1, rfl, r, p, wp, rfl, ⟨dr, t, h1, h2, h4, h5⟩, _, rfl, ?_⟩
    by_cases hp : b.length ≤ p
    · rw [decide_eq_true hp]
      refine iteT (iteT (bad ?_))
      unfold Md.mByte
      rw [Md.drop_nil hp]
      rfl
    · rw [decide_eq_false hp]
      have hb : p < b.length := by omega
      have hc := List.getElem?_eq_getElem hb
      have hh : (b.drop p).head? = some b[p] := by rw [List.head?_drop, hc]
      refine iteF ⟨_, rfl, r, _, dr, _, _, rfl, h1, T.C_zy, T.N_zbb, rdF_text _ _ _, _, rfl, r, _, dr, _, _, rfl, h1, T.C_zy, T.N_zab, rdF_place _ _ _, t, _, _, _, rfl, rfl, h2.sq, atI_nat (vB_at hc), _, rfl, rfl, _, rfl, ?_⟩
      by_cases e : b[p] = c
      · rw [e, decide_eq_true (show V.int (c.toNat : Int) = V.int (c.toNat : Int) from rfl)]
        refine iteF ⟨_, rfl, r, _, dr, _, _, rfl, h1, T.C_zy, T.N_zab, rdF_place _ _ _, _, _, rfl, rfl, dr, _, h1, (by show 3 < 1000; decide), ?_⟩
        refine k (p + 1) (by unfold Md.mByte; rw [hh, e, if_pos rfl]) _ (RdAt.set (q := p + 1) h1 h2 (by omega) h5) (Keeps.set (by simp))
      · rw [decide_eq_false (ne_byte e)]
        refine iteT (bad ?_)
        unfold Md.mByte
        rw [hh, if_neg (fun z => e (Option.some.inj z))]
end
end Mx
end
section
set_option Elab.async false
set_option linter.all false
set_option maxRecDepth 100000
set_option maxHeartbeats 1000000
namespace Mx
open PySem PySem.Spec PyProof.Rows L2
theorem lc_str {x : Str} {g : TG} {tt : TT} {te : TE} {vs : List Nat} {σ : L2.St} {H1 : Hp} {D : Addr} {Qd : Hp → Prop} (Pv : Nat → Hp → Prop) (h0 : Pv 0 (upd H1 D (.lst [])))
    (hs : ∀ i c H, x.cps[i]? = some c → Pv i H → g (.str ⟨#[c]⟩) (wipe σ vs) H fun σ2 H2 => wipe σ2 vs = wipe σ vs ∧ tt σ2 H2 fun b H3 =>
      if b = true then te σ2 H3 fun y H4 => ∃ acc, H4 D = some (.lst acc) ∧ acc.length < sizeLine ∧ Pv (i + 1) (upd H4 D (.lst (acc ++ [y]))) else Pv (i + 1) H3) (hd : ∀ H, Pv x.cps.size H → Qd H) :
    ∃ W : Nat → Nat → Hp → Prop, (∃ m, W 0 m (upd H1 D (.lst []))) ∧ ∀ i m H, W i m H →
      ((Its x).stop i H ∧ Qd H) ∨ ((Its x).go i H ∧ ∃ Nx : Hp → Prop, (∀ H', Nx H' → ∃ m', m' < m ∧ W (i + 1) m' H') ∧ ∀ v H', (Its x).yld i H v H' → g v (wipe σ vs) H' fun σ2 H2 => wipe σ2 vs = wipe σ vs ∧ tt σ2 H2 fun b H3 =>
        if b = true then te σ2 H3 fun y H4 => ∃ acc, H4 D = some (.lst acc) ∧ acc.length < sizeLine ∧ Nx (upd H4 D (.lst (acc ++ [y]))) else Nx H3) := by
  refine ⟨fun i m H => m = x.cps.size - i ∧ i ≤ x.cps.size ∧ Pv i H, ⟨x.cps.size, by simp, Nat.zero_le _, h0⟩, ?_⟩
  rintro i m H ⟨rfl, hi, p⟩
  by_cases hlt : i < x.cps.size
  · refine .inr ⟨hlt, Pv (i + 1), fun H' p' => ⟨x.cps.size - (i + 1), by omega, rfl, hlt, p'⟩, fun v H' y => ?_⟩
    obtain ⟨e, c, hc, ev⟩ := y
    subst e ev
    exact hs i c _ hc p
  · have e : i = x.cps.size := by omega
    subst e
    exact .inl ⟨Nat.le_refl _, hd H p⟩
theorem tk_snoc {α : Type} {l : List α} {i : Nat} {x : α} (h : l[i]? = some x) : l.take (i + 1) = l.take i ++ [x] := by
  rw [List.take_add_one, h]
  rfl
theorem yes {σ : L2.St} {H : Hp} {Q : Bool → Hp → Prop} (h : Q true H) : tYes σ H Q := h
def sB (x : Str) : List Int := x.cps.toList.map fun c : Nat => (c : Int)
section
variable {P : Program} {w : World} {K : PySem.W.Frag} {mg : Str → Option Value} {base : Heap} {a : AD} {b : Mix.Bytes}
def spBytesOf : Sp := fun vs H Q _ => ∃ x : Str, vs = [.str x] ∧ x.cps.size ≤ 1000 ∧ ∀ l, H l = none → Q (.ref l) (upd H l (.lst ((sB x).map V.int)))
theorem sc_zz : FnScope ["written", "sign"] ["written"] (defScope s_zz) := ⟨rfl, rfl, rfl, by decide +kernel, rfl, by decide +kernel, by decide +kernel⟩
theorem ok_zz (T : Txt K mg a) : FnOk P w K mg base CX0 1 a.f_zz a.d_zz ["written"] spBytesOf := by
  refine T.F_zz.ok sc_zz (fun vs H Q E h => ?_) (fun cdv A outer s H vs Q E hr h => ?_)
  · obtain ⟨x, rfl, _⟩ := h
    rfl
  · obtain ⟨x, rfl, hz, k⟩ := h
    have nd := sc_zz.nd
    refine ⟨_, pss_one (ps_ret (pe_lc (own := [("sign", 1)]) rfl nd (pi_str (pv 0)) (blkOk_by (by rfl)) (fun s H C cl fp => pg_name (i := 1) nd rfl (Or.inl rfl)) (fun s H C cl fp => pts_nil)
      (fun s H C cl fp => pe_callB call_ord (by rfl) T.b_ord (by decide +kernel) (pa_cons (pv 1) pa_nil)))), ?_⟩
    refine ⟨_, rfl, x, rfl, fun D hD => lc_str (x := x) (fun i H' => H' = upd H D (.lst (((sB x).take i).map V.int))) rfl ?_ ?_⟩
    · rintro i c H' hc rfl
      refine ⟨rfl, yes ?_⟩
      refine iteT ⟨_, rfl, _, rfl, rfl, _, upd_same, ?_, ?_⟩
      · rw [List.length_map, List.length_take]
        have hl : (sB x).length = x.cps.size := by unfold sB; rw [List.length_map, Array.length_toList]
        exact Nat.lt_of_le_of_lt (Nat.min_le_right _ _) (by rw [hl, sizeLine_eq]; omega)
      · rw [upd_upd]
        have hi : (sB x)[i]? = some (c : Int) := by
          unfold sB
          rw [List.getElem?_map, Array.getElem?_toList, hc]
          rfl
        rw [tk_snoc hi, List.map_append]
        rfl
    · rintro H' rfl
      have hl : (sB x).length = x.cps.size := by unfold sB; rw [List.length_map, Array.length_toList]
      rw [← hl, List.take_length]
      exact k D hD
def spIsOneOf (K : PySem.W.Frag) : Sp := fun vs H Q _ => ∃ l t, ∃ wd : Mix.Bytes, ∃ ws : List Str, vs = [.ref l, .ref t] ∧ SqL K H l (vB wd) ∧ SqT K H t (ws.map V.str) ∧ ws.length ≤ 100 ∧ (∀ x ∈ ws, x.cps.size ≤ 1000) ∧ ∀ H', Same H H' → Q (.bl (ws.any fun x => decide (sB x = iB wd))) H'
theorem Same.sqT {H H' : Hp} {t : Addr} {xs : List V} (e : Same H H') (h : SqT K H t xs) : SqT K H' t xs := by
  rcases h with (h | ⟨o, h⟩) | h
  · exact .inl (.inl (e _ _ h))
  · exact .inl (.inr ⟨o, e _ _ h⟩)
  · exact .inr h
theorem sc_zE : FnScope ["word", "written_words", "written"] ["word", "written_words"] (defScope s_zE) := ⟨rfl, rfl, rfl, by decide +kernel, rfl, by decide +kernel, by decide +kernel⟩
theorem dpAll_rows {H : Hp} : ∀ {as : List Addr} {xs : List (List Int)}, Paired (fun l ys => H l = some (.lst (ys.map V.int))) as xs → DpAll K H (as.map V.ref) (xs.map dI)
  | _, _, .nil => .nil
  | _, _, .cons h t => .cons (dp_ints (SqL.of h)) (dpAll_rows t)
theorem lay_rows : ∀ xs : List (List Int), PyData.canLayAll0 (xs.map dI) = true
  | [] => rfl
  | x :: r => by rw [List.map_cons, PyData.canLayAll0, dI_lay, lay_rows r]; rfl
theorem Paired.memP {α β : Type} {R R' : α → β → Prop} : ∀ {xs : List α} {ys : List β}, Paired R xs ys → (∀ x ∈ xs, ∀ y, R x y → R' x y) → Paired R' xs ys
  | _, _, .nil, _ => .nil
  | _, _, .cons r t, f => .cons (f _ (List.mem_cons_self ..) _ r) (Paired.memP t fun x hx => f x (List.mem_cons_of_mem _ hx))
theorem Paired.snoc {α β : Type} {R : α → β → Prop} : ∀ {xs : List α} {ys : List β} {x : α} {y : β}, Paired R xs ys → R x y → Paired R (xs ++ [x]) (ys ++ [y])
  | _, _, _, _, .nil, h => .cons h .nil
  | _, _, _, _, .cons r t, h => .cons r (Paired.snoc t h)
theorem ok_zE (T : Txt K mg a) : FnOk P w K mg base CX0 2 a.f_zE a.d_zE ["word", "written_words"] (spIsOneOf K) := by
  have G := ok_zz (P := P) (w := w) (base := base) T
  refine T.F_zE.ok sc_zE (fun vs H Q E h => ?_) (fun cdv A outer s H vs Q E hr h => ?_)
  · obtain ⟨l, t, wd, ws, rfl, _⟩ := h
    rfl
  · obtain ⟨l, t, wd, ws, rfl, hl, ht, hn, hx, k⟩ := h
    have nd := sc_zE.nd
    have hu := hr.un
    refine ⟨_, pss_one (ps_ret (pe_cmpR (op_inD (by show A.units + 3 + 100 < cLine; exact (show A.units + 3 + 100 < cLine by have : A.units + 3 + 16 * 1 + 200 < cLine := hu; omega))) (pv 0) (pe_lc (own := [("written", 2)]) rfl nd (pi_tup (pv 1)) (blkOk_by (by rfl)) (fun s H C cl fp => pg_name (i := 2) nd rfl (Or.inl rfl)) (fun s H C cl fp => pts_nil)
      (fun s H C cl fp => pe_call G hr rfl T.g_zz T.F_zz.kp T.B_zz .nil pass0 (pa_cons (pv 2) pa_nil))) (by with_unfolding_all rfl))), ?_⟩
    refine ⟨_, rfl, _, rfl, t, rfl, ⟨_, ht⟩, fun D hD => lc_tup (K := K) (a := t) (xs := ws.map V.str) (fun i H' => Same H H' ∧ ∃ as : List Addr, H' D = some (.lst (as.map V.ref)) ∧ as.length = i ∧ D ∉ as ∧ Paired (fun l ys => H' l = some (.lst (ys.map V.int))) as ((ws.take i).map sB)) ?_ ?_ ?_ ?_⟩
    · exact ⟨fun b o e => by rw [upd_ne (ne_of_none e hD)]; exact e, [], upd_same, rfl, by simp, .nil⟩
    · rintro i H' _ ⟨sm, _⟩
      exact Same.sqT sm ht
    · rintro i v H' hv ⟨sm, as, hD', hlen, nD, hp⟩
      obtain ⟨x, hxi, rfl⟩ : ∃ x, ws[i]? = some x ∧ v = .str x := by
        rw [List.getElem?_map] at hv
        cases e : ws[i]? with
        | none => rw [e] at hv; cases hv
        | some x => rw [e] at hv; exact ⟨x, rfl, (Option.some.inj hv).symm⟩
      refine ⟨rfl, yes ?_⟩
      refine iteT ⟨_, rfl, x, rfl, hx x (List.mem_of_getElem? hxi), fun l2 hl2 => ?_⟩
      have n1 : D ≠ l2 := ne_of_none hD' hl2
      refine ⟨as.map V.ref, by rw [upd_ne n1]; exact hD', ?_, fun c o e => ?_, as ++ [l2], ?_, by rw [List.length_append, hlen]; rfl, ?_, ?_⟩
      · rw [List.length_map, hlen, sizeLine_eq]
        have : i < ws.length := (List.getElem?_eq_some_iff.mp hxi).1
        omega
      · have e' := sm c o e
        rw [upd_ne (ne_of_none e hD), upd_ne (ne_of_none e' hl2)]
        exact e'
      · rw [upd_same, List.map_append]
        rfl
      · intro z
        rcases List.mem_append.mp z with z | z
        · exact nD z
        · exact n1 (List.mem_singleton.mp z)
      · rw [tk_snoc hxi, List.map_append]
        refine Paired.snoc ?_ ?_
        · refine Paired.memP hp fun l' hl' ys e => ?_
          rw [upd_ne (fun z => nD (by rw [← z]; exact hl')), upd_ne (ne_of_none e hl2)]
          exact e
        · rw [upd_ne (Ne.symm n1), upd_same]
    · rintro H' ⟨sm, as, hD', hlen, nD, hp⟩
      rw [List.length_map, List.take_length] at hp
      refine ⟨D, _, _, _, rfl, SqL.of hD', dpAll_rows hp, dp_vB (sm.seq hl), lay_rows _, dI_lay _, dI_depth _, ?_⟩
      have e : ((ws.map sB).map dI).any (fun e => PyData.eqv e (dI (iB wd))) = ws.any fun x => decide (sB x = iB wd) := by
        rw [List.map_map, List.any_map]
        congr 1
        funext x
        exact eqv_dI _ _
      show Q (.bl (if false = true then _ else _)) H'
      rw [if_neg Bool.false_ne_true, e]
      exact k H' sm
end
end Mx
end
section
set_option Elab.async false
set_option linter.all false
set_option maxRecDepth 100000
set_option maxHeartbeats 1000000
namespace Mx
open PySem PySem.Spec PyProof.Rows L2
def nodeWords : List Str := ["in", "bus", "out", "group"]
def otherWords : List Str := ["safe", "late", "member", "send", "pre", "post"]
def isNode (w : Mix.Bytes) : Bool := nodeWords.any fun x => decide (sB x = iB w)
def isOther (w : Mix.Bytes) : Bool := otherWords.any fun x => decide (sB x = iB w)
theorem dec_sB {x : Str} {s : String} (h : sB x = iB (Mix.ascii s)) (w : Mix.Bytes) : decide (sB x = iB w) = decide (w = Mix.ascii s) := by
  rw [h]
  exact decide_eq_decide.mpr ⟨fun e => (iB_inj e).symm, fun e => by rw [e]⟩
theorem sb_in : sB "in" = iB (Mix.ascii "in") := by decide +kernel
theorem sb_bus : sB "bus" = iB (Mix.ascii "bus") := by decide +kernel
theorem sb_out : sB "out" = iB (Mix.ascii "out") := by decide +kernel
theorem sb_group : sB "group" = iB (Mix.ascii "group") := by decide +kernel
theorem sb_safe : sB "safe" = iB (Mix.ascii "safe") := by decide +kernel
theorem sb_late : sB "late" = iB (Mix.ascii "late") := by decide +kernel
theorem sb_member : sB "member" = iB (Mix.ascii "member") := by decide +kernel
theorem sb_send : sB "send" = iB (Mix.ascii "send") := by decide +kernel
theorem sb_pre : sB "pre" = iB (Mix.ascii "pre") := by decide +kernel
theorem sb_post : sB "post" = iB (Mix.ascii "post") := by decide +kernel
theorem isNode_eq (w : Mix.Bytes) : isNode w = (decide (w = Mix.ascii "in") || (decide (w = Mix.ascii "bus") || (decide (w = Mix.ascii "out") || decide (w = Mix.ascii "group")))) := by
  unfold isNode nodeWords
  simp only [List.any_cons, List.any_nil, Bool.or_false, dec_sB sb_in, dec_sB sb_bus, dec_sB sb_out, dec_sB sb_group]
theorem isOther_eq (w : Mix.Bytes) : isOther w = (decide (w = Mix.ascii "safe") || (decide (w = Mix.ascii "late") || (decide (w = Mix.ascii "member") || (decide (w = Mix.ascii "send") || (decide (w = Mix.ascii "pre") || decide (w = Mix.ascii "post")))))) := by
  unfold isOther otherWords
  simp only [List.any_cons, List.any_nil, Bool.or_false, dec_sB sb_safe, dec_sB sb_late, dec_sB sb_member, dec_sB sb_send, dec_sB sb_pre, dec_sB sb_post]
theorem isNode_kind (w : Mix.Bytes) : isNode w = (Mix.kindOf w).isSome := by
  rw [isNode_eq]
  unfold Mix.kindOf
  by_cases h1 : w = Mix.ascii "in"
  · rw [if_pos h1, decide_eq_true h1]
    rfl
  · rw [if_neg h1, decide_eq_false h1]
    by_cases h2 : w = Mix.ascii "bus"
    · rw [if_pos h2, decide_eq_true h2]
      rfl
    · rw [if_neg h2, decide_eq_false h2]
      by_cases h3 : w = Mix.ascii "out"
      · rw [if_pos h3, decide_eq_true h3]
        rfl
      · rw [if_neg h3, decide_eq_false h3]
        by_cases h4 : w = Mix.ascii "group"
        · rw [if_pos h4, decide_eq_true h4]
          rfl
        · rw [if_neg h4, decide_eq_false h4]
          rfl
def hasLB (w : Mix.Bytes) (m f z : Int) : Bool := (decide ((1 : Int) ≤ (w.length : Int)) && decide ((w.length : Int) ≤ m)) && w.all fun c => decide (f ≤ (c.toNat : Int)) && decide ((c.toNat : Int) ≤ z)
theorem byte_le {a c : UInt8} : decide ((a.toNat : Int) ≤ (c.toNat : Int)) = decide (a ≤ c) := decide_eq_decide.mpr ⟨fun h => UInt8.le_iff_toNat_le.mpr (by omega), fun h => by have := UInt8.le_iff_toNat_le.mp h; omega⟩
theorem len_le (n m : Nat) : decide ((n : Int) ≤ (m : Int)) = decide (n ≤ m) := decide_eq_decide.mpr Int.ofNat_le
theorem isName_eq (w : Mix.Bytes) : Md.isName w = (hasLB w 16 97 122 && (!isNode w && !isOther w)) := by
  have e1 : hasLB w 16 97 122 = (decide (1 ≤ w.length) && decide (w.length ≤ 16) && w.all fun c => decide (97 ≤ c) && decide (c ≤ 122)) := by
    unfold hasLB
    rw [show ((1 : Int)) = ((1 : Nat) : Int) from rfl, show ((16 : Int)) = ((16 : Nat) : Int) from rfl, len_le, len_le]
    congr 1
    congr 1
    funext c
    rw [show (97 : Int) = ((97 : UInt8).toNat : Int) from rfl, show (122 : Int) = ((122 : UInt8).toNat : Int) from rfl, byte_le, byte_le]
  have e2 : Mix.OWN.contains w = (isNode w || isOther w) := by
    rw [isNode_eq, isOther_eq]
    unfold Mix.OWN
    simp only [List.map_cons, List.map_nil, List.contains_cons, List.contains_nil, Bool.or_false, Bool.or_assoc, Bool.beq_eq_decide_eq]
  unfold Md.isName Mix.nameForm
  rw [e1, e2]
  by_cases h1 : 1 ≤ w.length
  · by_cases h2 : w.length ≤ 16
    · cases h3 : w.all fun c => decide (97 ≤ c) && decide (c ≤ 122) with
      | false => simp [h1, h2]
      | true =>
        cases isNode w <;> cases isOther w <;> simp [h1, h2]
    · simp [h1, h2]
  · simp [h1]
section
variable {P : Program} {w : World} {K : PySem.W.Frag} {mg : Str → Option Value} {base : Heap} {a : AD} {b : Mix.Bytes}
def spHasLB (K : PySem.W.Frag) : Sp := fun vs H Q _ => ∃ l m f z, ∃ wd : Mix.Bytes, vs = [.ref l, .int m, .int f, .int z] ∧ SqL K H l (vB wd) ∧ wd.length ≤ 4096 ∧ ∀ H', Same H H' → Q (.bl (hasLB wd m f z)) H'
theorem sc_za : FnScope ["word", "most", "first", "last", "byte"] ["word", "most", "first", "last"] (defScope s_za) := ⟨rfl, rfl, rfl, by decide +kernel, rfl, by decide +kernel, by decide +kernel⟩
theorem ok_za (T : Txt K mg a) : FnOk P w K mg base CX0 1 a.f_za a.d_za ["word", "most", "first", "last"] (spHasLB K) := by
  refine T.F_za.ok sc_za (fun vs H Q E h => ?_) (fun cdv A outer s H vs Q E hr h => ?_)
  · obtain ⟨l, m, f, z, wd, rfl, _⟩ := h
    rfl
  · obtain ⟨l, m, f, z, wd, rfl, hl, hz, k⟩ := h
    have nd := sc_za.nd
    refine ⟨_, pss_one (ps_ret (pe_and (pe_chain op_le op_le pe_int (pe_callB call_len_seq (by rfl) T.b_len PySem.boot_len (pa_cons (pv 0) pa_nil)) (pv 1))
      (pe_one (pe_callB (cr_all rfl) (by rfl) T.b_all (by decide +kernel) (pa_cons (pe_lc (own := [("byte", 4)]) rfl nd (pi_list (pv 0)) (blkOk_by (by rfl)) (fun s H C cl fp => pg_name (i := 4) nd rfl (Or.inl rfl)) (fun s H C cl fp => pts_nil)
        (fun s H C cl fp => pe_chain op_le op_le (pv 2) (pv 4) (pv 3))) pa_nil))))), ?_⟩
    have kk : ∀ {x : Bool} {H' : Hp}, Same H H' → x = hasLB wd m f z → Q (.bl x) H' := fun h1 h2 => by rw [h2]; exact k _ h1
    have full : (decide ((1 : Int) ≤ (wd.length : Int)) && decide ((wd.length : Int) ≤ m)) = true → (tCB (rAll K) (tCons (tLc (iList K (tVar 0)) (gName 4) tYes (tChain (rI0 fun i j => .bl (decide (i ≤ j))) (rI0 fun i j => .bl (decide (i ≤ j))) (tVar 2) (tVar 4) (tVar 3)) [4]) tNil)) [some (V.ref l), some (.int m), some (.int f), some (.int z), none] H Q := by
      intro hc
      refine ⟨_, rfl, l, rfl, ⟨_, hl⟩, fun D hD => ?_⟩
      have sm : ∀ o, Same H (upd H D o) := fun o b u e => by rw [upd_ne (ne_of_none e hD)]; exact e
      refine lc_list (K := K) (a := l) (xs := vB wd) (fun i H' => H' = upd H D (.lst (((wd.map fun c => decide (f ≤ (c.toNat : Int)) && decide ((c.toNat : Int) ≤ z)).take i).map V.bl))) rfl (fun i H' _ e => by rw [e]; exact (sm _).seq hl) ?_ ?_
      · rintro i v H' hv rfl
        obtain ⟨c, hci, rfl⟩ : ∃ c, wd[i]? = some c ∧ v = .int (c.toNat : Int) := by
          unfold vB at hv
          rw [List.getElem?_map] at hv
          cases e : wd[i]? with
          | none => rw [e] at hv; cases hv
          | some x => rw [e] at hv; exact ⟨x, rfl, (Option.some.inj hv).symm⟩
        have fin : ∀ y, y = (decide (f ≤ (c.toNat : Int)) && decide ((c.toNat : Int) ≤ z)) → ∃ acc, upd H D (.lst (((wd.map fun c => decide (f ≤ (c.toNat : Int)) && decide ((c.toNat : Int) ≤ z)).take i).map V.bl)) D = some (.lst acc) ∧ acc.length < sizeLine ∧
            upd (upd H D (.lst (((wd.map fun c => decide (f ≤ (c.toNat : Int)) && decide ((c.toNat : Int) ≤ z)).take i).map V.bl))) D (.lst (acc ++ [V.bl y])) = upd H D (.lst (((wd.map fun c => decide (f ≤ (c.toNat : Int)) && decide ((c.toNat : Int) ≤ z)).take (i + 1)).map V.bl)) := by
          rintro y rfl
          refine ⟨_, upd_same, ?_, ?_⟩
          · rw [List.length_map, List.length_take, List.length_map, sizeLine_eq]
            omega
          · rw [upd_upd, tk_snoc (x := decide (f ≤ (c.toNat : Int)) && decide ((c.toNat : Int) ≤ z)) (by rw [List.getElem?_map, hci]; rfl), List.map_append]
            rfl
        refine ⟨rfl, yes ?_⟩
        refine iteT ⟨_, rfl, _, rfl, _, _, rfl, rfl, _, rfl, ?_⟩
        by_cases h1 : f ≤ (c.toNat : Int)
        · rw [decide_eq_true h1]
          refine iteT ⟨_, rfl, _, _, rfl, rfl, fin _ ?_⟩
          rw [decide_eq_true h1]
          rfl
        · rw [decide_eq_false h1]
          refine iteF (fin _ ?_)
          rw [decide_eq_false h1]
          rfl
      · rintro H' rfl
        rw [vB_len, show (wd.map fun c => decide (f ≤ (c.toNat : Int)) && decide ((c.toNat : Int) ≤ z)).take wd.length = wd.map fun c => decide (f ≤ (c.toNat : Int)) && decide ((c.toNat : Int) ≤ z) from by
          rw [List.take_of_length_le]
          rw [List.length_map]
          exact Nat.le_refl _]
        refine ⟨D, _, rfl, SqL.of upd_same, kk (sm _) ?_⟩
        unfold hasLB
        rw [hc, List.all_map]
        rfl
    refine ⟨_, rfl, _, _, rfl, .inl hl, _, _, rfl, rfl, _, rfl, ?_⟩
    rw [vB_len]
    by_cases h1 : (1 : Int) ≤ (wd.length : Int)
    · rw [decide_eq_true h1]
      refine iteT ⟨_, rfl, _, _, rfl, rfl, _, rfl, ?_⟩
      by_cases h2 : (wd.length : Int) ≤ m
      · rw [decide_eq_true h2]
        exact iteT (full (by rw [decide_eq_true h1, decide_eq_true h2]; rfl))
      · rw [decide_eq_false h2]
        refine iteF (kk (Same.refl H) ?_)
        unfold hasLB
        rw [decide_eq_false h2, Bool.and_false, Bool.false_and]
    · rw [decide_eq_false h1]
      refine iteF ⟨_, rfl, iteF (kk (Same.refl H) ?_)⟩
      unfold hasLB
      rw [decide_eq_false h1, Bool.false_and, Bool.false_and]
def spIsName (K : PySem.W.Frag) : Sp := fun vs H Q _ => ∃ l, ∃ wd : Mix.Bytes, vs = [.ref l] ∧ SqL K H l (vB wd) ∧ wd.length ≤ 4096 ∧ ∀ H', Same H H' → Q (.bl (Md.isName wd)) H'
theorem sc_zX : FnScope ["word"] ["word"] (defScope s_zX) := ⟨rfl, rfl, rfl, by decide +kernel, rfl, by decide +kernel, by decide +kernel⟩
theorem ok_zX (T : Txt K mg a) : FnOk P w K mg base CX0 3 a.f_zX a.d_zX ["word"] (spIsName K) := by
  have G1 := ok_za (P := P) (w := w) (base := base) T
  have G2 := ok_zE (P := P) (w := w) (base := base) T
  refine T.F_zX.ok sc_zX (fun vs H Q E h => ?_) (fun cdv A outer s H vs Q E hr h => ?_)
  · obtain ⟨l, wd, rfl, _⟩ := h
    rfl
  · obtain ⟨l, wd, rfl, hl, hz, k⟩ := h
    have kk : ∀ {x : Bool} {H' : Hp}, Same H H' → x = Md.isName wd → Q (.bl x) H' := fun h1 h2 => by rw [h2]; exact k _ h1
    refine ⟨_, pss_cons (ps_if (pt_not (pt_val (pe_call G1 (hr.mono (by decide)) rfl T.g_za T.F_za.kp T.B_za .nil pass0 (pa_cons (pv 0) (pa_cons (gint T.i_zmb) (pa_cons (gint T.i_zLb) (pa_cons (gint T.i_zMb) pa_nil)))))))
        (pss_one (ps_ret pe_bl)) pss_nil)
      (pss_one (ps_ret (pe_and (pe_not (pe_call G2 hr rfl T.g_zE T.F_zE.kp T.B_zE .nil pass0 (pa_cons (pv 0) (pa_cons (gref T.t_z5) pa_nil))))
        (pe_one (pe_not (pe_call G2 hr rfl T.g_zE T.F_zE.kp T.B_zE .nil pass0 (pa_cons (pv 0) (pa_cons (gref T.t_z7) pa_nil)))))))), ?_⟩
    refine ⟨_, rfl, l, 16, 97, 122, wd, rfl, hl, hz, fun H1 s1 => ⟨_, rfl, ?_⟩⟩
    cases h1 : hasLB wd 16 97 122 with
    | false => exact iteT (kk s1 (by rw [isName_eq, h1]; rfl))
    | true =>
      refine iteF ⟨_, rfl, l, _, wd, nodeWords, rfl, s1.seq hl, T.T_z5 H1, by decide, by decide +kernel, fun H2 s2 => ⟨_, rfl, _, rfl, ?_⟩⟩
      rw [show (nodeWords.any fun x => decide (sB x = iB wd)) = isNode wd from rfl]
      cases h2 : isNode wd with
      | true => exact iteF (kk (s1.trans s2) (by rw [isName_eq, h1, h2]; rfl))
      | false =>
        exact iteT ⟨_, rfl, l, _, wd, otherWords, rfl, (s1.trans s2).seq hl, T.T_z7 H2, by decide, by decide +kernel, fun H3 s3 => ⟨_, rfl, kk ((s1.trans s2).trans s3) (by rw [isName_eq, h1, h2]; rfl)⟩⟩
end
end Mx
end
section
set_option Elab.async false
set_option linter.all false
set_option maxRecDepth 100000
set_option maxHeartbeats 1000000
namespace Mx
open PySem PySem.Spec PyProof.Rows L2
def numOf (w : Mix.Bytes) : Nat := w.foldl (fun (n : Nat) (c : UInt8) => 10 * n + (c.toNat - 48)) 0
theorem numOf_snoc (w : Mix.Bytes) (c : UInt8) : numOf (w ++ [c]) = 10 * numOf w + (c.toNat - 48) := by
  unfold numOf
  rw [List.foldl_append]
  rfl
theorem hasLB_num (w : Mix.Bytes) : hasLB w 5 48 57 = (decide (1 ≤ w.length) && decide (w.length ≤ 5) && w.all Mix.isDigit) := by
  unfold hasLB
  rw [show ((1 : Int)) = ((1 : Nat) : Int) from rfl, show ((5 : Int)) = ((5 : Nat) : Int) from rfl, len_le, len_le]
  congr 1
  congr 1
  funext c
  unfold Mix.isDigit
  rw [show (48 : Int) = ((48 : UInt8).toNat : Int) from rfl, show (57 : Int) = ((57 : UInt8).toNat : Int) from rfl, byte_le, byte_le]
theorem numForm_eq (w : Mix.Bytes) : Mix.numForm w = if (hasLB w 5 48 57 && (decide (w.length = 1) || !decide (w.head? = some 48))) = true then some (numOf w) else none := by
  rw [hasLB_num]
  unfold Mix.numForm numOf
  by_cases h1 : 1 ≤ w.length
  · by_cases h2 : w.length ≤ 5
    · cases h3 : w.all Mix.isDigit with
      | false => simp [h1, h2]
      | true =>
        by_cases h4 : w.length = 1
        · simp [h1, h2, h4]
        · by_cases h5 : w.head? = some 48
          · simp [h1, h2, h4, h5]
          · simp [h1, h2, h4, h5]
    · simp [h1, h2]
  · simp [h1]
theorem digit_ge {w : Mix.Bytes} (h : w.all Mix.isDigit = true) {i : Nat} {c : UInt8} (hc : w[i]? = some c) : 48 ≤ c.toNat := by
  have := List.all_eq_true.mp h c (List.mem_of_getElem? hc)
  unfold Mix.isDigit at this
  rw [Bool.and_eq_true, decide_eq_true_eq] at this
  exact UInt8.le_iff_toNat_le.mp this.1
theorem vB_get {wd : Mix.Bytes} {i : Nat} {v : V} (hv : (vB wd)[i]? = some v) : ∃ c, wd[i]? = some c ∧ v = .int (c.toNat : Int) := by
  unfold vB at hv
  rw [List.getElem?_map] at hv
  cases e : wd[i]? with
  | none => rw [e] at hv; cases hv
  | some x => rw [e] at hv; exact ⟨x, rfl, (Option.some.inj hv).symm⟩
theorem RdAt.same {K : PySem.W.Frag} {cR : Addr} {H H' : Hp} {b : Mix.Bytes} {r : Addr} {p wp : Nat} (h : RdAt K cR H b r p wp) (s : Same H H') : RdAt K cR H' b r p wp := by
  obtain ⟨dr, t, h1, h2, h4, h5⟩ := h
  exact ⟨dr, t, s _ _ h1, h2.same s, h4, h5⟩
section
variable {P : Program} {w : World} {K : PySem.W.Frag} {mg : Str → Option Value} {base : Heap} {a : AD} {b : Mix.Bytes}
def spNumberOf (K : PySem.W.Frag) : Sp := fun vs H Q _ => ∃ l, ∃ wd : Mix.Bytes, vs = [.ref l] ∧ SqL K H l (vB wd) ∧ wd.all Mix.isDigit = true ∧ Q (.int (numOf wd : Nat)) H
theorem sc_zO : FnScope ["digits", "number", "digit"] ["digits"] (defScope s_zO) := ⟨rfl, rfl, rfl, by decide +kernel, rfl, by decide +kernel, by decide +kernel⟩
theorem ok_zO (T : Txt K mg a) : FnOk P w K mg base CX0 1 a.f_zO a.d_zO ["digits"] (spNumberOf K) := by
  refine T.F_zO.ok sc_zO (fun vs H Q E h => ?_) (fun cdv A outer s H vs Q E hr h => ?_)
  · obtain ⟨l, wd, rfl, _⟩ := h
    rfl
  · obtain ⟨l, wd, rfl, hl, hd, k⟩ := h
    have nd := sc_zO.nd
    refine ⟨_, pss_cons (ps_set (i := 1) nd rfl (Or.inl rfl) pe_int) (pss_cons (ps_for PassesOwn.never rfl (pi_list (pv 0)) (pg_name (i := 2) nd rfl (Or.inl rfl))
      (pss_one (ps_set (i := 1) nd rfl (Or.inl rfl) (pe_op op_sub (pe_op op_add (pe_op op_mul (pv 1) pe_int) (pv 2)) (gint T.i_ZERO))))) (pss_one (ps_ret (pv 1)))), ?_⟩
    refine ⟨_, rfl, l, rfl, ⟨_, hl⟩, for_list (K := K) (a := l) (xs := vB wd) (fun i σ H' => ∃ v : Option V, σ = [some (.ref l), some (.int (numOf (wd.take i) : Nat)), v] ∧ H' = H) ⟨none, rfl, rfl⟩ (fun i σ H' _ ⟨_, _, e⟩ => by rw [e]; exact hl) ?_ ?_⟩
    · rintro i y σ H' hi ⟨v, rfl, eH⟩
      rw [eH]
      obtain ⟨c, hc, rfl⟩ := vB_get hi
      refine ⟨_, rfl, _, _, rfl, rfl, .inr ⟨by decide, by decide⟩, _, rfl, _, _, rfl, rfl, _, _, rfl, rfl, some (V.int (c.toNat : Int)), ?_, rfl⟩
      have h48 := digit_ge hd hc
      rw [tk_snoc hc, numOf_snoc]
      have e : ((numOf (wd.take i) : Nat) : Int) * 10 + (c.toNat : Int) - 48 = ((10 * numOf (wd.take i) + (c.toNat - 48) : Nat) : Int) := by omega
      rw [← e]
      rfl
    · rintro σ H' ⟨v, rfl, eH⟩
      rw [eH]
      refine ⟨_, rfl, ?_⟩
      rw [vB_len, List.take_length]
      exact k
def spIsNum (K : PySem.W.Frag) : Sp := fun vs H Q _ => ∃ l, ∃ wd : Mix.Bytes, vs = [.ref l] ∧ SqL K H l (vB wd) ∧ wd.length ≤ 4096 ∧ ∀ H', Same H H' → Q (.bl (Mix.numForm wd).isSome) H'
theorem sc_z0 : FnScope ["word"] ["word"] (defScope s_z0) := ⟨rfl, rfl, rfl, by decide +kernel, rfl, by decide +kernel, by decide +kernel⟩
theorem ok_z0 (T : Txt K mg a) : FnOk P w K mg base CX0 2 a.f_z0 a.d_z0 ["word"] (spIsNum K) := by
  have G1 := ok_za (P := P) (w := w) (base := base) T
  refine T.F_z0.ok sc_z0 (fun vs H Q E h => ?_) (fun cdv A outer s H vs Q E hr h => ?_)
  · obtain ⟨l, wd, rfl, _⟩ := h
    rfl
  · obtain ⟨l, wd, rfl, hl, hz, k⟩ := h
    have kk : ∀ {x : Bool} {H' : Hp}, Same H H' → x = (Mix.numForm wd).isSome → Q (.bl x) H' := fun h1 h2 => by rw [h2]; exact k _ h1
    refine ⟨_, pss_cons (ps_if (pt_not (pt_val (pe_call G1 hr rfl T.g_za T.F_za.kp T.B_za .nil pass0 (pa_cons (pv 0) (pa_cons (gint T.i_zqb) (pa_cons (gint T.i_ZERO) (pa_cons (gint T.i_NINE) pa_nil)))))))
        (pss_one (ps_ret pe_bl)) pss_nil)
      (pss_one (ps_ret (pe_or (pe_cmpR op_eq (pe_callB call_len_seq (by rfl) T.b_len PySem.boot_len (pa_cons (pv 0) pa_nil)) pe_int (nomark _))
        (pe_one (pe_cmpR op_ne (pe_ix ix_list (pv 0) pe_int (fun _ _ => rfl)) (gint T.i_ZERO) (nomark _)))))), ?_⟩
    refine ⟨_, rfl, l, 5, 48, 57, wd, rfl, hl, hz, fun H1 s1 => ⟨_, rfl, ?_⟩⟩
    cases h1 : hasLB wd 5 48 57 with
    | false => exact iteT (kk s1 (by rw [numForm_eq, h1]; rfl))
    | true =>
      have hne : 1 ≤ wd.length := by
        rw [hasLB_num, Bool.and_eq_true, Bool.and_eq_true, decide_eq_true_eq] at h1
        exact h1.1.1
      refine iteF ⟨_, rfl, _, _, rfl, .inl (s1.seq hl), rfl, _, rfl, ?_⟩
      rw [vB_len]
      by_cases h2 : wd.length = 1
      · rw [decide_eq_true (show V.int (wd.length : Int) = V.int 1 by rw [h2]; rfl)]
        exact iteT (kk s1 (by rw [numForm_eq, h1, decide_eq_true h2]; rfl))
      · rw [decide_eq_false (show ¬ V.int (wd.length : Int) = V.int 1 from fun z => h2 (by have := V.int.inj z; omega))]
        have hc := List.getElem?_eq_getElem (l := wd) (i := 0) (by omega)
        refine iteF ⟨_, rfl, l, _, _, _, rfl, rfl, s1.seq hl, at_of (j := 0) rfl (vB_at hc), rfl, kk s1 ?_⟩
        rw [numForm_eq, h1, decide_eq_false h2, Bool.true_and, Bool.false_or, List.head?_eq_getElem?, hc]
        by_cases h3 : wd[0] = 48
        · rw [decide_eq_true (show V.int (wd[0].toNat : Int) = V.int 48 by rw [h3]; rfl), decide_eq_true (show some wd[0] = some 48 by rw [h3])]
          rfl
        · rw [decide_eq_false (show ¬ V.int (wd[0].toNat : Int) = V.int 48 from ne_byte (e := 48) h3), decide_eq_false (fun z => h3 (Option.some.inj z))]
          rfl
def spReadName (K : PySem.W.Frag) (a : AD) (b : Mix.Bytes) : Sp := fun vs H Q E => ∃ r p wp, vs = [.ref r] ∧ RdAt K a.c_zy H b r p wp ∧
  (∀ res, Md.mName b p = .ok res → ∀ (H' : Hp) (l : Addr), H l = none → l ≠ r → H' l = some (.lst (vB res.1)) → RdAt K a.c_zy H' b r res.2.2 res.2.1 → Keeps [r] H H' → Q (.ref l) H') ∧
  ∀ e, Md.mName b p = .error e → Rz K a (-6) [e.kind, e.place] E
theorem sc_zF : FnScope ["reader", "word"] ["reader"] (defScope s_zF) := ⟨rfl, rfl, rfl, by decide +kernel, rfl, by decide +kernel, by decide +kernel⟩
theorem ok_zF (T : Txt K mg a) : FnOk P w K mg base (CXr P w) 5 a.f_zF a.d_zF ["reader"] (spReadName K a b) := by
  have GB := ok_zc (P := P) (w := w) (base := base) (b := b) T
  have GW := ok_zb (P := P) (w := w) (base := base) (b := b) T
  have GN := ok_zX (P := P) (w := w) (base := base) T
  have GF := ok_zm (P := P) (w := w) (base := base) T
  refine T.F_zF.okR sc_zF (fun vs H Q E h => ?_) (fun cdv A outer s H vs Q E hr h => ?_)
  · obtain ⟨r, p, wp, rfl, _⟩ := h
    rfl
  · obtain ⟨r, p, wp, rfl, h0, k, ke⟩ := h
    have nd := sc_zF.nd
    refine ⟨_, pss_cons (ps_expr (pe_meth (pv 0) T.C_zy T.M_zc GB hr T.B_zc .nil passes_r (pa_cons (gint T.i_zQb) pa_nil)))
      (pss_cons (ps_set (i := 1) nd rfl (Or.inl rfl) (pe_meth0 (pv 0) T.C_zy T.M_zb GW (hr.mono (by decide)) T.B_zb .nil pass0))
      (pss_cons (ps_if (pt_not (pt_val (pe_call GN (hr.mono (by decide)) rfl T.g_zX T.F_zX.kp T.B_zX .nil pass0 (pa_cons (pv 1) pa_nil))))
        (pss_one (ps_raise (pe_makeX T.K_zZ GF (hr.mono (by decide)) rfl T.g_zZ T.B_zm pass0 (pa_cons (gint T.i_zeb) (pa_cons (pe_fld (pv 0) rfl) pa_nil))) rfl throws_r)) pss_nil)
      (pss_one (ps_ret (pv 1))))), ?_⟩
    have h0' := h0
    obtain ⟨dr, t, h1, h2, h4, h5⟩ := h0'
    refine ⟨_, rfl, r, dr, _, rfl, h1, rfl, r, p, wp, 32, rfl, h0, fun q hq H1 rd1 k1 => ?_, fun e he => ke e (by unfold Md.mName; rw [show Mix.BLANK = 32 from rfl, he])⟩
    obtain ⟨rfl, hpl⟩ := Md.mByte_ok hq
    have rd1' := rd1
    obtain ⟨dr1, t1, g1, g2, g4, g5⟩ := rd1'
    refine ⟨_, rfl, r, dr1, _, rfl, g1, rfl, r, p + 1, wp, rfl, rd1, fun H2 l hl nl hl2 rd2 k2 => ?_⟩
    have hlen := Md.wordAt_len b (p + 1)
    refine ⟨_, rfl, l, _, rfl, SqL.of hl2, by omega, fun H3 s3 => ⟨_, rfl, ?_⟩⟩
    have rd3 := rd2.same s3
    have hn := k1.free hl (by simpa using nl)
    have kk : Keeps [r] H H3 := (k1.trans k2).trans (Same.keeps s3)
    have e1 : Md.mName b p = if Md.isName (Md.wordAt b (p + 1)) = true then .ok (Md.wordAt b (p + 1), p + 1, p + 1 + (Md.wordAt b (p + 1)).length) else .error ⟨1, p + 1⟩ := by
      unfold Md.mName
      rw [show Mix.BLANK = 32 from rfl, hq]
    cases hN : Md.isName (Md.wordAt b (p + 1)) with
    | false =>
      rw [hN, if_neg Bool.false_ne_true] at e1
      obtain ⟨dr3, t3, i1, i2, i4, i5⟩ := rd3
      exact iteT ⟨_, rfl, r, _, dr3, _, _, rfl, i1, T.C_zy, T.N_z4, rdF_word _ _ _, fault_go T (ke _ e1)⟩
    | true =>
      rw [hN, if_pos rfl] at e1
      exact iteF ⟨_, rfl, k _ e1 H3 l hn nl (s3 _ _ hl2) rd3 kk⟩
end
end Mx
end
section
set_option Elab.async false
set_option linter.all false
set_option maxRecDepth 100000
set_option maxHeartbeats 1000000
namespace Mx
open PySem PySem.Spec PyProof.Rows L2
section
variable {P : Program} {w : World} {K : PySem.W.Frag} {mg : Str → Option Value} {base : Heap} {a : AD} {b : Mix.Bytes}
def spReadNumber (K : PySem.W.Frag) (a : AD) (b : Mix.Bytes) : Sp := fun vs H Q E => ∃ r p wp lo hi, vs = [.ref r, .int ((lo : Nat) : Int), .int ((hi : Nat) : Int)] ∧ RdAt K a.c_zy H b r p wp ∧
  (∀ res, Md.mNum b lo hi p = .ok res → ∀ (H' : Hp) (wq : Nat), RdAt K a.c_zy H' b r res.2 wq → Keeps [r] H H' → Q (.int (res.1 : Nat)) H') ∧
  ∀ e, Md.mNum b lo hi p = .error e → Rz K a (-6) [e.kind, e.place] E
theorem sc_zr : FnScope ["reader", "least", "most", "word", "number"] ["reader", "least", "most"] (defScope s_zr) := ⟨rfl, rfl, rfl, by decide +kernel, rfl, by decide +kernel, by decide +kernel⟩
theorem ok_zr (T : Txt K mg a) : FnOk P w K mg base (CXr P w) 5 a.f_zr a.d_zr ["reader", "least", "most"] (spReadNumber K a b) := by
  have GB := ok_zc (P := P) (w := w) (base := base) (b := b) T
  have GW := ok_zb (P := P) (w := w) (base := base) (b := b) T
  have GN := ok_z0 (P := P) (w := w) (base := base) T
  have GO := ok_zO (P := P) (w := w) (base := base) T
  have GF := ok_zm (P := P) (w := w) (base := base) T
  refine T.F_zr.okR sc_zr (fun vs H Q E h => ?_) (fun cdv A outer s H vs Q E hr h => ?_)
  · obtain ⟨r, p, wp, lo, hi, rfl, _⟩ := h
    rfl
  · obtain ⟨r, p, wp, lo, hi, rfl, h0, k, ke⟩ := h
    have nd := sc_zr.nd
    refine ⟨_, pss_cons (ps_expr (pe_meth (pv 0) T.C_zy T.M_zc GB hr T.B_zc .nil passes_r (pa_cons (gint T.i_zQb) pa_nil)))
      (pss_cons (ps_set (i := 3) nd rfl (Or.inl rfl) (pe_meth0 (pv 0) T.C_zy T.M_zb GW (hr.mono (by decide)) T.B_zb .nil pass0))
      (pss_cons (ps_if (pt_not (pt_val (pe_call GN (hr.mono (by decide)) rfl T.g_z0 T.F_z0.kp T.B_z0 .nil pass0 (pa_cons (pv 3) pa_nil))))
        (pss_one (ps_raise (pe_makeX T.K_zZ GF (hr.mono (by decide)) rfl T.g_zZ T.B_zm pass0 (pa_cons (gint T.i_zeb) (pa_cons (pe_fld (pv 0) rfl) pa_nil))) rfl throws_r)) pss_nil)
      (pss_cons (ps_set (i := 4) nd rfl (Or.inl rfl) (pe_call GO (hr.mono (by decide)) rfl T.g_zO T.F_zO.kp T.B_zO .nil pass0 (pa_cons (pv 3) pa_nil)))
      (pss_cons (ps_if (PW.pt (pw_or (pt_cmpR op_lt (pv 4) (pv 1) (nomark _)) (pw_or1 (pt_cmpR op_gt (pv 4) (pv 2) (nomark _)))))
        (pss_one (ps_raise (pe_makeX T.K_zZ GF (hr.mono (by decide)) rfl T.g_zZ T.B_zm pass0 (pa_cons (gint T.i_zhb) (pa_cons (pe_fld (pv 0) rfl) pa_nil))) rfl throws_r)) pss_nil)
      (pss_one (ps_ret (pv 4))))))), ?_⟩
    have h0' := h0
    obtain ⟨dr, t, h1, h2, h4, h5⟩ := h0'
    refine ⟨_, rfl, r, dr, _, rfl, h1, rfl, r, p, wp, 32, rfl, h0, fun q hq H1 rd1 k1 => ?_, fun e he => ke e (by unfold Md.mNum; rw [show Mix.BLANK = 32 from rfl, he])⟩
    obtain ⟨rfl, hpl⟩ := Md.mByte_ok hq
    have rd1' := rd1
    obtain ⟨dr1, t1, g1, g2, g4, g5⟩ := rd1'
    refine ⟨_, rfl, r, dr1, _, rfl, g1, rfl, r, p + 1, wp, rfl, rd1, fun H2 l hl nl hl2 rd2 k2 => ?_⟩
    have hlen := Md.wordAt_len b (p + 1)
    refine ⟨_, rfl, l, _, rfl, SqL.of hl2, by omega, fun H3 s3 => ⟨_, rfl, ?_⟩⟩
    have rd3 := rd2.same s3
    have kk : Keeps [r] H H3 := (k1.trans k2).trans (Same.keeps s3)
    have rd3' := rd3
    obtain ⟨dr3, t3, i1, i2, i4, i5⟩ := rd3'
    cases hN : Mix.numForm (Md.wordAt b (p + 1)) with
    | none =>
      exact iteT ⟨_, rfl, r, _, dr3, _, _, rfl, i1, T.C_zy, T.N_z4, rdF_word _ _ _, fault_go T (ke ⟨1, p + 1⟩ (by unfold Md.mNum; rw [show Mix.BLANK = 32 from rfl, hq]; dsimp only; rw [hN]))⟩
    | some n =>
      have hf := numForm_eq (Md.wordAt b (p + 1))
      rw [hN] at hf
      split at hf
      · rename_i hg
        have hn : n = numOf (Md.wordAt b (p + 1)) := Option.some.inj hf
        have hdig : (Md.wordAt b (p + 1)).all Mix.isDigit = true := by
          rw [hasLB_num, Bool.and_eq_true, Bool.and_eq_true] at hg
          exact hg.1.2
        refine iteF ⟨_, rfl, l, _, rfl, SqL.of (s3 _ _ hl2), hdig, ?_⟩
        rw [← hn]
        have e1 : Md.mNum b lo hi p = if n < lo ∨ hi < n then .error ⟨2, p + 1⟩ else .ok (n, p + 1 + (Md.wordAt b (p + 1)).length) := by
          unfold Md.mNum
          rw [show Mix.BLANK = 32 from rfl, hq]
          dsimp only
          rw [hN]
        have bad : n < lo ∨ hi < n → (tRaise K E (tMakeX a.c_zZ (spFaultInit a) E0 (tCons (tC (.int 2)) (tCons (tFld K (tVar 0) "word_place") tNil)))) { nx := (tRet (tVar 4)) { nx := fun _ H' => Q .non H', rt := Q }, rt := Q } [some (V.ref r), some (.int ((lo : Nat) : Int)), some (.int ((hi : Nat) : Int)), some (.ref l), some (.int (n : Nat))] H3 := fun z => by
          rw [if_pos z] at e1
          exact ⟨_, rfl, r, _, dr3, _, _, rfl, i1, T.C_zy, T.N_z4, rdF_word _ _ _, fault_go T (ke _ e1)⟩
        refine ⟨_, rfl, _, rfl, _, _, rfl, rfl, _, rfl, ?_⟩
        by_cases c1 : (n : Int) < (lo : Int)
        · rw [decide_eq_true c1]
          exact iteT (iteT (bad (.inl (by omega))))
        · rw [decide_eq_false c1]
          refine iteF ⟨_, rfl, _, rfl, _, _, rfl, rfl, _, rfl, ?_⟩
          by_cases c2 : (hi : Int) < (n : Int)
          · rw [decide_eq_true c2]
            exact iteT (bad (.inr (by omega)))
          · rw [decide_eq_false c2]
            rw [if_neg (by omega)] at e1
            exact iteF ⟨_, rfl, k _ e1 H3 _ rd3 kk⟩
      · cases hf
def spReadPre (K : PySem.W.Frag) (a : AD) (b : Mix.Bytes) : Sp := fun vs H Q E => ∃ r p wp, vs = [.ref r] ∧ RdAt K a.c_zy H b r p wp ∧
  (∀ res, Md.mPre b p = .ok res → ∀ (H' : Hp) (wq : Nat), RdAt K a.c_zy H' b r res.2 wq → Keeps [r] H H' → Q (.int (pI res.1)) H') ∧
  ∀ e, Md.mPre b p = .error e → Rz K a (-6) [e.kind, e.place] E
theorem sc_zQ : FnScope ["reader", "word"] ["reader"] (defScope s_zQ) := ⟨rfl, rfl, rfl, by decide +kernel, rfl, by decide +kernel, by decide +kernel⟩
theorem eq_text {H : Hp} {l l2 : Addr} {wd : Mix.Bytes} {x : Str} {s : String} {Q : VK} (hs : sB x = iB (Mix.ascii s)) (hl : H l = some (.lst (vB wd))) (hl2 : H l2 = some (.lst ((sB x).map V.int))) (k : Q (.bl (decide (wd = Mix.ascii s))) H) : rEqD K (.ref l) (.ref l2) H Q := by
  refine ⟨_, _, dp_vB (SqL.of hl), dp_ints (SqL.of hl2), ?_, ?_, ?_⟩
  · unfold SeqAt.shaped
    rw [dI_lay, decide_eq_true (dI_depth _)]
    rfl
  · unfold SeqAt.shaped
    rw [dI_lay, decide_eq_true (dI_depth _)]
    rfl
  · rw [hs, eqv_dB]
    exact k
theorem ok_zQ (T : Txt K mg a) : FnOk P w K mg base (CXr P w) 5 a.f_zQ a.d_zQ ["reader"] (spReadPre K a b) := by
  have GB := ok_zc (P := P) (w := w) (base := base) (b := b) T
  have GW := ok_zb (P := P) (w := w) (base := base) (b := b) T
  have GO := ok_zz (P := P) (w := w) (base := base) T
  have GF := ok_zm (P := P) (w := w) (base := base) T
  refine T.F_zQ.okR sc_zQ (fun vs H Q E h => ?_) (fun cdv A outer s H vs Q E hr h => ?_)
  · obtain ⟨r, p, wp, rfl, _⟩ := h
    rfl
  · obtain ⟨r, p, wp, rfl, h0, k, ke⟩ := h
    have nd := sc_zQ.nd
    refine ⟨_, pss_cons (ps_expr (pe_meth (pv 0) T.C_zy T.M_zc GB hr T.B_zc .nil passes_r (pa_cons (gint T.i_zQb) pa_nil)))
      (pss_cons (ps_set (i := 1) nd rfl (Or.inl rfl) (pe_meth0 (pv 0) T.C_zy T.M_zb GW (hr.mono (by decide)) T.B_zb .nil pass0))
      (pss_cons (ps_if (pt_cmpR (op_eqD hr.units) (pv 1) (pe_call GO (hr.mono (by decide)) rfl T.g_zz T.F_zz.kp T.B_zz .nil pass0 (pa_cons pe_str pa_nil)) (nomark _)) (pss_one (ps_ret pe_int)) pss_nil)
      (pss_cons (ps_if (pt_cmpR (op_eqD hr.units) (pv 1) (pe_call GO (hr.mono (by decide)) rfl T.g_zz T.F_zz.kp T.B_zz .nil pass0 (pa_cons pe_str pa_nil)) (nomark _)) (pss_one (ps_ret pe_int)) pss_nil)
      (pss_one (ps_raise (pe_makeX T.K_zZ GF (hr.mono (by decide)) rfl T.g_zZ T.B_zm pass0 (pa_cons (gint T.i_zeb) (pa_cons (pe_fld (pv 0) rfl) pa_nil))) rfl throws_r))))), ?_⟩
    have h0' := h0
    obtain ⟨dr, t, h1, h2, h4, h5⟩ := h0'
    refine ⟨_, rfl, r, dr, _, rfl, h1, rfl, r, p, wp, 32, rfl, h0, fun q hq H1 rd1 k1 => ?_, fun e he => ke e (by unfold Md.mPre; rw [show Mix.BLANK = 32 from rfl, he])⟩
    obtain ⟨rfl, hpl⟩ := Md.mByte_ok hq
    have rd1' := rd1
    obtain ⟨dr1, t1, g1, g2, g4, g5⟩ := rd1'
    refine ⟨_, rfl, r, dr1, _, rfl, g1, rfl, r, p + 1, wp, rfl, rd1, fun H2 l hl nl hl2 rd2 k2 => ?_⟩
    have e1 : Md.mPre b p = if Md.wordAt b (p + 1) = Mix.ascii "pre" then .ok (true, p + 1 + (Md.wordAt b (p + 1)).length) else if Md.wordAt b (p + 1) = Mix.ascii "post" then .ok (false, p + 1 + (Md.wordAt b (p + 1)).length) else .error ⟨1, p + 1⟩ := by
      unfold Md.mPre
      rw [show Mix.BLANK = 32 from rfl, hq]
    refine ⟨_, rfl, _, rfl, by decide +kernel, fun l3 hl3 => ?_⟩
    have s3 : Same H2 (upd H2 l3 (.lst ((sB "pre").map V.int))) := fun b o e => by rw [upd_ne (ne_of_none e hl3)]; exact e
    refine eq_text sb_pre (s3 _ _ hl2) upd_same ⟨_, rfl, ?_⟩
    by_cases c1 : Md.wordAt b (p + 1) = Mix.ascii "pre"
    · rw [decide_eq_true c1]
      rw [if_pos c1] at e1
      exact iteT (k _ e1 _ _ (rd2.same s3) ((k1.trans k2).trans (Same.keeps s3)))
    · rw [decide_eq_false c1]
      rw [if_neg c1] at e1
      refine iteF ⟨_, rfl, _, rfl, by decide +kernel, fun l4 hl4 => ?_⟩
      have s4 : Same (upd H2 l3 (.lst ((sB "pre").map V.int))) (upd (upd H2 l3 (.lst ((sB "pre").map V.int))) l4 (.lst ((sB "post").map V.int))) := fun b o e => by rw [upd_ne (ne_of_none e hl4)]; exact e
      refine eq_text sb_post (s4 _ _ (s3 _ _ hl2)) upd_same ⟨_, rfl, ?_⟩
      by_cases c2 : Md.wordAt b (p + 1) = Mix.ascii "post"
      · rw [decide_eq_true c2]
        rw [if_pos c2] at e1
        exact iteT (k _ e1 _ _ ((rd2.same s3).same s4) (((k1.trans k2).trans (Same.keeps s3)).trans (Same.keeps s4)))
      · rw [decide_eq_false c2]
        rw [if_neg c2] at e1
        obtain ⟨dr3, t3, i1, i2, i4, i5⟩ := (rd2.same s3).same s4
        exact iteF ⟨_, rfl, r, _, dr3, _, _, rfl, i1, T.C_zy, T.N_z4, rdF_word _ _ _, fault_go T (ke _ e1)⟩
end
end Mx
end
section
set_option Elab.async false
set_option linter.all false
set_option maxRecDepth 100000
set_option maxHeartbeats 1000000
namespace Mx
open PySem PySem.Spec PyProof.Rows L2
def memberIn : Mix.Setting → Option (Nat × Nat)
  | .member g x => some (g, x)
  | _ => none
def mems (d : Mix.Desk) : List (Nat × Nat) := d.settings.filterMap memberIn
theorem names_dp {K : PySem.W.Frag} {H : Hp} {T : List Addr} : ∀ {as : List Addr} {ns : List Mix.Node}, Paired (fun x (nd : Mix.Node) => H x = some (.lst (vB nd.name)) ∧ x ∉ T) as ns → DpAll K H (as.map V.ref) (ns.map fun n => dI (iB n.name))
  | _, _, .nil => .nil
  | _, _, .cons r t => .cons (dp_vB (SqL.of r.1)) (names_dp t)
structure DeskAt (cD cS : Addr) (H : Hp) (dk : Addr) (A : DA) (d : Mix.Desk) : Prop where
  obj : ∃ dd, H dk = some (.ins cD dd (dkF A))
  kinds : H A.k = some (.lst (d.nodes.map fun n => V.int (n.kind : Int)))
  names : ∃ as : List Addr, H A.n = some (.lst (as.map V.ref)) ∧ Paired (fun x (nd : Mix.Node) => H x = some (.lst (vB nd.name)) ∧ x ∉ A.six) as d.nodes
  safe : H A.s = some (.lst ((List.range d.size).map fun i => V.int (pI (d.isSafe i))))
  late : H A.l = some (.lst ((List.range d.size).map fun i => V.int ((d.late i : Nat) : Int)))
  mem : ∃ as : List Addr, H A.m = some (.lst (as.map V.ref)) ∧ Paired (fun x (p : Nat × Nat) => H x = some (.tup [.int (p.1 : Nat), .int (p.2 : Nat)])) as (mems d)
  snd : ∃ as : List Addr, H A.q = some (.lst (as.map V.ref)) ∧ Paired (fun x (s : Mix.Send) => ∃ ds, H x = some (.ins cS ds (sdF s))) as d.sends
  nd : A.six.Nodup
section
variable {cD cS : Addr} {H H' : Hp} {dk : Addr} {A : DA} {d : Mix.Desk}
theorem DeskAt.keep (D : DeskAt cD cS H dk A d) (h : ∀ b o, H b = some o → ((∃ fs dd, o = .ins cD dd fs ∧ fs.length = 6) ∨ (∃ xs, o = .lst xs) ∨ (∃ xs, o = .tup xs) ∨ ∃ fs dd, o = .ins cS dd fs ∧ fs.length = 4) → H' b = some o) : DeskAt cD cS H' dk A d := by
  obtain ⟨⟨dd, h1⟩, h2, ⟨as, h3, h4⟩, h5, h6, ⟨ms, h7, h8⟩, ⟨ss, h9, h10⟩, h11⟩ := D
  refine ⟨⟨dd, h _ _ h1 (.inl ⟨_, _, rfl, rfl⟩)⟩, h _ _ h2 (.inr (.inl ⟨_, rfl⟩)), ⟨as, h _ _ h3 (.inr (.inl ⟨_, rfl⟩)), Paired.memP h4 fun x _ y e => ⟨h _ _ e.1 (.inr (.inl ⟨_, rfl⟩)), e.2⟩⟩, h _ _ h5 (.inr (.inl ⟨_, rfl⟩)), h _ _ h6 (.inr (.inl ⟨_, rfl⟩)),
    ⟨ms, h _ _ h7 (.inr (.inl ⟨_, rfl⟩)), Paired.memP h8 fun x _ y e => h _ _ e (.inr (.inr (.inl ⟨_, rfl⟩)))⟩, ⟨ss, h _ _ h9 (.inr (.inl ⟨_, rfl⟩)), Paired.memP h10 fun x _ y e => ?_⟩, h11⟩
  obtain ⟨ds, e⟩ := e
  exact ⟨ds, h _ _ e (.inr (.inr (.inr ⟨_, _, rfl, rfl⟩)))⟩
theorem DeskAt.same (D : DeskAt cD cS H dk A d) (s : Same H H') : DeskAt cD cS H' dk A d := D.keep fun b o e _ => s b o e
theorem DeskAt.keepR {cR r dr t : Addr} {p wp : Nat} (D : DeskAt cD cS H dk A d) (hr : H r = some (.ins cR dr (rdF t p wp))) (k : Keeps [r] H H') : DeskAt cD cS H' dk A d := by
  refine D.keep fun b o e z => k b o e fun m => ?_
  rw [List.mem_singleton.mp m, hr] at e
  cases e
  rcases z with ⟨fs, dd, z, l⟩ | ⟨xs, z⟩ | ⟨xs, z⟩ | ⟨fs, dd, z, l⟩
  · cases z; cases l
  · cases z
  · cases z
  · cases z; cases l
theorem DeskAt.keepRd {K : PySem.W.Frag} {cR r : Addr} {b : Mix.Bytes} {p wp : Nat} (D : DeskAt cD cS H dk A d) (hr : RdAt K cR H b r p wp) (k : Keeps [r] H H') : DeskAt cD cS H' dk A d := by
  obtain ⟨dr, t, h1, _⟩ := hr
  exact D.keepR h1 k
theorem DeskAt.out (D : DeskAt cD cS H dk A d) : ∀ x ∈ A.six, ∃ xs, H x = some (.lst xs) := by
  intro x hx
  unfold DA.six at hx
  simp only [List.mem_cons, List.not_mem_nil, or_false] at hx
  rcases hx with rfl | rfl | rfl | rfl | rfl | rfl
  · exact ⟨_, D.kinds⟩
  · obtain ⟨as, h, _⟩ := D.names; exact ⟨_, h⟩
  · exact ⟨_, D.safe⟩
  · exact ⟨_, D.late⟩
  · obtain ⟨as, h, _⟩ := D.mem; exact ⟨_, h⟩
  · obtain ⟨as, h, _⟩ := D.snd; exact ⟨_, h⟩
theorem DeskAt.dkNot (D : DeskAt cD cS H dk A d) : dk ∉ A.six := fun m => by
  obtain ⟨xs, e⟩ := D.out dk m
  obtain ⟨dd, e'⟩ := D.obj
  rw [e] at e'
  cases e'
theorem DeskAt.dp {K : PySem.W.Frag} (D : DeskAt cD cS H dk A d) : ∃ as : List Addr, H A.n = some (.lst (as.map V.ref)) ∧ DpAll K H (as.map V.ref) (d.nodes.map fun n => dI (iB n.name)) := by
  obtain ⟨as, h, p⟩ := D.names
  exact ⟨as, h, names_dp p⟩
end
theorem lay_names : ∀ l : List Mix.Node, PyData.canLayAll0 (l.map fun n => dI (iB n.name)) = true
  | [] => rfl
  | x :: r => by
    rw [List.map_cons, PyData.canLayAll0, dI_lay, lay_names r]
    rfl
theorem any_find (d : Mix.Desk) (wd : Mix.Bytes) : ((d.nodes.map fun n => dI (iB n.name)).any fun e => PyData.eqv e (dI (iB wd))) = (d.find wd).isSome := by
  unfold Mix.Desk.find
  rw [List.findIdx?_isSome, List.any_map]
  congr 1
  funext n
  show PyData.eqv (dI (iB n.name)) (dI (iB wd)) = (n.name == wd)
  rw [eqv_dB, Bool.beq_eq_decide_eq]
theorem find_at {d : Mix.Desk} {wd : Mix.Bytes} {x : Nat} (h : d.find wd = some x) : (∃ n, d.nodes[x]? = some n ∧ n.name = wd) ∧ ∀ m n, m < x → d.nodes[m]? = some n → n.name ≠ wd := by
  unfold Mix.Desk.find at h
  rw [List.findIdx?_eq_some_iff_getElem] at h
  obtain ⟨h1, h2, h3⟩ := h
  refine ⟨⟨_, List.getElem?_eq_getElem h1, eq_of_beq h2⟩, fun m n hm hn e => ?_⟩
  have := h3 m hm
  obtain ⟨hl, he⟩ := List.getElem?_eq_some_iff.mp hn
  rw [he] at this
  simp [e] at this
theorem find_kind {d : Mix.Desk} {wd : Mix.Bytes} {x : Nat} (h : d.find wd = some x) : ∃ n, d.nodes[x]? = some n ∧ d.kind x = n.kind := by
  obtain ⟨⟨n, h1, h2⟩, _⟩ := find_at h
  refine ⟨n, h1, ?_⟩
  unfold Mix.Desk.kind
  rw [h1]
  rfl
section
variable {P : Program} {w : World} {K : PySem.W.Frag} {mg : Str → Option Value} {base : Heap} {a : AD} {b : Mix.Bytes}
abbrev DkAt (a : AD) := DeskAt a.c_Desk a.c_Send
theorem dk_kinds (A : DA) : (dkF A).lookup ("kinds" : Str) = some (.ref A.k) := rfl
theorem dk_names (A : DA) : (dkF A).lookup ("names" : Str) = some (.ref A.n) := rfl
theorem dk_safe (A : DA) : (dkF A).lookup ("safe" : Str) = some (.ref A.s) := rfl
theorem dk_late (A : DA) : (dkF A).lookup ("late" : Str) = some (.ref A.l) := rfl
theorem dk_members (A : DA) : (dkF A).lookup ("members" : Str) = some (.ref A.m) := rfl
theorem dk_sends (A : DA) : (dkF A).lookup ("sends" : Str) = some (.ref A.q) := rfl
def kV (ks : List Nat) : List V := ks.map fun (k : Nat) => V.int (k : Int)
def spReadTold (K : PySem.W.Frag) (a : AD) (b : Mix.Bytes) : Sp := fun vs H Q E => ∃ r dk t p wp A d ks, vs = [.ref r, .ref dk, .ref t] ∧ RdAt K a.c_zy H b r p wp ∧ DkAt a H dk A d ∧ SqT K H t (kV ks) ∧ t ≠ r ∧
  (∀ res, Md.mTold b d ks p = .ok res → ∀ (H' : Hp), RdAt K a.c_zy H' b r res.2.2 res.2.1 → Keeps [r] H H' → Q (.int ((res.1 : Nat) : Int)) H') ∧
  ∀ e, Md.mTold b d ks p = .error e → Rz K a (-6) [e.kind, e.place] E
theorem sc_zf : FnScope ["reader", "desk", "kinds", "word", "i"] ["reader", "desk", "kinds"] (defScope s_zf) := ⟨rfl, rfl, rfl, by decide +kernel, rfl, by decide +kernel, by decide +kernel⟩
theorem kV_flat : ∀ ks : List Nat, (kV ks).all flatV = true
  | [] => rfl
  | k :: r => by
    show (flatV (V.int (k : Int)) && (kV r).all flatV) = true
    rw [kV_flat r]
    rfl
theorem inV_kV (x : Nat) : ∀ ks : List Nat, inV (.int (x : Int)) (kV ks) = decide (x ∈ ks)
  | [] => by simp [inV, kV]
  | k :: r => by
    have ih := inV_kV x r
    show (eqV (V.int (k : Int)) (V.int (x : Int)) || inV (.int (x : Int)) (kV r)) = _
    rw [ih]
    show (((k : Int) == (x : Int)) || _) = _
    rw [Bool.beq_eq_decide_eq, ← Bool.decide_or]
    refine decide_eq_decide.mpr ?_
    rw [List.mem_cons]
    constructor
    · rintro (h | h)
      · exact .inl (by omega)
      · exact .inr h
    · rintro (h | h)
      · exact .inl (by omega)
      · exact .inr h
theorem Keeps.sqT {T : List Addr} {H H1 : Hp} {t : Addr} {xs : List V} (k : Keeps T H H1) (h : SqT K H t xs) (n : t ∉ T) : SqT K H1 t xs := by
  rcases h with (h | ⟨o, h⟩) | h
  · exact .inl (.inl (k _ _ h n))
  · exact .inl (.inr ⟨o, k _ _ h n⟩)
  · exact .inr h
theorem ok_zf (T : Txt K mg a) : FnOk P w K mg base (CXr P w) 6 a.f_zf a.d_zf ["reader", "desk", "kinds"] (spReadTold K a b) := by
  have GN := ok_zF (P := P) (w := w) (base := base) (b := b) T
  have GF := ok_zm (P := P) (w := w) (base := base) T
  refine T.F_zf.okR sc_zf (fun vs H Q E h => ?_) (fun cdv A outer s H vs Q E hr h => ?_)
  · obtain ⟨r, dk, t, p, wp, A, d, ks, rfl, _⟩ := h
    rfl
  · obtain ⟨r, dk, t, p, wp, A', d, ks, rfl, h0, D, ht, ntr, k, ke⟩ := h
    have nd := sc_zf.nd
    have hu : A.units + 3 + 16 * 5 + 200 < cLine := hr.un
    have hu' : A.units + 3 + 100 < cLine := by omega
    refine ⟨_, pss_cons (ps_set (i := 3) nd rfl (Or.inl rfl) (pe_call GN hr rfl T.g_zF T.F_zF.kp T.B_zF .nil passes_r (pa_cons (pv 0) pa_nil)))
      (pss_cons (ps_if (pt_cmpR (op_notInD hu') (pv 3) (pe_fld (pv 1) rfl) (by with_unfolding_all rfl))
        (pss_one (ps_raise (pe_makeX T.K_zZ GF (hr.mono (by decide)) rfl T.g_zZ T.B_zm pass0 (pa_cons (gint T.i_zcb) (pa_cons (pe_fld (pv 0) rfl) pa_nil))) rfl throws_r)) pss_nil)
      (pss_cons (ps_set (i := 4) nd rfl (Or.inl rfl) (pe_bm PySem.F.plainAttrs_list PySem.F.slot_list_index PySem.F.type_list_index (mt_indexD hu') (pe_fld (pv 1) rfl) (pa_cons (pv 3) pa_nil)))
      (pss_cons (ps_if (pt_cmpR op_notIn_seq (pe_ix ix_list (pe_fld (pv 1) rfl) (pv 4) (fun _ _ => rfl)) (pv 2) (by with_unfolding_all rfl))
        (pss_one (ps_raise (pe_makeX T.K_zZ GF (hr.mono (by decide)) rfl T.g_zZ T.B_zm pass0 (pa_cons (gint T.i_zcb) (pa_cons (pe_fld (pv 0) rfl) pa_nil))) rfl throws_r)) pss_nil)
      (pss_one (ps_ret (pv 4)))))), ?_⟩
    refine ⟨_, rfl, r, p, wp, rfl, h0, fun res hres H1 l hl nl hl1 rd1 k1 => ?_, fun e he => ke e (by unfold Md.mTold; rw [he])⟩
    have D1 := D.keepRd h0 k1
    have ht1 : SqT K H1 t (kV ks) := Keeps.sqT k1 ht (by simpa using ntr)
    obtain ⟨dd, o1⟩ := D1.obj
    obtain ⟨as, o2, o3⟩ := D1.dp (K := K)
    have rd1' := rd1
    obtain ⟨dr1, t1, g1, g2, g4, g5⟩ := rd1'
    refine ⟨_, rfl, _, rfl, dk, _, dd, _, _, rfl, o1, T.C_Desk, T.N_zob, dk_names A', A'.n, _, _, _, rfl, SqL.of o2, o3, dp_vB (SqL.of hl1), lay_names _, dI_lay _, dI_depth _, _, rfl, ?_⟩
    show if (if true = true then _ else _) = true then _ else _
    rw [if_pos rfl, any_find]
    have e1 : Md.mTold b d ks p = match d.find res.1 with
        | none => .error ⟨3, res.2.1⟩
        | some x => if d.kind x ∈ ks then .ok (x, res.2.1, res.2.2) else .error ⟨3, res.2.1⟩ := by
      unfold Md.mTold
      rw [hres]
      all_goals rfl
    cases hf : d.find res.1 with
    | none =>
      rw [hf] at e1
      exact iteT ⟨_, rfl, r, _, dr1, _, _, rfl, g1, T.C_zy, T.N_z4, rdF_word _ _ _, fault_go T (ke _ e1)⟩
    | some x =>
      rw [hf] at e1
      dsimp only at e1
      obtain ⟨⟨n, n1, n2⟩, n3⟩ := find_at hf
      obtain ⟨n', n1', n4⟩ := find_kind hf
      rw [n1] at n1'
      cases n1'
      refine iteF ⟨_, rfl, dk, _, dd, _, _, rfl, o1, T.C_Desk, T.N_zob, dk_names A', .inl ⟨rfl, _, SqL.of o2⟩, _, rfl, A'.n, _, _, _, _, x, rfl, rfl, SqL.of o2, o3, dp_vB (SqL.of hl1), lay_names _, dI_lay _, dI_depth _,
        ⟨_, by rw [List.getElem?_map, n1]; rfl, by rw [eqv_dB]; exact decide_eq_true n2⟩, fun m z hm hz => ?_, ?_⟩
      · rw [List.getElem?_map] at hz
        cases hq : d.nodes[m]? with
        | none => rw [hq] at hz; cases hz
        | some n' =>
          rw [hq] at hz
          cases hz
          rw [eqv_dB]
          exact decide_eq_false (n3 m n' hm hq)
      · refine ⟨_, rfl, dk, _, dd, _, _, rfl, o1, T.C_Desk, T.N_z9, dk_kinds A', _, rfl, A'.k, _, _, _, rfl, rfl, SqL.of D1.kinds, atI_nat (v := V.int (n.kind : Int)) (by rw [List.getElem?_map, n1]; rfl), _, rfl, t, _, rfl, .inr ht1, rfl, kV_flat ks, _, rfl, ?_⟩
        show if (if true = true then _ else _) = true then _ else _
        rw [if_pos rfl, inV_kV, ← n4]
        by_cases hk : d.kind x ∈ ks
        · rw [if_pos hk] at e1
          rw [decide_eq_true hk]
          exact iteF ⟨_, rfl, k _ e1 H1 rd1 k1⟩
        · rw [if_neg hk] at e1
          rw [decide_eq_false hk]
          exact iteT ⟨_, rfl, r, _, dr1, _, _, rfl, g1, T.C_zy, T.N_z4, rdF_word _ _ _, fault_go T (ke _ e1)⟩
end
end Mx
end
section
set_option Elab.async false
set_option linter.all false
set_option maxRecDepth 100000
set_option maxHeartbeats 1000000
namespace Md
open Mix
theorem kind_lt {d : Desk} {x : Nat} (h : d.kind x < 4) : x < d.size := by
  unfold Desk.kind at h
  unfold Desk.size
  cases e : d.nodes[x]? with
  | none => rw [e] at h; simp at h
  | some n => exact (List.getElem?_eq_some_iff.mp e).1
def safeIn (x : Nat) : Setting → Bool
  | .safe y => y == x
  | _ => false
def memIn (g x : Nat) : Setting → Bool
  | .member h y => h == g && y == x
  | _ => false
def lateIn (x : Nat) : Setting → Option Nat
  | .late y n => if y = x then some n else none
  | _ => none
theorem isSafe_eq (d : Desk) (x : Nat) : d.isSafe x = d.settings.any (safeIn x) := by
  unfold Desk.isSafe
  congr 1
theorem isMember_eq (d : Desk) (g x : Nat) : d.isMember g x = d.settings.any (memIn g x) := by
  unfold Desk.isMember
  congr 1
theorem late_eq (d : Desk) (x : Nat) : d.late x = (d.settings.findSome? (lateIn x)).getD 0 := by
  unfold Desk.late
  congr 2
theorem isSafe_add (d : Desk) (s : Setting) (x : Nat) : (addSet d s).isSafe x = (d.isSafe x || safeIn x s) := by
  rw [isSafe_eq, isSafe_eq]
  unfold addSet
  rw [List.any_append]
  simp only [List.any_cons, List.any_nil, Bool.or_false]
theorem late_add (d : Desk) (s : Setting) (x : Nat) : (addSet d s).late x = ((d.settings.findSome? (lateIn x)).or (lateIn x s)).getD 0 := by
  rw [late_eq]
  unfold addSet
  rw [List.findSome?_append]
  simp only [List.findSome?_cons, List.findSome?_nil]
  cases lateIn x s <;> rfl
theorem late_other {d : Desk} {s : Setting} {x : Nat} (h : lateIn x s = none) : (addSet d s).late x = d.late x := by
  rw [late_add, late_eq, h, Option.or_none]
theorem late_none {d : Desk} {x : Nat} (h : d.late x = 0) (hp : ∀ y n, Setting.late y n ∈ d.settings → 1 ≤ n) : d.settings.findSome? (lateIn x) = none := by
  rw [late_eq] at h
  cases hq : d.settings.findSome? (lateIn x) with
  | none => rfl
  | some n =>
    rw [hq] at h
    obtain ⟨s, hs, e⟩ := List.exists_of_findSome?_eq_some hq
    cases s with
    | late y m =>
      have e : (if y = x then some m else none) = some n := e
      by_cases hy : y = x
      · rw [if_pos hy] at e
        have e := Option.some.inj e
        subst e
        have := hp y m hs
        simp at h
        omega
      · rw [if_neg hy] at e
        cases e
    | safe y => exact nomatch (show (none : Option Nat) = some n from e)
    | member y z => exact nomatch (show (none : Option Nat) = some n from e)
    | send q => exact nomatch (show (none : Option Nat) = some n from e)
theorem Fits.lates {ns : List Node} {l : List Setting} (h : Fits ns l) : ∀ y n, Setting.late y n ∈ l → 1 ≤ n := by
  induction h with
  | nil => intro y n h; cases h
  | @snoc l s _ ok ih =>
    intro y n h
    rcases List.mem_append.mp h with h | h
    · exact ih y n h
    · rw [List.mem_singleton] at h
      subst h
      exact ok.2.2.1
theorem late_new {d : Desk} {x v : Nat} (g : Good d) (h : d.late x = 0) : (addSet d (.late x v)).late x = v := by
  rw [late_add, late_none h g.fits.lates]
  show ((none : Option Nat).or (if x = x then some v else none)).getD 0 = v
  rw [if_pos rfl]
  rfl
end Md
namespace Mx
open PySem PySem.Spec PyProof.Rows L2
theorem set_range {α : Type} {n x : Nat} {f g : Nat → α} (h : ∀ i, i ≠ x → g i = f i) : ((List.range n).map f).set x (g x) = (List.range n).map g := by
  apply List.ext_getElem?
  intro i
  rw [List.getElem?_set]
  by_cases e : x = i
  · subst e
    rw [if_pos rfl, List.length_map, List.length_range]
    by_cases hi : x < n
    · rw [if_pos hi, List.getElem?_map, List.getElem?_range hi]
      rfl
    · rw [if_neg hi, List.getElem?_map, List.getElem?_eq_none (by rw [List.length_range]; omega)]
      rfl
  · rw [if_neg e, List.getElem?_map, List.getElem?_map]
    by_cases hi : i < n
    · rw [List.getElem?_range hi]
      show some (f i) = some (g i)
      rw [h i (fun z => e z.symm)]
    · rw [List.getElem?_eq_none (by rw [List.length_range]; omega)]
      rfl
theorem at_range {α : Type} {n x : Nat} {f : Nat → α} (h : x < n) : ((List.range n).map f)[x]? = some (f x) := by
  rw [List.getElem?_map, List.getElem?_range h]
  rfl
theorem ix_nat {n x : Nat} (h : x < n) : ixN n (x : Int) = some x := by
  unfold ixN
  rw [if_pos (by omega), if_pos (by omega)]
  simp
structure SixNe (A : DA) : Prop where
  kn : A.k ≠ A.n
  ks : A.k ≠ A.s
  kl : A.k ≠ A.l
  km : A.k ≠ A.m
  kq : A.k ≠ A.q
  ns : A.n ≠ A.s
  nl : A.n ≠ A.l
  nm : A.n ≠ A.m
  nq : A.n ≠ A.q
  sl : A.s ≠ A.l
  sm : A.s ≠ A.m
  sq : A.s ≠ A.q
  lm : A.l ≠ A.m
  lq : A.l ≠ A.q
  mq : A.m ≠ A.q
theorem six_ne {A : DA} (h : A.six.Nodup) : SixNe A := by
  unfold DA.six at h
  simp only [List.nodup_cons, List.mem_cons, List.not_mem_nil, or_false, not_or, not_false_eq_true, List.nodup_nil, and_true] at h
  obtain ⟨⟨a1, a2, a3, a4, a5⟩, ⟨b1, b2, b3, b4⟩, ⟨c1, c2, c3⟩, ⟨d1, d2⟩, e1⟩ := h
  exact ⟨a1, a2, a3, a4, a5, b1, b2, b3, b4, c1, c2, c3, d1, d2, e1⟩
section
variable {cD cS : Addr} {H H' : Hp} {dk : Addr} {A : DA} {d d' : Mix.Desk}
theorem DeskAt.nms (D : DeskAt cD cS H dk A d) (k : Keeps A.six H H') {as : List Addr} {ns : List Mix.Node} (p : Paired (fun x (nd : Mix.Node) => H x = some (.lst (vB nd.name)) ∧ x ∉ A.six) as ns) : Paired (fun x (nd : Mix.Node) => H' x = some (.lst (vB nd.name)) ∧ x ∉ A.six) as ns :=
  Paired.memP p fun x _ y e => ⟨k _ _ e.1 e.2, e.2⟩
theorem DeskAt.mms (D : DeskAt cD cS H dk A d) (k : Keeps A.six H H') {as : List Addr} {ns : List (Nat × Nat)} (p : Paired (fun x (p : Nat × Nat) => H x = some (.tup [.int (p.1 : Nat), .int (p.2 : Nat)])) as ns) : Paired (fun x (p : Nat × Nat) => H' x = some (.tup [.int (p.1 : Nat), .int (p.2 : Nat)])) as ns :=
  Paired.memP p fun x _ y e => k _ _ e fun m => by
    obtain ⟨xs, z⟩ := D.out x m
    rw [z] at e
    cases e
theorem DeskAt.sms (D : DeskAt cD cS H dk A d) (k : Keeps A.six H H') {as : List Addr} {ns : List Mix.Send} (p : Paired (fun x (s : Mix.Send) => ∃ ds, H x = some (.ins cS ds (sdF s))) as ns) : Paired (fun x (s : Mix.Send) => ∃ ds, H' x = some (.ins cS ds (sdF s))) as ns :=
  Paired.memP p fun x _ y ⟨ds, e⟩ => ⟨ds, k _ _ e fun m => by
    obtain ⟨xs, z⟩ := D.out x m
    rw [z] at e
    cases e⟩
theorem DeskAt.setSafe (D : DeskAt cD cS H dk A d) {x : Nat} : DeskAt cD cS (upd H A.s (.lst (((List.range d.size).map fun i => V.int (pI (d.isSafe i))).set x (.int 1)))) dk A (Md.addSet d (.safe x)) := by
  have n := six_ne D.nd
  have k : Keeps A.six H (upd H A.s (.lst (((List.range d.size).map fun i => V.int (pI (d.isSafe i))).set x (.int 1)))) := Keeps.set (by simp [DA.six])
  obtain ⟨dd, h1⟩ := D.obj
  obtain ⟨as, h3, h4⟩ := D.names
  obtain ⟨ms, h7, h8⟩ := D.mem
  obtain ⟨ss, h9, h10⟩ := D.snd
  refine ⟨⟨dd, k _ _ h1 D.dkNot⟩, by rw [upd_ne n.ks]; exact D.kinds, ⟨as, by rw [upd_ne n.ns]; exact h3, D.nms k h4⟩, ?_, ?_, ⟨ms, by rw [upd_ne (Ne.symm n.sm)]; exact h7, ?_⟩, ⟨ss, by rw [upd_ne (Ne.symm n.sq)]; exact h9, ?_⟩, D.nd⟩
  · rw [upd_same]
    have e := set_range (n := d.size) (x := x) (f := fun i => V.int (pI (d.isSafe i))) (g := fun i => V.int (pI ((Md.addSet d (.safe x)).isSafe i))) (fun i hi => by
      rw [Md.isSafe_add]
      have : (x == i) = false := by simpa using Ne.symm hi
      simp [Md.safeIn, this])
    have e1 : V.int (pI ((Md.addSet d (.safe x)).isSafe x)) = .int 1 := by
      rw [Md.isSafe_add]
      simp [pI, Md.safeIn]
    rw [e1] at e
    rw [e]
    rfl
  · rw [upd_ne (Ne.symm n.sl)]
    rw [D.late]
    congr 2
    refine List.map_congr_left fun i _ => ?_
    rw [Md.late_other rfl]
  · have : mems (Md.addSet d (.safe x)) = mems d := by
      unfold mems Md.addSet
      rw [List.filterMap_append]
      simp [memberIn]
    rw [this]
    exact D.mms k h8
  · rw [Md.sends_add, show (Mix.sendIn (.safe x)).toList = [] from rfl, List.append_nil]
    exact D.sms k h10
theorem DeskAt.setLate (D : DeskAt cD cS H dk A d) {x v : Nat} (g : Md.Good d) (h0 : d.late x = 0) : DeskAt cD cS (upd H A.l (.lst (((List.range d.size).map fun i => V.int ((d.late i : Nat) : Int)).set x (.int (v : Nat))))) dk A (Md.addSet d (.late x v)) := by
  have n := six_ne D.nd
  have k : Keeps A.six H (upd H A.l (.lst (((List.range d.size).map fun i => V.int ((d.late i : Nat) : Int)).set x (.int (v : Nat))))) := Keeps.set (by simp [DA.six])
  obtain ⟨dd, h1⟩ := D.obj
  obtain ⟨as, h3, h4⟩ := D.names
  obtain ⟨ms, h7, h8⟩ := D.mem
  obtain ⟨ss, h9, h10⟩ := D.snd
  refine ⟨⟨dd, k _ _ h1 D.dkNot⟩, by rw [upd_ne n.kl]; exact D.kinds, ⟨as, by rw [upd_ne n.nl]; exact h3, D.nms k h4⟩, ?_, ?_, ⟨ms, by rw [upd_ne (Ne.symm n.lm)]; exact h7, ?_⟩, ⟨ss, by rw [upd_ne (Ne.symm n.lq)]; exact h9, ?_⟩, D.nd⟩
  · rw [upd_ne n.sl, D.safe]
    congr 2
    refine List.map_congr_left fun i _ => ?_
    rw [Md.isSafe_add]
    simp [Md.safeIn]
  · rw [upd_same]
    have e := set_range (n := d.size) (x := x) (f := fun i => V.int ((d.late i : Nat) : Int)) (g := fun i => V.int (((Md.addSet d (.late x v)).late i : Nat) : Int)) (fun i hi => by
      rw [Md.late_other]
      show (if x = i then some v else none) = none
      rw [if_neg (Ne.symm hi)])
    rw [Md.late_new g h0] at e
    rw [e]
    rfl
  · have : mems (Md.addSet d (.late x v)) = mems d := by
      unfold mems Md.addSet
      rw [List.filterMap_append]
      simp [memberIn]
    rw [this]
    exact D.mms k h8
  · rw [Md.sends_add, show (Mix.sendIn (.late x v)).toList = [] from rfl, List.append_nil]
    exact D.sms k h10
end
end Mx
end
section
set_option Elab.async false
set_option linter.all false
set_option maxRecDepth 100000
set_option maxHeartbeats 1000000
namespace Mx
open PySem PySem.Spec PyProof.Rows L2
section
variable {P : Program} {w : World} {K : PySem.W.Frag} {mg : Str → Option Value} {base : Heap} {a : AD} {b : Mix.Bytes}
theorem DeskAt.rNot {cD cS cR : Addr} {H : Hp} {dk r : Addr} {A : DA} {d : Mix.Desk} {p wp : Nat} (D : DeskAt cD cS H dk A d) (rd : RdAt K cR H b r p wp) : r ∉ A.six := fun m => by
  obtain ⟨dr, t, h1, _⟩ := rd
  obtain ⟨xs, e⟩ := D.out r m
  rw [h1] at e
  cases e
theorem RdAt.keep6 {cD cS cR : Addr} {H H' : Hp} {dk r : Addr} {A : DA} {d : Mix.Desk} {p wp : Nat} (rd : RdAt K cR H b r p wp) (D : DeskAt cD cS H dk A d) (k : Keeps A.six H H') : RdAt K cR H' b r p wp := by
  have nr := D.rNot rd
  obtain ⟨dr, t, h1, h2, h4, h5⟩ := rd
  refine ⟨dr, t, k _ _ h1 nr, h2.keep fun o u e => k _ _ e fun m => ?_, h4, h5⟩
  obtain ⟨xs, z⟩ := D.out t m
  rw [z] at e
  cases e
def spLine (K : PySem.W.Frag) (a : AD) (b : Mix.Bytes) (f : Mix.Desk → Nat → Nat → Except Mix.Fault (Mix.Desk × Nat)) : Sp := fun vs H Q E => ∃ r dk p wp A d, vs = [.ref r, .ref dk] ∧ RdAt K a.c_zy H b r p wp ∧ DkAt a H dk A d ∧ Md.Good d ∧ d.nodes.length + d.settings.length ≤ p ∧
  (∀ res, f d wp p = .ok res → ∀ (H' : Hp) (wq : Nat), RdAt K a.c_zy H' b r res.2 wq → DkAt a H' dk A res.1 → Keeps (r :: A.six) H H' → Q .non H') ∧
  ∀ e, f d wp p = .error e → Rz K a (-6) [e.kind, e.place] E
theorem sm_new {H : Hp} {t : Addr} {o : HO} (h : H t = none) : Same H (upd H t o) := fun b u e => by rw [upd_ne (ne_of_none e h)]; exact e
theorem sc_zL : FnScope ["reader", "desk", "i"] ["reader", "desk"] (defScope s_zL) := ⟨rfl, rfl, rfl, by decide +kernel, rfl, by decide +kernel, by decide +kernel⟩
theorem ok_zL (T : Txt K mg a) : FnOk P w K mg base (CXr P w) 7 a.f_zL a.d_zL ["reader", "desk"] (spLine K a b fun d _ p => Md.mSafe b d p) := by
  have GT := ok_zf (P := P) (w := w) (base := base) (b := b) T
  have GF := ok_zm (P := P) (w := w) (base := base) T
  refine T.F_zL.okR sc_zL (fun vs H Q E h => ?_) (fun cdv A outer s H vs Q E hr h => ?_)
  · obtain ⟨r, dk, p, wp, A, d, rfl, _⟩ := h
    rfl
  · obtain ⟨r, dk, p, wp, A', d, rfl, rd, D, g, hsz, k, ke⟩ := h
    have nd := sc_zL.nd
    refine ⟨_, pss_cons (ps_set (i := 2) nd rfl (Or.inl rfl) (pe_call GT hr rfl T.g_zf T.F_zf.kp T.B_zf .nil passes_r (pa_cons (pv 0) (pa_cons (pv 1) (pa_cons (pe_tup (pa_cons (gint T.i_IN) (pa_cons (gint T.i_BUS) (pa_cons (gint T.i_OUT) pa_nil)))) pa_nil)))))
      (pss_cons (ps_if (pt_cmpR op_eq (pe_ix ix_list (pe_fld (pv 1) rfl) (pv 2) (fun _ _ => rfl)) pe_int (nomark _))
        (pss_one (ps_raise (pe_makeX T.K_zZ GF (hr.mono (by decide)) rfl T.g_zZ T.B_zm pass0 (pa_cons (gint T.i_zcb) (pa_cons (pe_fld (pv 0) rfl) pa_nil))) rfl throws_r)) pss_nil)
      (pss_one (ps_asg pe_int (pg_sub (pe_fld (pv 1) rfl) (pv 2) set_list)))), ?_⟩
    refine ⟨_, rfl, _, rfl, (by show 3 ≤ sizeLine; decide), fun t ht => ?_⟩
    have s0 : Same H (upd H t (.tup [.int 0, .int 1, .int 2])) := sm_new ht
    have rd0 := rd.same s0
    have D0 := D.same s0
    have ntr : t ≠ r := fun z => by obtain ⟨_, _, e, _⟩ := rd; rw [← z, ht] at e; cases e
    refine ⟨r, dk, t, p, wp, A', d, [0, 1, 2], rfl, rd0, D0, SqT.of upd_same, ntr, fun res hres H1 rd1 k1 => ?_, fun e he => ke e (by show Md.mSafe b d p = _; unfold Md.mSafe; rw [he])⟩
    obtain ⟨m1, m2, m3, m4, m5, _⟩ := Md.mTold_ok hres
    have hx : res.1 < d.size := Md.kind_lt (Nat.lt_succ_of_lt (Md.mem3 m5))
    have D1 := D0.keepRd rd0 k1
    obtain ⟨dd, o1⟩ := D1.obj
    have e1 : Md.mSafe b d p = if d.isSafe res.1 = true then .error ⟨3, res.2.1⟩ else .ok (Md.addSet d (.safe res.1), res.2.2) := by
      unfold Md.mSafe
      rw [hres]
    refine ⟨_, rfl, dk, _, dd, _, _, rfl, o1, T.C_Desk, T.N_zyb, dk_safe A', _, rfl, A'.s, _, _, _, rfl, rfl, SqL.of D1.safe, atI_nat (at_range hx), rfl, _, rfl, ?_⟩
    cases hs : d.isSafe res.1 with
    | true =>
      rw [hs, if_pos rfl] at e1
      obtain ⟨dr1, t1, g1, _⟩ := rd1
      rw [decide_eq_true (show V.int (pI true) = V.int 1 from rfl)]
      exact iteT ⟨_, rfl, r, _, dr1, _, _, rfl, g1, T.C_zy, T.N_z4, rdF_word _ _ _, fault_go T (ke _ e1)⟩
    | false =>
      rw [hs, if_neg Bool.false_ne_true] at e1
      rw [decide_eq_false (show ¬ V.int (pI false) = V.int 1 by decide)]
      refine iteF ⟨_, rfl, dk, _, dd, _, _, rfl, o1, T.C_Desk, T.N_zyb, dk_safe A', _, rfl, A'.s, _, _, res.1, rfl, rfl, D1.safe, ?_, ?_⟩
      · rw [List.length_map, List.length_range]
        exact ix_nat hx
      · have k6 : Keeps A'.six H1 (upd H1 A'.s (.lst (((List.range d.size).map fun i => V.int (pI (d.isSafe i))).set res.1 (.int 1)))) := Keeps.set (by simp [DA.six])
        refine k _ e1 _ _ (rd1.keep6 D1 k6) D1.setSafe (((Same.keeps s0).trans (k1.mono (by simp))).trans (k6.mono fun b hb => List.mem_cons_of_mem _ hb))
theorem sc_zM : FnScope ["reader", "desk", "i"] ["reader", "desk"] (defScope s_zM) := ⟨rfl, rfl, rfl, by decide +kernel, rfl, by decide +kernel, by decide +kernel⟩
theorem ok_zM (T : Txt K mg a) : FnOk P w K mg base (CXr P w) 7 a.f_zM a.d_zM ["reader", "desk"] (spLine K a b fun d _ p => Md.mLate b d p) := by
  have GT := ok_zf (P := P) (w := w) (base := base) (b := b) T
  have GN := ok_zr (P := P) (w := w) (base := base) (b := b) T
  have GF := ok_zm (P := P) (w := w) (base := base) T
  refine T.F_zM.okR sc_zM (fun vs H Q E h => ?_) (fun cdv A outer s H vs Q E hr h => ?_)
  · obtain ⟨r, dk, p, wp, A, d, rfl, _⟩ := h
    rfl
  · obtain ⟨r, dk, p, wp, A', d, rfl, rd, D, g, hsz, k, ke⟩ := h
    have nd := sc_zM.nd
    refine ⟨_, pss_cons (ps_set (i := 2) nd rfl (Or.inl rfl) (pe_call GT hr rfl T.g_zf T.F_zf.kp T.B_zf .nil passes_r (pa_cons (pv 0) (pa_cons (pv 1) (pa_cons (pe_tup (pa_cons (gint T.i_IN) (pa_cons (gint T.i_BUS) (pa_cons (gint T.i_OUT) pa_nil)))) pa_nil)))))
      (pss_cons (ps_if (pt_cmpR op_ne (pe_ix ix_list (pe_fld (pv 1) rfl) (pv 2) (fun _ _ => rfl)) pe_int (nomark _))
        (pss_one (ps_raise (pe_makeX T.K_zZ GF (hr.mono (by decide)) rfl T.g_zZ T.B_zm pass0 (pa_cons (gint T.i_zcb) (pa_cons (pe_fld (pv 0) rfl) pa_nil))) rfl throws_r)) pss_nil)
      (pss_one (ps_asg (pe_call GN (hr.mono (by decide)) rfl T.g_zr T.F_zr.kp T.B_zr .nil passes_r (pa_cons (pv 0) (pa_cons (gint T.i_zxb) (pa_cons (gint T.i_zEb) pa_nil)))) (pg_sub (pe_fld (pv 1) rfl) (pv 2) set_list)))), ?_⟩
    refine ⟨_, rfl, _, rfl, (by show 3 ≤ sizeLine; decide), fun t ht => ?_⟩
    have s0 : Same H (upd H t (.tup [.int 0, .int 1, .int 2])) := sm_new ht
    have rd0 := rd.same s0
    have D0 := D.same s0
    have ntr : t ≠ r := fun z => by obtain ⟨_, _, e, _⟩ := rd; rw [← z, ht] at e; cases e
    refine ⟨r, dk, t, p, wp, A', d, [0, 1, 2], rfl, rd0, D0, SqT.of upd_same, ntr, fun res hres H1 rd1 k1 => ?_, fun e he => ke e (by show Md.mLate b d p = _; unfold Md.mLate; rw [he])⟩
    obtain ⟨m1, m2, m3, m4, m5, _⟩ := Md.mTold_ok hres
    have hx : res.1 < d.size := Md.kind_lt (Nat.lt_succ_of_lt (Md.mem3 m5))
    have D1 := D0.keepRd rd0 k1
    obtain ⟨dd, o1⟩ := D1.obj
    have e1 : Md.mLate b d p = if d.late res.1 ≠ 0 then .error ⟨3, res.2.1⟩ else match Md.mNum b 1 63 res.2.2 with
        | .error e => .error e
        | .ok n => .ok (Md.addSet d (.late res.1 n.1), n.2) := by
      unfold Md.mLate
      rw [hres]
      all_goals rfl
    refine ⟨_, rfl, dk, _, dd, _, _, rfl, o1, T.C_Desk, T.N_zCb, dk_late A', _, rfl, A'.l, _, _, _, rfl, rfl, SqL.of D1.late, atI_nat (at_range hx), rfl, _, rfl, ?_⟩
    by_cases hl : d.late res.1 = 0
    · rw [decide_eq_true (show V.int ((d.late res.1 : Nat) : Int) = V.int 0 by rw [hl]; rfl)]
      rw [if_neg (fun z => z hl)] at e1
      refine iteF ⟨_, rfl, r, _, _, 1, 63, rfl, rd1, fun n hn H2 wq rd2 k2 => ?_, fun e he => ke e (by show Md.mLate b d p = _; rw [e1, he])⟩
      rw [hn] at e1
      have D2 := D1.keepRd rd1 k2
      obtain ⟨dd2, o2⟩ := D2.obj
      refine ⟨_, rfl, dk, _, dd2, _, _, rfl, o2, T.C_Desk, T.N_zCb, dk_late A', _, rfl, A'.l, _, _, res.1, rfl, rfl, D2.late, ?_, ?_⟩
      · rw [List.length_map, List.length_range]
        exact ix_nat hx
      · have k6 : Keeps A'.six H2 (upd H2 A'.l (.lst (((List.range d.size).map fun i => V.int ((d.late i : Nat) : Int)).set res.1 (.int (n.1 : Nat))))) := Keeps.set (by simp [DA.six])
        refine k _ e1 _ _ (rd2.keep6 D2 k6) (D2.setLate g hl) ((((Same.keeps s0).trans (k1.mono (by simp))).trans (k2.mono (by simp))).trans (k6.mono fun b hb => List.mem_cons_of_mem _ hb))
    · rw [decide_eq_false (show ¬ V.int ((d.late res.1 : Nat) : Int) = V.int 0 from fun z => hl (by have := V.int.inj z; omega))]
      rw [if_pos hl] at e1
      obtain ⟨dr1, t1, g1, _⟩ := rd1
      exact iteT ⟨_, rfl, r, _, dr1, _, _, rfl, g1, T.C_zy, T.N_z4, rdF_word _ _ _, fault_go T (ke _ e1)⟩
end
end Mx
end
section
set_option Elab.async false
set_option linter.all false
set_option maxRecDepth 100000
set_option maxHeartbeats 1000000
namespace Mx
open PySem PySem.Spec PyProof.Rows L2
def dP (p : Nat × Nat) : PyData := .tuple [.int (p.1 : Nat), .int (p.2 : Nat)]
theorem dP_lay (p : Nat × Nat) : (dP p).canLay0 = true := by
  unfold dP
  simp [PyData.canLay0, PyData.canLayAll0]
theorem dP_depth (p : Nat × Nat) : (dP p).depth ≤ 64 := by
  unfold dP
  simp [PyData.depth, PyData.depthAll]
theorem eqv_dP (p q : Nat × Nat) : PyData.eqv (dP p) (dP q) = (p.1 == q.1 && p.2 == q.2) := by
  unfold dP
  simp only [PyData.eqv, PyData.eqvAll, Bool.and_true]
  congr 1
  · rw [Bool.beq_eq_decide_eq, Bool.beq_eq_decide_eq]
    exact decide_eq_decide.mpr (by omega)
  · rw [Bool.beq_eq_decide_eq, Bool.beq_eq_decide_eq]
    exact decide_eq_decide.mpr (by omega)
theorem lay_pairs : ∀ l : List (Nat × Nat), PyData.canLayAll0 (l.map dP) = true
  | [] => rfl
  | x :: r => by
    rw [List.map_cons, PyData.canLayAll0, dP_lay, lay_pairs r]
    rfl
theorem pairs_dp {K : PySem.W.Frag} {H : Hp} : ∀ {as : List Addr} {ns : List (Nat × Nat)}, Paired (fun x (p : Nat × Nat) => H x = some (.tup [.int (p.1 : Nat), .int (p.2 : Nat)])) as ns → DpAll K H (as.map V.ref) (ns.map dP)
  | _, _, .nil => .nil
  | _, _, .cons r t => .cons (.tup (SqT.of r) (.cons (.int _) (.cons (.int _) .nil))) (pairs_dp t)
theorem mems_any (d : Mix.Desk) (g x : Nat) : ((mems d).map dP).any (fun e => PyData.eqv e (dP (g, x))) = d.isMember g x := by
  rw [List.any_map, Md.isMember_eq]
  unfold mems
  rw [List.any_filterMap]
  congr 1
  funext s
  cases s with
  | member h y =>
    show PyData.eqv (dP (h, y)) (dP (g, x)) = _
    rw [eqv_dP]
    rfl
  | _ => rfl
theorem mems_add (d : Mix.Desk) (g x : Nat) : mems (Md.addSet d (.member g x)) = mems d ++ [(g, x)] := by
  unfold mems Md.addSet
  rw [List.filterMap_append]
  rfl
theorem mems_len (d : Mix.Desk) : (mems d).length ≤ d.settings.length := List.length_filterMap_le _ _
theorem Paired.len {α β : Type} {R : α → β → Prop} : ∀ {xs : List α} {ys : List β}, Paired R xs ys → xs.length = ys.length
  | _, _, .nil => rfl
  | _, _, .cons _ t => by rw [List.length_cons, List.length_cons, Paired.len t]
theorem Paired.at {α β : Type} {R : α → β → Prop} : ∀ {xs : List α} {ys : List β} {i : Nat} {x : α}, Paired R xs ys → xs[i]? = some x → ∃ y, ys[i]? = some y ∧ R x y
  | _, _, _, _, .nil, h => by simp at h
  | _, _, 0, _, .cons r _, h => by
    simp at h
    subst h
    exact ⟨_, rfl, r⟩
  | _, _, i + 1, x, .cons _ t, h => by
    obtain ⟨y, h1, h2⟩ := Paired.at (i := i) (x := x) t (by simpa using h)
    exact ⟨y, by simpa using h1, h2⟩
section
variable {cD cS : Addr} {H H' : Hp} {dk : Addr} {A : DA} {d d' : Mix.Desk}
theorem DeskAt.addMember (D : DeskAt cD cS H dk A d) {g x : Nat} {t : Addr} {ms : List Addr} (hm : H A.m = some (.lst (ms.map V.ref))) (hp : Paired (fun x (p : Nat × Nat) => H x = some (.tup [.int (p.1 : Nat), .int (p.2 : Nat)])) ms (mems d))
    (ht : H t = some (.tup [.int (g : Nat), .int (x : Nat)])) : DeskAt cD cS (upd H A.m (.lst (ms.map V.ref ++ [.ref t]))) dk A (Md.addSet d (.member g x)) := by
  have n := six_ne D.nd
  have k : Keeps A.six H (upd H A.m (.lst (ms.map V.ref ++ [.ref t]))) := Keeps.set (by simp [DA.six])
  obtain ⟨dd, h1⟩ := D.obj
  obtain ⟨as, h3, h4⟩ := D.names
  obtain ⟨ss, h9, h10⟩ := D.snd
  refine ⟨⟨dd, k _ _ h1 D.dkNot⟩, by rw [upd_ne n.km]; exact D.kinds, ⟨as, by rw [upd_ne n.nm]; exact h3, D.nms k h4⟩, ?_, ?_, ⟨ms ++ [t], by rw [upd_same, List.map_append]; rfl, ?_⟩, ⟨ss, by rw [upd_ne (Ne.symm n.mq)]; exact h9, ?_⟩, D.nd⟩
  · rw [upd_ne n.sm, D.safe]
    congr 2
    refine List.map_congr_left fun i _ => ?_
    rw [Md.isSafe_add]
    simp [Md.safeIn]
  · rw [upd_ne n.lm, D.late]
    congr 2
    refine List.map_congr_left fun i _ => ?_
    rw [Md.late_other rfl]
  · rw [mems_add]
    refine Paired.snoc (D.mms k hp) ?_
    rw [upd_ne (ne_of ht hm (by intro z; cases z))]
    exact ht
  · rw [Md.sends_add, show (Mix.sendIn (.member g x)).toList = [] from rfl, List.append_nil]
    exact D.sms k h10
theorem DeskAt.addSend (D : DeskAt cD cS H dk A d) {s : Mix.Send} {t ds : Addr} {ss : List Addr} (hq : H A.q = some (.lst (ss.map V.ref))) (hp : Paired (fun x (s : Mix.Send) => ∃ ds, H x = some (.ins cS ds (sdF s))) ss d.sends)
    (ht : H t = some (.ins cS ds (sdF s))) : DeskAt cD cS (upd H A.q (.lst (ss.map V.ref ++ [.ref t]))) dk A (Md.addSet d (.send s)) := by
  have n := six_ne D.nd
  have k : Keeps A.six H (upd H A.q (.lst (ss.map V.ref ++ [.ref t]))) := Keeps.set (by simp [DA.six])
  obtain ⟨dd, h1⟩ := D.obj
  obtain ⟨as, h3, h4⟩ := D.names
  obtain ⟨ms, h7, h8⟩ := D.mem
  refine ⟨⟨dd, k _ _ h1 D.dkNot⟩, by rw [upd_ne n.kq]; exact D.kinds, ⟨as, by rw [upd_ne n.nq]; exact h3, D.nms k h4⟩, ?_, ?_, ⟨ms, by rw [upd_ne n.mq]; exact h7, ?_⟩, ⟨ss ++ [t], by rw [upd_same, List.map_append]; rfl, ?_⟩, D.nd⟩
  · rw [upd_ne n.sq, D.safe]
    congr 2
    refine List.map_congr_left fun i _ => ?_
    rw [Md.isSafe_add]
    simp [Md.safeIn]
  · rw [upd_ne n.lq, D.late]
    congr 2
    refine List.map_congr_left fun i _ => ?_
    rw [Md.late_other rfl]
  · have : mems (Md.addSet d (.send s)) = mems d := by
      unfold mems Md.addSet
      rw [List.filterMap_append]
      simp [memberIn]
    rw [this]
    exact D.mms k h8
  · rw [Md.sends_add, show (Mix.sendIn (.send s)).toList = [s] from rfl]
    refine Paired.snoc (D.sms k hp) ⟨ds, ?_⟩
    rw [upd_ne (ne_of ht hq (by intro z; cases z))]
    exact ht
end
section
variable {P : Program} {w : World} {K : PySem.W.Frag} {mg : Str → Option Value} {base : Heap} {a : AD} {b : Mix.Bytes}
theorem sc_zu : FnScope ["reader", "desk", "group", "i"] ["reader", "desk"] (defScope s_zu) := ⟨rfl, rfl, rfl, by decide +kernel, rfl, by decide +kernel, by decide +kernel⟩
theorem ok_zu (T : Txt K mg a) : FnOk P w K mg base (CXr P w) 7 a.f_zu a.d_zu ["reader", "desk"] (spLine K a b fun d _ p => Md.mMember b d p) := by
  have GT := ok_zf (P := P) (w := w) (base := base) (b := b) T
  have GF := ok_zm (P := P) (w := w) (base := base) T
  refine T.F_zu.okR sc_zu (fun vs H Q E h => ?_) (fun cdv A outer s H vs Q E hr h => ?_)
  · obtain ⟨r, dk, p, wp, A, d, rfl, _⟩ := h
    rfl
  · obtain ⟨r, dk, p, wp, A', d, rfl, rd, D, g, hsz, k, ke⟩ := h
    have nd := sc_zu.nd
    have hu : A.units + 3 + 16 * 6 + 200 < cLine := hr.un
    have hu' : A.units + 3 + 100 < cLine := by omega
    refine ⟨_, pss_cons (ps_set (i := 2) nd rfl (Or.inl rfl) (pe_call GT hr rfl T.g_zf T.F_zf.kp T.B_zf .nil passes_r (pa_cons (pv 0) (pa_cons (pv 1) (pa_cons (pe_tup (pa_cons (gint T.i_zSb) pa_nil)) pa_nil)))))
      (pss_cons (ps_set (i := 3) nd rfl (Or.inl rfl) (pe_call GT hr rfl T.g_zf T.F_zf.kp T.B_zf .nil passes_r (pa_cons (pv 0) (pa_cons (pv 1) (pa_cons (pe_tup (pa_cons (gint T.i_IN) (pa_cons (gint T.i_BUS) (pa_cons (gint T.i_OUT) pa_nil)))) pa_nil)))))
      (pss_cons (ps_if (pt_cmpR (op_inD hu') (pe_tup (pa_cons (pv 2) (pa_cons (pv 3) pa_nil))) (pe_fld (pv 1) rfl) (by with_unfolding_all rfl))
        (pss_one (ps_raise (pe_makeX T.K_zZ GF (hr.mono (by decide)) rfl T.g_zZ T.B_zm pass0 (pa_cons (gint T.i_zcb) (pa_cons (pe_fld (pv 0) rfl) pa_nil))) rfl throws_r)) pss_nil)
      (pss_one (ps_expr (pe_bm PySem.F.plainAttrs_list PySem.F.slot_list_append PySem.F.type_list_append mt_append (pe_fld (pv 1) rfl) (pa_cons (pe_tup (pa_cons (pv 2) (pa_cons (pv 3) pa_nil))) pa_nil)))))), ?_⟩
    refine ⟨_, rfl, _, rfl, (by show 1 ≤ sizeLine; decide), fun t ht => ?_⟩
    have s0 : Same H (upd H t (.tup [.int 3])) := sm_new ht
    have rd0 := rd.same s0
    have D0 := D.same s0
    have ntr : t ≠ r := fun z => by obtain ⟨_, _, e, _⟩ := rd; rw [← z, ht] at e; cases e
    refine ⟨r, dk, t, p, wp, A', d, [3], rfl, rd0, D0, SqT.of upd_same, ntr, fun gr hgr H1 rd1 k1 => ?_, fun e he => ke e (by show Md.mMember b d p = _; unfold Md.mMember; rw [he])⟩
    have D1 := D0.keepRd rd0 k1
    refine ⟨_, rfl, _, rfl, (by show 3 ≤ sizeLine; decide), fun t2 ht2 => ?_⟩
    have s2 : Same H1 (upd H1 t2 (.tup [.int 0, .int 1, .int 2])) := sm_new ht2
    have rd2 := rd1.same s2
    have D2 := D1.same s2
    have ntr2 : t2 ≠ r := fun z => by obtain ⟨_, _, e, _⟩ := rd1; rw [← z, ht2] at e; cases e
    refine ⟨r, dk, t2, _, _, A', d, [0, 1, 2], rfl, rd2, D2, SqT.of upd_same, ntr2, fun res hres H3 rd3 k3 => ?_, fun e he => ke e (by show Md.mMember b d p = _; unfold Md.mMember; rw [hgr]; dsimp only; rw [he])⟩
    have D3 := D2.keepRd rd2 k3
    have e1 : Md.mMember b d p = if d.isMember gr.1 res.1 = true then .error ⟨3, res.2.1⟩ else .ok (Md.addSet d (.member gr.1 res.1), res.2.2) := by
      unfold Md.mMember
      rw [hgr]
      dsimp only
      rw [hres]
    refine ⟨_, rfl, _, rfl, (by show 2 ≤ sizeLine; decide), fun t4 ht4 => ?_⟩
    have s4 : Same H3 (upd H3 t4 (.tup [.int (gr.1 : Nat), .int (res.1 : Nat)])) := sm_new ht4
    have D4 := D3.same s4
    obtain ⟨dd, o1⟩ := D4.obj
    obtain ⟨ms, o2, o3⟩ := D4.mem
    refine ⟨_, rfl, dk, _, dd, _, _, rfl, o1, T.C_Desk, T.N_zkb, dk_members A', A'.m, _, _, dP (gr.1, res.1), rfl, SqL.of o2, pairs_dp o3, .tup (SqT.of upd_same) (.cons (.int _) (.cons (.int _) .nil)), lay_pairs _, dP_lay _, dP_depth _, _, rfl, ?_⟩
    show if (if false = true then _ else _) = true then _ else _
    rw [if_neg Bool.false_ne_true, mems_any]
    have rd4 := rd3.same s4
    cases hs : d.isMember gr.1 res.1 with
    | true =>
      rw [hs, if_pos rfl] at e1
      obtain ⟨dr1, t1, g1, _⟩ := rd4
      exact iteT ⟨_, rfl, r, _, dr1, _, _, rfl, g1, T.C_zy, T.N_z4, rdF_word _ _ _, fault_go T (ke _ e1)⟩
    | false =>
      rw [hs, if_neg Bool.false_ne_true] at e1
      refine iteF ⟨_, rfl, dk, _, dd, _, _, rfl, o1, T.C_Desk, T.N_zkb, dk_members A', .inl ⟨rfl, _, SqL.of o2⟩, _, rfl, _, rfl, (by show 2 ≤ sizeLine; decide), fun t5 ht5 => ?_⟩
      have s5 : Same (upd H3 t4 (.tup [.int (gr.1 : Nat), .int (res.1 : Nat)])) (upd (upd H3 t4 (.tup [.int (gr.1 : Nat), .int (res.1 : Nat)])) t5 (.tup [.int (gr.1 : Nat), .int (res.1 : Nat)])) := sm_new ht5
      have D5 := D4.same s5
      have rd5 := rd4.same s5
      have o3' : Paired (fun x (p : Nat × Nat) => (upd (upd H3 t4 (.tup [.int (gr.1 : Nat), .int (res.1 : Nat)])) t5 (.tup [.int (gr.1 : Nat), .int (res.1 : Nat)])) x = some (.tup [.int (p.1 : Nat), .int (p.2 : Nat)])) ms (mems d) := Paired.memP o3 fun x _ y e => s5 _ _ e
      refine ⟨A'.m, _, _, rfl, rfl, s5 _ _ o2, ?_, ?_⟩
      · have l1 := mems_len d
        have l2 := rd.choose_spec
        obtain ⟨_, _, _, l3, l4⟩ := l2
        rw [List.length_map, Paired.len o3, sizeLine_eq]
        omega
      · have k6 : Keeps A'.six (upd (upd H3 t4 (.tup [.int (gr.1 : Nat), .int (res.1 : Nat)])) t5 (.tup [.int (gr.1 : Nat), .int (res.1 : Nat)])) (upd (upd (upd H3 t4 (.tup [.int (gr.1 : Nat), .int (res.1 : Nat)])) t5 (.tup [.int (gr.1 : Nat), .int (res.1 : Nat)])) A'.m (.lst (ms.map V.ref ++ [.ref t5]))) := Keeps.set (by simp [DA.six])
        exact k _ e1 _ _ (rd5.keep6 D5 k6) (D5.addMember (s5 _ _ o2) o3' upd_same) (((((((Same.keeps s0).trans (k1.mono (by simp))).trans (Same.keeps s2)).trans (k3.mono (by simp))).trans (Same.keeps s4)).trans (Same.keeps s5)).trans (k6.mono fun b hb => List.mem_cons_of_mem _ hb))
def spBetween (a : AD) : Sp := fun vs H Q _ => ∃ dk A d x y, vs = [.ref dk, .int ((x : Nat) : Int), .int ((y : Nat) : Int)] ∧ DkAt a H dk A d ∧
  (∀ (i : Nat) (s : Mix.Send) (c ds : Addr), d.sends[i]? = some s → s.src = x → s.dst = y → H c = some (.ins a.c_Send ds (sdF s)) → (∀ j u, j < i → d.sends[j]? = some u → ¬ (u.src = x ∧ u.dst = y)) → Q (.ref c) H) ∧ (Md.between d x y = false → Q .non H)
theorem sc_zd : FnScope ["self", "sender", "target", "told"] ["self", "sender", "target"] (defScope s_zd) := ⟨rfl, rfl, rfl, by decide +kernel, rfl, by decide +kernel, by decide +kernel⟩
theorem sd_sender (s : Mix.Send) : (sdF s).lookup ("sender" : Str) = some (.int s.src) := rfl
theorem sd_target (s : Mix.Send) : (sdF s).lookup ("target" : Str) = some (.int s.dst) := rfl
theorem sd_gain (s : Mix.Send) : (sdF s).lookup ("gain" : Str) = some (.int s.gain) := rfl
theorem sd_pre (s : Mix.Send) : (sdF s).lookup ("pre" : Str) = some (.int (pI s.pre)) := rfl
theorem dec_nat (m n : Nat) : decide (V.int (m : Int) = V.int (n : Int)) = decide (m = n) := decide_eq_decide.mpr ⟨fun z => by have := V.int.inj z; omega, fun z => by rw [z]⟩
theorem ok_zd (T : Txt K mg a) : FnOk P w K mg base CX0 1 a.f_zd a.d_zd ["self", "sender", "target"] (spBetween a) := by
  refine T.F_zd.ok sc_zd (fun vs H Q E h => ?_) (fun cdv A outer s H vs Q E hr h => ?_)
  · obtain ⟨dk, A, d, x, y, rfl, _⟩ := h
    rfl
  · obtain ⟨dk, A', d, x, y, rfl, D, k1, k2⟩ := h
    have nd := sc_zd.nd
    obtain ⟨dd, o1⟩ := D.obj
    obtain ⟨ss, o2, o3⟩ := D.snd
    refine ⟨_, pss_cons (ps_for PassesOwn.never rfl (pi_list (pe_fld (pv 0) rfl)) (pg_name (i := 3) nd rfl (Or.inl rfl))
      (pss_one (ps_if (PW.pt (pw_and (pt_cmpR op_eq (pe_fld (pv 3) rfl) (pv 1) (nomark _)) (pw_and1 (pt_cmpR op_eq (pe_fld (pv 3) rfl) (pv 2) (nomark _))))) (pss_one (ps_ret (pv 3))) pss_nil))) (pss_one (ps_ret pe_non)), ?_⟩
    refine ⟨_, rfl, dk, _, dd, _, _, rfl, o1, T.C_Desk, T.N_zgb, dk_sends A', A'.q, rfl, ⟨_, SqL.of o2⟩, for_list (K := K) (a := A'.q) (xs := ss.map V.ref) (fun i σ H' => ∃ v : Option V, σ = [some (.ref dk), some (.int ((x : Nat) : Int)), some (.int ((y : Nat) : Int)), v] ∧ H' = H ∧ ∀ j u, j < i → d.sends[j]? = some u → ¬ (u.src = x ∧ u.dst = y))
      ⟨none, rfl, rfl, fun j u hj => by omega⟩ (fun i σ H' _ ⟨_, _, e, _⟩ => by rw [e]; exact SqL.of o2) ?_ ?_⟩
    · rintro i v σ H' hi ⟨v0, rfl, eH, hno⟩
      rw [eH]
      obtain ⟨c, hc, rfl⟩ : ∃ c, ss[i]? = some c ∧ v = V.ref c := by
        rw [List.getElem?_map] at hi
        cases e : ss[i]? with
        | none => rw [e] at hi; cases hi
        | some c => rw [e] at hi; exact ⟨c, rfl, (Option.some.inj hi).symm⟩
      obtain ⟨sd, hs, ds, hcc⟩ := Paired.at o3 hc
      have step : ¬ (sd.src = x ∧ sd.dst = y) → ∃ v : Option V, [some (V.ref dk), some (.int ((x : Nat) : Int)), some (.int ((y : Nat) : Int)), some (.ref c)] = [some (.ref dk), some (.int ((x : Nat) : Int)), some (.int ((y : Nat) : Int)), v] ∧ H = H ∧ ∀ j u, j < i + 1 → d.sends[j]? = some u → ¬ (u.src = x ∧ u.dst = y) := fun hn =>
        ⟨_, rfl, rfl, fun j u hj hu => by
          by_cases e : j = i
          · subst e
            rw [hs] at hu
            cases hu
            exact hn
          · exact hno j u (by omega) hu⟩
      refine ⟨_, rfl, c, _, ds, _, _, rfl, hcc, T.C_Send, T.N_zdb, sd_sender sd, _, rfl, rfl, _, rfl, ?_⟩
      rw [dec_nat]
      by_cases e1 : sd.src = x
      · rw [decide_eq_true e1]
        refine iteT ⟨_, rfl, c, _, ds, _, _, rfl, hcc, T.C_Send, T.N_zib, sd_target sd, _, rfl, rfl, _, rfl, ?_⟩
        rw [dec_nat]
        by_cases e2 : sd.dst = y
        · rw [decide_eq_true e2]
          exact iteT ⟨_, rfl, k1 i sd c ds hs e1 e2 hcc hno⟩
        · rw [decide_eq_false e2]
          exact iteF (step fun z => e2 z.2)
      · rw [decide_eq_false e1]
        exact iteF (iteF (step fun z => e1 z.1))
    · rintro σ H' ⟨v0, rfl, eH, hno⟩
      rw [eH]
      refine k2 ?_
      unfold Md.between
      rw [List.any_eq_false]
      intro u hu
      obtain ⟨j, hj⟩ := List.mem_iff_getElem?.mp hu
      have hjl : j < (ss.map V.ref).length := by
        rw [List.length_map, Paired.len o3]
        exact (List.getElem?_eq_some_iff.mp hj).1
      have := hno j u hjl hj
      intro z
      rw [Bool.and_eq_true, beq_iff_eq, beq_iff_eq] at z
      exact this z
end
end Mx
end
section
set_option Elab.async false
set_option linter.all false
set_option maxRecDepth 100000
set_option maxHeartbeats 1000000
namespace Mx
open PySem PySem.Spec PyProof.Rows L2
section
variable {P : Program} {w : World} {K : PySem.W.Frag} {mg : Str → Option Value} {base : Heap} {a : AD} {b : Mix.Bytes}
theorem sc_zN : FnScope ["reader", "desk", "sender", "target", "gain"] ["reader", "desk"] (defScope s_zN) := ⟨rfl, rfl, rfl, by decide +kernel, rfl, by decide +kernel, by decide +kernel⟩
theorem ok_zN (T : Txt K mg a) : FnOk P w K mg base (CXr P w) 7 a.f_zN a.d_zN ["reader", "desk"] (spLine K a b fun d wp p => Md.mSend b d wp p) := by
  have GT := ok_zf (P := P) (w := w) (base := base) (b := b) T
  have GN := ok_zr (P := P) (w := w) (base := base) (b := b) T
  have GP := ok_zQ (P := P) (w := w) (base := base) (b := b) T
  have GB := ok_zd (P := P) (w := w) (base := base) T
  have GS := ok_zH (P := P) (w := w) (base := base) T
  have GF := ok_zm (P := P) (w := w) (base := base) T
  refine T.F_zN.okR sc_zN (fun vs H Q E h => ?_) (fun cdv A outer s H vs Q E hr h => ?_)
  · obtain ⟨r, dk, p, wp, A, d, rfl, _⟩ := h
    rfl
  · obtain ⟨r, dk, p, wp, A', d, rfl, rd, D, g, hsz, k, ke⟩ := h
    have nd := sc_zN.nd
    have k : ∀ res, Md.mSend b d wp p = .ok res → ∀ (H' : Hp) (wq : Nat), RdAt K a.c_zy H' b r res.2 wq → DkAt a H' dk A' res.1 → Keeps (r :: A'.six) H H' → Q .non H' := k
    have ke : ∀ e, Md.mSend b d wp p = .error e → Rz K a (-6) [e.kind, e.place] E := ke
    refine ⟨_, pss_cons (ps_if (pt_cmpR op_ge (pe_callB call_len_seq (by rfl) T.b_len PySem.boot_len (pa_cons (pe_fld (pv 1) rfl) pa_nil)) (gint T.i_zwb) (nomark _))
        (pss_one (ps_raise (pe_makeX T.K_zZ GF (hr.mono (by decide)) rfl T.g_zZ T.B_zm pass0 (pa_cons (gint T.i_zFb) (pa_cons (pe_fld (pv 0) rfl) pa_nil))) rfl throws_r)) pss_nil)
      (pss_cons (ps_set (i := 2) nd rfl (Or.inl rfl) (pe_call GT hr rfl T.g_zf T.F_zf.kp T.B_zf .nil passes_r (pa_cons (pv 0) (pa_cons (pv 1) (pa_cons (pe_tup (pa_cons (gint T.i_IN) (pa_cons (gint T.i_BUS) pa_nil))) pa_nil)))))
      (pss_cons (ps_set (i := 3) nd rfl (Or.inl rfl) (pe_call GT hr rfl T.g_zf T.F_zf.kp T.B_zf .nil passes_r (pa_cons (pv 0) (pa_cons (pv 1) (pa_cons (pe_tup (pa_cons (gint T.i_BUS) (pa_cons (gint T.i_OUT) pa_nil))) pa_nil)))))
      (pss_cons (ps_if (PW.pt (pw_or (pt_cmpR op_le (pv 3) (pv 2) (nomark _)) (pw_or1 (pt_cmpR op_notN (pe_meth (pv 1) T.C_Desk T.M_zd GB (hr.mono (by decide)) T.B_zd .nil pass0 (pa_cons (pv 2) (pa_cons (pv 3) pa_nil))) pe_non (nomark _)))))
        (pss_one (ps_raise (pe_makeX T.K_zZ GF (hr.mono (by decide)) rfl T.g_zZ T.B_zm pass0 (pa_cons (gint T.i_zcb) (pa_cons (pe_fld (pv 0) rfl) pa_nil))) rfl throws_r)) pss_nil)
      (pss_cons (ps_set (i := 4) nd rfl (Or.inl rfl) (pe_call GN (hr.mono (by decide)) rfl T.g_zr T.F_zr.kp T.B_zr .nil passes_r (pa_cons (pv 0) (pa_cons pe_int (pa_cons (gint T.i_zsb) pa_nil)))))
      (pss_one (ps_expr (pe_bm PySem.F.plainAttrs_list PySem.F.slot_list_append PySem.F.type_list_append mt_append (pe_fld (pv 1) rfl)
        (pa_cons (pe_make T.K_Send GS (hr.mono (by decide)) rfl T.g_Send T.B_zH .nil pass0 (pa_cons (pv 2) (pa_cons (pv 3) (pa_cons (pv 4) (pa_cons (pe_call GP (hr.mono (by decide)) rfl T.g_zQ T.F_zQ.kp T.B_zQ .nil passes_r (pa_cons (pv 0) pa_nil)) pa_nil))))) pa_nil)))))))), ?_⟩
    obtain ⟨dd, o1⟩ := D.obj
    obtain ⟨ss, o2, o3⟩ := D.snd
    refine ⟨_, rfl, dk, _, dd, _, _, rfl, o1, T.C_Desk, T.N_zgb, dk_sends A', A'.q, _, rfl, .inl (SqL.of o2), _, _, rfl, rfl, _, rfl, ?_⟩
    rw [List.length_map, Paired.len o3, show decide ((48 : Int) ≤ (d.sends.length : Int)) = decide (48 ≤ d.sends.length) from decide_eq_decide.mpr (by omega)]
    by_cases h48 : 48 ≤ d.sends.length
    · rw [decide_eq_true h48]
      obtain ⟨dr, t, g1, _⟩ := rd
      exact iteT ⟨_, rfl, r, _, dr, _, _, rfl, g1, T.C_zy, T.N_z4, rdF_word _ _ _, fault_go T (ke ⟨4, wp⟩ (by unfold Md.mSend; rw [if_pos h48]))⟩
    · rw [decide_eq_false h48]
      refine iteF ⟨_, rfl, _, rfl, (by show 2 ≤ sizeLine; decide), fun t ht => ?_⟩
      have s0 : Same H (upd H t (.tup [.int 0, .int 1])) := sm_new ht
      have rd0 := rd.same s0
      have D0 := D.same s0
      have ntr : t ≠ r := fun z => by obtain ⟨_, _, e, _⟩ := rd; rw [← z, ht] at e; cases e
      refine ⟨r, dk, t, p, wp, A', d, [0, 1], rfl, rd0, D0, SqT.of upd_same, ntr, fun ra hra H1 rd1 k1 => ?_, fun e he => ke e (by unfold Md.mSend; rw [if_neg h48, he])⟩
      have D1 := D0.keepRd rd0 k1
      refine ⟨_, rfl, _, rfl, (by show 2 ≤ sizeLine; decide), fun t2 ht2 => ?_⟩
      have s2 : Same H1 (upd H1 t2 (.tup [.int 1, .int 2])) := sm_new ht2
      have rd2 := rd1.same s2
      have D2 := D1.same s2
      have ntr2 : t2 ≠ r := fun z => by obtain ⟨_, _, e, _⟩ := rd1; rw [← z, ht2] at e; cases e
      refine ⟨r, dk, t2, _, _, A', d, [1, 2], rfl, rd2, D2, SqT.of upd_same, ntr2, fun rx hrx H3 rd3 k3 => ?_, fun e he => ke e (by unfold Md.mSend; rw [if_neg h48, hra]; dsimp only; rw [he])⟩
      have D3 := D2.keepRd rd2 k3
      have e1 : Md.mSend b d wp p = if rx.1 ≤ ra.1 ∨ Md.between d ra.1 rx.1 = true then .error ⟨3, rx.2.1⟩ else match Md.mNum b 0 65535 rx.2.2 with
          | .error e => .error e
          | .ok g => match Md.mPre b g.2 with
            | .error e => .error e
            | .ok h => .ok (Md.addSet d (.send ⟨ra.1, rx.1, g.1, h.1⟩), h.2) := by
        unfold Md.mSend
        rw [if_neg h48, hra]
        dsimp only
        rw [hrx]
        all_goals rfl
      have kk3 : Keeps (r :: A'.six) H H3 := (((Same.keeps s0).trans (k1.mono (by simp))).trans (Same.keeps s2)).trans (k3.mono (by simp))
      have rd3' := rd3
      obtain ⟨dr3, t3, i1, i2, i4, i5⟩ := rd3'
      obtain ⟨dd3, p1⟩ := D3.obj
      have bad : ∀ {Dn : Ends}, rx.1 ≤ ra.1 ∨ Md.between d ra.1 rx.1 = true → (tRaise K E (tMakeX a.c_zZ (spFaultInit a) E0 (tCons (tC (.int 3)) (tCons (tFld K (tVar 0) "word_place") tNil)))) Dn [some (V.ref r), some (.ref dk), some (.int ((ra.1 : Nat) : Int)), some (.int ((rx.1 : Nat) : Int)), none] H3 := fun z => by
        rw [if_pos z] at e1
        exact ⟨_, rfl, r, _, dr3, _, _, rfl, i1, T.C_zy, T.N_z4, rdF_word _ _ _, fault_go T (ke _ e1)⟩
      refine ⟨_, rfl, _, rfl, _, _, rfl, rfl, _, rfl, ?_⟩
      rw [len_le]
      by_cases c1 : rx.1 ≤ ra.1
      · rw [decide_eq_true c1]
        exact iteT (iteT (bad (.inl c1)))
      · rw [decide_eq_false c1]
        refine iteF ⟨_, rfl, dk, dd3, _, rfl, p1, rfl, _, rfl, _, rfl, dk, A', d, ra.1, rx.1, rfl, D3, fun i sd c ds hs hs1 hs2 hc hno => ?_, fun hb => ?_⟩
        · refine ⟨rfl, _, rfl, ?_⟩
          rw [decide_eq_false (show ¬ V.ref c = .non from fun z => nomatch z)]
          refine iteT (bad (.inr ?_))
          unfold Md.between
          exact List.any_eq_true.mpr ⟨sd, List.mem_of_getElem? hs, by rw [hs1, hs2]; simp⟩
        · refine ⟨rfl, _, rfl, ?_⟩
          rw [decide_eq_true (show V.non = V.non from rfl)]
          rw [if_neg (fun z => z.elim c1 fun z => by rw [hb] at z; cases z)] at e1
          refine iteF ⟨_, rfl, r, _, _, 0, 65535, rfl, rd3, fun gn hgn H4 wq rd4 k4 => ?_, fun e he => ke e (by rw [e1, he])⟩
          rw [hgn] at e1
          dsimp only at e1
          have D4 := D3.keepRd rd3 k4
          obtain ⟨dd4, p2⟩ := D4.obj
          obtain ⟨ss4, q2, q3⟩ := D4.snd
          refine ⟨_, rfl, dk, _, dd4, _, _, rfl, p2, T.C_Desk, T.N_zgb, dk_sends A', .inl ⟨rfl, _, SqL.of q2⟩, _, rfl, _, rfl, _, rfl, _, rfl, r, _, _, rfl, rd4, fun pr hpr H5 wq5 rd5 k5 => ?_, fun e he => ke e (by rw [e1, he])⟩
          rw [hpr] at e1
          dsimp only at e1
          have D5 := D4.keepRd rd4 k5
          intro x dx nx ndx nex
          refine ⟨x, dx, ⟨ra.1, rx.1, gn.1, pr.1⟩, rfl, upd_same, rfl, ?_⟩
          rw [upd_upd]
          have s6 : Same H5 (upd (upd H5 dx (.own x)) x (.ins a.c_Send dx (sdF ⟨ra.1, rx.1, gn.1, pr.1⟩))) := fun b o e => by
            rw [upd_ne (ne_of_none e nx), upd_ne (ne_of_none e ndx)]
            exact e
          have D6 := D5.same s6
          have rd6 := rd5.same s6
          obtain ⟨ss6, u2, u3⟩ := D6.snd
          refine ⟨A'.q, _, _, rfl, rfl, u2, ?_, ?_⟩
          · rw [List.length_map, Paired.len u3, sizeLine_eq]
            omega
          · have k7 : Keeps A'.six (upd (upd H5 dx (.own x)) x (.ins a.c_Send dx (sdF ⟨ra.1, rx.1, gn.1, pr.1⟩))) (upd (upd (upd H5 dx (.own x)) x (.ins a.c_Send dx (sdF ⟨ra.1, rx.1, gn.1, pr.1⟩))) A'.q (.lst (ss6.map V.ref ++ [.ref x]))) := Keeps.set (by simp [DA.six])
            exact k _ e1 _ _ (rd6.keep6 D6 k7) (D6.addSend u2 u3 upd_same) ((((kk3.trans (k4.mono (by simp))).trans (k5.mono (by simp))).trans (Same.keeps s6)).trans (k7.mono fun b hb => List.mem_cons_of_mem _ hb))
end
end Mx
end
section
set_option Elab.async false
set_option linter.all false
set_option maxRecDepth 100000
set_option maxHeartbeats 1000000
namespace Mx
open PySem PySem.Spec PyProof.Rows L2
theorem count_kinds (l : List Mix.Node) (k : Nat) : (l.map fun n => (n.kind : Int)).count (k : Int) = (l.filter fun n => n.kind == k).length := by
  induction l with
  | nil => rfl
  | cons x l ih =>
    rw [List.map_cons, List.count_cons, ih, List.filter_cons]
    by_cases e : x.kind = k
    · rw [if_pos (by rw [e]; simp), if_pos (by rw [e]; simp)]
      rfl
    · rw [if_neg (by simp; omega), if_neg (by simpa using e)]
      rfl
theorem most_at {k : Nat} (h : k ≤ 3) : atI ([.int 8, .int 8, .int 4, .int 4] : List V) (k : Int) = some (.int (Mix.most k : Nat)) := by
  refine atI_nat ?_
  match k, h with
  | 0, _ => rfl
  | 1, _ => rfl
  | 2, _ => rfl
  | 3, _ => rfl
theorem kind_ix {w : Mix.Bytes} {k : Nat} (h : Mix.kindOf w = some k) : (∃ z, (nodeWords.map fun x => dI (sB x))[k]? = some z ∧ PyData.eqv z (dI (iB w)) = true) ∧ ∀ (m : Nat) (z : PyData), m < k → (nodeWords.map fun x => dI (sB x))[m]? = some z → PyData.eqv z (dI (iB w)) = false := by
  unfold Mix.kindOf at h
  have e0 : PyData.eqv (dI (sB "in")) (dI (iB w)) = decide (w = Mix.ascii "in") := by rw [eqv_dI, dec_sB sb_in]
  have e1 : PyData.eqv (dI (sB "bus")) (dI (iB w)) = decide (w = Mix.ascii "bus") := by rw [eqv_dI, dec_sB sb_bus]
  have e2 : PyData.eqv (dI (sB "out")) (dI (iB w)) = decide (w = Mix.ascii "out") := by rw [eqv_dI, dec_sB sb_out]
  have e3 : PyData.eqv (dI (sB "group")) (dI (iB w)) = decide (w = Mix.ascii "group") := by rw [eqv_dI, dec_sB sb_group]
  by_cases h1 : w = Mix.ascii "in"
  · rw [if_pos h1] at h
    cases h
    exact ⟨⟨_, rfl, by rw [e0]; exact decide_eq_true h1⟩, fun m z hm => by omega⟩
  · rw [if_neg h1] at h
    by_cases h2 : w = Mix.ascii "bus"
    · rw [if_pos h2] at h
      cases h
      refine ⟨⟨_, rfl, by rw [e1]; exact decide_eq_true h2⟩, fun m z hm hz => ?_⟩
      match m, hm, hz with
      | 0, _, hz =>
        cases hz
        rw [e0]
        exact decide_eq_false h1
    · rw [if_neg h2] at h
      by_cases h3 : w = Mix.ascii "out"
      · rw [if_pos h3] at h
        cases h
        refine ⟨⟨_, rfl, by rw [e2]; exact decide_eq_true h3⟩, fun m z hm hz => ?_⟩
        match m, hm, hz with
        | 0, _, hz => cases hz; rw [e0]; exact decide_eq_false h1
        | 1, _, hz => cases hz; rw [e1]; exact decide_eq_false h2
      · rw [if_neg h3] at h
        by_cases h4 : w = Mix.ascii "group"
        · rw [if_pos h4] at h
          cases h
          refine ⟨⟨_, rfl, by rw [e3]; exact decide_eq_true h4⟩, fun m z hm hz => ?_⟩
          match m, hm, hz with
          | 0, _, hz => cases hz; rw [e0]; exact decide_eq_false h1
          | 1, _, hz => cases hz; rw [e1]; exact decide_eq_false h2
          | 2, _, hz => cases hz; rw [e2]; exact decide_eq_false h3
        · rw [if_neg h4] at h
          cases h
section
variable {P : Program} {w : World} {K : PySem.W.Frag} {mg : Str → Option Value} {base : Heap} {a : AD} {b : Mix.Bytes}
def spAddNode (a : AD) : Sp := fun vs H Q _ => ∃ dk A d k l, ∃ wd : Mix.Bytes, vs = [.ref dk, .int ((k : Nat) : Int), .ref l] ∧ DkAt a H dk A d ∧ d.settings = [] ∧ d.nodes.length ≤ 4096 ∧ H l = some (.lst (vB wd)) ∧ l ∉ A.six ∧ ∀ H', DkAt a H' dk A (Md.addNode d k wd) → Keeps A.six H H' → Q .non H'
theorem sc_zj : FnScope ["self", "kind", "spelled"] ["self", "kind", "spelled"] (defScope s_zj) := ⟨rfl, rfl, rfl, by decide +kernel, rfl, by decide +kernel, by decide +kernel⟩
theorem ok_zj (T : Txt K mg a) : FnOk P w K mg base CX0 1 a.f_zj a.d_zj ["self", "kind", "spelled"] (spAddNode a) := by
  refine T.F_zj.ok sc_zj (fun vs H Q E h => ?_) (fun cdv A outer s H vs Q E hr h => ?_)
  · obtain ⟨dk, A, d, k, l, wd, rfl, _⟩ := h
    rfl
  · obtain ⟨dk, A', d, k, l, wd, rfl, D, hset, hsz, hl, nl, q⟩ := h
    have n := six_ne D.nd
    obtain ⟨dd, o1⟩ := D.obj
    obtain ⟨as, o2, o3⟩ := D.names
    obtain ⟨ms, o4, o5⟩ := D.mem
    obtain ⟨ss, o6, o7⟩ := D.snd
    have la : as.length = d.nodes.length := Paired.len o3
    refine ⟨_, pss_cons (ps_expr (pe_bm PySem.F.plainAttrs_list PySem.F.slot_list_append PySem.F.type_list_append mt_append (pe_fld (pv 0) rfl) (pa_cons (pv 1) pa_nil)))
      (pss_cons (ps_expr (pe_bm PySem.F.plainAttrs_list PySem.F.slot_list_append PySem.F.type_list_append mt_append (pe_fld (pv 0) rfl) (pa_cons (pv 2) pa_nil)))
      (pss_cons (ps_expr (pe_bm PySem.F.plainAttrs_list PySem.F.slot_list_append PySem.F.type_list_append mt_append (pe_fld (pv 0) rfl) (pa_cons pe_int pa_nil)))
      (pss_one (ps_expr (pe_bm PySem.F.plainAttrs_list PySem.F.slot_list_append PySem.F.type_list_append mt_append (pe_fld (pv 0) rfl) (pa_cons pe_int pa_nil)))))), ?_⟩
    have nk : ∀ x ∈ A'.six, dk ≠ x := fun x hx z => D.dkNot (by rw [z]; exact hx)
    have mk : A'.k ∈ A'.six := by simp [DA.six]
    have mn : A'.n ∈ A'.six := by simp [DA.six]
    have msf : A'.s ∈ A'.six := by simp [DA.six]
    have ml : A'.l ∈ A'.six := by simp [DA.six]
    refine ⟨_, rfl, dk, _, dd, _, _, rfl, o1, T.C_Desk, T.N_z9, dk_kinds A', .inl ⟨rfl, _, SqL.of D.kinds⟩, _, rfl, A'.k, _, _, rfl, rfl, D.kinds, (by rw [List.length_map, sizeLine_eq]; omega), ?_⟩
    refine ⟨_, rfl, dk, _, dd, _, _, rfl, (by rw [upd_ne (nk _ mk)]; exact o1), T.C_Desk, T.N_zob, dk_names A', .inl ⟨rfl, _, SqL.of (by rw [upd_ne (Ne.symm n.kn)]; exact o2)⟩, _, rfl, A'.n, _, _, rfl, rfl, (by rw [upd_ne (Ne.symm n.kn)]; exact o2), (by rw [List.length_map, la, sizeLine_eq]; omega), ?_⟩
    refine ⟨_, rfl, dk, _, dd, _, _, rfl, (by rw [upd_ne (nk _ mn), upd_ne (nk _ mk)]; exact o1), T.C_Desk, T.N_zyb, dk_safe A', .inl ⟨rfl, _, SqL.of (by rw [upd_ne (Ne.symm n.ns), upd_ne (Ne.symm n.ks)]; exact D.safe)⟩, A'.s, _, _, rfl, rfl, (by rw [upd_ne (Ne.symm n.ns), upd_ne (Ne.symm n.ks)]; exact D.safe), (by rw [List.length_map, List.length_range, sizeLine_eq]; unfold Mix.Desk.size; omega), ?_⟩
    refine ⟨_, rfl, dk, _, dd, _, _, rfl, (by rw [upd_ne (nk _ msf), upd_ne (nk _ mn), upd_ne (nk _ mk)]; exact o1), T.C_Desk, T.N_zCb, dk_late A', .inl ⟨rfl, _, SqL.of (by rw [upd_ne (Ne.symm n.sl), upd_ne (Ne.symm n.nl), upd_ne (Ne.symm n.kl)]; exact D.late)⟩, A'.l, _, _, rfl, rfl, (by rw [upd_ne (Ne.symm n.sl), upd_ne (Ne.symm n.nl), upd_ne (Ne.symm n.kl)]; exact D.late), (by rw [List.length_map, List.length_range, sizeLine_eq]; unfold Mix.Desk.size; omega), ?_⟩
    have kp : Keeps A'.six H (upd (upd (upd (upd H A'.k (.lst (d.nodes.map (fun n => V.int (n.kind : Int)) ++ [.int ((k : Nat) : Int)]))) A'.n (.lst (as.map V.ref ++ [.ref l]))) A'.s (.lst ((List.range d.size).map (fun i => V.int (pI (d.isSafe i))) ++ [.int 0]))) A'.l (.lst ((List.range d.size).map (fun i => V.int ((d.late i : Nat) : Int)) ++ [.int 0]))) :=
      (((Keeps.set mk).then_set mn).then_set msf).then_set ml
    have z1 : ∀ i, (Md.addNode d k wd).isSafe i = false := fun i => by
      rw [Md.isSafe_eq]
      unfold Md.addNode
      rw [hset]
      rfl
    have z2 : ∀ i, (Md.addNode d k wd).late i = 0 := fun i => by
      rw [Md.late_eq]
      unfold Md.addNode
      rw [hset]
      rfl
    have y1 : ∀ i, d.isSafe i = false := fun i => by rw [Md.isSafe_eq, hset]; rfl
    have y2 : ∀ i, d.late i = 0 := fun i => by rw [Md.late_eq, hset]; rfl
    have sz : (Md.addNode d k wd).size = d.size + 1 := by
      unfold Md.addNode Mix.Desk.size
      simp
    refine q _ ⟨⟨dd, kp _ _ o1 D.dkNot⟩, ?_, ⟨as ++ [l], ?_, ?_⟩, ?_, ?_, ⟨ms, ?_, ?_⟩, ⟨ss, ?_, ?_⟩, D.nd⟩ kp
    · rw [upd_ne n.kl, upd_ne n.ks, upd_ne n.kn, upd_same]
      unfold Md.addNode
      rw [List.map_append]
      rfl
    · rw [upd_ne n.nl, upd_ne n.ns, upd_same, List.map_append]
      rfl
    · exact Paired.snoc (D.nms kp o3) ⟨kp _ _ hl nl, nl⟩
    · rw [upd_ne n.sl, upd_same, sz, List.range_succ, List.map_append]
      refine congrArg (fun z => some (HO.lst z)) ?_
      refine congr (congrArg _ (List.map_congr_left fun i _ => ?_)) ?_
      · rw [y1, z1]
      · show _ = [V.int (pI _)]
        rw [z1]
        rfl
    · rw [upd_same, sz, List.range_succ, List.map_append]
      refine congrArg (fun z => some (HO.lst z)) ?_
      refine congr (congrArg _ (List.map_congr_left fun i _ => ?_)) ?_
      · rw [y2, z2]
      · show _ = [V.int (((Md.addNode d k wd).late _ : Nat) : Int)]
        rw [z2]
        rfl
    · rw [upd_ne (Ne.symm n.lm), upd_ne (Ne.symm n.sm), upd_ne (Ne.symm n.nm), upd_ne (Ne.symm n.km)]
      exact o4
    · exact D.mms kp o5
    · rw [upd_ne (Ne.symm n.lq), upd_ne (Ne.symm n.sq), upd_ne (Ne.symm n.nq), upd_ne (Ne.symm n.kq)]
      exact o6
    · exact D.sms kp o7
def spReadNode (K : PySem.W.Frag) (a : AD) (b : Mix.Bytes) : Sp := fun vs H Q E => ∃ r dk p wp A d k, vs = [.ref r, .ref dk] ∧ RdAt K a.c_zy H b r p wp ∧ DkAt a H dk A d ∧ Md.Good d ∧ d.nodes.length ≤ p ∧ d.settings = [] ∧ Mix.kindOf (Md.wordAt b p) = some k ∧
  (∀ res, Md.mNode b d k p = .ok res → ∀ (H' : Hp) (wq : Nat), RdAt K a.c_zy H' b r res.2 wq → DkAt a H' dk A res.1 → Keeps (r :: A.six) H H' → Q .non H') ∧
  ∀ e, Md.mNode b d k p = .error e → Rz K a (-6) [e.kind, e.place] E
theorem sc_zK : FnScope ["reader", "desk", "kind", "word", "written"] ["reader", "desk"] (defScope s_zK) := ⟨rfl, rfl, rfl, by decide +kernel, rfl, by decide +kernel, by decide +kernel⟩
theorem ok_zK (T : Txt K mg a) : FnOk P w K mg base (CXr P w) 7 a.f_zK a.d_zK ["reader", "desk"] (spReadNode K a b) := by
  have GO := ok_zz (P := P) (w := w) (base := base) T
  have GW := ok_zb (P := P) (w := w) (base := base) (b := b) T
  have GB := ok_zc (P := P) (w := w) (base := base) (b := b) T
  have GN := ok_zF (P := P) (w := w) (base := base) (b := b) T
  have GA := ok_zj (P := P) (w := w) (base := base) T
  have GF := ok_zm (P := P) (w := w) (base := base) T
  refine T.F_zK.okR sc_zK (fun vs H Q E h => ?_) (fun cdv A outer s H vs Q E hr h => ?_)
  · obtain ⟨r, dk, p, wp, A, d, k, rfl, _⟩ := h
    rfl
  · obtain ⟨r, dk, p, wp, A', d, kk, rfl, rd, D, g, hsz, hset, hk, k, ke⟩ := h
    have nd := sc_zK.nd
    have hu : A.units + 3 + 16 * 6 + 200 < cLine := hr.un
    have hu' : A.units + 3 + 100 < cLine := by omega
    have hk3 := Md.kindOf_le hk
    refine ⟨_, pss_cons (ps_set (i := 2) nd rfl (Or.inl rfl) (pe_bm PySem.F.plainAttrs_list PySem.F.slot_list_index PySem.F.type_list_index (mt_indexD hu')
          (pe_lc (own := [("written", 4)]) rfl nd (pi_tup (gref T.t_z5)) (blkOk_by (by rfl)) (fun s H C cl fp => pg_name (i := 4) nd rfl (Or.inl rfl)) (fun s H C cl fp => pts_nil)
            (fun s H C cl fp => pe_call GO (hr.mono (by decide)) rfl T.g_zz T.F_zz.kp T.B_zz .nil pass0 (pa_cons (pv 4) pa_nil)))
          (pa_cons (pe_meth0 (pv 0) T.C_zy T.M_zb GW (hr.mono (by decide)) T.B_zb .nil pass0) pa_nil)))
      (pss_cons (ps_if (pt_cmpR op_ge (pe_bm PySem.F.plainAttrs_list PySem.F.slot_list_count PySem.F.type_list_count mt_count_ints (pe_fld (pv 1) rfl) (pa_cons (pv 2) pa_nil)) (pe_ix ix_tup (gref T.t_z8) (pv 2) (fun _ _ => rfl)) (nomark _))
        (pss_one (ps_raise (pe_makeX T.K_zZ GF (hr.mono (by decide)) rfl T.g_zZ T.B_zm pass0 (pa_cons (gint T.i_zFb) (pa_cons (pe_fld (pv 0) rfl) pa_nil))) rfl throws_r)) pss_nil)
      (pss_cons (ps_set (i := 3) nd rfl (Or.inl rfl) (pe_call GN (hr.mono (by decide)) rfl T.g_zF T.F_zF.kp T.B_zF .nil passes_r (pa_cons (pv 0) pa_nil)))
      (pss_cons (ps_if (pt_cmpR (op_inD hu') (pv 3) (pe_fld (pv 1) rfl) (by with_unfolding_all rfl))
        (pss_one (ps_raise (pe_makeX T.K_zZ GF (hr.mono (by decide)) rfl T.g_zZ T.B_zm pass0 (pa_cons (gint T.i_zcb) (pa_cons (pe_fld (pv 0) rfl) pa_nil))) rfl throws_r)) pss_nil)
      (pss_cons (ps_expr (pe_meth (pv 1) T.C_Desk T.M_zj GA (hr.mono (by decide)) T.B_zj .nil pass0 (pa_cons (pv 2) (pa_cons (pv 3) pa_nil))))
      (pss_one (ps_expr (pe_meth (pv 0) T.C_zy T.M_zc GB (hr.mono (by decide)) T.B_zc .nil passes_r (pa_cons (gint T.i_zBb) pa_nil)))))))), ?_⟩
    refine ⟨a.v_z5, rfl, ⟨_, T.T_z5 H⟩, fun L hL => lc_tup (K := K) (a := a.v_z5) (xs := nodeWords.map V.str) (fun i H' => Same H H' ∧ ∃ as : List Addr, H' L = some (.lst (as.map V.ref)) ∧ as.length = i ∧ L ∉ as ∧ Paired (fun l ys => H' l = some (.lst (ys.map V.int))) as ((nodeWords.take i).map sB)) ?_ ?_ ?_ ?_⟩
    · exact ⟨fun b o e => by rw [upd_ne (ne_of_none e hL)]; exact e, [], upd_same, rfl, by simp, .nil⟩
    · rintro i H' _ ⟨sm, _⟩
      exact T.T_z5 H'
    · rintro i v H' hv ⟨sm, as, hD', hlen, nD, hp⟩
      obtain ⟨x, hxi, rfl⟩ : ∃ x, nodeWords[i]? = some x ∧ v = .str x := by
        rw [List.getElem?_map] at hv
        cases e : nodeWords[i]? with
        | none => rw [e] at hv; cases hv
        | some x => rw [e] at hv; exact ⟨x, rfl, (Option.some.inj hv).symm⟩
      refine ⟨rfl, yes ?_⟩
      refine iteT ⟨_, rfl, x, rfl, (show ∀ x ∈ nodeWords, x.cps.size ≤ 1000 by decide +kernel) x (List.mem_of_getElem? hxi), fun l2 hl2 => ?_⟩
      have n1 : L ≠ l2 := ne_of_none hD' hl2
      refine ⟨as.map V.ref, by rw [upd_ne n1]; exact hD', ?_, fun c o e => ?_, as ++ [l2], ?_, by rw [List.length_append, hlen]; rfl, ?_, ?_⟩
      · rw [List.length_map, hlen, sizeLine_eq]
        have : i < nodeWords.length := (List.getElem?_eq_some_iff.mp hxi).1
        have : nodeWords.length = 4 := rfl
        omega
      · have e' := sm c o e
        rw [upd_ne (ne_of_none e hL), upd_ne (ne_of_none e' hl2)]
        exact e'
      · rw [upd_same, List.map_append]
        rfl
      · intro z
        rcases List.mem_append.mp z with z | z
        · exact nD z
        · exact n1 (List.mem_singleton.mp z)
      · rw [tk_snoc hxi, List.map_append]
        refine Paired.snoc ?_ ?_
        · refine Paired.memP hp fun l' hl' ys e => ?_
          rw [upd_ne (fun z => nD (by rw [← z]; exact hl')), upd_ne (ne_of_none e hl2)]
          exact e
        · rw [upd_ne (Ne.symm n1), upd_same]
    · rintro H1 ⟨s1, as, hL1, hlen, nL, hp⟩
      rw [List.length_map, List.take_length] at hp
      have rd1 := rd.same s1
      have rd1' := rd1
      obtain ⟨dr1, t1, g1, g2, g4, g5⟩ := rd1'
      have nLr : L ≠ r := fun z => by rw [z, g1] at hL1; cases hL1
      refine ⟨.inl ⟨rfl, _, SqL.of hL1⟩, _, rfl, r, dr1, _, rfl, g1, rfl, r, p, wp, rfl, rd1, fun H2 lw hlw nlw hlw2 rd2 k2 => ?_⟩
      have hL2 : H2 L = some (.lst (as.map V.ref)) := k2 _ _ hL1 (by simpa using nLr)
      have hp2 : Paired (fun l ys => H2 l = some (.lst (ys.map V.int))) as (nodeWords.map sB) := Paired.memP hp fun x _ ys e => k2 _ _ e (by
        intro z
        rw [List.mem_singleton.mp z, g1] at e
        cases e)
      obtain ⟨ix1, ix2⟩ := kind_ix hk
      refine ⟨L, _, _, nodeWords.map fun x => dI (sB x), dI (iB (Md.wordAt b p)), kk, rfl, rfl, SqL.of hL2, ?_, dp_vB (SqL.of hlw2), ?_, dI_lay _, dI_depth _, ix1, ix2, ?_⟩
      · have := dpAll_rows (K := K) hp2
        rwa [List.map_map] at this
      · have := lay_rows (nodeWords.map sB)
        rwa [List.map_map] at this
      have kk2 : Keeps (r :: A'.six) H H2 := (Same.keeps s1).trans (k2.mono (by simp))
      have D2 := (D.same s1).keepRd rd1 k2
      obtain ⟨dd, o1⟩ := D2.obj
      have rd2' := rd2
      obtain ⟨dr2, t2, i1, i2, i4, i5⟩ := rd2'
      have ek : H2 A'.k = some (.lst ((d.nodes.map fun n => (n.kind : Int)).map V.int)) := by
        rw [List.map_map]
        exact D2.kinds
      refine ⟨_, rfl, dk, _, dd, _, _, rfl, o1, T.C_Desk, T.N_z9, dk_kinds A', .inl ⟨rfl, _, SqL.of ek⟩, _, rfl, A'.k, _, _, rfl, rfl, SqL.of ek, _, rfl, a.v_z8, _, _, _, rfl, rfl, T.T_z8 H2, most_at hk3, _, _, rfl, rfl, _, rfl, ?_⟩
      rw [count_kinds, len_le]
      have e1 : Md.mNode b d kk p = if Mix.most kk ≤ d.counts kk then .error ⟨4, p⟩ else match Md.mName b (p + (Md.wordAt b p).length) with
          | .error e => .error e
          | .ok r => if (d.find r.1).isSome = true then .error ⟨3, r.2.1⟩ else match Md.mByte b Mix.NEW r.2.2 with
            | .error e => .error e
            | .ok q => .ok (Md.addNode d kk r.1, q) := rfl
      by_cases c1 : Mix.most kk ≤ d.counts kk
      · rw [if_pos c1] at e1
        rw [decide_eq_true (show Mix.most kk ≤ (d.nodes.filter fun n => n.kind == kk).length from c1)]
        exact iteT ⟨_, rfl, r, _, dr2, _, _, rfl, i1, T.C_zy, T.N_z4, rdF_word _ _ _, fault_go T (ke _ e1)⟩
      · rw [if_neg c1] at e1
        rw [decide_eq_false (show ¬ Mix.most kk ≤ (d.nodes.filter fun n => n.kind == kk).length from c1)]
        refine iteF ⟨_, rfl, r, _, _, rfl, rd2, fun res hres H3 l hl nl hl3 rd3 k3 => ?_, fun e he => ke e (by rw [e1, he])⟩
        rw [hres] at e1
        dsimp only at e1
        have D3 := D2.keepRd rd2 k3
        obtain ⟨dd3, o2⟩ := D3.obj
        obtain ⟨as3, o3, o4⟩ := D3.dp (K := K)
        have rd3' := rd3
        obtain ⟨dr3, t3, j1, j2, j4, j5⟩ := rd3'
        refine ⟨_, rfl, _, rfl, dk, _, dd3, _, _, rfl, o2, T.C_Desk, T.N_zob, dk_names A', A'.n, _, _, _, rfl, SqL.of o3, o4, dp_vB (SqL.of hl3), lay_names _, dI_lay _, dI_depth _, _, rfl, ?_⟩
        show if (if false = true then _ else _) = true then _ else _
        rw [if_neg Bool.false_ne_true, any_find]
        cases hf : (d.find res.1).isSome with
        | true =>
          rw [hf, if_pos rfl] at e1
          exact iteT ⟨_, rfl, r, _, dr3, _, _, rfl, j1, T.C_zy, T.N_z4, rdF_word _ _ _, fault_go T (ke _ e1)⟩
        | false =>
          rw [hf, if_neg Bool.false_ne_true] at e1
          have nl6 : l ∉ A'.six := fun z => by
            obtain ⟨xs, e⟩ := D2.out l z
            rw [hl] at e
            cases e
          refine iteF ⟨_, rfl, dk, dd3, _, rfl, o2, rfl, _, rfl, _, rfl, dk, A', d, kk, l, res.1, rfl, D3, hset, by omega, hl3, nl6, fun H4 D4 k4 => ?_⟩
          have rd4 := rd3.keep6 D3 k4
          have rd4' := rd4
          obtain ⟨dr4, t4, l1, l2, l4, l5⟩ := rd4'
          refine ⟨_, rfl, r, dr4, _, rfl, l1, rfl, r, _, _, 10, rfl, rd4, fun q hq H5 rd5 k5 => ?_, fun e he => ke e (by rw [e1, show Mix.NEW = 10 from rfl, he])⟩
          rw [show Mix.NEW = 10 from rfl, hq] at e1
          exact k _ e1 H5 _ rd5 (D4.keepRd rd4 k5) (((kk2.trans (k3.mono (by simp))).trans (k4.mono fun b hb => List.mem_cons_of_mem _ hb)).trans (k5.mono (by simp)))
end
end Mx
end
section
set_option Elab.async false
set_option linter.all false
set_option maxRecDepth 100000
set_option maxHeartbeats 1000000
namespace Mx
open PySem PySem.Spec PyProof.Rows L2
section
variable {P : Program} {w : World} {K : PySem.W.Frag} {mg : Str → Option Value} {base : Heap} {a : AD} {b : Mix.Bytes}
theorem sc_zo : FnScope ["reader", "desk", "word"] ["reader", "desk"] (defScope s_zo) := ⟨rfl, rfl, rfl, by decide +kernel, rfl, by decide +kernel, by decide +kernel⟩
theorem ok_zo (T : Txt K mg a) : FnOk P w K mg base (CXr P w) 8 a.f_zo a.d_zo ["reader", "desk"] (spLine K a b fun d _ p => Md.mSetting b d p) := by
  have GO := ok_zz (P := P) (w := w) (base := base) T
  have GW := ok_zb (P := P) (w := w) (base := base) (b := b) T
  have GB := ok_zc (P := P) (w := w) (base := base) (b := b) T
  have G1 := ok_zL (P := P) (w := w) (base := base) (b := b) T
  have G2 := ok_zM (P := P) (w := w) (base := base) (b := b) T
  have G3 := ok_zu (P := P) (w := w) (base := base) (b := b) T
  have G4 := ok_zN (P := P) (w := w) (base := base) (b := b) T
  have GF := ok_zm (P := P) (w := w) (base := base) T
  refine T.F_zo.okR sc_zo (fun vs H Q E h => ?_) (fun cdv A outer s H vs Q E hr h => ?_)
  · obtain ⟨r, dk, p, wp, A, d, rfl, _⟩ := h
    rfl
  · obtain ⟨r, dk, p, wp, A', d, rfl, rd, D, g, hsz, k, ke⟩ := h
    have nd := sc_zo.nd
    have k : ∀ res, Md.mSetting b d p = .ok res → ∀ (H' : Hp) (wq : Nat), RdAt K a.c_zy H' b r res.2 wq → DkAt a H' dk A' res.1 → Keeps (r :: A'.six) H H' → Q .non H' := k
    have ke : ∀ e, Md.mSetting b d p = .error e → Rz K a (-6) [e.kind, e.place] E := ke
    refine ⟨_, pss_cons (ps_set (i := 2) nd rfl (Or.inl rfl) (pe_meth0 (pv 0) T.C_zy T.M_zb GW (hr.mono (by decide)) T.B_zb .nil pass0))
      (pss_cons (ps_if (pt_cmpR (op_eqD hr.units) (pv 2) (pe_call GO (hr.mono (by decide)) rfl T.g_zz T.F_zz.kp T.B_zz .nil pass0 (pa_cons pe_str pa_nil)) (nomark _))
        (pss_one (ps_expr (pe_call G1 hr rfl T.g_zL T.F_zL.kp T.B_zL .nil passes_r (pa_cons (pv 0) (pa_cons (pv 1) pa_nil)))))
        (pss_one (ps_if (pt_cmpR (op_eqD hr.units) (pv 2) (pe_call GO (hr.mono (by decide)) rfl T.g_zz T.F_zz.kp T.B_zz .nil pass0 (pa_cons pe_str pa_nil)) (nomark _))
        (pss_one (ps_expr (pe_call G2 hr rfl T.g_zM T.F_zM.kp T.B_zM .nil passes_r (pa_cons (pv 0) (pa_cons (pv 1) pa_nil)))))
        (pss_one (ps_if (pt_cmpR (op_eqD hr.units) (pv 2) (pe_call GO (hr.mono (by decide)) rfl T.g_zz T.F_zz.kp T.B_zz .nil pass0 (pa_cons pe_str pa_nil)) (nomark _))
        (pss_one (ps_expr (pe_call G3 hr rfl T.g_zu T.F_zu.kp T.B_zu .nil passes_r (pa_cons (pv 0) (pa_cons (pv 1) pa_nil)))))
        (pss_one (ps_if (pt_cmpR (op_eqD hr.units) (pv 2) (pe_call GO (hr.mono (by decide)) rfl T.g_zz T.F_zz.kp T.B_zz .nil pass0 (pa_cons pe_str pa_nil)) (nomark _))
        (pss_one (ps_expr (pe_call G4 hr rfl T.g_zN T.F_zN.kp T.B_zN .nil passes_r (pa_cons (pv 0) (pa_cons (pv 1) pa_nil)))))
        (pss_one (ps_raise (pe_makeX T.K_zZ GF (hr.mono (by decide)) rfl T.g_zZ T.B_zm pass0 (pa_cons (gint T.i_zeb) (pa_cons (pe_fld (pv 0) rfl) pa_nil))) rfl throws_r)))))))))
      (pss_one (ps_expr (pe_meth (pv 0) T.C_zy T.M_zc GB (hr.mono (by decide)) T.B_zc .nil passes_r (pa_cons (gint T.i_zBb) pa_nil))))), ?_⟩
    have rd' := rd
    obtain ⟨dr, t, h1, h2, h4, h5⟩ := rd'
    refine ⟨_, rfl, r, dr, _, rfl, h1, rfl, r, p, wp, rfl, rd, fun H1 l hl nl hl1 rd1 k1 => ?_⟩
    have D1 := D.keepRd rd k1
    have k1' : Keeps (r :: A'.six) H H1 := k1.mono (by simp)
    have hsz1 : d.nodes.length + d.settings.length ≤ p + (Md.wordAt b p).length := by omega
    have fin : ∀ res, Md.mRest b d p = .ok res → ∀ (H' : Hp) (wq : Nat), RdAt K a.c_zy H' b r res.2 wq → DkAt a H' dk A' res.1 → Keeps (r :: A'.six) H1 H' →
        (tDrop (tMeth a.c_zy "take_byte" (spTakeByte K a b) [] E (tVar 0) (tCons (tC (.int 10)) tNil))) { nx := fun _ H' => Q .non H', rt := Q } [some (V.ref r), some (.ref dk), some (.ref l)] H' := fun res hres H' wq rd' D' k' => by
      have e1 : Md.mSetting b d p = match Md.mByte b Mix.NEW res.2 with
          | .error e => .error e
          | .ok q => .ok (res.1, q) := by
        unfold Md.mSetting
        rw [hres]
        all_goals rfl
      have rd'' := rd'
      obtain ⟨dr4, t4, l1, _⟩ := rd''
      refine ⟨_, rfl, r, dr4, _, rfl, l1, rfl, r, _, _, 10, rfl, rd', fun q hq H5 rd5 k5 => ?_, fun e he => ke e (by rw [e1, show Mix.NEW = 10 from rfl, he])⟩
      rw [show Mix.NEW = 10 from rfl, hq] at e1
      exact k _ e1 H5 _ rd5 (D'.keepRd rd' k5) ((k1'.trans k').trans (k5.mono (by simp)))
    have bad : ∀ e, Md.mRest b d p = .error e → Rz K a (-6) [e.kind, e.place] E := fun e he => ke e (by unfold Md.mSetting; rw [he])
    have eR : Md.mRest b d p = if Md.wordAt b p = Mix.ascii "safe" then Md.mSafe b d (p + (Md.wordAt b p).length) else if Md.wordAt b p = Mix.ascii "late" then Md.mLate b d (p + (Md.wordAt b p).length) else if Md.wordAt b p = Mix.ascii "member" then Md.mMember b d (p + (Md.wordAt b p).length) else if Md.wordAt b p = Mix.ascii "send" then Md.mSend b d p (p + (Md.wordAt b p).length) else .error ⟨1, p⟩ := rfl
    refine ⟨_, rfl, _, rfl, by decide +kernel, fun l2 hl2 => ?_⟩
    have s2 := sm_new (o := .lst ((sB "safe").map V.int)) hl2
    refine eq_text sb_safe (s2 _ _ hl1) upd_same ⟨_, rfl, ?_⟩
    by_cases c1 : Md.wordAt b p = Mix.ascii "safe"
    · rw [decide_eq_true c1]
      rw [if_pos c1] at eR
      exact iteT ⟨_, rfl, _, rfl, r, dk, _, _, A', d, rfl, rd1.same s2, D1.same s2, g, hsz1, fun res hres H' wq rd' D' k' => fin res (eR.trans hres) H' wq rd' D' ((Same.keeps s2).trans k'), fun e he => bad e (eR.trans he)⟩
    rw [decide_eq_false c1]
    rw [if_neg c1] at eR
    refine iteF ⟨_, rfl, _, rfl, by decide +kernel, fun l3 hl3 => ?_⟩
    have s3 := s2.trans (sm_new (o := .lst ((sB "late").map V.int)) hl3)
    refine eq_text sb_late (s3 _ _ hl1) upd_same ⟨_, rfl, ?_⟩
    by_cases c2 : Md.wordAt b p = Mix.ascii "late"
    · rw [decide_eq_true c2]
      rw [if_pos c2] at eR
      exact iteT ⟨_, rfl, _, rfl, r, dk, _, _, A', d, rfl, rd1.same s3, D1.same s3, g, hsz1, fun res hres H' wq rd' D' k' => fin res (eR.trans hres) H' wq rd' D' ((Same.keeps s3).trans k'), fun e he => bad e (eR.trans he)⟩
    rw [decide_eq_false c2]
    rw [if_neg c2] at eR
    refine iteF ⟨_, rfl, _, rfl, by decide +kernel, fun l4 hl4 => ?_⟩
    have s4 := s3.trans (sm_new (o := .lst ((sB "member").map V.int)) hl4)
    refine eq_text sb_member (s4 _ _ hl1) upd_same ⟨_, rfl, ?_⟩
    by_cases c3 : Md.wordAt b p = Mix.ascii "member"
    · rw [decide_eq_true c3]
      rw [if_pos c3] at eR
      exact iteT ⟨_, rfl, _, rfl, r, dk, _, _, A', d, rfl, rd1.same s4, D1.same s4, g, hsz1, fun res hres H' wq rd' D' k' => fin res (eR.trans hres) H' wq rd' D' ((Same.keeps s4).trans k'), fun e he => bad e (eR.trans he)⟩
    rw [decide_eq_false c3]
    rw [if_neg c3] at eR
    refine iteF ⟨_, rfl, _, rfl, by decide +kernel, fun l5 hl5 => ?_⟩
    have s5 := s4.trans (sm_new (o := .lst ((sB "send").map V.int)) hl5)
    refine eq_text sb_send (s5 _ _ hl1) upd_same ⟨_, rfl, ?_⟩
    by_cases c4 : Md.wordAt b p = Mix.ascii "send"
    · rw [decide_eq_true c4]
      rw [if_pos c4] at eR
      exact iteT ⟨_, rfl, _, rfl, r, dk, _, _, A', d, rfl, rd1.same s5, D1.same s5, g, hsz1, fun res hres H' wq rd' D' k' => fin res (eR.trans hres) H' wq rd' D' ((Same.keeps s5).trans k'), fun e he => bad e (eR.trans he)⟩
    rw [decide_eq_false c4]
    rw [if_neg c4] at eR
    obtain ⟨dr3, t3, i1, _⟩ := rd1.same s5
    exact iteF ⟨_, rfl, r, _, dr3, _, _, rfl, i1, T.C_zy, T.N_z4, rdF_word _ _ _, fault_go T (bad _ eR)⟩
def spReadDesk (K : PySem.W.Frag) (a : AD) (b : Mix.Bytes) : Sp := fun vs H Q E => ∃ t, vs = [.ref t] ∧ TxL K H t (vB b) ∧ (4096 < b.length → Rz K a (-2) [] E) ∧
  (b.length ≤ 4096 → (∀ d, Mix.readDesk b = .ok d → ∀ (H' : Hp) (dk : Addr) (A : DA), DkAt a H' dk A d → Md.Fine d → Same H H' → Q (.ref dk) H') ∧ ∀ e, Mix.readDesk b = .error e → Rz K a (-6) [e.kind, e.place] E)
theorem desk_nil {H : Hp} {dk dx : Addr} {A : DA} (h1 : H dk = some (.ins a.c_Desk dx (dkF A))) (h2 : A.six.Nodup) (h3 : ∀ b ∈ A.six, H b = some (.lst [])) : DkAt a H dk A ⟨[], []⟩ :=
  ⟨⟨dx, h1⟩, h3 A.k (by simp [DA.six]), ⟨[], h3 A.n (by simp [DA.six]), .nil⟩, h3 A.s (by simp [DA.six]), h3 A.l (by simp [DA.six]), ⟨[], h3 A.m (by simp [DA.six]), .nil⟩, ⟨[], h3 A.q (by simp [DA.six]), .nil⟩, h2⟩
theorem sc_zJ : FnScope ["text", "reader", "desk"] ["text"] (defScope s_zJ) := ⟨rfl, rfl, rfl, by decide +kernel, rfl, by decide +kernel, by decide +kernel⟩
theorem ok_zJ (T : Txt K mg a) : FnOk P w K mg base (CXr P w) 9 a.f_zJ a.d_zJ ["text"] (spReadDesk K a b) := by
  have GL := ok_zn (P := P) (w := w) (base := base) T
  have GR := ok_zt (P := P) (w := w) (base := base) T
  have GD := ok_zI (P := P) (w := w) (base := base) T
  have GI := ok_zE (P := P) (w := w) (base := base) T
  have GW := ok_ze (P := P) (w := w) (base := base) (b := b) T
  have GN := ok_zK (P := P) (w := w) (base := base) (b := b) T
  have GE := ok_zi (P := P) (w := w) (base := base) (b := b) T
  have GS := ok_zo (P := P) (w := w) (base := base) (b := b) T
  refine T.F_zJ.okR sc_zJ (fun vs H Q E h => ?_) (fun cdv A outer s H vs Q E hr h => ?_)
  · obtain ⟨t, rfl, _⟩ := h
    rfl
  · obtain ⟨t, rfl, ht, kl, k⟩ := h
    have nd := sc_zJ.nd
    refine ⟨_, pss_cons (ps_if (pt_cmpR op_gt (pe_callB call_len_seq (by rfl) T.b_len PySem.boot_len (pa_cons (pv 0) pa_nil)) (gint T.i_zvb) (nomark _))
        (pss_one (ps_raise (pe_makeX0 T.K_z1 GL (hr.mono (by decide)) rfl T.g_z1 T.B_zn pass0) rfl throws_r)) pss_nil)
      (pss_cons (ps_set (i := 1) nd rfl (Or.inl rfl) (pe_make T.K_zy GR (hr.mono (by decide)) rfl T.g_zy T.B_zt .nil pass0 (pa_cons (pv 0) pa_nil)))
      (pss_cons (ps_set (i := 2) nd rfl (Or.inl rfl) (pe_make0 T.K_Desk GD (hr.mono (by decide)) rfl T.g_Desk T.B_zI .nil pass0))
      (pss_cons (ps_while PassesOwn.leaving (pt_val (pe_call GI (hr.mono (by decide)) rfl T.g_zE T.F_zE.kp T.B_zE .nil pass0
          (pa_cons (pe_meth0 (pv 1) T.C_zy T.M_ze GW (hr.mono (by decide)) T.B_ze .nil pass0) (pa_cons (gref T.t_z5) pa_nil))))
        (pss_one (ps_expr (pe_call GN (hr.mono (by decide)) rfl T.g_zK T.F_zK.kp T.B_zK .nil passes_r (pa_cons (pv 1) (pa_cons (pv 2) pa_nil))))))
      (pss_cons (ps_while PassesOwn.leaving (pt_not (pt_val (pe_meth0 (pv 1) T.C_zy T.M_zi GE (hr.mono (by decide)) T.B_zi .nil pass0)))
        (pss_one (ps_expr (pe_call GS hr rfl T.g_zo T.F_zo.kp T.B_zo .nil passes_r (pa_cons (pv 1) (pa_cons (pv 2) pa_nil))))))
      (pss_one (ps_ret (pv 2))))))), ?_⟩
    refine ⟨_, rfl, t, _, rfl, .inl ht.sq, _, _, rfl, rfl, _, rfl, ?_⟩
    rw [vB_len, show decide ((4096 : Int) < (b.length : Int)) = decide (4096 < b.length) from decide_eq_decide.mpr (by omega)]
    by_cases c1 : 4096 < b.length
    · rw [decide_eq_true c1]
      exact iteT (bare_go (r_z1 T) (kl c1))
    · rw [decide_eq_false c1]
      have hb : b.length ≤ 4096 := by omega
      obtain ⟨k, ke⟩ := k hb
      refine iteF ⟨_, rfl, fun r dx hr0 hdx hne => ⟨r, dx, t, rfl, upd_same, rfl, ?_⟩⟩
      have s1 : Same H (upd (upd (upd H dx (.own r)) r (.ins a.c_zy dx [])) r (.ins a.c_zy dx (rdF t 0 0))) := fun c o e => by
        rw [upd_ne (ne_of_none e hr0), upd_ne (ne_of_none e hr0), upd_ne (ne_of_none e hdx)]
        exact e
      have rd1 : RdAt K a.c_zy (upd (upd (upd H dx (.own r)) r (.ins a.c_zy dx [])) r (.ins a.c_zy dx (rdF t 0 0))) b r 0 0 := ⟨dx, t, upd_same, ht.same s1, Nat.zero_le _, hb⟩
      generalize upd (upd (upd H dx (.own r)) r (.ins a.c_zy dx [])) r (.ins a.c_zy dx (rdF t 0 0)) = H1 at s1 rd1
      refine fun dk dd hdk hdd hne2 => ⟨dk, dd, rfl, upd_same, fun H2 A' kp o1 nd6 six => ⟨rfl, ?_⟩⟩
      have s2 : Same H1 H2 := fun c o e => kp c o (by rw [upd_ne (ne_of_none e hdk), upd_ne (ne_of_none e hdd)]; exact e) fun z => by
        rw [List.mem_singleton.mp z, hdk] at e
        cases e
      have rd2 := rd1.same s2
      have D2 := desk_nil o1 nd6 fun c hc => (six c hc).2
      have fresh : ∀ x ∈ r :: A'.six, H x = none := by
        intro x hx
        rcases List.mem_cons.mp hx with rfl | hx
        · exact hr0
        · cases e : H x with
          | none => rfl
          | some o =>
            have e1 := s1 _ _ e
            have e2 := (six x hx).1
            rw [upd_ne (ne_of_none e1 hdk), upd_ne (ne_of_none e1 hdd), e1] at e2
            cases e2
      refine wh (fun m σ H' => ∃ p wp d, m = b.length - p ∧ σ = [some (V.ref t), some (.ref r), some (.ref dk)] ∧ RdAt K a.c_zy H' b r p wp ∧ DkAt a H' dk A' d ∧ Md.Good d ∧ d.nodes.length ≤ p ∧ d.settings = [] ∧ Same H H' ∧ Mix.readDesk b = Md.L b d p) _
        ⟨0, 0, _, rfl, rfl, rd2, D2, Md.good_nil, Nat.le_refl _, rfl, s1.trans s2, Md.L_start b⟩ ?_
      rintro m σ H3 ⟨p, wp, d, rfl, rfl, rd3, D3, g, hle, hset, s3, hL⟩
      have rd3' := rd3
      obtain ⟨dr, t', i1, i2, i4, i5⟩ := rd3'
      refine ⟨_, rfl, r, dr, _, rfl, i1, rfl, r, p, wp, rfl, rd3, fun l hl => ⟨l, a.v_z5, Md.wordAt b p, nodeWords, rfl, SqL.of upd_same, T.T_z5 _, by decide, (show ∀ x ∈ nodeWords, x.cps.size ≤ 1000 by decide +kernel), fun H4 s4 => ⟨_, rfl, ?_⟩⟩⟩
      have s34 : Same H3 H4 := (sm_new hl).trans s4
      have rd4 := rd3.same s34
      have D4 := D3.same s34
      rw [show (nodeWords.any fun x => decide (sB x = iB (Md.wordAt b p))) = isNode (Md.wordAt b p) from rfl, isNode_kind]
      cases hk : Mix.kindOf (Md.wordAt b p) with
      | some kk =>
        refine iteT ⟨fun σ' H' => ∃ m', m' < b.length - p ∧ ∃ p wp d, m' = b.length - p ∧ σ' = [some (V.ref t), some (.ref r), some (.ref dk)] ∧ RdAt K a.c_zy H' b r p wp ∧ DkAt a H' dk A' d ∧ Md.Good d ∧ d.nodes.length ≤ p ∧ d.settings = [] ∧ Same H H' ∧ Mix.readDesk b = Md.L b d p, fun _ _ z => z, ?_⟩
        rw [Md.L_node g hset hk] at hL
        refine ⟨_, rfl, _, rfl, r, dk, p, wp, A', d, kk, rfl, rd4, D4, g, hle, hset, hk, fun res hres H5 wq rd5 D5 k5 => ?_, fun e he => ke e (by rw [hL, he])⟩
        rw [hres] at hL
        obtain ⟨q1, q2, q3, nm, q4, q5, q6⟩ := Md.mNode_ok hres
        refine ⟨_, ?_, res.2, wq, res.1, rfl, rfl, rd5, D5, ?_, ?_, ?_, Keeps.since (s3.trans s34) k5 fresh, hL⟩
        · omega
        · rw [q6]; exact Md.good_node g hset (Md.kindOf_le hk) q3 q4 q5
        · rw [q6]; unfold Md.addNode; simp; omega
        · rw [q6]; exact hset
      | none =>
        refine iteF ?_
        refine wh (fun m σ H' => ∃ p wp d, m = b.length - p ∧ σ = [some (V.ref t), some (.ref r), some (.ref dk)] ∧ RdAt K a.c_zy H' b r p wp ∧ DkAt a H' dk A' d ∧ Md.Good d ∧ d.nodes.length + d.settings.length ≤ p ∧ (d.settings ≠ [] ∨ Mix.kindOf (Md.wordAt b p) = none) ∧ Same H H' ∧ Mix.readDesk b = Md.L b d p) _
          ⟨p, wp, d, rfl, rfl, rd4, D4, g, by rw [hset]; simpa using hle, .inr hk, s3.trans s34, hL⟩ ?_
        rintro m σ H5 ⟨p, wp, d, rfl, rfl, rd5, D5, g, hle, hset, s5, hL⟩
        have rd5' := rd5
        obtain ⟨dr, t', j1, j2, j4, j5⟩ := rd5'
        refine ⟨_, rfl, r, dr, _, rfl, j1, rfl, r, p, wp, rfl, rd5, _, rfl, ?_⟩
        by_cases c2 : b.length ≤ p
        · rw [decide_eq_true c2]
          rw [Md.L_end c2] at hL
          exact iteF ⟨_, rfl, k _ hL H5 dk A' D5 ⟨g, by omega⟩ s5⟩
        · rw [decide_eq_false c2]
          refine iteT ⟨fun σ' H' => ∃ m', m' < b.length - p ∧ ∃ p wp d, m' = b.length - p ∧ σ' = [some (V.ref t), some (.ref r), some (.ref dk)] ∧ RdAt K a.c_zy H' b r p wp ∧ DkAt a H' dk A' d ∧ Md.Good d ∧ d.nodes.length + d.settings.length ≤ p ∧ (d.settings ≠ [] ∨ Mix.kindOf (Md.wordAt b p) = none) ∧ Same H H' ∧ Mix.readDesk b = Md.L b d p, fun _ _ z => z, ?_⟩
          rw [Md.L_setting g (by omega) hset] at hL
          refine ⟨_, rfl, _, rfl, r, dk, p, wp, A', d, rfl, rd5, D5, g, hle, fun res hres H6 wq rd6 D6 k6 => ?_, fun e he => ke e (by rw [hL, show Md.mSetting b d p = _ from he])⟩
          rw [show Md.mSetting b d p = _ from hres] at hL
          obtain ⟨q1, q2, st, q3, q4⟩ := Md.mSetting_ok hres
          refine ⟨_, ?_, res.2, wq, res.1, rfl, rfl, rd6, D6, ?_, ?_, .inl ?_, Keeps.since s5 k6 fresh, hL⟩
          · omega
          · rw [q3]; exact Md.good_set g q4
          · rw [q3]; unfold Md.addSet; simp; omega
          · rw [q3]; exact Md.addSet_ne _ _
end
end Mx
end
section
set_option Elab.async false
set_option linter.all false
set_option maxRecDepth 100000
set_option maxHeartbeats 1000000
namespace Mx
open PySem PySem.Spec PyProof.Rows L2
def ansV (num : Int) (bs ns : List V) : List V := .int num :: .int bs.length :: (bs ++ .int ns.length :: ns)
section
variable {P : Program} {w : World} {K : PySem.W.Frag} {mg : Str → Option Value} {base : Heap} {a : AD} {b : Mix.Bytes}
def spAnswer : Sp := fun vs H Q _ => ∃ num lb ln bs ns, vs = [.int num, .ref lb, .ref ln] ∧ H lb = some (.lst bs) ∧ H ln = some (.lst ns) ∧ bs.length + ns.length ≤ 10000 ∧ ∀ (H' : Hp) (p : Addr), Same H H' → H' p = some (.lst (ansV num bs ns)) → Q (.ref p) H'
theorem sc_zY : FnScope ["number", "told_bytes", "told_numbers"] ["number", "told_bytes", "told_numbers"] (defScope s_zY) := ⟨rfl, rfl, rfl, by decide +kernel, rfl, by decide +kernel, by decide +kernel⟩
theorem ok_zY (T : Txt K mg a) : FnOkH P w K mg base CX0 1 a.f_zY a.d_zY ["number", "told_bytes", "told_numbers"] spAnswer := by
  refine T.F_zY.okH sc_zY (fun vs H Q E h => ?_) (fun cdv A outer s H vs Q E hr h => ?_)
  · obtain ⟨num, lb, ln, bs, ns, rfl, _⟩ := h
    rfl
  · obtain ⟨num, lb, ln, bs, ns, rfl, h1, h2, hz, k⟩ := h
    have hsl := sizeLine_eq
    refine ⟨_, pss_one (ps_ret (pe_op op_cat (pe_op op_cat (pe_op op_cat (pe_lst (pa_cons (pv 0) (pa_cons (pe_callB call_len_seq (by rfl) T.b_len PySem.boot_len (pa_cons (pv 1) pa_nil)) pa_nil))) (pv 1))
      (pe_lst (pa_cons (pe_callB call_len_seq (by rfl) T.b_len PySem.boot_len (pa_cons (pv 2) pa_nil)) pa_nil))) (pv 2))), ?_⟩
    refine ⟨_, rfl, _, rfl, lb, _, rfl, .inl (SqL.of h1), (by show 2 ≤ sizeLine; decide), fun l1 n1 => ?_⟩
    have s1 := sm_new (o := .lst [.int num, .int bs.length]) n1
    refine ⟨_, rfl, l1, lb, _, _, rfl, rfl, upd_same, s1 _ _ h1, (by show 2 + bs.length ≤ sizeLine; omega), fun l2 n2 => ?_⟩
    have s2 := s1.trans (sm_new (o := .lst ([.int num, .int bs.length] ++ bs)) n2)
    refine ⟨_, rfl, ln, _, rfl, .inl (SqL.of (s2 _ _ h2)), (by show 1 ≤ sizeLine; decide), fun l3 n3 => ?_⟩
    have s3 := s2.trans (sm_new (o := .lst [.int ns.length]) n3)
    refine ⟨l2, l3, _, _, rfl, rfl, sm_new n3 _ _ upd_same, upd_same, (by rw [List.length_append]; show 2 + bs.length + 1 ≤ sizeLine; omega), fun l4 n4 => ?_⟩
    have s4 := s3.trans (sm_new (o := .lst (([.int num, .int bs.length] ++ bs) ++ [.int ns.length])) n4)
    refine ⟨_, rfl, l4, ln, _, _, rfl, rfl, upd_same, s4 _ _ h2, (by rw [List.length_append, List.length_append]; show 2 + bs.length + 1 + ns.length ≤ sizeLine; omega), fun l5 n5 => ?_⟩
    refine k _ l5 (s4.trans (sm_new n5)) ?_
    rw [upd_same]
    unfold ansV
    simp
def spRefused (K : PySem.W.Frag) (a : AD) : Sp := fun vs H Q _ => ∃ x C d l num, ∃ told : List Int, vs = [.ref x] ∧ H x = some (XF x C (some d)) ∧ H d = some (XD d (rfF num l)) ∧ H l = some (.lst (told.map V.int)) ∧ RCls K a C ∧ told.length ≤ 100 ∧
  ∀ (H' : Hp) (p : Addr), H' p = some (.lst (ansV num [] (told.map V.int))) → Q (.ref p) H'
theorem sc_zV : FnScope ["refusal"] ["refusal"] (defScope s_zV) := ⟨rfl, rfl, rfl, by decide +kernel, rfl, by decide +kernel, by decide +kernel⟩
theorem ok_zV (T : Txt K mg a) : FnOkH P w K mg base CX0 2 a.f_zV a.d_zV ["refusal"] (spRefused K a) := by
  have GA := ok_zY (P := P) (w := w) (base := base) T
  refine T.F_zV.okH sc_zV (fun vs H Q E h => ?_) (fun cdv A outer s H vs Q E hr h => ?_)
  · obtain ⟨x, C, d, l, num, told, rfl, _⟩ := h
    rfl
  · obtain ⟨x, C, d, l, num, told, rfl, hx, hd, hl, c, hz, k⟩ := h
    refine ⟨_, pss_one (ps_ret (pe_callH GA hr rfl T.g_zY T.F_zY.kp T.B_zY pass0 (pa_cons (pe_xfld (pv 0) rfl) (pa_cons (pe_lst pa_nil) (pa_cons (pe_xfld (pv 0) rfl) pa_nil))))), ?_⟩
    refine ⟨_, rfl, x, C, d, _, _, rfl, hx, hd, c.x, c.n, rfl, Nat.zero_le _, fun l1 n1 => ?_⟩
    have s1 := sm_new (o := .lst []) n1
    refine ⟨_, rfl, x, C, d, _, _, rfl, s1 _ _ hx, s1 _ _ hd, c.x, c.t, rfl, num, l1, l, [], _, rfl, upd_same, s1 _ _ hl, (by rw [List.length_map]; show 0 + told.length ≤ 10000; omega), fun H' p _ hp => k H' p hp⟩
theorem rz_of {X : Cx} {D : Ends} {i : Nat} {num : Int} {told : List Int} (hK : X.K = K) (hi : i < X.N.length) (hz : told.length ≤ 100) (k : ∀ (H' : Hp) (p : Addr), H' p = some (.lst (ansV num [] (told.map V.int))) → D.rt (.ref p) H') :
    Rz K a num told (exT X D i (tRet (tCall (spRefused K a) [] E0 (tCons (tVar i) tNil))) a.c_zW) := by
  intro x C d l H' h1 h2 h3 c
  refine ⟨x, C, some d, rfl, h1, by rw [hK]; exact c.x.ok, by rw [hK]; exact c.r, fun σ hσ => ?_⟩
  exact ⟨_, List.getElem?_set_self (by rw [hσ]; exact hi), x, C, d, l, num, told, rfl, h1, h2, h3, c, hz, k⟩
theorem ans_nums (x : Mix.Answer) : ansV x.ret (vB x.bytes) (x.nums.map V.int) = (DesksNeutral.numbersOf x).map V.int := by
  unfold ansV DesksNeutral.numbersOf vB
  simp [List.map_map]
theorem text_back {t : List Int} (h : t.all (PySem.W.Codec.inInt 0 255) = true) : t.map V.int = vB (DesksNeutral.text t) := by
  unfold vB DesksNeutral.text DesksNeutral.nats
  rw [List.map_map, List.map_map]
  refine List.map_congr_left fun z hz => ?_
  have q := List.all_eq_true.mp h z hz
  have q2 : 0 ≤ z ∧ z ≤ 255 := by
    have := PySem.W.Codec.inInt_iff.mp q
    exact this
  show V.int z = V.int ((UInt8.ofNat z.toNat).toNat : Int)
  rw [UInt8.toNat_ofNat']
  congr 1
  omega
end
end Mx
end
section
set_option Elab.async false
set_option linter.all false
set_option maxRecDepth 100000
set_option maxHeartbeats 1000000
namespace Mx
open PySem PySem.Spec PyProof.Rows L2
def Tells (K : PySem.W.Frag) (a : AD) (x : Mix.Answer) (Q : VK) (E : XK) : Prop := (∀ (H' : Hp) (p : Addr), H' p = some (.lst ((DesksNeutral.numbersOf x).map V.int)) → Q (.ref p) H') ∧ (x.bytes = [] → x.nums.length ≤ 100 → Rz K a x.ret x.nums E)
def tellAns (d : Mix.Desk) (n_s : List Nat) (n_g : List Nat) (z_ins : List Int) : Mix.Answer := if z_ins.length ≠ d.counts 0 then Mix.says (-5) else (if n_s.length ≠ d.size ∨ n_g.length ≠ d.size then Mix.says (-5) else Mix.may (n_s.all (fun (n : Nat) => decide (n ≤ 3)) && n_g.all fun (n : Nat) => decide (n ≤ Mix.TOP)) ((fun (z : Mix.Ready) (b : Mix.Board) => let l := (z.mix b z_ins.toArray).toList; (⟨(z.size : Nat), [], (l.map fun (y : Mix.Sounding) => Mix.held y.sum) ++ l.map Mix.Sounding.post⟩ : Mix.Answer)) d.ready ⟨n_s.toArray, n_g.toArray⟩))
def spTell (K : PySem.W.Frag) (a : AD) : Sp := fun vs H Q E => ∃ (dk : Addr) (A : DA) (d : Mix.Desk) (l_s : Addr) (n_s : List Nat) (l_g : Addr) (n_g : List Nat) (l_ins : Addr) (z_ins : List Int), vs = [.ref dk, .ref l_s, .ref l_g, .ref l_ins] ∧ DkAt a H dk A d ∧ Md.Fine d ∧ TxL K H l_s (kV n_s) ∧ n_s.length ≤ 40 ∧ (∀ x ∈ n_s, x < 2 ^ 64) ∧ TxL K H l_g (kV n_g) ∧ n_g.length ≤ 40 ∧ (∀ x ∈ n_g, x < 2 ^ 64) ∧ TxL K H l_ins (z_ins.map V.int) ∧ z_ins.length ≤ 16 ∧ (∀ x ∈ z_ins, -(2 ^ 63) ≤ x ∧ x < 2 ^ 63) ∧ Tells K a (tellAns d n_s n_g z_ins) Q E
def spTop (K : PySem.W.Frag) : Sp := fun vs H Q _ => ∃ (l_t : Addr) (b_t : Mix.Bytes) (l_s : Addr) (n_s : List Nat) (l_g : Addr) (n_g : List Nat) (l_ins : Addr) (z_ins : List Int), vs = [.ref l_t, .ref l_s, .ref l_g, .ref l_ins] ∧ TxL K H l_t (vB b_t) ∧ TxL K H l_s (kV n_s) ∧ n_s.length ≤ 40 ∧ (∀ x ∈ n_s, x < 2 ^ 64) ∧ TxL K H l_g (kV n_g) ∧ n_g.length ≤ 40 ∧ (∀ x ∈ n_g, x < 2 ^ 64) ∧ TxL K H l_ins (z_ins.map V.int) ∧ z_ins.length ≤ 16 ∧ (∀ x ∈ z_ins, -(2 ^ 63) ≤ x ∧ x < 2 ^ 63) ∧ ∀ (H' : Hp) (p : Addr), H' p = some (.lst ((DesksNeutral.numbersOf (Desks.answer (.mix b_t n_s n_g z_ins))).map V.int)) → Q (.ref p) H'
end Mx
end
section
set_option Elab.async false
set_option linter.all false
set_option maxRecDepth 100000
set_option maxHeartbeats 1000000
namespace Mx
open PySem PySem.Spec PyProof.Rows L2
theorem kV_ints (l : List Nat) : kV l = (l.map fun (n : Nat) => (n : Int)).map V.int := by
  unfold kV
  rw [List.map_map]
  rfl
theorem kV_len (l : List Nat) : (kV l).length = l.length := List.length_map _
theorem kV_at {l : List Nat} {i n : Nat} (h : l[i]? = some n) : (kV l)[i]? = some (.int (n : Int)) := by
  unfold kV
  rw [List.getElem?_map, h]
  rfl
theorem kV_of {l : List Nat} {i : Nat} {v : V} (h : (kV l)[i]? = some v) : ∃ n : Nat, l[i]? = some n ∧ v = .int (n : Int) := by
  unfold kV at h
  rw [List.getElem?_map] at h
  cases e : l[i]? with
  | none => rw [e] at h; cases h
  | some x => rw [e] at h; exact ⟨x, rfl, (Option.some.inj h).symm⟩
theorem rf_of {l : List Addr} {i : Nat} {v : V} (h : (l.map V.ref)[i]? = some v) : ∃ x, l[i]? = some x ∧ v = .ref x := by
  rw [List.getElem?_map] at h
  cases e : l[i]? with
  | none => rw [e] at h; cases h
  | some x => rw [e] at h; exact ⟨x, rfl, (Option.some.inj h).symm⟩
theorem nat_back {ns : List Int} {t : List Nat} (h : ns.Perm (t.map fun (n : Nat) => (n : Int))) (hs : ns.Pairwise (· ≤ ·)) : ∃ l : List Nat, ns = l.map (fun (n : Nat) => (n : Int)) ∧ l.Perm t ∧ l.Pairwise (· ≤ ·) := by
  have h1 : ∀ z ∈ ns, 0 ≤ z := fun z hz => by
    obtain ⟨n, _, rfl⟩ := List.mem_map.mp (h.mem_iff.mp hz)
    omega
  have e : ns = (ns.map Int.toNat).map (fun (n : Nat) => (n : Int)) := by
    rw [List.map_map]
    conv => lhs; rw [← List.map_id ns]
    refine List.map_congr_left fun z hz => ?_
    have := h1 z hz
    show z = ((z.toNat : Nat) : Int)
    omega
  refine ⟨ns.map Int.toNat, e, ?_, ?_⟩
  · have := h.map Int.toNat
    rw [List.map_map] at this
    have e2 : t.map (Int.toNat ∘ fun (n : Nat) => (n : Int)) = t := by
      conv => rhs; rw [← List.map_id t]
      rfl
    rwa [e2] at this
  · refine List.Pairwise.map Int.toNat (fun a b h => ?_) hs
    omega
end Mx
end
section
set_option Elab.async false
set_option linter.all false
set_option maxRecDepth 100000
set_option maxHeartbeats 1000000
namespace Mx
open PySem PySem.Spec PyProof.Rows L2
abbrev SendsAt (a : AD) (H : Hp) (ss : List Addr) (S : List Mix.Send) : Prop := Paired (fun x (s : Mix.Send) => ∃ ds, H x = some (.ins a.c_Send ds (sdF s))) ss S
theorem zip_sends {a : AD} {H : Hp} : ∀ {ss : List Addr} {S : List Mix.Send}, SendsAt a H ss S → Paired (fun (s : Mix.Send) (p : Int × V) => p.1 = (s.src : Int) ∧ ∃ x, p.2 = .ref x ∧ ∃ ds, H x = some (.ins a.c_Send ds (sdF s))) S ((S.map fun s => (s.src : Int)).zip (ss.map V.ref))
  | _, _, .nil => .nil
  | _, _, .cons r t => .cons ⟨rfl, _, rfl, r⟩ (zip_sends t)
theorem unzip_sends {a : AD} {H : Hp} : ∀ {S : List Mix.Send} {qs : List (Int × V)}, Paired (fun (s : Mix.Send) (p : Int × V) => p.1 = (s.src : Int) ∧ ∃ x, p.2 = .ref x ∧ ∃ ds, H x = some (.ins a.c_Send ds (sdF s))) S qs → qs.map (·.1) = S.map (fun s => (s.src : Int)) ∧ ∃ ss : List Addr, qs.map (·.2) = ss.map V.ref ∧ SendsAt a H ss S
  | _, _, .nil => ⟨rfl, [], rfl, .nil⟩
  | _, _, .cons r t => by
    obtain ⟨h1, ss, h2, h3⟩ := unzip_sends t
    obtain ⟨r1, x, r2, r3⟩ := r
    exact ⟨by rw [List.map_cons, List.map_cons, h1, r1], x :: ss, by rw [List.map_cons, List.map_cons, h2, r2], .cons r3 h3⟩
theorem sorted_sends {a : AD} {H : Hp} {b : Bool} {ss : List Addr} {S : List Mix.Send} {ys : List V} (h : SendsAt a H ss S) (ko : KOut b (S.map fun s => (s.src : Int)) (ss.map V.ref) ys) :
    ∃ (ss' : List Addr) (S' : List Mix.Send), ys = ss'.map V.ref ∧ SendsAt a H ss' S' ∧ S'.Perm S ∧ S'.Pairwise (fun p q => if b then q.src ≤ p.src else p.src ≤ q.src) := by
  obtain ⟨qs, hp, hy, hs⟩ := ko
  obtain ⟨S', h1, h2⟩ := L2.Paired.perm hp.symm (zip_sends h)
  obtain ⟨h3, ss', h4, h5⟩ := unzip_sends h2
  refine ⟨ss', S', by rw [hy]; exact h4, h5, h1.symm, ?_⟩
  have e1 : (qs.map (·.1)).Pairwise (fun p q => if b then q ≤ p else p ≤ q) := List.pairwise_map.mpr hs
  rw [h3, List.pairwise_map] at e1
  refine e1.imp fun {p q} z => ?_
  cases b with
  | true =>
    have z : ((q.src : Nat) : Int) ≤ (p.src : Nat) := z
    show q.src ≤ p.src
    omega
  | false =>
    have z : ((p.src : Nat) : Int) ≤ (q.src : Nat) := z
    show p.src ≤ q.src
    omega
theorem SendsAt.same {a : AD} {H H' : Hp} {ss : List Addr} {S : List Mix.Send} (h : SendsAt a H ss S) (s : Same H H') : SendsAt a H' ss S := Paired.memP h fun _ _ _ ⟨ds, e⟩ => ⟨ds, s _ _ e⟩
theorem before_m {S : List Mix.Send} (hs : S.Pairwise fun p q => p.src ≤ q.src) (hlt : ∀ q ∈ S, q.src < q.dst) {m : Nat} {q : Mix.Send} (hq : S[m]? = some q) : ∀ p ∈ S.drop m, p.dst ≠ q.src := by
  intro p hp e
  obtain ⟨j, hj⟩ := List.getElem?_of_mem hp
  rw [List.getElem?_drop] at hj
  have hl := hlt p (List.mem_of_getElem? hj)
  have : q.src ≤ p.src := by
    cases j with
    | zero =>
      rw [Nat.add_zero, hq] at hj
      cases hj
      exact Nat.le_refl _
    | succ j =>
      obtain ⟨h1, e1⟩ := List.getElem?_eq_some_iff.mp hq
      obtain ⟨h2, e2⟩ := List.getElem?_eq_some_iff.mp hj
      have := List.pairwise_iff_getElem.mp hs m (m + (j + 1)) h1 h2 (by omega)
      rw [e1, e2] at this
      exact this
  omega
def Onward (S : List Mix.Send) (B M : Nat → Bool) : Prop := ∀ x, M x = (B x || S.any fun q => q.dst == x && M q.src)
theorem Onward.unique {S : List Mix.Send} (hlt : ∀ q ∈ S, q.src < q.dst) {B M M' : Nat → Bool} (h : Onward S B M) (h' : Onward S B M') : ∀ n x, x < n → M x = M' x
  | 0, x, hx => by omega
  | n + 1, x, hx => by
    rw [h x, h' x]
    congr 1
    have : ∀ q ∈ S, (q.dst == x && M q.src) = (q.dst == x && M' q.src) := fun q hq => by
      by_cases e : q.dst = x
      · have := hlt q hq
        rw [Onward.unique hlt h h' n q.src (by omega)]
      · have : (q.dst == x) = false := by simpa using e
        rw [this]
        rfl
    rw [List.any_eq, List.any_eq]
    refine decide_eq_decide.mpr ⟨fun ⟨q, hq, e⟩ => ⟨q, hq, by rw [← this q hq]; exact e⟩, fun ⟨q, hq, e⟩ => ⟨q, hq, by rw [this q hq]; exact e⟩⟩
theorem any_perm {α : Type} {l m : List α} (h : l.Perm m) (f : α → Bool) : l.any f = m.any f := by
  rw [List.any_eq, List.any_eq]
  exact decide_eq_decide.mpr ⟨fun ⟨q, hq, e⟩ => ⟨q, h.mem_iff.mp hq, e⟩, fun ⟨q, hq, e⟩ => ⟨q, h.mem_iff.mpr hq, e⟩⟩
def mkStep (M : Nat → Bool) (q : Mix.Send) : Nat → Bool := fun x => M x || (q.dst == x && M q.src)
def mkFold (S : List Mix.Send) (B : Nat → Bool) : Nat → Bool := S.foldl mkStep B
theorem mkFold_out (x : Nat) : ∀ (S : List Mix.Send) (B : Nat → Bool), (∀ q ∈ S, q.dst ≠ x) → mkFold S B x = B x
  | [], B, _ => rfl
  | q :: r, B, h => by
    show mkFold r (mkStep B q) x = B x
    rw [mkFold_out x r _ fun p hp => h p (List.mem_cons_of_mem _ hp)]
    unfold mkStep
    have : (q.dst == x) = false := by simpa using h q (List.mem_cons_self ..)
    rw [this]
    simp
theorem mkFold_snoc (S : List Mix.Send) (q : Mix.Send) (B : Nat → Bool) : mkFold (S ++ [q]) B = mkStep (mkFold S B) q := by
  unfold mkFold
  rw [List.foldl_append]
  rfl
theorem mkFold_take {S : List Mix.Send} (hs : S.Pairwise fun p q => p.src ≤ q.src) (hlt : ∀ q ∈ S, q.src < q.dst) {m : Nat} {q : Mix.Send} (hq : S[m]? = some q) (B : Nat → Bool) : mkFold (S.take m) B q.src = mkFold S B q.src := by
  have e : mkFold S B = mkFold (S.drop m) (mkFold (S.take m) B) := by
    unfold mkFold
    rw [← List.foldl_append, List.take_append_drop]
  rw [e, mkFold_out _ _ _ (before_m hs hlt hq)]
theorem mkFold_onward {S : List Mix.Send} (hs : S.Pairwise fun p q => p.src ≤ q.src) (hlt : ∀ q ∈ S, q.src < q.dst) (B : Nat → Bool) : Onward S B (mkFold S B) := by
  have : ∀ m, m ≤ S.length → ∀ x, mkFold (S.take m) B x = (B x || (S.take m).any fun q => q.dst == x && mkFold S B q.src) := fun m => by
    induction m with
    | zero => intro _ x; simp [mkFold]
    | succ m ih =>
      intro hm x
      have hq := List.getElem?_eq_getElem (show m < S.length by omega)
      rw [tk_snoc hq, mkFold_snoc, List.any_append]
      unfold mkStep
      rw [ih (by omega) x, mkFold_take hs hlt hq]
      simp [Bool.or_assoc]
  intro x
  have h := this S.length (Nat.le_refl _) x
  rwa [List.take_length] at h
theorem Onward.perm {S S' : List Mix.Send} (h : S'.Perm S) {B M : Nat → Bool} (o : Onward S' B M) : Onward S B M := fun x => by rw [o x, any_perm h]
def gb (l : List Bool) (x : Nat) : Bool := l.getD x false
theorem gb_at {l : List Bool} {x : Nat} (h : x < l.length) : l[x]? = some (gb l x) := by
  unfold gb
  rw [List.getD_eq_getElem?_getD, List.getElem?_eq_getElem h]
  rfl
section
variable {P : Program} {w : World} {K : PySem.W.Frag} {mg : Str → Option Value} {base : Heap} {a : AD}
def spSenderOf (a : AD) : Sp := fun vs H Q _ => ∃ x, ∃ q : Mix.Send, vs = [.ref x] ∧ (∃ ds, H x = some (.ins a.c_Send ds (sdF q))) ∧ Q (.int (q.src : Nat)) H
theorem sc_zG : FnScope ["told"] ["told"] (defScope s_zG) := ⟨rfl, rfl, rfl, by decide +kernel, rfl, by decide +kernel, by decide +kernel⟩
theorem ok_zG (T : Txt K mg a) : FnOk P w K mg base CX0 1 a.f_zG a.d_zG ["told"] (spSenderOf a) := by
  refine T.F_zG.ok sc_zG (fun vs H Q E h => ?_) (fun cdv A outer s H vs Q E hr h => ?_)
  · obtain ⟨x, q, rfl, _⟩ := h
    rfl
  · obtain ⟨x, q, rfl, ⟨ds, hx⟩, k⟩ := h
    refine ⟨_, pss_one (ps_ret (pe_fld (pv 0) rfl)), ?_⟩
    exact ⟨_, rfl, x, _, ds, _, _, rfl, hx, T.C_Send, T.N_zdb, rfl, k⟩
def SnL (K : PySem.W.Frag) (a : AD) (H : Hp) (l : Addr) (S : List Mix.Send) : Prop := ∃ ss : List Addr, SqL K H l (ss.map V.ref) ∧ SendsAt a H ss S
theorem SnL.same {H H' : Hp} {l : Addr} {S : List Mix.Send} (h : SnL K a H l S) (s : Same H H') : SnL K a H' l S := by
  obtain ⟨ss, h1, h2⟩ := h
  exact ⟨ss, s.seq h1, h2.same s⟩
theorem sort_turn {H : Hp} {ss : List Addr} {S : List Mix.Send} (h : SendsAt a H ss S) : ∀ (i : Nat) (v : V) (z : Int), (ss.map V.ref)[i]? = some v → (S.map fun s => (s.src : Int))[i]? = some z → ∀ H', Same H H' → spSenderOf a [v] H' (fun u H2 => u = .int z ∧ H2 = H') E0 := by
  intro i v z hv hz H' s'
  obtain ⟨x, hx, rfl⟩ := rf_of hv
  obtain ⟨q, hq, ds, r⟩ := Paired.at h hx
  rw [List.getElem?_map, hq] at hz
  cases hz
  exact ⟨x, q, rfl, ⟨ds, s' _ _ r⟩, rfl, rfl⟩
def spSpreadOn (K : PySem.W.Frag) (a : AD) : Sp := fun vs H Q _ => ∃ ls lb, ∃ S : List Mix.Send, ∃ bs : List Bool, vs = [.ref ls, .ref lb] ∧ SnL K a H ls S ∧ SqL K H lb (bs.map V.bl) ∧ S.length < 64 ∧ bs.length ≤ 1000 ∧ (∀ q ∈ S, q.src < q.dst ∧ q.dst < bs.length) ∧
  ∀ (H' : Hp) (l : Addr) (ms : List Bool), Same H H' → H l = none → H' l = some (.lst (ms.map V.bl)) → ms.length = bs.length → (∃ M : Nat → Bool, Onward S (gb bs) M ∧ ∀ x, x < bs.length → gb ms x = M x) → Q (.ref l) H'
theorem sc_zl : FnScope ["sends", "begun", "marks", "told"] ["sends", "begun"] (defScope s_zl) := ⟨rfl, rfl, rfl, by decide +kernel, rfl, by decide +kernel, by decide +kernel⟩
theorem ok_zl (T : Txt K mg a) : FnOk P w K mg base CX0 3 a.f_zl a.d_zl ["sends", "begun"] (spSpreadOn K a) := by
  have GS := ok_zG (P := P) (w := w) (base := base) T
  refine T.F_zl.ok sc_zl (fun vs H Q E h => ?_) (fun cdv A outer s H vs Q E hr h => ?_)
  · obtain ⟨ls, lb, S, bs, rfl, _⟩ := h
    rfl
  · obtain ⟨ls, lb, S, bs, rfl, hS, hB, h64, hbl, hlt, k⟩ := h
    have nd := sc_zl.nd
    refine ⟨_, pss_cons (ps_set (i := 2) nd rfl (Or.inl rfl) (pe_callTy call_list_of (by rfl) T.b_list (by decide +kernel) (pa_cons (pv 1) pa_nil)))
      (pss_cons (ps_for PassesOwn.never rfl (pi_list (pe_callBK (crk_sorted GS hr T.B_zG) (by rfl) T.b_sorted boot_sorted (pa_cons (pv 0) pa_nil) (pk_cons (gref T.g_zG) pk_nil))) (pg_name (i := 3) nd rfl (Or.inl rfl))
        (pss_one (ps_if (pt_val (pe_ix ix_list (pv 2) (pe_fld (pv 3) rfl) (fun _ _ => rfl))) (pss_one (ps_asg pe_bl (pg_sub (pv 2) (pe_fld (pv 3) rfl) set_list))) pss_nil)))
      (pss_one (ps_ret (pv 2)))), ?_⟩
    refine ⟨_, rfl, lb, _, rfl, .inl hB, fun L nL => ?_⟩
    have s1 := sm_new (o := .lst (bs.map V.bl)) nL
    obtain ⟨ss, hS1, hS2⟩ := hS.same s1
    have hll := Paired.len hS2
    refine ⟨_, rfl, ls, _, S.map fun s => (s.src : Int), rfl, rfl, hS1, by rw [List.length_map, List.length_map, hll], by rw [List.length_map, hll]; exact h64, sort_turn hS2, fun H2 D ys ko s2 nD hD => ?_⟩
    obtain ⟨ss', S', rfl, hS', hp, hs⟩ := sorted_sends (hS2.same s2) ko
    have hs : S'.Pairwise fun p q => p.src ≤ q.src := hs
    have hlt' : ∀ q ∈ S', q.src < q.dst := fun q hq => (hlt q (hp.mem_iff.mp hq)).1
    refine ⟨D, rfl, ⟨_, SqL.of hD⟩, for_list (K := K) (a := D) (xs := ss'.map V.ref) (fun m σ H' => (∃ v3 : Option V, σ = [some (.ref ls), some (.ref lb), some (.ref L), v3]) ∧ Same H H' ∧ H' D = some (.lst (ss'.map V.ref)) ∧ SendsAt a H' ss' S' ∧ ∃ ms : List Bool, H' L = some (.lst (ms.map V.bl)) ∧ ms.length = bs.length ∧ ∀ x, x < bs.length → gb ms x = mkFold (S'.take m) (gb bs) x) ?_ ?_ ?_ ?_⟩
    · exact ⟨⟨_, rfl⟩, s1.trans s2, hD, hS', bs, s2 _ _ upd_same, rfl, fun x _ => rfl⟩
    · rintro m σ H' _ ⟨_, _, h1, _⟩
      exact SqL.of h1
    · rintro m v σ H3 hv ⟨⟨v3, rfl⟩, s3, hD3, hS3, ms, hL3, hml, hm⟩
      obtain ⟨x, hx, rfl⟩ := rf_of hv
      obtain ⟨q, hq, ds, r⟩ := Paired.at hS3 hx
      obtain ⟨q1, q2⟩ := hlt q (hp.mem_iff.mp (List.mem_of_getElem? hq))
      refine ⟨_, rfl, _, rfl, x, _, ds, _, _, rfl, r, T.C_Send, T.N_zdb, rfl, L, _, _, _, rfl, rfl, SqL.of hL3, atI_nat (v := V.bl (gb ms q.src)) (by rw [List.getElem?_map, gb_at (by omega)]; rfl), _, rfl, ?_⟩
      have eM : ∀ y, mkFold (S'.take (m + 1)) (gb bs) y = (mkFold (S'.take m) (gb bs) y || (q.dst == y && mkFold (S'.take m) (gb bs) q.src)) := fun y => by rw [tk_snoc hq, mkFold_snoc]; rfl
      have eq := hm q.src (by omega)
      cases c : gb ms q.src with
      | false =>
        refine iteF ⟨⟨_, rfl⟩, s3, hD3, hS3, ms, hL3, hml, fun y hy => ?_⟩
        rw [eM, ← eq, c, Bool.and_false, Bool.or_false, hm y hy]
      | true =>
        refine iteT ⟨_, rfl, _, rfl, x, _, ds, _, _, rfl, r, T.C_Send, T.N_zib, rfl, L, _, _, q.dst, rfl, rfl, hL3, (by rw [List.length_map, hml]; exact ix_nat q2), ?_⟩
        have nDL : D ≠ L := fun z => by rw [z, hL3] at hD3; have e := HO.lst.inj (Option.some.inj hD3); rw [z, upd_same] at nD; cases nD
        refine ⟨⟨_, rfl⟩, fun b o e => ?_, ?_, ?_, ms.set q.dst true, ?_, by rw [List.length_set]; exact hml, fun y hy => ?_⟩
        · rw [upd_ne (fun z => by rw [z, nL] at e; cases e)]
          exact s3 b o e
        · rw [upd_ne nDL]; exact hD3
        · refine Paired.memP hS3 fun y _ q' ⟨ds', e⟩ => ⟨ds', ?_⟩
          rw [upd_ne (fun z => by rw [z, hL3] at e; cases e)]
          exact e
        · rw [upd_same, ← List.map_set]
        · rw [eM, ← eq, c, Bool.and_true, ← hm y hy]
          unfold gb
          rw [List.getD_eq_getElem?_getD, List.getD_eq_getElem?_getD, List.getElem?_set]
          by_cases e : q.dst = y
          · subst e
            rw [if_pos rfl, if_pos (by omega)]
            simp
          · rw [if_neg e]
            have : (q.dst == y) = false := by simpa using e
            rw [this, Bool.or_false]
    · rintro σ H3 ⟨⟨v3, rfl⟩, s3, hD3, hS3, ms, hL3, hml, hm⟩
      rw [List.length_map, Paired.len hS3, List.take_length] at hm
      exact ⟨_, rfl, k H3 L ms s3 nL hL3 hml ⟨_, Onward.perm hp (mkFold_onward hs hlt' (gb bs)), hm⟩⟩
end
end Mx
end
section
set_option Elab.async false
set_option linter.all false
set_option maxRecDepth 100000
set_option maxHeartbeats 1000000
namespace Mx
open PySem PySem.Spec PyProof.Rows L2
def Backward (S : List Mix.Send) (B M : Nat → Bool) : Prop := ∀ x, M x = (B x || S.any fun q => q.src == x && M q.dst)
theorem Backward.unique {S : List Mix.Send} {N : Nat} (hlt : ∀ q ∈ S, q.src < q.dst ∧ q.dst < N) {B M M' : Nat → Bool} (h : Backward S B M) (h' : Backward S B M') : ∀ n x, N - x ≤ n → M x = M' x
  | n, x, hx => by
    rw [h x, h' x]
    congr 1
    refine Md.any_congr fun q hq => ?_
    by_cases e : q.src = x
    · obtain ⟨h1, h2⟩ := hlt q hq
      cases n with
      | zero => omega
      | succ n => rw [Backward.unique hlt h h' n q.dst (by omega)]
    · have : (q.src == x) = false := by simpa using e
      rw [this]
      rfl
theorem after_m {S : List Mix.Send} (hs : S.Pairwise fun p q => q.src ≤ p.src) (hlt : ∀ q ∈ S, q.src < q.dst) {m : Nat} {q : Mix.Send} (hq : S[m]? = some q) : ∀ p ∈ S.drop m, p.src ≠ q.dst := by
  intro p hp e
  obtain ⟨j, hj⟩ := List.getElem?_of_mem hp
  rw [List.getElem?_drop] at hj
  have hl := hlt q (List.mem_of_getElem? hq)
  have : p.src ≤ q.src := by
    cases j with
    | zero =>
      rw [Nat.add_zero, hq] at hj
      cases hj
      exact Nat.le_refl _
    | succ j =>
      obtain ⟨h1, e1⟩ := List.getElem?_eq_some_iff.mp hq
      obtain ⟨h2, e2⟩ := List.getElem?_eq_some_iff.mp hj
      have := List.pairwise_iff_getElem.mp hs m (m + (j + 1)) h1 h2 (by omega)
      rw [e1, e2] at this
      exact this
  omega
def bkStep (M : Nat → Bool) (q : Mix.Send) : Nat → Bool := fun x => M x || (q.src == x && M q.dst)
def bkFold (S : List Mix.Send) (B : Nat → Bool) : Nat → Bool := S.foldl bkStep B
theorem bkFold_out (x : Nat) : ∀ (S : List Mix.Send) (B : Nat → Bool), (∀ q ∈ S, q.src ≠ x) → bkFold S B x = B x
  | [], B, _ => rfl
  | q :: r, B, h => by
    show bkFold r (bkStep B q) x = B x
    rw [bkFold_out x r _ fun p hp => h p (List.mem_cons_of_mem _ hp)]
    unfold bkStep
    have : (q.src == x) = false := by simpa using h q (List.mem_cons_self ..)
    rw [this]
    simp
theorem bkFold_snoc (S : List Mix.Send) (q : Mix.Send) (B : Nat → Bool) : bkFold (S ++ [q]) B = bkStep (bkFold S B) q := by
  unfold bkFold
  rw [List.foldl_append]
  rfl
theorem bkFold_take {S : List Mix.Send} (hs : S.Pairwise fun p q => q.src ≤ p.src) (hlt : ∀ q ∈ S, q.src < q.dst) {m : Nat} {q : Mix.Send} (hq : S[m]? = some q) (B : Nat → Bool) : bkFold (S.take m) B q.dst = bkFold S B q.dst := by
  have e : bkFold S B = bkFold (S.drop m) (bkFold (S.take m) B) := by
    unfold bkFold
    rw [← List.foldl_append, List.take_append_drop]
  rw [e, bkFold_out _ _ _ (after_m hs hlt hq)]
theorem bkFold_back {S : List Mix.Send} (hs : S.Pairwise fun p q => q.src ≤ p.src) (hlt : ∀ q ∈ S, q.src < q.dst) (B : Nat → Bool) : Backward S B (bkFold S B) := by
  have : ∀ m, m ≤ S.length → ∀ x, bkFold (S.take m) B x = (B x || (S.take m).any fun q => q.src == x && bkFold S B q.dst) := fun m => by
    induction m with
    | zero => intro _ x; simp [bkFold]
    | succ m ih =>
      intro hm x
      have hq := List.getElem?_eq_getElem (show m < S.length by omega)
      rw [tk_snoc hq, bkFold_snoc, List.any_append]
      unfold bkStep
      rw [ih (by omega) x, bkFold_take hs hlt hq]
      simp [Bool.or_assoc]
  intro x
  have h := this S.length (Nat.le_refl _) x
  rwa [List.take_length] at h
theorem Backward.perm {S S' : List Mix.Send} (h : S'.Perm S) {B M : Nat → Bool} (o : Backward S' B M) : Backward S B M := fun x => by rw [o x, any_perm h]
section
variable {P : Program} {w : World} {K : PySem.W.Frag} {mg : Str → Option Value} {base : Heap} {a : AD}
def spSpreadBack (K : PySem.W.Frag) (a : AD) : Sp := fun vs H Q _ => ∃ ls lb, ∃ S : List Mix.Send, ∃ bs : List Bool, vs = [.ref ls, .ref lb] ∧ SnL K a H ls S ∧ SqL K H lb (bs.map V.bl) ∧ S.length < 64 ∧ bs.length ≤ 1000 ∧ (∀ q ∈ S, q.src < q.dst ∧ q.dst < bs.length) ∧
  ∀ (H' : Hp) (l : Addr) (ms : List Bool), Same H H' → H l = none → H' l = some (.lst (ms.map V.bl)) → ms.length = bs.length → (∃ M : Nat → Bool, Backward S (gb bs) M ∧ ∀ x, x < bs.length → gb ms x = M x) → Q (.ref l) H'
theorem sc_zv : FnScope ["sends", "begun", "marks", "told"] ["sends", "begun"] (defScope s_zv) := ⟨rfl, rfl, rfl, by decide +kernel, rfl, by decide +kernel, by decide +kernel⟩
theorem ok_zv (T : Txt K mg a) : FnOk P w K mg base CX0 3 a.f_zv a.d_zv ["sends", "begun"] (spSpreadBack K a) := by
  have GS := ok_zG (P := P) (w := w) (base := base) T
  refine T.F_zv.ok sc_zv (fun vs H Q E h => ?_) (fun cdv A outer s H vs Q E hr h => ?_)
  · obtain ⟨ls, lb, S, bs, rfl, _⟩ := h
    rfl
  · obtain ⟨ls, lb, S, bs, rfl, hS, hB, h64, hbl, hlt, k⟩ := h
    have nd := sc_zv.nd
    refine ⟨_, pss_cons (ps_set (i := 2) nd rfl (Or.inl rfl) (pe_callTy call_list_of (by rfl) T.b_list (by decide +kernel) (pa_cons (pv 1) pa_nil)))
      (pss_cons (ps_for PassesOwn.never rfl (pi_list (pe_callBK (crk_sortedR GS hr T.B_zG) (by rfl) T.b_sorted boot_sorted (pa_cons (pv 0) pa_nil) (pk_cons (gref T.g_zG) (pk_cons pe_bl pk_nil)))) (pg_name (i := 3) nd rfl (Or.inl rfl))
        (pss_one (ps_if (pt_val (pe_ix ix_list (pv 2) (pe_fld (pv 3) rfl) (fun _ _ => rfl))) (pss_one (ps_asg pe_bl (pg_sub (pv 2) (pe_fld (pv 3) rfl) set_list))) pss_nil)))
      (pss_one (ps_ret (pv 2)))), ?_⟩
    refine ⟨_, rfl, lb, _, rfl, .inl hB, fun L nL => ?_⟩
    have s1 := sm_new (o := .lst (bs.map V.bl)) nL
    obtain ⟨ss, hS1, hS2⟩ := hS.same s1
    have hll := Paired.len hS2
    refine ⟨_, rfl, ls, _, S.map fun s => (s.src : Int), rfl, rfl, hS1, by rw [List.length_map, List.length_map, hll], by rw [List.length_map, hll]; exact h64, sort_turn hS2, fun H2 D ys ko s2 nD hD => ?_⟩
    obtain ⟨ss', S', rfl, hS', hp, hs⟩ := sorted_sends (hS2.same s2) ko
    have hs : S'.Pairwise fun p q => q.src ≤ p.src := hs
    have hlt' : ∀ q ∈ S', q.src < q.dst := fun q hq => (hlt q (hp.mem_iff.mp hq)).1
    refine ⟨D, rfl, ⟨_, SqL.of hD⟩, for_list (K := K) (a := D) (xs := ss'.map V.ref) (fun m σ H' => (∃ v3 : Option V, σ = [some (.ref ls), some (.ref lb), some (.ref L), v3]) ∧ Same H H' ∧ H' D = some (.lst (ss'.map V.ref)) ∧ SendsAt a H' ss' S' ∧ ∃ ms : List Bool, H' L = some (.lst (ms.map V.bl)) ∧ ms.length = bs.length ∧ ∀ x, x < bs.length → gb ms x = bkFold (S'.take m) (gb bs) x) ?_ ?_ ?_ ?_⟩
    · exact ⟨⟨_, rfl⟩, s1.trans s2, hD, hS', bs, s2 _ _ upd_same, rfl, fun x _ => rfl⟩
    · rintro m σ H' _ ⟨_, _, h1, _⟩
      exact SqL.of h1
    · rintro m v σ H3 hv ⟨⟨v3, rfl⟩, s3, hD3, hS3, ms, hL3, hml, hm⟩
      obtain ⟨x, hx, rfl⟩ := rf_of hv
      obtain ⟨q, hq, ds, r⟩ := Paired.at hS3 hx
      obtain ⟨q1, q2⟩ := hlt q (hp.mem_iff.mp (List.mem_of_getElem? hq))
      refine ⟨_, rfl, _, rfl, x, _, ds, _, _, rfl, r, T.C_Send, T.N_zib, rfl, L, _, _, _, rfl, rfl, SqL.of hL3, atI_nat (v := V.bl (gb ms q.dst)) (by rw [List.getElem?_map, gb_at (by omega)]; rfl), _, rfl, ?_⟩
      have eM : ∀ y, bkFold (S'.take (m + 1)) (gb bs) y = (bkFold (S'.take m) (gb bs) y || (q.src == y && bkFold (S'.take m) (gb bs) q.dst)) := fun y => by rw [tk_snoc hq, bkFold_snoc]; rfl
      have eq := hm q.dst (by omega)
      cases c : gb ms q.dst with
      | false =>
        refine iteF ⟨⟨_, rfl⟩, s3, hD3, hS3, ms, hL3, hml, fun y hy => ?_⟩
        rw [eM, ← eq, c, Bool.and_false, Bool.or_false, hm y hy]
      | true =>
        refine iteT ⟨_, rfl, _, rfl, x, _, ds, _, _, rfl, r, T.C_Send, T.N_zdb, rfl, L, _, _, q.src, rfl, rfl, hL3, (by rw [List.length_map, hml]; exact ix_nat (Nat.lt_trans q1 q2)), ?_⟩
        have nDL : D ≠ L := fun z => by rw [z, hL3] at hD3; have e := HO.lst.inj (Option.some.inj hD3); rw [z, upd_same] at nD; cases nD
        refine ⟨⟨_, rfl⟩, fun b o e => ?_, ?_, ?_, ms.set q.src true, ?_, by rw [List.length_set]; exact hml, fun y hy => ?_⟩
        · rw [upd_ne (fun z => by rw [z, nL] at e; cases e)]
          exact s3 b o e
        · rw [upd_ne nDL]; exact hD3
        · refine Paired.memP hS3 fun y _ q' ⟨ds', e⟩ => ⟨ds', ?_⟩
          rw [upd_ne (fun z => by rw [z, hL3] at e; cases e)]
          exact e
        · rw [upd_same, ← List.map_set]
        · rw [eM, ← eq, c, Bool.and_true, ← hm y hy]
          unfold gb
          rw [List.getD_eq_getElem?_getD, List.getD_eq_getElem?_getD, List.getElem?_set]
          by_cases e : q.src = y
          · subst e
            rw [if_pos rfl, if_pos (by omega)]
            simp
          · rw [if_neg e]
            have : (q.src == y) = false := by simpa using e
            rw [this, Bool.or_false]
    · rintro σ H3 ⟨⟨v3, rfl⟩, s3, hD3, hS3, ms, hL3, hml, hm⟩
      rw [List.length_map, Paired.len hS3, List.take_length] at hm
      exact ⟨_, rfl, k H3 L ms s3 nL hL3 hml ⟨_, Backward.perm hp (bkFold_back hs hlt' (gb bs)), hm⟩⟩
end
end Mx
end
section
set_option Elab.async false
set_option linter.all false
set_option maxRecDepth 100000
set_option maxHeartbeats 1000000
namespace Mx
open PySem PySem.Spec PyProof.Rows L2
theorem fits_mem {ns : List Mix.Node} {l : List Mix.Setting} (h : Md.Fits ns l) : (∀ p ∈ mems ⟨ns, l⟩, Mix.Desk.kind ⟨ns, l⟩ p.1 = 3 ∧ Mix.Desk.kind ⟨ns, l⟩ p.2 < 3) ∧ (mems ⟨ns, l⟩).Nodup := by
  induction h with
  | nil => exact ⟨fun p hp => by simp [mems] at hp, by simp [mems]⟩
  | @snoc l s _ ok ih =>
    have e : mems ⟨ns, l ++ [s]⟩ = mems ⟨ns, l⟩ ++ (memberIn s).toList := by
      unfold mems
      rw [List.filterMap_append]
      cases s <;> rfl
    rw [e]
    cases s with
    | member gr x =>
      obtain ⟨k1, k2, k3⟩ := ok
      refine ⟨fun p hp => ?_, ?_⟩
      · rcases List.mem_append.mp hp with z | z
        · exact ih.1 p z
        · have : p = (gr, x) := by simpa [memberIn] using z
          subst this
          exact ⟨k1, k2⟩
      · rw [List.nodup_append]
        refine ⟨ih.2, by simp [memberIn], fun p hp q hq e2 => ?_⟩
        have hq : q = (gr, x) := by simpa [memberIn] using hq
        subst e2 hq
        have : Mix.Desk.isMember ⟨ns, l⟩ gr x = true := by
          rw [← mems_any, List.any_eq_true]
          exact ⟨dP (gr, x), List.mem_map.mpr ⟨_, hp, rfl⟩, by rw [eqv_dP]; simp⟩
        rw [k3] at this
        cases this
    | _ =>
      rw [show (memberIn _).toList = ([] : List (Nat × Nat)) from rfl, List.append_nil]
      exact ih
theorem mem_mems {d : Mix.Desk} {gr x : Nat} : (gr, x) ∈ mems d ↔ d.isMember gr x = true := by
  rw [← mems_any, List.any_eq_true]
  constructor
  · intro h
    exact ⟨dP (gr, x), List.mem_map.mpr ⟨_, h, rfl⟩, by rw [eqv_dP]; simp⟩
  · rintro ⟨z, hz, e⟩
    obtain ⟨p, hp, rfl⟩ := List.mem_map.mp hz
    rw [eqv_dP] at e
    simp at e
    obtain ⟨p1, p2⟩ := p
    obtain ⟨rfl, rfl⟩ := e
    exact hp
def grps (d : Mix.Desk) (i : Nat) : List Nat := ((mems d).filter fun p => p.2 == i).map fun p => p.1
theorem groups_sorted (d : Mix.Desk) (i : Nat) : (d.groups i).Pairwise (· < ·) := List.Pairwise.filter _ List.pairwise_lt_range
theorem nodup_fst : ∀ {l : List (Nat × Nat)} {i : Nat}, l.Nodup → ((l.filter fun p => p.2 == i).map fun p => p.1).Nodup
  | [], _, _ => by simp
  | p :: r, i, h => by
    obtain ⟨h1, h2⟩ := List.nodup_cons.mp h
    have ih := nodup_fst (l := r) (i := i) h2
    rw [List.filter_cons]
    split
    · rename_i hp
      rw [List.map_cons, List.nodup_cons]
      refine ⟨fun hm => h1 ?_, ih⟩
      obtain ⟨q, hq, e⟩ := List.mem_map.mp hm
      obtain ⟨q1, q2⟩ := List.mem_filter.mp hq
      have e2 : p = q := by
        obtain ⟨p1, p2⟩ := p
        obtain ⟨r1, r2⟩ := q
        simp at hp q2 e
        simp [e, hp, q2]
      rw [e2]
      exact q1
    · exact ih
theorem groups_perm {d : Mix.Desk} (g : Md.Good d) (i : Nat) : (d.groups i).Perm (grps d i) := by
  refine (List.perm_ext_iff_of_nodup ((groups_sorted d i).imp fun h => Nat.ne_of_lt h) (nodup_fst (fits_mem g.fits).2)).mpr fun x => ?_
  unfold Mix.Desk.groups
  rw [List.mem_filter, List.mem_range]
  show _ ↔ x ∈ ((mems d).filter fun p => p.2 == i).map fun p => p.1
  simp only [List.mem_map, List.mem_filter, beq_iff_eq]
  constructor
  · rintro ⟨_, h⟩
    exact ⟨(x, i), ⟨mem_mems.mpr h, rfl⟩, rfl⟩
  · rintro ⟨p, ⟨h1, h2⟩, h3⟩
    obtain ⟨p1, p2⟩ := p
    simp at h2 h3
    subst h2 h3
    exact ⟨Md.lt_size (by have := ((fits_mem g.fits).1 _ h1).1; show d.kind _ < 4; have e : d.kind p1 = 3 := this; omega), mem_mems.mp h1⟩
theorem groups_eq {d : Mix.Desk} (g : Md.Good d) {i : Nat} {l : List Nat} (h : l.Perm (grps d i)) (hs : l.Pairwise (· ≤ ·)) : l = d.groups i := Md.eq_of_sorted (h.trans (groups_perm g i).symm) hs (Md.sorted_lt (groups_sorted d i))
theorem groups_lt {d : Mix.Desk} {i x : Nat} (h : x ∈ d.groups i) : x < d.size := List.mem_range.mp (List.mem_filter.mp h).1
theorem groups_len {d : Mix.Desk} (g : Md.Good d) (i : Nat) : (d.groups i).length ≤ 24 := by
  have := List.length_filter_le (fun x => d.isMember x i) (List.range d.size)
  rw [List.length_range] at this
  exact Nat.le_trans this g.size
section
variable {P : Program} {w : World} {K : PySem.W.Frag} {mg : Str → Option Value} {base : Heap} {a : AD}
def spGroups (a : AD) : Sp := fun vs H Q _ => ∃ dk A d i, vs = [.ref dk, .int ((i : Nat) : Int)] ∧ DkAt a H dk A d ∧ Md.Fine d ∧ ∀ (H' : Hp) (l : Addr), Same H H' → H l = none → H' l = some (.lst (kV (d.groups i))) → Q (.ref l) H'
theorem sc_zh : FnScope ["self", "i", "pair"] ["self", "i"] (defScope s_zh) := ⟨rfl, rfl, rfl, by decide +kernel, rfl, by decide +kernel, by decide +kernel⟩
theorem ok_zh (T : Txt K mg a) : FnOk P w K mg base CX0 1 a.f_zh a.d_zh ["self", "i"] (spGroups a) := by
  refine T.F_zh.ok sc_zh (fun vs H Q E h => ?_) (fun cdv A outer s H vs Q E hr h => ?_)
  · obtain ⟨dk, A, d, i, rfl, _⟩ := h
    rfl
  · obtain ⟨dk, A', d, i, rfl, D, g, k⟩ := h
    have nd := sc_zh.nd
    refine ⟨_, pss_one (ps_ret (pe_callB cr_sorted (by rfl) T.b_sorted boot_sorted (pa_cons
      (pe_lc (own := [("pair", 2)]) (tt := tTest (tOp rEq (tOp (rIxT K) (tVar 2) (tC (.int 1))) (tVar 1))) (te := tOp (rIxT K) (tVar 2) (tC (.int 0))) rfl nd (pi_list (pe_fld (pv 0) rfl)) (blkOk_by (by rfl)) (fun s H C cl fp => pg_name (i := 2) nd rfl (Or.inl rfl))
        (fun s H C cl fp => pts_one (pt_cmpR op_eq (pe_ix ix_tup (pv 2) pe_int (fun _ _ => rfl)) (pv 1) (nomark _))) (fun s H C cl fp => pe_ix ix_tup (pv 2) pe_int (fun _ _ => rfl))) pa_nil))), ?_⟩
    obtain ⟨dd, o1⟩ := D.obj
    obtain ⟨ms, o2, o3⟩ := D.mem
    refine ⟨_, rfl, dk, _, dd, _, _, rfl, o1, T.C_Desk, T.N_zkb, dk_members A', A'.m, rfl, ⟨_, SqL.of o2⟩, fun L hL => lc_list (K := K) (a := A'.m) (xs := ms.map V.ref) (fun m H' => Same H H' ∧ H' L = some (.lst (kV ((((mems d).take m).filter fun p => p.2 == i).map fun p => p.1)))) ?_ ?_ ?_ ?_⟩
    · exact ⟨sm_new hL, upd_same⟩
    · rintro m H' _ ⟨sm, _⟩
      exact SqL.of (sm _ _ o2)
    · rintro m v H' hv ⟨sm, hL'⟩
      obtain ⟨x, hx, rfl⟩ := rf_of hv
      obtain ⟨q, hq, r1⟩ := Paired.at o3 hx
      have r2 := sm _ _ r1
      refine ⟨rfl, ?_⟩
      refine ⟨_, rfl, x, _, _, _, rfl, rfl, SqT.of r2, rfl, _, rfl, rfl, _, rfl, ?_⟩
      rw [dec_nat, tk_snoc hq, List.filter_append]
      by_cases c : q.2 = i
      · rw [decide_eq_true c, List.filter_cons, if_pos (by simpa using c)]
        refine iteT ⟨_, rfl, x, _, _, _, rfl, rfl, SqT.of r2, rfl, _, hL', ?_, fun b o e => ?_, ?_⟩
        · rw [kV_len, List.length_map, sizeLine_eq]
          have := List.length_filter_le (fun p : Nat × Nat => p.2 == i) ((mems d).take m)
          have := List.length_take_le' m (mems d)
          have := mems_len d
          have := g.sz
          omega
        · rw [upd_ne (ne_of_none e hL)]
          exact sm b o e
        · rw [upd_same, List.map_append]
          unfold kV
          rw [List.map_append]
          rfl
      · rw [decide_eq_false c, List.filter_cons, if_neg (by simpa using c), List.filter_nil, List.append_nil]
        exact iteF ⟨sm, hL'⟩
    · rintro H1 ⟨s1, hL1⟩
      rw [List.length_map, Paired.len o3, List.take_length, kV_ints] at hL1
      refine ⟨L, _, rfl, SqL.of hL1, ?_, fun ns p hp hs np => ?_⟩
      · rw [List.length_map]
        have e := (groups_perm g.good i).length_eq
        have := groups_len g.good i
        show (grps d i).length < 64
        omega
      · obtain ⟨l, rfl, h2, h3⟩ := nat_back (t := grps d i) hp hs
        rw [groups_eq g.good h2 h3, ← kV_ints]
        exact k _ p (s1.trans (sm_new np)) (s1.free np) upd_same
end
end Mx
end
section
set_option Elab.async false
set_option linter.all false
set_option maxRecDepth 100000
set_option maxHeartbeats 1000000
namespace Mx
open PySem PySem.Spec PyProof.Rows L2
theorem kind_v {d : Mix.Desk} {m : Nat} {v : V} (hv : (d.nodes.map fun n => V.int (n.kind : Int))[m]? = some v) : m < d.size ∧ v = .int ((d.kind m : Nat) : Int) := by
  rw [List.getElem?_map] at hv
  cases e : d.nodes[m]? with
  | none => rw [e] at hv; cases hv
  | some x =>
    rw [e] at hv
    refine ⟨(List.getElem?_eq_some_iff.mp e).1, ?_⟩
    rw [← Option.some.inj hv]
    unfold Mix.Desk.kind
    rw [e]
    rfl
end Mx
end
section
set_option Elab.async false
set_option linter.all false
set_option maxRecDepth 100000
set_option maxHeartbeats 1000000
namespace Mx
open PySem PySem.Spec PyProof.Rows L2
theorem orV_go {ta tb : TE} {σ : L2.St} {H : Hp} {Q : VK} {c1 c2 : Bool} (h1 : ∀ Q : VK, Q (.bl c1) H → ta σ H Q) (h2 : ∀ Q : VK, (∀ H', Same H H' → Q (.bl c2) H') → tb σ H Q) (q : ∀ H', Same H H' → Q (.bl (c1 || c2)) H') : tOrV ta tb σ H Q := by
  refine h1 _ ⟨_, rfl, ?_⟩
  cases c1 with
  | true => exact iteT (q H (Same.refl H))
  | false => exact iteF (h2 _ q)
theorem andV_go {ta tb : TE} {σ : L2.St} {H : Hp} {Q : VK} {c1 c2 : Bool} (h1 : ∀ Q : VK, Q (.bl c1) H → ta σ H Q) (h2 : ∀ Q : VK, (∀ H', Same H H' → Q (.bl c2) H') → tb σ H Q) (q : ∀ H', Same H H' → Q (.bl (c1 && c2)) H') : tAndV ta tb σ H Q := by
  refine h1 _ ⟨_, rfl, ?_⟩
  cases c1 with
  | false => exact iteF (q H (Same.refl H))
  | true => exact iteT (h2 _ q)
def bI : Nat → Int
  | 0 => 1
  | _ => 2
theorem bit_eq {n b : Nat} (hn : n ≤ 3) (hb : b ≤ 1) : (!decide (V.int (Builtin.bitAnd (n : Int) (bI b)) = V.int 0)) = n.testBit b := by
  have h1 : n = 0 ∨ n = 1 ∨ n = 2 ∨ n = 3 := by omega
  have h2 : b = 0 ∨ b = 1 := by omega
  rcases h1 with rfl | rfl | rfl | rfl <;> rcases h2 with rfl | rfl <;> decide +kernel
structure SwAt (K : PySem.W.Frag) (H : Hp) (ls : Addr) (ns : List Nat) (d : Mix.Desk) : Prop where
  at_ : TxL K H ls (kV ns)
  len : ns.length = d.size
  le : ∀ n ∈ ns, n ≤ 3
theorem SwAt.same {K : PySem.W.Frag} {H H' : Hp} {ls : Addr} {ns : List Nat} {d : Mix.Desk} (h : SwAt K H ls ns d) (s : Same H H') : SwAt K H' ls ns d := ⟨h.at_.same s, h.len, h.le⟩
theorem SwAt.get {K : PySem.W.Frag} {H : Hp} {ls : Addr} {ns : List Nat} {d : Mix.Desk} (h : SwAt K H ls ns d) {x : Nat} (hx : x < d.size) : (kV ns)[x]? = some (.int ((ns.getD x 0 : Nat) : Int)) ∧ ns.getD x 0 ≤ 3 := by
  have e := List.getElem?_eq_getElem (show x < ns.length by rw [h.len]; exact hx)
  have e2 : ns.getD x 0 = ns[x]'(by rw [h.len]; exact hx) := by rw [List.getD_eq_getElem?_getD, e]; rfl
  rw [e2]
  exact ⟨kV_at e, h.le _ (List.getElem_mem _)⟩
section
variable {P : Program} {w : World} {K : PySem.W.Frag} {mg : Str → Option Value} {base : Heap} {a : AD}
def spHasBit : Sp := fun vs H Q _ => ∃ n b : Nat, vs = [.int (n : Int), .int (bI b)] ∧ n ≤ 3 ∧ b ≤ 1 ∧ Q (.bl (n.testBit b)) H
theorem sc_zU : FnScope ["switch", "bit"] ["switch", "bit"] (defScope s_zU) := ⟨rfl, rfl, rfl, by decide +kernel, rfl, by decide +kernel, by decide +kernel⟩
theorem ok_zU (T : Txt K mg a) : FnOk P w K mg base CX0 1 a.f_zU a.d_zU ["switch", "bit"] spHasBit := by
  refine T.F_zU.ok sc_zU (fun vs H Q E h => ?_) (fun cdv A outer s H vs Q E hr h => ?_)
  · obtain ⟨n, b, rfl, _⟩ := h
    rfl
  · obtain ⟨n, b, rfl, hn, hb, k⟩ := h
    refine ⟨_, pss_one (ps_ret (pe_cmpR op_ne (pe_op op_and (pv 0) (pv 1)) pe_int (nomark _))), ?_⟩
    refine ⟨_, rfl, _, rfl, _, _, rfl, rfl, rfl, ?_⟩
    rw [← bit_eq hn hb] at k
    exact k
def spIsSwitched (K : PySem.W.Frag) (a : AD) : Sp := fun vs H Q _ => ∃ dk A d ls i b, ∃ ns : List Nat, vs = [.ref dk, .ref ls, .int ((i : Nat) : Int), .int (bI b)] ∧ DkAt a H dk A d ∧ Md.Fine d ∧ SwAt K H ls ns d ∧ i < d.size ∧ b ≤ 1 ∧ ∀ H', Same H H' → Q (.bl (Md.swAll d ns b i)) H'
theorem sc_zs : FnScope ["desk", "s", "i", "bit", "group"] ["desk", "s", "i", "bit"] (defScope s_zs) := ⟨rfl, rfl, rfl, by decide +kernel, rfl, by decide +kernel, by decide +kernel⟩
theorem ok_zs (T : Txt K mg a) : FnOk P w K mg base CX0 2 a.f_zs a.d_zs ["desk", "s", "i", "bit"] (spIsSwitched K a) := by
  have GH := ok_zU (P := P) (w := w) (base := base) T
  have GG := ok_zh (P := P) (w := w) (base := base) T
  refine T.F_zs.ok sc_zs (fun vs H Q E h => ?_) (fun cdv A outer s H vs Q E hr h => ?_)
  · obtain ⟨dk, A, d, ls, i, b, ns, rfl, _⟩ := h
    rfl
  · obtain ⟨dk, A', d, ls, i, b, ns, rfl, D, g, S, hi, hb, k⟩ := h
    have nd := sc_zs.nd
    have hsl := sizeLine_eq
    refine ⟨_, pss_one (ps_ret (pe_or (pe_call GH hr rfl T.g_zU T.F_zU.kp T.B_zU .nil pass0 (pa_cons (pe_ix ix_list (pv 1) (pv 2) (fun _ _ => rfl)) (pa_cons (pv 3) pa_nil)))
      (pe_one (pe_callB (cr_any rfl) (by rfl) T.b_any (by decide +kernel) (pa_cons
        (pe_lc (own := [("group", 4)]) (te := tCall spHasBit [] E0 (tCons (tOp (rIxL K) (tVar 1) (tVar 4)) (tCons (tVar 3) tNil))) rfl nd (pi_list (pe_meth (pv 0) T.C_Desk T.M_zh GG hr T.B_zh .nil pass0 (pa_cons (pv 2) pa_nil))) (blkOk_by (by rfl)) (fun s H C cl fp => pg_name (i := 4) nd rfl (Or.inl rfl)) (fun s H C cl fp => pts_nil)
          (fun s H C cl fp => pe_call GH hr rfl T.g_zU T.F_zU.kp T.B_zU .nil pass0 (pa_cons (pe_ix ix_list (pv 1) (pv 4) (fun _ _ => rfl)) (pa_cons (pv 3) pa_nil)))) pa_nil))))), ?_⟩
    obtain ⟨e1, e2⟩ := S.get hi
    refine ⟨_, rfl, _, rfl, ls, _, _, _, rfl, rfl, S.at_.sq, atI_nat e1, _, rfl, _, b, rfl, e2, hb, _, rfl, ?_⟩
    have eS : Md.swAll d ns b i = ((ns.getD i 0).testBit b || (d.groups i).any (Md.swOf ns b)) := rfl
    cases c : (ns.getD i 0).testBit b with
    | true =>
      rw [eS, c, Bool.true_or] at k
      exact iteT (k H (Same.refl H))
    | false =>
      rw [eS, c, Bool.false_or] at k
      obtain ⟨dd, o1⟩ := D.obj
      refine iteF ⟨_, rfl, dk, dd, _, rfl, o1, rfl, _, rfl, dk, A', d, i, rfl, D, g, fun H1 p s1 np hp => ?_⟩
      have S1 := S.same s1
      have hgl := groups_len g.good i
      refine ⟨p, rfl, ⟨_, SqL.of hp⟩, fun L hL => lc_list (K := K) (a := p) (xs := kV (d.groups i)) (fun m H' => Same H1 H' ∧ H' L = some (.lst ((((d.groups i).take m).map (Md.swOf ns b)).map V.bl))) ?_ ?_ ?_ ?_⟩
      · exact ⟨sm_new hL, upd_same⟩
      · rintro m H' _ ⟨sm, _⟩
        exact SqL.of (sm _ _ hp)
      · rintro m v H' hv ⟨sm, hL'⟩
        obtain ⟨x, hx, rfl⟩ := kV_of hv
        obtain ⟨e3, e4⟩ := S.get (groups_lt (List.mem_of_getElem? hx))
        refine ⟨rfl, yes ?_⟩
        refine iteT ⟨_, rfl, _, rfl, ls, _, _, _, rfl, rfl, (S1.same sm).at_.sq, atI_nat e3, _, rfl, _, b, rfl, e4, hb, _, hL', ?_, fun b' o e => ?_, ?_⟩
        · rw [List.length_map, List.length_map, List.length_take]
          omega
        · rw [upd_ne (ne_of_none e hL)]
          exact sm b' o e
        · rw [upd_same, tk_snoc hx, List.map_append, List.map_append]
          rfl
      · rintro H2 ⟨s2, hL2⟩
        rw [kV_len, List.take_length] at hL2
        refine ⟨L, _, rfl, SqL.of hL2, ?_⟩
        rw [List.any_map]
        exact k H2 (s1.trans s2)
end
end Mx
end
section
set_option Elab.async false
set_option linter.all false
set_option maxRecDepth 100000
set_option maxHeartbeats 1000000
namespace Mx
open PySem PySem.Spec PyProof.Rows L2
theorem bl_range {M : Nat → Bool} {n m : Nat} (h : m < n) : (((List.range n).map M).map V.bl)[m]? = some (V.bl (M m)) := by
  rw [List.getElem?_map, List.getElem?_map, List.getElem?_range h]
  rfl
theorem bl_of {ms : List Bool} {n m : Nat} {M : Nat → Bool} (hl : ms.length = n) (h : ∀ x, x < n → gb ms x = M x) (hm : m < n) : (ms.map V.bl)[m]? = some (V.bl (M m)) := by
  rw [List.getElem?_map, gb_at (by omega), h m hm]
  rfl
theorem pI_eq (b : Bool) : decide (V.int (pI b) = V.int 1) = b := by cases b <;> decide
theorem rng_snoc {α : Type} (F : Nat → α) (m : Nat) : (List.range (m + 1)).map F = (List.range m).map F ++ [F m] := by
  rw [List.range_succ, List.map_append]
  rfl
section
variable {P : Program} {w : World} {K : PySem.W.Frag} {mg : Str → Option Value} {base : Heap} {a : AD}
def spLiveNodes (K : PySem.W.Frag) (a : AD) : Sp := fun vs H Q _ => ∃ dk A d ls, ∃ ns : List Nat, vs = [.ref dk, .ref ls] ∧ DkAt a H dk A d ∧ Md.Fine d ∧ SwAt K H ls ns d ∧
  ∀ (H' : Hp) (l : Addr), Same H H' → H l = none → H' l = some (.lst (((List.range d.size).map (Md.liveF d ns)).map V.bl)) → Q (.ref l) H'
theorem sc_zC : FnScope ["desk", "s", "solos", "behind", "ahead", "marks", "let_through", "i", "kind"] ["desk", "s"] (defScope s_zC) := ⟨rfl, rfl, rfl, by decide +kernel, rfl, by decide +kernel, by decide +kernel⟩
theorem ok_zC (T : Txt K mg a) : FnOk P w K mg base CX0 4 a.f_zC a.d_zC ["desk", "s"] (spLiveNodes K a) := by
  have GI := ok_zs (P := P) (w := w) (base := base) T
  have GO := ok_zl (P := P) (w := w) (base := base) T
  have GB := ok_zv (P := P) (w := w) (base := base) T
  refine T.F_zC.ok sc_zC (fun vs H Q E h => ?_) (fun cdv A outer s H vs Q E hr h => ?_)
  · obtain ⟨dk, A, d, ls, ns, rfl, _⟩ := h
    rfl
  · obtain ⟨dk, A', d, ls, ns, rfl, D, g, S, k⟩ := h
    have nd := sc_zC.nd
    have hsz := g.good.size
    have hsl := sizeLine_eq
    refine ⟨_, pss_cons (ps_setLc (i := 2) (own := [("i", 7), ("kind", 8)]) (g := gTup K 2 (gCons (gName 7) (gCons (gName 8) gNil))) (te := tAndV (tOp rNe (tVar 8) (tC (.int 3))) (tCall (spIsSwitched K a) [] E0 (tCons (tVar 0) (tCons (tVar 1) (tCons (tVar 7) (tCons (tC (.int 2)) tNil)))))) rfl nd rfl rfl (sw_true rfl rfl rfl (by rfl))
        (pi_enum (by rfl) T.b_enumerate (pa_cons (pe_fld (pv 0) rfl) pa_nil)) (blkOk_by (by rfl)) (fun s H C cl fp => pg_tup rfl (pgs_cons (pg_name (i := 7) nd rfl (Or.inl rfl)) (pgs_cons (pg_name (i := 8) nd rfl (Or.inl rfl)) pgs_nil))) (fun s H C cl fp => pts_nil)
        (fun s H C cl fp => pe_and (pe_cmpR op_ne (pv 8) (gint T.i_zSb) (nomark _)) (pe_one (pe_call GI (hr.mono (by decide)) rfl T.g_zs T.F_zs.kp T.B_zs .nil pass0 (pa_cons (pv 0) (pa_cons (pv 1) (pa_cons (pv 7) (pa_cons (gint T.i_SOLO) pa_nil))))))))
      (pss_cons (ps_set (i := 3) nd rfl (Or.inl rfl) (pe_call GO hr rfl T.g_zl T.F_zl.kp T.B_zl .nil pass0 (pa_cons (pe_fld (pv 0) rfl) (pa_cons (pv 2) pa_nil))))
      (pss_cons (ps_set (i := 4) nd rfl (Or.inl rfl) (pe_call GB hr rfl T.g_zv T.F_zv.kp T.B_zv .nil pass0 (pa_cons (pe_fld (pv 0) rfl) (pa_cons (pv 2) pa_nil))))
      (pss_cons (ps_set (i := 5) nd rfl (Or.inl rfl) (pe_lst pa_nil))
      (pss_cons (ps_for PassesOwn.never rfl (pi_enum (by rfl) T.b_enumerate (pa_cons (pe_fld (pv 0) rfl) pa_nil)) (pg_tup rfl (pgs_cons (pg_name (i := 7) nd rfl (Or.inl rfl)) (pgs_cons (pg_name (i := 8) nd rfl (Or.inl rfl)) pgs_nil)))
        (pss_cons (ps_set (i := 6) nd rfl (Or.inl rfl) (pe_or (pe_not (pe_callB (cr_any rfl) (by rfl) T.b_any (by decide +kernel) (pa_cons (pv 2) pa_nil))) (pe_or (pe_cmpR op_eq (pe_ix ix_list (pe_fld (pv 0) rfl) (pv 7) (fun _ _ => rfl)) pe_int (nomark _)) (pe_or (pe_ix ix_list (pv 3) (pv 7) (fun _ _ => rfl)) (pe_one (pe_ix ix_list (pv 4) (pv 7) (fun _ _ => rfl)))))))
        (pss_one (ps_expr (pe_bm PySem.F.plainAttrs_list PySem.F.slot_list_append PySem.F.type_list_append mt_append (pv 5) (pa_cons
          (pe_and (pe_cmpR op_ne (pv 8) (gint T.i_zSb) (nomark _)) (pe_and (pv 6) (pe_one (pe_not (pe_call GI (hr.mono (by decide)) rfl T.g_zs T.F_zs.kp T.B_zs .nil pass0 (pa_cons (pv 0) (pa_cons (pv 1) (pa_cons (pv 7) (pa_cons (gint T.i_MUTE) pa_nil)))))))) ) pa_nil))))))
      (pss_one (ps_ret (pv 5))))))), ?_⟩
    obtain ⟨dd, o1⟩ := D.obj
    have gg := g.good
    have sm_lt : ∀ y ∈ Md.solosL d ns, y < d.size := fun y hy => List.mem_range.mp (List.mem_filter.mp hy).1
    have sB : ∀ x, gb ((List.range d.size).map (Md.soloF d ns)) x = true ↔ x ∈ Md.solosL d ns := fun x => by
      unfold gb Md.solosL
      rw [List.getD_eq_getElem?_getD, List.getElem?_map, List.mem_filter, List.mem_range]
      by_cases c : x < d.size
      · rw [List.getElem?_range c]
        simp [c]
      · rw [List.getElem?_eq_none (by rw [List.length_range]; omega)]
        simp [c]
    refine ⟨_, rfl, dk, _, dd, _, _, rfl, o1, T.C_Desk, T.N_z9, dk_kinds A', A'.k, _, rfl, SqL.of D.kinds, fun L hL => lc_enum (K := K) (a := A'.k) (xs := d.nodes.map fun n => V.int (n.kind : Int)) (fun m H' => Same H H' ∧ H' L = some (.lst (((List.range m).map (Md.soloF d ns)).map V.bl))) ?_ ?_ ?_ ?_⟩
    · exact ⟨sm_new hL, upd_same⟩
    · rintro m H' ⟨sm, _⟩
      exact SqL.of (sm _ _ D.kinds)
    · rintro m v T1 H' hv ⟨sm, hL'⟩ nT
      obtain ⟨hm, rfl⟩ := kind_v hv
      have s1 : Same H' (upd H' T1 (.tup [.int (m : Nat), .int ((d.kind m : Nat) : Int)])) := sm_new nT
      have sm1 := sm.trans s1
      have hL1 := s1 _ _ hL'
      refine ⟨T1, _, rfl, SqT.of upd_same, rfl, _, _, rfl, _, _, rfl, rfl, rfl, yes ?_⟩
      generalize upd H' T1 (.tup [.int (m : Nat), .int ((d.kind m : Nat) : Int)]) = H1 at s1 sm1 hL1
      refine iteT (andV_go (c1 := !decide (V.int ((d.kind m : Nat) : Int) = V.int 3)) (c2 := Md.swAll d ns 1 m) (fun Q q => ⟨_, rfl, rfl, q⟩) (fun Q q => ⟨_, rfl, _, rfl, _, rfl, dk, A', d, ls, m, 1, ns, rfl, D.same sm1, g, S.same sm1, hm, Nat.le_refl _, q⟩) fun H2 s2 => ?_)
      refine ⟨_, s2 _ _ hL1, ?_, fun b o e => ?_, ?_⟩
      · rw [List.length_map, List.length_map, List.length_range]
        omega
      · rw [upd_ne (ne_of_none e hL)]
        exact s2 _ _ (sm1 b o e)
      · rw [upd_same, rng_snoc, List.map_append]
        have e : (!decide (V.int ((d.kind m : Nat) : Int) = V.int 3) && Md.swAll d ns 1 m) = Md.soloF d ns m := by
          unfold Md.soloF
          rw [show decide (V.int ((d.kind m : Nat) : Int) = V.int 3) = decide (d.kind m = 3) from dec_nat (d.kind m) 3]
          by_cases c : d.kind m = 3 <;> simp [c]
        rw [e]
        rfl
    · rintro H1 ⟨s1, hL1⟩
      rw [List.length_map] at hL1
      have hL1 : H1 L = some (.lst (((List.range d.size).map (Md.soloF d ns)).map V.bl)) := hL1
      have D1 := D.same s1
      obtain ⟨ss, o2, o3⟩ := D1.snd
      have hlen : ((List.range d.size).map (Md.soloF d ns)).length = d.size := by rw [List.length_map, List.length_range]
      refine ⟨_, rfl, dk, _, dd, _, _, rfl, s1 _ _ o1, T.C_Desk, T.N_zgb, dk_sends A', _, rfl, A'.q, L, d.sends, (List.range d.size).map (Md.soloF d ns), rfl, ⟨ss, SqL.of o2, o3⟩, SqL.of hL1, Nat.lt_of_le_of_lt gg.s48 (by decide), (by rw [hlen]; omega), fun q hq => ⟨(gg.send hq).lt, by rw [hlen]; exact gg.dst hq⟩, fun H2 lb ms s2 nlb hlb hml hM => ?_⟩
      obtain ⟨M, oM, eM⟩ := hM
      rw [hlen] at hml eM
      have eF : ∀ x, x < d.size → gb ms x = ((Md.solosL d ns).any fun y => Md.tw d x y) := fun x hx => by
        rw [eM x hx, Onward.unique (fun q hq => (gg.send hq).lt) oM (Md.on_eq gg _ _ sm_lt sB) (x + 1) x (Nat.lt_succ_self x), decide_eq_true hx, Bool.true_and]
      have D2 := D1.same s2
      obtain ⟨ss2, o4, o5⟩ := D2.snd
      refine ⟨_, rfl, dk, _, dd, _, _, rfl, s2 _ _ (s1 _ _ o1), T.C_Desk, T.N_zgb, dk_sends A', _, rfl, A'.q, L, d.sends, (List.range d.size).map (Md.soloF d ns), rfl, ⟨ss2, SqL.of o4, o5⟩, SqL.of (s2 _ _ hL1), Nat.lt_of_le_of_lt gg.s48 (by decide), (by rw [hlen]; omega), fun q hq => ⟨(gg.send hq).lt, by rw [hlen]; exact gg.dst hq⟩, fun H3 la ms' s3 nla hla hml' hM' => ?_⟩
      obtain ⟨M', oM', eM'⟩ := hM'
      rw [hlen] at hml' eM'
      have eB : ∀ x, x < d.size → gb ms' x = ((Md.solosL d ns).any fun y => Md.tw d y x) := fun x hx => by
        rw [eM' x hx, Backward.unique (fun q hq => ⟨(gg.send hq).lt, gg.dst hq⟩) oM' (Md.back_eq gg _ _ sm_lt sB) _ x (Nat.le_refl _)]
      have s13 : Same H1 H3 := s2.trans s3
      have s03 : Same H H3 := s1.trans s13
      refine ⟨Nat.zero_le _, fun Mk hMk => ?_⟩
      have s4 := sm_new (o := .lst []) hMk
      have hM0 : upd H3 Mk (.lst []) Mk = some (.lst []) := upd_same
      generalize upd H3 Mk (.lst []) = H4 at s4 hM0
      have D4 := D.same (s03.trans s4)
      refine ⟨_, rfl, dk, _, dd, _, _, rfl, s4 _ _ (s03 _ _ o1), T.C_Desk, T.N_z9, dk_kinds A', A'.k, _, rfl, SqL.of D4.kinds, for_enum (K := K) (a := A'.k) (xs := d.nodes.map fun n => V.int (n.kind : Int)) (fun m σ H' => (∃ v6 v7 v8 : Option V, σ = [some (.ref dk), some (.ref ls), some (.ref L), some (.ref lb), some (.ref la), some (.ref Mk), v6, v7, v8]) ∧ Same H3 H' ∧ H' Mk = some (.lst (((List.range m).map (Md.liveF d ns)).map V.bl))) ?_ ?_ ?_ ?_⟩
      · exact ⟨⟨_, _, _, rfl⟩, s4, hM0⟩
      · rintro m σ H' ⟨_, sm, _⟩
        exact SqL.of (D.same (s03.trans sm)).kinds
      · rintro m v T1 σ H' hv ⟨⟨v6, v7, v8, rfl⟩, sm, hM'⟩ nT
        obtain ⟨hm, rfl⟩ := kind_v hv
        have s5 : Same H' (upd H' T1 (.tup [.int (m : Nat), .int ((d.kind m : Nat) : Int)])) := sm_new nT
        have sm1 := sm.trans s5
        have hM1 := s5 _ _ hM'
        refine ⟨T1, _, rfl, SqT.of upd_same, rfl, _, _, rfl, _, _, rfl, rfl, ?_⟩
        generalize upd H' T1 (.tup [.int (m : Nat), .int ((d.kind m : Nat) : Int)]) = H5 at s5 sm1 hM1
        have sm2 : Same H H5 := s03.trans sm1
        have sm3 : Same H1 H5 := s13.trans sm1
        have D5 := D.same sm2
        dsimp only [tSeq, tAsg]
        refine orV_go (c1 := !((List.range d.size).map (Md.soloF d ns)).any id) (c2 := d.isSafe m || (((Md.solosL d ns).any fun y => Md.tw d m y) || (Md.solosL d ns).any fun y => Md.tw d y m)) (fun Q q => ⟨_, rfl, L, _, rfl, SqL.of (sm3 _ _ hL1), _, rfl, q⟩) (fun Q q => ?_) fun H6 s6 => ?_
        · refine orV_go (fun Q q => ⟨_, rfl, dk, _, dd, _, _, rfl, sm2 _ _ o1, T.C_Desk, T.N_zyb, dk_safe A', _, rfl, A'.s, _, _, _, rfl, rfl, SqL.of D5.safe, atI_nat (at_range hm), rfl, by rw [pI_eq]; exact q⟩) (fun Q q => ?_) q
          refine orV_go (fun Q q => ⟨_, rfl, _, rfl, lb, _, _, _, rfl, rfl, SqL.of (sm1 _ _ (s3 _ _ hlb)), atI_nat (bl_of hml eF hm), q⟩) (fun Q q => ?_) q
          exact ⟨_, rfl, _, rfl, la, _, _, _, rfl, rfl, SqL.of (sm1 _ _ hla), atI_nat (bl_of hml' eB hm), q H5 (Same.refl _)⟩
        · have sm6 : Same H3 H6 := sm1.trans s6
          have hM6 := s6 _ _ hM1
          refine ⟨_, rfl, .inl ⟨rfl, _, SqL.of hM6⟩, ?_⟩
          dsimp only [tCons]
          refine andV_go (c1 := !decide (V.int ((d.kind m : Nat) : Int) = V.int 3)) (c2 := (!((List.range d.size).map (Md.soloF d ns)).any id || (d.isSafe m || (((Md.solosL d ns).any fun y => Md.tw d m y) || (Md.solosL d ns).any fun y => Md.tw d y m))) && !Md.swAll d ns 0 m) (fun Q q => ⟨_, rfl, rfl, q⟩)
            (fun Q q => andV_go (fun Q q => ⟨_, rfl, q⟩) (fun Q q => ⟨_, rfl, _, rfl, _, rfl, dk, A', d, ls, m, 0, ns, rfl, D.same (s03.trans sm6), g, S.same (s03.trans sm6), hm, Nat.zero_le _, fun H7 s7 => ⟨_, rfl, q H7 s7⟩⟩) q) fun H7 s7 => ?_
          have hM7 := s7 _ _ hM6
          refine ⟨Mk, _, _, rfl, rfl, hM7, ?_, ⟨_, _, _, rfl⟩, fun b o e => ?_, ?_⟩
          · rw [List.length_map, List.length_map, List.length_range]
            omega
          · rw [upd_ne (ne_of_none e hMk)]
            exact s7 _ _ (sm6 b o e)
          · rw [upd_same, rng_snoc, List.map_append]
            have e1 : ((List.range d.size).map (Md.soloF d ns)).any id = (Md.solosL d ns).any fun _ => true := by
              rw [List.any_map]
              unfold Md.solosL
              rw [List.any_filter]
              exact Md.any_congr fun x _ => by simp
            have e : (!decide (V.int ((d.kind m : Nat) : Int) = V.int 3) && ((!((List.range d.size).map (Md.soloF d ns)).any id || (d.isSafe m || (((Md.solosL d ns).any fun y => Md.tw d m y) || (Md.solosL d ns).any fun y => Md.tw d y m))) && !Md.swAll d ns 0 m)) = Md.liveF d ns m := by
              unfold Md.liveF
              rw [e1, show decide (V.int ((d.kind m : Nat) : Int) = V.int 3) = decide (d.kind m = 3) from dec_nat (d.kind m) 3]
              congr 1
              by_cases c : d.kind m = 3 <;> simp [c]
            rw [e]
            rfl
      · rintro σ H' ⟨⟨v6, v7, v8, rfl⟩, sm, hM'⟩
        rw [List.length_map] at hM'
        exact ⟨_, rfl, k H' Mk (s03.trans sm) (s03.free hMk) hM'⟩
end
end Mx
end
section
set_option Elab.async false
set_option linter.all false
set_option maxRecDepth 100000
set_option maxHeartbeats 1000000
namespace Mx
open PySem PySem.Spec PyProof.Rows L2
section
variable {P : Program} {w : World} {K : PySem.W.Frag} {mg : Str → Option Value} {base : Heap} {a : AD}
def spRounded : Sp := fun vs H Q _ => ∃ z : Int, vs = [.int z] ∧ Q (.int (Mix.rounded z Mix.ONE)) H
theorem sc_zS : FnScope ["exact", "below", "left"] ["exact"] (defScope s_zS) := ⟨rfl, rfl, rfl, by decide +kernel, rfl, by decide +kernel, by decide +kernel⟩
theorem ok_zS (T : Txt K mg a) : FnOk P w K mg base CX0 1 a.f_zS a.d_zS ["exact"] spRounded := by
  refine T.F_zS.ok sc_zS (fun vs H Q E h => ?_) (fun cdv A outer s H vs Q E hr h => ?_)
  · obtain ⟨z, rfl, _⟩ := h
    rfl
  · obtain ⟨z, rfl, k⟩ := h
    have nd := sc_zS.nd
    refine ⟨_, pss_cons (ps_set (i := 1) nd rfl (Or.inl rfl) (pe_op op_fdiv (pv 0) (gint T.i_UNIT)))
      (pss_cons (ps_set (i := 2) nd rfl (Or.inl rfl) (pe_op op_mod (pv 0) (gint T.i_UNIT)))
      (pss_cons (ps_if (PW.pt (pw_or (pt_cmpR op_gt (pv 2) (gint T.i_HALF) (nomark _)) (pw_or1 (PW.pt (pw_and (pt_cmpR op_eq (pv 2) (gint T.i_HALF) (nomark _)) (pw_and1 (pt_cmpR op_eq (pe_op op_mod (pv 1) pe_int) pe_int (nomark _))))))))
        (pss_one (ps_ret (pe_op op_add (pv 1) pe_int))) pss_nil)
      (pss_one (ps_ret (pv 1))))), ?_⟩
    have e0 : Mix.rounded z Mix.ONE = if 2 * (z % 16384) > 16384 ∨ (2 * (z % 16384) = 16384 ∧ z / 16384 % 2 = 1) then z / 16384 + 1 else z / 16384 := rfl
    refine ⟨_, rfl, _, _, rfl, rfl, ⟨by decide, by decide⟩, _, rfl, _, _, rfl, rfl, (by show (0 : Int) < 16384; decide), _, rfl, _, _, rfl, rfl, _, rfl, ?_⟩
    by_cases c1 : (8192 : Int) < z % 16384
    · rw [decide_eq_true c1]
      rw [if_pos (.inl (by omega))] at e0
      refine iteT (iteT ⟨_, rfl, _, _, rfl, rfl, ?_⟩)
      rw [e0] at k
      exact k
    · rw [decide_eq_false c1]
      refine iteF ⟨_, rfl, rfl, _, rfl, ?_⟩
      by_cases c2 : z % 16384 = 8192
      · rw [decide_eq_true (show V.int (z % 16384) = V.int 8192 by rw [c2])]
        refine iteT ⟨_, rfl, _, _, rfl, rfl, (by show (0 : Int) < 2; decide), rfl, _, rfl, ?_⟩
        by_cases c3 : z / 16384 % 2 = 1
        · rw [decide_eq_true (show V.int (z / 16384 % 2) = V.int 1 by rw [c3])]
          rw [if_pos (.inr ⟨by omega, c3⟩)] at e0
          refine iteT ⟨_, rfl, _, _, rfl, rfl, ?_⟩
          rw [e0] at k
          exact k
        · rw [decide_eq_false (show ¬ V.int (z / 16384 % 2) = V.int 1 from fun q => c3 (V.int.inj q))]
          rw [if_neg (by omega)] at e0
          refine iteF ⟨_, rfl, ?_⟩
          rw [e0] at k
          exact k
      · rw [decide_eq_false (show ¬ V.int (z % 16384) = V.int 8192 from fun q => c2 (V.int.inj q))]
        rw [if_neg (by omega)] at e0
        refine iteF (iteF ⟨_, rfl, ?_⟩)
        rw [e0] at k
        exact k
end
end Mx
end
section
set_option Elab.async false
set_option linter.all false
set_option maxRecDepth 100000
set_option maxHeartbeats 1000000
namespace Mx
open PySem PySem.Spec PyProof.Rows L2
def wgF (ng : List Nat) (n g : Nat) : Nat := min Mix.TOP (Mix.rounded ((n : Int) * ((ng.getD g 0 : Nat) : Int)) Mix.ONE).toNat
def wgOf (d : Mix.Desk) (ng : List Nat) (x : Nat) : Nat := (d.groups x).foldl (wgF ng) (ng.getD x 0)
theorem rounded_nn {z : Int} (h : 0 ≤ z) : 0 ≤ Mix.rounded z Mix.ONE := by
  unfold Mix.rounded
  have e : ((Mix.ONE : Nat) : Int) = 16384 := rfl
  rw [e]
  have : 0 ≤ z / 16384 := Int.ediv_nonneg h (by decide)
  split <;> omega
theorem wgF_le (ng : List Nat) (n g : Nat) : wgF ng n g ≤ 65535 := Nat.min_le_left _ _
theorem wg_le {ng : List Nat} (hb : ∀ n ∈ ng, n ≤ 65535) (d : Mix.Desk) (x : Nat) : ∀ l : List Nat, l.foldl (wgF ng) (ng.getD x 0) ≤ 65535 := fun l => by
  have h0 : ng.getD x 0 ≤ 65535 := by
    rw [List.getD_eq_getElem?_getD]
    cases e : ng[x]? with
    | none => exact Nat.zero_le _
    | some n => exact hb n (List.mem_of_getElem? e)
  have : ∀ (l : List Nat) (n : Nat), n ≤ 65535 → l.foldl (wgF ng) n ≤ 65535 := fun l => by
    induction l with
    | nil => exact fun n h => h
    | cons y r ih => exact fun n h => ih _ (wgF_le ng n y)
  exact this l _ h0
section
variable {P : Program} {w : World} {K : PySem.W.Frag} {mg : Str → Option Value} {base : Heap} {a : AD}
def spWholeGain (K : PySem.W.Frag) (a : AD) : Sp := fun vs H Q _ => ∃ dk A d lg x, ∃ ng : List Nat, vs = [.ref dk, .ref lg, .int ((x : Nat) : Int)] ∧ DkAt a H dk A d ∧ Md.Fine d ∧ TxL K H lg (kV ng) ∧ ng.length = d.size ∧ (∀ n ∈ ng, n ≤ 65535) ∧ x < d.size ∧ ∀ H', Same H H' → Q (.int ((wgOf d ng x : Nat) : Int)) H'
theorem sc_zD : FnScope ["desk", "g", "x", "gain", "group"] ["desk", "g", "x"] (defScope s_zD) := ⟨rfl, rfl, rfl, by decide +kernel, rfl, by decide +kernel, by decide +kernel⟩
theorem ok_zD (T : Txt K mg a) : FnOk P w K mg base CX0 2 a.f_zD a.d_zD ["desk", "g", "x"] (spWholeGain K a) := by
  have GG := ok_zh (P := P) (w := w) (base := base) T
  have GR := ok_zS (P := P) (w := w) (base := base) T
  refine T.F_zD.ok sc_zD (fun vs H Q E h => ?_) (fun cdv A outer s H vs Q E hr h => ?_)
  · obtain ⟨dk, A, d, lg, x, ng, rfl, _⟩ := h
    rfl
  · obtain ⟨dk, A', d, lg, x, ng, rfl, D, g, hg, hlen, hb, hx, k⟩ := h
    have nd := sc_zD.nd
    refine ⟨_, pss_cons (ps_set (i := 3) nd rfl (Or.inl rfl) (pe_ix ix_list (pv 1) (pv 2) (fun _ _ => rfl)))
      (pss_cons (ps_for PassesOwn.never rfl (pi_list (pe_meth (pv 0) T.C_Desk T.M_zh GG hr T.B_zh .nil pass0 (pa_cons (pv 2) pa_nil))) (pg_name (i := 4) nd rfl (Or.inl rfl))
        (pss_one (ps_set (i := 3) nd rfl (Or.inl rfl) (pe_callB (call_min2 rfl) (by rfl) T.b_min (by decide +kernel) (pa_cons (gint T.i_zsb) (pa_cons (pe_call GR hr rfl T.g_zS T.F_zS.kp T.B_zS .nil pass0 (pa_cons (pe_op op_mul (pv 3) (pe_ix ix_list (pv 1) (pv 4) (fun _ _ => rfl))) pa_nil)) pa_nil))))))
      (pss_one (ps_ret (pv 3)))), ?_⟩
    have gat : ∀ {y : Nat}, y < d.size → ng[y]? = some (ng.getD y 0) := fun {y} hy => by
      have e := List.getElem?_eq_getElem (l := ng) (show y < ng.length by rw [hlen]; exact hy)
      rw [List.getD_eq_getElem?_getD, e]
      rfl
    refine ⟨_, rfl, _, rfl, lg, _, _, _, rfl, rfl, hg.sq, atI_nat (kV_at (gat hx)), ?_⟩
    obtain ⟨dd, o1⟩ := D.obj
    refine ⟨_, rfl, dk, dd, _, rfl, o1, rfl, _, rfl, dk, A', d, x, rfl, D, g, fun H1 l s1 nl hl => ?_⟩
    refine ⟨l, rfl, ⟨_, SqL.of hl⟩, for_list (K := K) (a := l) (xs := kV (d.groups x)) (fun m σ H' => (∃ v4 : Option V, σ = [some (.ref dk), some (.ref lg), some (.int ((x : Nat) : Int)), some (.int ((((d.groups x).take m).foldl (wgF ng) (ng.getD x 0) : Nat) : Int)), v4]) ∧ H' = H1) ⟨⟨_, rfl⟩, rfl⟩ ?_ ?_ ?_⟩
    · rintro m σ H' _ ⟨_, e⟩
      rw [e]
      exact SqL.of hl
    · rintro m v σ H' hv ⟨⟨v4, rfl⟩, e⟩
      rw [e]
      obtain ⟨gr, hgr, rfl⟩ := kV_of hv
      have hgs := groups_lt (List.mem_of_getElem? hgr)
      have hle := wg_le hb d x ((d.groups x).take m)
      have hle2 : ng.getD gr 0 ≤ 65535 := hb _ (List.mem_of_getElem? (gat hgs))
      refine ⟨_, rfl, _, rfl, _, rfl, lg, _, _, _, rfl, rfl, (hg.same s1).sq, atI_nat (kV_at (gat hgs)), _, _, rfl, rfl, .inl ⟨by omega, by omega⟩, _, rfl, _, _, rfl, ?_⟩
      refine ⟨⟨some (.int ((gr : Nat) : Int)), ?_⟩, rfl⟩
      rw [tk_snoc hgr, List.foldl_append]
      generalize ((d.groups x).take m).foldl (wgF ng) (ng.getD x 0) = n at hle
      have hz : (0 : Int) ≤ (n : Int) * ((ng.getD gr 0 : Nat) : Int) := Int.mul_nonneg (by omega) (by omega)
      have hr2 := rounded_nn hz
      have e2 : ((wgF ng n gr : Nat) : Int) = if Mix.rounded ((n : Int) * ((ng.getD gr 0 : Nat) : Int)) Mix.ONE < 65535 then Mix.rounded ((n : Int) * ((ng.getD gr 0 : Nat) : Int)) Mix.ONE else 65535 := by
        unfold wgF
        have et : Mix.TOP = 65535 := rfl
        rw [et]
        generalize Mix.rounded ((n : Int) * ((ng.getD gr 0 : Nat) : Int)) Mix.ONE = q at hr2
        rw [Nat.min_def]
        split <;> split <;> omega
      show [_, _, _, some (V.int _), _] = [_, _, _, some (V.int ((wgF ng n gr : Nat) : Int)), _]
      rw [e2]
    · rintro σ H' ⟨⟨v4, rfl⟩, e⟩
      rw [e, kV_len, List.take_length]
      exact ⟨_, rfl, k H1 s1⟩
end
end Mx
end
section
set_option Elab.async false
set_option linter.all false
set_option maxRecDepth 100000
set_option maxHeartbeats 1000000
namespace Mx
open PySem PySem.Spec PyProof.Rows L2
theorem DeskAt.keepX {cD cS : Addr} {H H' : Hp} {dk : Addr} {A : DA} {d : Mix.Desk} {x C dx : Addr} {fs : List (Str × V)} (D : DeskAt cD cS H dk A d) (hx : H x = some (.ins C dx fs)) (hf : fs.length ≤ 3) (k : Keeps [x] H H') : DeskAt cD cS H' dk A d := by
  refine D.keep fun b o e z => k b o e fun m => ?_
  rw [List.mem_singleton.mp m, hx] at e
  cases e
  rcases z with ⟨fs', dd, z, l⟩ | ⟨xs, z⟩ | ⟨xs, z⟩ | ⟨fs', dd, z, l⟩
  · cases z; omega
  · cases z
  · cases z
  · cases z; omega
end Mx
end
section
set_option Elab.async false
set_option linter.all false
set_option maxRecDepth 100000
set_option maxHeartbeats 1000000
namespace Mx
open PySem PySem.Spec PyProof.Rows L2
def suF (dk lv gs : Addr) : List (Str × V) := [("desk", .ref dk), ("live", .ref lv), ("gains", .ref gs)]
structure SuAt (a : AD) (H : Hp) (su dk : Addr) (A : DA) (d : Mix.Desk) (lv gs : Addr) (ns ng : List Nat) : Prop where
  obj : ∃ dt, H su = some (.ins a.c_z3 dt (suF dk lv gs))
  live : H lv = some (.lst (((List.range d.size).map (Md.liveF d ns)).map V.bl))
  gains : H gs = some (.lst (kV ((List.range d.size).map (wgOf d ng))))
  desk : DkAt a H dk A d
theorem SuAt.same {a : AD} {H H' : Hp} {su dk : Addr} {A : DA} {d : Mix.Desk} {lv gs : Addr} {ns ng : List Nat} (h : SuAt a H su dk A d lv gs ns ng) (s : Same H H') : SuAt a H' su dk A d lv gs ns ng := by
  obtain ⟨dt, e⟩ := h.obj
  exact ⟨⟨dt, s _ _ e⟩, s _ _ h.live, s _ _ h.gains, h.desk.same s⟩
theorem SuAt.gain {a : AD} {H : Hp} {su dk : Addr} {A : DA} {d : Mix.Desk} {lv gs : Addr} {ns ng : List Nat} (h : SuAt a H su dk A d lv gs ns ng) {x : Nat} (hx : x < d.size) : (kV ((List.range d.size).map (wgOf d ng)))[x]? = some (.int ((wgOf d ng x : Nat) : Int)) :=
  kV_at (by rw [List.getElem?_map, List.getElem?_range hx]; rfl)
structure FdAt (K : PySem.W.Frag) (H : Hp) (lg : Addr) (ng : List Nat) (d : Mix.Desk) : Prop where
  at_ : TxL K H lg (kV ng)
  len : ng.length = d.size
  le : ∀ n ∈ ng, n ≤ 65535
theorem FdAt.same {K : PySem.W.Frag} {H H' : Hp} {lg : Addr} {ng : List Nat} {d : Mix.Desk} (h : FdAt K H lg ng d) (s : Same H H') : FdAt K H' lg ng d := ⟨h.at_.same s, h.len, h.le⟩
theorem TxL.keepX {K : PySem.W.Frag} {H H' : Hp} {t x C dx : Addr} {fs : List (Str × V)} {xs : List V} (h : TxL K H t xs) (hx : H x = some (.ins C dx fs)) (k : Keeps [x] H H') : TxL K H' t xs := h.keep fun o u e => k t _ e fun z => by
  rw [List.mem_singleton.mp z, hx] at e
  cases e
section
variable {P : Program} {w : World} {K : PySem.W.Frag} {mg : Str → Option Value} {base : Heap} {a : AD}
def spSetupInit (K : PySem.W.Frag) (a : AD) : Sp := fun vs H Q _ => ∃ su dt dk A d ls lg, ∃ ns ng : List Nat, vs = [.ref su, .ref dk, .ref ls, .ref lg] ∧ H su = some (.ins a.c_z3 dt []) ∧ DkAt a H dk A d ∧ Md.Fine d ∧ SwAt K H ls ns d ∧ FdAt K H lg ng d ∧
  ∀ (H' : Hp) (lv gs : Addr), Keeps [su] H H' → SuAt a H' su dk A d lv gs ns ng → Q .non H'
theorem sc_zA : FnScope ["self", "desk", "s", "g", "i"] ["self", "desk", "s", "g"] (defScope s_zA) := ⟨rfl, rfl, rfl, by decide +kernel, rfl, by decide +kernel, by decide +kernel⟩
theorem ok_zA (T : Txt K mg a) : FnOk P w K mg base CX0 5 a.f_zA a.d_zA ["self", "desk", "s", "g"] (spSetupInit K a) := by
  have GL := ok_zC (P := P) (w := w) (base := base) T
  have GW := ok_zD (P := P) (w := w) (base := base) T
  refine T.F_zA.ok sc_zA (fun vs H Q E h => ?_) (fun cdv A outer s H vs Q E hr h => ?_)
  · obtain ⟨su, dt, dk, A, d, ls, lg, ns, ng, rfl, _⟩ := h
    rfl
  · obtain ⟨su, dt, dk, A', d, ls, lg, ns, ng, rfl, hx, D, g, S, F, k⟩ := h
    have nd := sc_zA.nd
    have hsz := g.good.size
    have hsl := sizeLine_eq
    refine ⟨_, pss_cons (ps_fld (pv 0) (pv 1) rfl)
      (pss_cons (ps_fld (pv 0) (pe_call GL hr rfl T.g_zC T.F_zC.kp T.B_zC .nil pass0 (pa_cons (pv 1) (pa_cons (pv 2) pa_nil))) rfl)
      (pss_one (ps_fld (pv 0) (pe_lc (own := [("i", 4)]) (te := tCall (spWholeGain K a) [] E0 (tCons (tVar 1) (tCons (tVar 3) (tCons (tVar 4) tNil)))) rfl nd (pi_range1 (by rfl) T.b_range (pa_cons (pe_callB call_len_seq (by rfl) T.b_len PySem.boot_len (pa_cons (pe_fld (pv 1) rfl) pa_nil)) pa_nil)) (blkOk_by (by rfl)) (fun s H C cl fp => pg_name (i := 4) nd rfl (Or.inl rfl)) (fun s H C cl fp => pts_nil)
        (fun s H C cl fp => pe_call GW (hr.mono (by decide)) rfl T.g_zD T.F_zD.kp T.B_zD .nil pass0 (pa_cons (pv 1) (pa_cons (pv 3) (pa_cons (pv 4) pa_nil))))) rfl))), ?_⟩
    refine ⟨_, rfl, _, rfl, su, _, dt, _, rfl, hx, T.C_z3, T.N_zDb, (by show 0 < 1000; decide), ?_⟩
    have k1 : Keeps [su] H (upd H su (.ins a.c_z3 dt [("desk", .ref dk)])) := Keeps.set (by simp)
    have D1 := D.keepX hx (by decide) k1
    have S1 : SwAt K (upd H su (.ins a.c_z3 dt [("desk", .ref dk)])) ls ns d := ⟨S.at_.keepX hx k1, S.len, S.le⟩
    have F1 : FdAt K (upd H su (.ins a.c_z3 dt [("desk", .ref dk)])) lg ng d := ⟨F.at_.keepX hx k1, F.len, F.le⟩
    have x1 : upd H su (.ins a.c_z3 dt [("desk", .ref dk)]) su = some (.ins a.c_z3 dt [("desk", .ref dk)]) := upd_same
    have epf1 : putF "desk" (V.ref dk) [] = ([("desk", V.ref dk)] : List (Str × V)) := rfl
    rw [epf1]
    generalize upd H su (.ins a.c_z3 dt [("desk", .ref dk)]) = H1 at k1 D1 S1 F1 x1
    refine ⟨_, rfl, _, rfl, dk, A', d, ls, ns, rfl, D1, g, S1, fun H2 lv s2 nlv hlv => ?_⟩
    have x2 := s2 _ _ x1
    have D2 := D1.same s2
    have F2 := F1.same s2
    refine ⟨_, rfl, su, _, dt, _, rfl, x2, T.C_z3, T.N_zub, (by show 1 < 1000; decide), ?_⟩
    have nlt : lv ≠ su := fun z => by rw [z, x1] at nlv; cases nlv
    have kS : Keeps [su] H2 (upd H2 su (.ins a.c_z3 dt [("desk", .ref dk), ("live", .ref lv)])) := Keeps.set (by simp)
    have k3 : Keeps [su] H (upd H2 su (.ins a.c_z3 dt [("desk", .ref dk), ("live", .ref lv)])) := (k1.trans (Same.keeps s2)).trans kS
    have D3 := D2.keepX x2 (by show 1 ≤ 3; decide) kS
    have F3 : FdAt K (upd H2 su (.ins a.c_z3 dt [("desk", .ref dk), ("live", .ref lv)])) lg ng d := ⟨F2.at_.keepX x2 kS, F.len, F.le⟩
    have hlv3 : upd H2 su (.ins a.c_z3 dt [("desk", .ref dk), ("live", .ref lv)]) lv = some (.lst (((List.range d.size).map (Md.liveF d ns)).map V.bl)) := by rw [upd_ne nlt]; exact hlv
    have x3 : upd H2 su (.ins a.c_z3 dt [("desk", .ref dk), ("live", .ref lv)]) su = some (.ins a.c_z3 dt [("desk", .ref dk), ("live", .ref lv)]) := upd_same
    have epf2 : putF "live" (V.ref lv) ([("desk", V.ref dk)] : List (Str × V)) = ([("desk", V.ref dk), ("live", V.ref lv)] : List (Str × V)) := rfl
    rw [epf2]
    generalize upd H2 su (.ins a.c_z3 dt [("desk", .ref dk), ("live", .ref lv)]) = H3 at k3 D3 F3 hlv3 x3 kS
    obtain ⟨dd, o1⟩ := D3.obj
    have elen : (d.nodes.map fun n => V.int (n.kind : Int)).length = d.size := List.length_map _
    refine ⟨_, rfl, dk, _, dd, _, _, rfl, o1, T.C_Desk, T.N_z9, dk_kinds A', A'.k, _, rfl, .inl (SqL.of D3.kinds), _, rfl, (by rw [elen]; omega), (by rw [elen]; omega), fun G hG => ?_⟩
    rw [elen, Int.toNat_natCast]
    refine lc_range (lo := 0) (n := d.size) (fun m H' => Same H3 H' ∧ H' G = some (.lst (kV ((List.range m).map (wgOf d ng))))) ?_ ?_ ?_
    · exact ⟨sm_new hG, upd_same⟩
    · rintro m H' hm ⟨sm, hG'⟩
      refine ⟨rfl, yes ?_⟩
      rw [Int.zero_add]
      refine iteT ⟨_, rfl, _, rfl, _, rfl, dk, A', d, lg, m, ng, rfl, D3.same sm, g, (F3.same sm).at_, F.len, F.le, hm, fun H4 s4 => ?_⟩
      refine ⟨_, s4 _ _ hG', ?_, fun b o e => ?_, ?_⟩
      · rw [kV_len, List.length_map, List.length_range]
        omega
      · rw [upd_ne (ne_of_none e hG)]
        exact s4 _ _ (sm b o e)
      · rw [upd_same, rng_snoc]
        unfold kV
        rw [List.map_append]
        rfl
    · rintro H4 ⟨s4, hG4⟩
      have x4 := s4 _ _ x3
      refine ⟨_, rfl, su, _, dt, _, rfl, x4, T.C_z3, T.N_zzb, (by show 2 < 1000; decide), ?_⟩
      have nG : G ≠ su := fun z => by rw [z, x3] at hG; cases hG
      have kT : Keeps [su] H4 (upd H4 su (.ins a.c_z3 dt (suF dk lv G))) := Keeps.set (by simp)
      have epf3 : putF "gains" (V.ref G) ([("desk", V.ref dk), ("live", V.ref lv)] : List (Str × V)) = suF dk lv G := rfl
      rw [epf3]
      refine k _ lv G ((k3.trans (Same.keeps s4)).trans kT) ⟨⟨dt, upd_same⟩, ?_, ?_, (D3.same s4).keepX x4 (by show 2 ≤ 3; decide) kT⟩
      · rw [upd_ne nlt]
        exact s4 _ _ hlv3
      · rw [upd_ne nG]
        exact hG4
theorem su_made {H : Hp} {dk x dx ls lg : Addr} {A : DA} {d : Mix.Desk} {ns ng : List Nat} {R : VK} {E : XK} (D : DkAt a H dk A d) (g : Md.Fine d) (S : SwAt K H ls ns d) (F : FdAt K H lg ng d) (hx : H x = none) (hd : H dx = none) (k : ∀ (H' : Hp) (lv gs : Addr), Same H H' → SuAt a H' x dk A d lv gs ns ng → R .non H') :
    spSetupInit K a [.ref x, .ref dk, .ref ls, .ref lg] (upd (upd H dx (.own x)) x (.ins a.c_z3 dx [])) R E := by
  have s1 : Same H (upd (upd H dx (.own x)) x (.ins a.c_z3 dx [])) := fun b o e => by
    rw [upd_ne (ne_of_none e hx), upd_ne (ne_of_none e hd)]
    exact e
  refine ⟨x, dx, dk, A, d, ls, lg, ns, ng, rfl, upd_same, D.same s1, g, S.same s1, F.same s1, fun H' lv gs kk tt => k H' lv gs ?_ tt⟩
  exact Same.made hx hd fun b o e n => kk b o e (by simpa using n)
end
end Mx
end
section
set_option Elab.async false
set_option linter.all false
set_option maxRecDepth 100000
set_option maxHeartbeats 1000000
namespace Mx
open PySem PySem.Spec PyProof.Rows L2
theorem rd_whole {d : Mix.Desk} {ns ng : List Nat} {x : Nat} (h : x < d.size) : d.ready.whole ⟨ns.toArray, ng.toArray⟩ x = wgOf d ng x := by
  unfold Mix.Ready.whole wgOf
  rw [Md.rd_group h]
  have e : ∀ y, Mix.Board.fader ⟨ns.toArray, ng.toArray⟩ y = ng.getD y 0 := fun y => by
    unfold Mix.Board.fader
    simp
  rw [e]
  congr 1
  funext n g
  rw [e]
  rfl
theorem held_v (z : Int) : (if (if z < 8388607 then z else 8388607) > -8388608 then (if z < 8388607 then z else 8388607) else -8388608) = Mix.held z := by
  unfold Mix.held Mix.HIGH Mix.LOW
  by_cases c1 : z < 8388607
  · rw [if_pos c1, if_neg (show ¬ (8388607 < z) by omega)]
    by_cases c2 : z > -8388608
    · rw [if_pos c2, if_neg (by omega)]
    · rw [if_neg c2]
      by_cases c3 : z < -8388608
      · rw [if_pos c3]
      · rw [if_neg c3]
        omega
  · rw [if_neg c1, if_pos (by decide)]
    by_cases c2 : 8388607 < z
    · rw [if_pos c2]
    · rw [if_neg c2, if_neg (by omega)]
      omega
def leF (sm gv : Addr) : List (Str × V) := [("sums", .ref sm), ("given", .ref gv)]
structure LvAt (a : AD) (H : Hp) (le sm gv : Addr) (s : Nat → Mix.Sounding) (m : Nat) : Prop where
  obj : ∃ dt, H le = some (.ins a.c_z2 dt (leF sm gv))
  sums : H sm = some (.lst ((List.range m).map fun x => V.int (s x).sum))
  given : H gv = some (.lst ((List.range m).map fun x => V.int (s x).give))
theorem LvAt.same {a : AD} {H H' : Hp} {le sm gv : Addr} {s : Nat → Mix.Sounding} {m : Nat} (h : LvAt a H le sm gv s m) (e : Same H H') : LvAt a H' le sm gv s m := by
  obtain ⟨dt, q⟩ := h.obj
  exact ⟨⟨dt, e _ _ q⟩, e _ _ h.sums, e _ _ h.given⟩
section
variable {P : Program} {w : World} {K : PySem.W.Frag} {mg : Str → Option Value} {base : Heap} {a : AD}
def spHeld : Sp := fun vs H Q _ => ∃ z : Int, vs = [.int z] ∧ Q (.int (Mix.held z)) H
theorem sc_held : FnScope ["sample"] ["sample"] (defScope s_held) := ⟨rfl, rfl, rfl, by decide +kernel, rfl, by decide +kernel, by decide +kernel⟩
theorem ok_held (T : Txt K mg a) : FnOk P w K mg base CX0 1 a.f_held a.d_held ["sample"] spHeld := by
  refine T.F_held.ok sc_held (fun vs H Q E h => ?_) (fun cdv A outer s H vs Q E hr h => ?_)
  · obtain ⟨z, rfl, _⟩ := h
    rfl
  · obtain ⟨z, rfl, k⟩ := h
    refine ⟨_, pss_one (ps_ret (pe_callB (call_max2 rfl) (by rfl) T.b_max (by decide +kernel) (pa_cons (gint T.i_zlb) (pa_cons (pe_callB (call_min2 rfl) (by rfl) T.b_min (by decide +kernel) (pa_cons (gint T.i_zpb) (pa_cons (pv 0) pa_nil))) pa_nil)))), ?_⟩
    rw [← held_v] at k
    exact ⟨_, rfl, _, _, rfl, _, _, rfl, k⟩
def spLevelsInit (a : AD) : Sp := fun vs H Q _ => ∃ le dt, vs = [.ref le] ∧ H le = some (.ins a.c_z2 dt []) ∧ ∀ (H' : Hp) (sm gv : Addr), Keeps [le] H H' → H sm = none → H gv = none → sm ≠ gv → H' le = some (.ins a.c_z2 dt (leF sm gv)) → H' sm = some (.lst []) → H' gv = some (.lst []) → Q .non H'
theorem sc_zw : FnScope ["self"] ["self"] (defScope s_zw) := ⟨rfl, rfl, rfl, by decide +kernel, rfl, by decide +kernel, by decide +kernel⟩
theorem ok_zw (T : Txt K mg a) : FnOk P w K mg base CX0 1 a.f_zw a.d_zw ["self"] (spLevelsInit a) := by
  refine T.F_zw.ok sc_zw (fun vs H Q E h => ?_) (fun cdv A outer s H vs Q E hr h => ?_)
  · obtain ⟨le, dt, rfl, _⟩ := h
    rfl
  · obtain ⟨le, dt, rfl, hx, k⟩ := h
    refine ⟨_, pss_cons (ps_fld (pv 0) (pe_lst pa_nil) rfl) (pss_one (ps_fld (pv 0) (pe_lst pa_nil) rfl)), ?_⟩
    refine ⟨Nat.zero_le _, fun sm nsm => ?_⟩
    have n1 : le ≠ sm := ne_of_none hx nsm
    refine ⟨_, rfl, le, _, dt, _, rfl, (by rw [upd_ne n1]; exact hx), T.C_z2, T.N_zjb, (by show 0 < 1000; decide), ?_⟩
    have k1 : Keeps [le] H (upd (upd H sm (.lst [])) le (.ins a.c_z2 dt [("sums", .ref sm)])) := (Keeps.new nsm).then_set (by simp)
    have x1 : upd (upd H sm (.lst [])) le (.ins a.c_z2 dt [("sums", .ref sm)]) le = some (.ins a.c_z2 dt [("sums", .ref sm)]) := upd_same
    have m1 : upd (upd H sm (.lst [])) le (.ins a.c_z2 dt [("sums", .ref sm)]) sm = some (.lst []) := by rw [upd_ne (Ne.symm n1), upd_same]
    have epf1 : putF "sums" (V.ref sm) [] = ([("sums", V.ref sm)] : List (Str × V)) := rfl
    rw [epf1]
    generalize upd (upd H sm (.lst [])) le (.ins a.c_z2 dt [("sums", .ref sm)]) = H1 at k1 x1 m1
    refine ⟨Nat.zero_le _, fun gv ngv => ?_⟩
    have n2 : le ≠ gv := ne_of_none x1 ngv
    have n3 : sm ≠ gv := ne_of_none m1 ngv
    refine ⟨_, rfl, le, _, dt, _, rfl, (by rw [upd_ne n2]; exact x1), T.C_z2, T.N_zfb, (by show 1 < 1000; decide), ?_⟩
    have epf2 : putF "given" (V.ref gv) ([("sums", V.ref sm)] : List (Str × V)) = leF sm gv := rfl
    rw [epf2]
    refine k _ sm gv ((k1.then_new ngv).then_set (by simp)) nsm (k1.free ngv (by simpa using Ne.symm n2)) n3 upd_same ?_ ?_
    · rw [upd_ne (Ne.symm n1), upd_ne n3]
      exact m1
    · rw [upd_ne (Ne.symm n2), upd_same]
def spSumSent (a : AD) : Sp := fun vs H Q _ => ∃ su dk A d lv gs le sm gv i, ∃ ns ng : List Nat, ∃ zs : List Int, vs = [.ref su, .ref le, .int ((i : Nat) : Int)] ∧ SuAt a H su dk A d lv gs ns ng ∧ Md.Good d ∧ LvAt a H le sm gv (Md.sn d ⟨ns.toArray, ng.toArray⟩ zs) i ∧ i < d.size ∧ Q (.int (Md.sent d ⟨ns.toArray, ng.toArray⟩ zs i)) H
theorem sc_zR : FnScope ["setup", "levels", "i", "total", "told", "level"] ["setup", "levels", "i"] (defScope s_zR) := ⟨rfl, rfl, rfl, by decide +kernel, rfl, by decide +kernel, by decide +kernel⟩
theorem ok_zR (T : Txt K mg a) : FnOk P w K mg base CX0 2 a.f_zR a.d_zR ["setup", "levels", "i"] (spSumSent a) := by
  have GH := ok_held (P := P) (w := w) (base := base) T
  refine T.F_zR.ok sc_zR (fun vs H Q E h => ?_) (fun cdv A outer s H vs Q E hr h => ?_)
  · obtain ⟨su, dk, A, d, lv, gs, le, sm, gv, i, ns, ng, zs, rfl, _⟩ := h
    rfl
  · obtain ⟨su, dk, A', d, lv, gs, le, sm, gv, i, ns, ng, zs, rfl, U, g, Lv, hi, k⟩ := h
    have nd := sc_zR.nd
    refine ⟨_, pss_cons (ps_set (i := 3) nd rfl (Or.inl rfl) pe_int)
      (pss_cons (ps_for PassesOwn.never rfl (pi_list (pe_fld (pe_fld (pv 0) rfl) rfl)) (pg_name (i := 4) nd rfl (Or.inl rfl))
        (pss_one (ps_if (PW.pt (pw_and (pt_cmpR op_eq (pe_fld (pv 4) rfl) (pv 2) (nomark _)) (pw_and1 (pt_val (pe_ix ix_list (pe_fld (pv 0) rfl) (pe_fld (pv 4) rfl) (fun _ _ => rfl))))))
          (pss_cons (ps_set (i := 5) nd rfl (Or.inl rfl) (pe_ifExp (pt_cmpR op_eq (pe_fld (pv 4) rfl) pe_int (nomark _)) (pe_ix ix_list (pe_fld (pv 1) rfl) (pe_fld (pv 4) rfl) (fun _ _ => rfl)) (pe_ix ix_list (pe_fld (pv 1) rfl) (pe_fld (pv 4) rfl) (fun _ _ => rfl))))
          (pss_one (ps_aug (i := 3) nd rfl (Or.inl rfl) (pe_op op_mul (pe_call GH hr rfl T.g_held T.F_held.kp T.B_held .nil pass0 (pa_cons (pv 5) pa_nil)) (pe_fld (pv 4) rfl)) ip_add))) pss_nil)))
      (pss_one (ps_ret (pv 3)))), ?_⟩
    obtain ⟨dt, o1⟩ := U.obj
    obtain ⟨dd, o2⟩ := U.desk.obj
    obtain ⟨ss, o3, o4⟩ := U.desk.snd
    obtain ⟨dl, o5⟩ := Lv.obj
    refine ⟨_, rfl, su, _, dt, _, _, rfl, o1, T.C_z3, T.N_zDb, rfl, dk, _, dd, _, _, rfl, o2, T.C_Desk, T.N_zgb, dk_sends A', A'.q, rfl, ⟨_, SqL.of o3⟩, for_list (K := K) (a := A'.q) (xs := ss.map V.ref) (fun m σ H' => (∃ v4 v5 : Option V, σ = [some (.ref su), some (.ref le), some (.int ((i : Nat) : Int)), some (.int ((d.sends.take m).foldl (Md.sentF (d.ready.live ⟨ns.toArray, ng.toArray⟩) (Md.sn d ⟨ns.toArray, ng.toArray⟩ zs) i) 0)), v4, v5]) ∧ H' = H) ?_ ?_ ?_ ?_⟩
    · exact ⟨⟨_, _, rfl⟩, rfl⟩
    · rintro m σ H' _ ⟨_, rfl⟩
      exact SqL.of o3
    · rintro m v σ H' hv ⟨⟨v4, v5, rfl⟩, rfl⟩
      obtain ⟨y, hy, rfl⟩ := rf_of hv
      obtain ⟨q, hq, ds, r⟩ := Paired.at o4 hy
      have hqm := List.mem_of_getElem? hq
      have q1 := g.src hqm
      have ql := (g.send hqm).lt
      have el := Md.live_eq g (ns := ns) (ng := ng) q1
      have eT : (d.sends.take (m + 1)).foldl (Md.sentF (d.ready.live ⟨ns.toArray, ng.toArray⟩) (Md.sn d ⟨ns.toArray, ng.toArray⟩ zs) i) 0 = Md.sentF (d.ready.live ⟨ns.toArray, ng.toArray⟩) (Md.sn d ⟨ns.toArray, ng.toArray⟩ zs) i ((d.sends.take m).foldl (Md.sentF (d.ready.live ⟨ns.toArray, ng.toArray⟩) (Md.sn d ⟨ns.toArray, ng.toArray⟩ zs) i) 0) q := by
        rw [tk_snoc hq, List.foldl_append]
        rfl
      generalize (d.sends.take m).foldl (Md.sentF (d.ready.live ⟨ns.toArray, ng.toArray⟩) (Md.sn d ⟨ns.toArray, ng.toArray⟩ zs) i) 0 = t at eT
      refine ⟨_, rfl, y, _, ds, _, _, rfl, r, T.C_Send, T.N_zib, sd_target q, _, rfl, rfl, _, rfl, ?_⟩
      rw [dec_nat]
      by_cases c1 : q.dst = i
      · rw [decide_eq_true c1]
        refine iteT ⟨_, rfl, su, _, dt, _, _, rfl, o1, T.C_z3, T.N_zub, rfl, _, rfl, y, _, ds, _, _, rfl, r, T.C_Send, T.N_zdb, sd_sender q, lv, _, _, _, rfl, rfl, SqL.of U.live, atI_nat (bl_range q1), _, rfl, ?_⟩
        cases c2 : Md.liveF d ns q.src with
        | false =>
          rw [c2] at el
          refine iteF ⟨⟨some (V.ref y), v5, ?_⟩, rfl⟩
          rw [eT]
          unfold Md.sentF
          rw [if_neg (fun z => by rw [el] at z; cases z.2)]
          rfl
        | true =>
          rw [c2] at el
          have hb := Md.held_lo (Md.levOf (Md.sn d ⟨ns.toArray, ng.toArray⟩ zs) q)
          have eS : Md.sentF (d.ready.live ⟨ns.toArray, ng.toArray⟩) (Md.sn d ⟨ns.toArray, ng.toArray⟩ zs) i t q = t + Mix.held (Md.levOf (Md.sn d ⟨ns.toArray, ng.toArray⟩ zs) q) * (q.gain : Int) := by
            unfold Md.sentF
            rw [if_pos ⟨c1, el⟩]
          refine iteT ⟨_, rfl, y, _, ds, _, _, rfl, r, T.C_Send, T.N_zRb, sd_pre q, rfl, _, rfl, ?_⟩
          rw [pI_eq]
          cases c3 : q.pre with
          | true =>
            have eV : Md.levOf (Md.sn d ⟨ns.toArray, ng.toArray⟩ zs) q = (Md.sn d ⟨ns.toArray, ng.toArray⟩ zs q.src).sum := by unfold Md.levOf; rw [c3, if_pos rfl]
            rw [eV] at eS hb
            refine iteT ⟨_, rfl, le, _, dl, _, _, rfl, o5, T.C_z2, T.N_zjb, rfl, _, rfl, y, _, ds, _, _, rfl, r, T.C_Send, T.N_zdb, sd_sender q, sm, _, _, _, rfl, rfl, SqL.of Lv.sums, atI_nat (at_range (by omega)), ?_⟩
            refine ⟨_, rfl, _, rfl, _, rfl, _, rfl, y, _, ds, _, _, rfl, r, T.C_Send, T.N_zKb, sd_gain q, _, _, rfl, rfl, .inl ⟨by omega, by omega⟩, _, _, rfl, rfl, ⟨some (V.ref y), some (V.int (Md.sn d ⟨ns.toArray, ng.toArray⟩ zs q.src).sum), ?_⟩, rfl⟩
            rw [eT, eS]
            rfl
          | false =>
            have eV : Md.levOf (Md.sn d ⟨ns.toArray, ng.toArray⟩ zs) q = (Md.sn d ⟨ns.toArray, ng.toArray⟩ zs q.src).give := by unfold Md.levOf; rw [c3, if_neg (by decide)]
            rw [eV] at eS hb
            refine iteF ⟨_, rfl, le, _, dl, _, _, rfl, o5, T.C_z2, T.N_zfb, rfl, _, rfl, y, _, ds, _, _, rfl, r, T.C_Send, T.N_zdb, sd_sender q, gv, _, _, _, rfl, rfl, SqL.of Lv.given, atI_nat (at_range (by omega)), ?_⟩
            refine ⟨_, rfl, _, rfl, _, rfl, _, rfl, y, _, ds, _, _, rfl, r, T.C_Send, T.N_zKb, sd_gain q, _, _, rfl, rfl, .inl ⟨by omega, by omega⟩, _, _, rfl, rfl, ⟨some (V.ref y), some (V.int (Md.sn d ⟨ns.toArray, ng.toArray⟩ zs q.src).give), ?_⟩, rfl⟩
            rw [eT, eS]
            rfl
      · rw [decide_eq_false c1]
        refine iteF (iteF ⟨⟨some (V.ref y), v5, ?_⟩, rfl⟩)
        rw [eT]
        unfold Md.sentF
        rw [if_neg (fun z => c1 z.1)]
        rfl
    · rintro σ H' ⟨⟨v4, v5, rfl⟩, rfl⟩
      rw [List.length_map, Paired.len o4, List.take_length]
      exact ⟨_, rfl, k⟩
end
end Mx
end
section
set_option Elab.async false
set_option linter.all false
set_option maxRecDepth 100000
set_option maxHeartbeats 1000000
namespace Mx
open PySem PySem.Spec PyProof.Rows L2
section
variable {P : Program} {w : World} {K : PySem.W.Frag} {mg : Str → Option Value} {base : Heap} {a : AD}
def spFindLevels (K : PySem.W.Frag) (a : AD) : Sp := fun vs H Q _ => ∃ su dk A d lv gs lz, ∃ ns ng : List Nat, ∃ zs : List Int, vs = [.ref su, .ref lz] ∧ SuAt a H su dk A d lv gs ns ng ∧ Md.Good d ∧ (∀ n ∈ ng, n ≤ 65535) ∧ SqL K H lz ((zs.map Mix.held).map V.int) ∧ zs.length = d.counts 0 ∧
  ∀ (H' : Hp) (le sm gv : Addr), Same H H' → LvAt a H' le sm gv (Md.sn d ⟨ns.toArray, ng.toArray⟩ zs) d.size → Q (.ref le) H'
theorem sc_zx : FnScope ["setup", "samples", "levels", "ins", "i", "kind", "total"] ["setup", "samples"] (defScope s_zx) := ⟨rfl, rfl, rfl, by decide +kernel, rfl, by decide +kernel, by decide +kernel⟩
theorem ok_zx (T : Txt K mg a) : FnOk P w K mg base CX0 3 a.f_zx a.d_zx ["setup", "samples"] (spFindLevels K a) := by
  have GL := ok_zw (P := P) (w := w) (base := base) T
  have GS := ok_zR (P := P) (w := w) (base := base) T
  have GR := ok_zS (P := P) (w := w) (base := base) T
  have GH := ok_held (P := P) (w := w) (base := base) T
  refine T.F_zx.ok sc_zx (fun vs H Q E h => ?_) (fun cdv A outer s H vs Q E hr h => ?_)
  · obtain ⟨su, dk, A, d, lv, gs, lz, ns, ng, zs, rfl, _⟩ := h
    rfl
  · obtain ⟨su, dk, A', d, lv, gs, lz, ns, ng, zs, rfl, U, g, hng, hz, hzl, k⟩ := h
    have nd := sc_zx.nd
    have hsz := g.size
    have hsl := sizeLine_eq
    refine ⟨_, pss_cons (ps_set (i := 2) nd rfl (Or.inl rfl) (pe_make0 T.K_z2 GL (hr.mono (by decide)) rfl T.g_z2 T.B_zw .nil pass0))
      (pss_cons (ps_set (i := 3) nd rfl (Or.inl rfl) pe_int)
      (pss_cons (ps_for PassesOwn.never rfl (pi_enum (by rfl) T.b_enumerate (pa_cons (pe_fld (pe_fld (pv 0) rfl) rfl) pa_nil)) (pg_tup rfl (pgs_cons (pg_name (i := 4) nd rfl (Or.inl rfl)) (pgs_cons (pg_name (i := 5) nd rfl (Or.inl rfl)) pgs_nil)))
        (pss_cons (ps_if (pt_cmpR op_eq (pv 5) (gint T.i_IN) (nomark _))
          (pss_cons (ps_set (i := 6) nd rfl (Or.inl rfl) (pe_ix ix_list (pv 1) (pv 3) (fun _ _ => rfl))) (pss_one (ps_aug (i := 3) nd rfl (Or.inl rfl) pe_int ip_add)))
          (pss_one (ps_set (i := 6) nd rfl (Or.inl rfl) (pe_call GR (hr.mono (by decide)) rfl T.g_zS T.F_zS.kp T.B_zS .nil pass0 (pa_cons (pe_call GS hr rfl T.g_zR T.F_zR.kp T.B_zR .nil pass0 (pa_cons (pv 0) (pa_cons (pv 2) (pa_cons (pv 4) pa_nil)))) pa_nil)))))
        (pss_cons (ps_expr (pe_bm PySem.F.plainAttrs_list PySem.F.slot_list_append PySem.F.type_list_append mt_append (pe_fld (pv 2) rfl) (pa_cons (pv 6) pa_nil)))
        (pss_one (ps_expr (pe_bm PySem.F.plainAttrs_list PySem.F.slot_list_append PySem.F.type_list_append mt_append (pe_fld (pv 2) rfl) (pa_cons
          (pe_ifExp (pt_val (pe_ix ix_list (pe_fld (pv 0) rfl) (pv 4) (fun _ _ => rfl))) (pe_call GR (hr.mono (by decide)) rfl T.g_zS T.F_zS.kp T.B_zS .nil pass0 (pa_cons (pe_op op_mul (pe_call GH (hr.mono (by decide)) rfl T.g_held T.F_held.kp T.B_held .nil pass0 (pa_cons (pv 6) pa_nil)) (pe_ix ix_list (pe_fld (pv 0) rfl) (pv 4) (fun _ _ => rfl))) pa_nil)) pe_int) pa_nil)))))))
      (pss_one (ps_ret (pv 2))))), ?_⟩
    intro le dx nle ndx nex
    have s0 : Same H (upd (upd H dx (.own le)) le (.ins a.c_z2 dx [])) := fun b o e => by
      rw [upd_ne (ne_of_none e nle), upd_ne (ne_of_none e ndx)]
      exact e
    refine ⟨le, dx, rfl, upd_same, fun H1 sm gv k1 nsm ngv nsg hle1 hsm1 hgv1 => ⟨rfl, ?_⟩⟩
    have s1 : Same H H1 := Same.made nle ndx fun b o e n => k1 b o e (by simpa using n)
    have nsm : H sm = none := s0.free nsm
    have ngv : H gv = none := s0.free ngv
    have U1 := U.same s1
    obtain ⟨dt, o1⟩ := U.obj
    obtain ⟨dd, o2⟩ := U.desk.obj
    have hw : ∀ y, y < d.size → d.ready.whole ⟨ns.toArray, ng.toArray⟩ y ≤ 65535 := fun y hy => by
      rw [rd_whole hy]
      exact wg_le hng d y _
    refine ⟨_, rfl, su, _, dt, _, _, rfl, s1 _ _ o1, T.C_z3, T.N_zDb, rfl, dk, _, dd, _, _, rfl, s1 _ _ o2, T.C_Desk, T.N_z9, dk_kinds A', A'.k, _, rfl, SqL.of U1.desk.kinds, for_enum (K := K) (a := A'.k) (xs := d.nodes.map fun n => V.int (n.kind : Int)) (fun m σ H' => (∃ v4 v5 v6 : Option V, σ = [some (.ref su), some (.ref lz), some (.ref le), some (.int ((Md.cntTo d m : Nat) : Int)), v4, v5, v6]) ∧ Same H H' ∧ LvAt a H' le sm gv (Md.sn d ⟨ns.toArray, ng.toArray⟩ zs) m) ?_ ?_ ?_ ?_⟩
    · exact ⟨⟨_, _, _, rfl⟩, s1, ⟨_, hle1⟩, hsm1, hgv1⟩
    · rintro m σ H' ⟨_, sm', _⟩
      exact SqL.of (U.same sm').desk.kinds
    · rintro m v T1 σ H' hv ⟨⟨v4, v5, v6, rfl⟩, sH, Lv⟩ nT
      obtain ⟨hm, rfl⟩ := kind_v hv
      have s2 : Same H' (upd H' T1 (.tup [.int (m : Nat), .int ((d.kind m : Nat) : Int)])) := sm_new nT
      have sH2 := sH.trans s2
      have Lv2 := Lv.same s2
      have U2 := U.same sH2
      refine ⟨T1, _, rfl, SqT.of upd_same, rfl, _, _, rfl, _, _, rfl, rfl, ?_⟩
      generalize upd H' T1 (.tup [.int (m : Nat), .int ((d.kind m : Nat) : Int)]) = H2 at s2 sH2 Lv2 U2
      obtain ⟨dl, o5⟩ := Lv2.obj
      have eSum := Md.sn_sum g ⟨ns.toArray, ng.toArray⟩ zs hm hw
      have eGive := Md.sn_give ⟨ns.toArray, ng.toArray⟩ zs (hw m hm)
      rw [Md.live_eq g hm, rd_whole hm] at eGive
      have nls : le ≠ sm := ne_of o5 Lv2.sums (by intro z; cases z)
      have nlg : le ≠ gv := ne_of o5 Lv2.given (by intro z; cases z)
      refine ⟨_, rfl, rfl, _, rfl, ?_⟩
      rw [show decide (V.int ((d.kind m : Nat) : Int) = V.int 0) = decide (d.kind m = 0) from dec_nat (d.kind m) 0]
      have hcnt : d.kind m = 0 → Md.cntTo d m < zs.length := fun c => by
        have h1 := Md.cntTo_succ d m
        rw [if_pos c] at h1
        have h2 := Md.cntTo_mono d (show m + 1 ≤ d.size from hm)
        rw [Md.cnt_all] at h2
        omega
      by_cases c : d.kind m = 0
      · rw [decide_eq_true c]
        rw [if_pos c] at eSum
        have ecnt : ((Md.cntTo d (m + 1) : Nat) : Int) = ((Md.cntTo d m : Nat) : Int) + 1 := by
          rw [Md.cntTo_succ, if_pos c]
          omega
        have eA : ((zs.map Mix.held).map V.int)[Md.cntTo d m]? = some (V.int (Mix.held (zs.getD (Md.cntTo d m) 0))) := by
          rw [List.getElem?_map, List.getElem?_map, List.getD_eq_getElem?_getD, List.getElem?_eq_getElem (hcnt c)]
          rfl
        generalize Mix.held (zs.getD (Md.cntTo d m) 0) = tot at eSum eA
        refine iteT ⟨_, rfl, _, rfl, lz, _, _, _, rfl, rfl, sH2.seq hz, atI_nat eA, _, rfl, _, _, rfl, rfl, ?_⟩
        have hb := Md.held_lo tot
        refine ⟨_, rfl, le, _, dl, _, _, rfl, o5, T.C_z2, T.N_zjb, rfl, .inl ⟨rfl, _, SqL.of Lv2.sums⟩, _, rfl, sm, _, _, rfl, rfl, Lv2.sums, (by rw [List.length_map, List.length_range]; omega), ?_⟩
        have s3 : Same H (upd H2 sm (.lst (((List.range m).map fun x => V.int (Md.sn d ⟨ns.toArray, ng.toArray⟩ zs x).sum) ++ [V.int tot]))) := fun b o e => by
          rw [upd_ne (ne_of_none e nsm)]
          exact sH2 b o e
        have o6 : upd H2 sm (.lst (((List.range m).map fun x => V.int (Md.sn d ⟨ns.toArray, ng.toArray⟩ zs x).sum) ++ [V.int tot])) le = some (.ins a.c_z2 dl (leF sm gv)) := by rw [upd_ne nls]; exact o5
        have g3 : upd H2 sm (.lst (((List.range m).map fun x => V.int (Md.sn d ⟨ns.toArray, ng.toArray⟩ zs x).sum) ++ [V.int tot])) gv = some (.lst ((List.range m).map fun x => V.int (Md.sn d ⟨ns.toArray, ng.toArray⟩ zs x).give)) := by rw [upd_ne (Ne.symm nsg)]; exact Lv2.given
        have sum3 : upd H2 sm (.lst (((List.range m).map fun x => V.int (Md.sn d ⟨ns.toArray, ng.toArray⟩ zs x).sum) ++ [V.int tot])) sm = some (.lst ((List.range (m + 1)).map fun x => V.int (Md.sn d ⟨ns.toArray, ng.toArray⟩ zs x).sum)) := by rw [upd_same, rng_snoc, eSum]
        generalize upd H2 sm (.lst (((List.range m).map fun x => V.int (Md.sn d ⟨ns.toArray, ng.toArray⟩ zs x).sum) ++ [V.int tot])) = H3 at s3 o6 g3 sum3
        have U3 := U.same s3
        refine ⟨_, rfl, le, _, dl, _, _, rfl, o6, T.C_z2, T.N_zfb, rfl, .inl ⟨rfl, _, SqL.of g3⟩, _, rfl, su, _, dt, _, _, rfl, s3 _ _ o1, T.C_z3, T.N_zub, rfl, _, rfl, lv, _, _, _, rfl, rfl, SqL.of U3.live, atI_nat (bl_range hm), _, rfl, ?_⟩
        cases c2 : Md.liveF d ns m with
        | true =>
          rw [c2, if_pos rfl, eSum] at eGive
          refine iteT ⟨_, rfl, _, rfl, _, rfl, su, _, dt, _, _, rfl, s3 _ _ o1, T.C_z3, T.N_zzb, rfl, _, rfl, gs, _, _, _, rfl, rfl, SqL.of U3.gains, atI_nat (U3.gain hm), _, _, rfl, rfl, .inl ⟨by omega, by omega⟩, _, rfl, gv, _, _, rfl, rfl, g3, (by rw [List.length_map, List.length_range]; omega), ⟨⟨some (.int ((m : Nat) : Int)), some (.int ((d.kind m : Nat) : Int)), some (.int tot), ?_⟩, fun b o e => ?_, ⟨dl, ?_⟩, ?_, ?_⟩⟩
          · rw [ecnt]
            rfl
          · rw [upd_ne (ne_of_none e ngv)]
            exact s3 b o e
          · rw [upd_ne nlg]
            exact o6
          · rw [upd_ne nsg]
            exact sum3
          · rw [upd_same, rng_snoc, eGive]
        | false =>
          rw [c2, if_neg (by decide)] at eGive
          refine iteF ⟨gv, _, _, rfl, rfl, g3, (by rw [List.length_map, List.length_range]; omega), ⟨⟨some (.int ((m : Nat) : Int)), some (.int ((d.kind m : Nat) : Int)), some (.int tot), ?_⟩, fun b o e => ?_, ⟨dl, ?_⟩, ?_, ?_⟩⟩
          · rw [ecnt]
            rfl
          · rw [upd_ne (ne_of_none e ngv)]
            exact s3 b o e
          · rw [upd_ne nlg]
            exact o6
          · rw [upd_ne nsg]
            exact sum3
          · rw [upd_same, rng_snoc, eGive]
      · rw [decide_eq_false c]
        rw [if_neg c] at eSum
        have ecnt : ((Md.cntTo d (m + 1) : Nat) : Int) = ((Md.cntTo d m : Nat) : Int) := by
          rw [Md.cntTo_succ, if_neg c]
          omega
        refine iteF ⟨_, rfl, _, rfl, _, rfl, su, dk, A', d, lv, gs, le, sm, gv, m, ns, ng, zs, rfl, U2, g, Lv2, hm, _, rfl, ?_⟩
        generalize Mix.rounded (Md.sent d ⟨ns.toArray, ng.toArray⟩ zs m) Mix.ONE = tot at eSum ⊢
        have hb := Md.held_lo tot
        refine ⟨_, rfl, le, _, dl, _, _, rfl, o5, T.C_z2, T.N_zjb, rfl, .inl ⟨rfl, _, SqL.of Lv2.sums⟩, _, rfl, sm, _, _, rfl, rfl, Lv2.sums, (by rw [List.length_map, List.length_range]; omega), ?_⟩
        have s3 : Same H (upd H2 sm (.lst (((List.range m).map fun x => V.int (Md.sn d ⟨ns.toArray, ng.toArray⟩ zs x).sum) ++ [V.int tot]))) := fun b o e => by
          rw [upd_ne (ne_of_none e nsm)]
          exact sH2 b o e
        have o6 : upd H2 sm (.lst (((List.range m).map fun x => V.int (Md.sn d ⟨ns.toArray, ng.toArray⟩ zs x).sum) ++ [V.int tot])) le = some (.ins a.c_z2 dl (leF sm gv)) := by rw [upd_ne nls]; exact o5
        have g3 : upd H2 sm (.lst (((List.range m).map fun x => V.int (Md.sn d ⟨ns.toArray, ng.toArray⟩ zs x).sum) ++ [V.int tot])) gv = some (.lst ((List.range m).map fun x => V.int (Md.sn d ⟨ns.toArray, ng.toArray⟩ zs x).give)) := by rw [upd_ne (Ne.symm nsg)]; exact Lv2.given
        have sum3 : upd H2 sm (.lst (((List.range m).map fun x => V.int (Md.sn d ⟨ns.toArray, ng.toArray⟩ zs x).sum) ++ [V.int tot])) sm = some (.lst ((List.range (m + 1)).map fun x => V.int (Md.sn d ⟨ns.toArray, ng.toArray⟩ zs x).sum)) := by rw [upd_same, rng_snoc, eSum]
        generalize upd H2 sm (.lst (((List.range m).map fun x => V.int (Md.sn d ⟨ns.toArray, ng.toArray⟩ zs x).sum) ++ [V.int tot])) = H3 at s3 o6 g3 sum3
        have U3 := U.same s3
        refine ⟨_, rfl, le, _, dl, _, _, rfl, o6, T.C_z2, T.N_zfb, rfl, .inl ⟨rfl, _, SqL.of g3⟩, _, rfl, su, _, dt, _, _, rfl, s3 _ _ o1, T.C_z3, T.N_zub, rfl, _, rfl, lv, _, _, _, rfl, rfl, SqL.of U3.live, atI_nat (bl_range hm), _, rfl, ?_⟩
        cases c2 : Md.liveF d ns m with
        | true =>
          rw [c2, if_pos rfl, eSum] at eGive
          refine iteT ⟨_, rfl, _, rfl, _, rfl, su, _, dt, _, _, rfl, s3 _ _ o1, T.C_z3, T.N_zzb, rfl, _, rfl, gs, _, _, _, rfl, rfl, SqL.of U3.gains, atI_nat (U3.gain hm), _, _, rfl, rfl, .inl ⟨by omega, by omega⟩, _, rfl, gv, _, _, rfl, rfl, g3, (by rw [List.length_map, List.length_range]; omega), ⟨⟨some (.int ((m : Nat) : Int)), some (.int ((d.kind m : Nat) : Int)), some (.int tot), ?_⟩, fun b o e => ?_, ⟨dl, ?_⟩, ?_, ?_⟩⟩
          · rw [ecnt]
            rfl
          · rw [upd_ne (ne_of_none e ngv)]
            exact s3 b o e
          · rw [upd_ne nlg]
            exact o6
          · rw [upd_ne nsg]
            exact sum3
          · rw [upd_same, rng_snoc, eGive]
        | false =>
          rw [c2, if_neg (by decide)] at eGive
          refine iteF ⟨gv, _, _, rfl, rfl, g3, (by rw [List.length_map, List.length_range]; omega), ⟨⟨some (.int ((m : Nat) : Int)), some (.int ((d.kind m : Nat) : Int)), some (.int tot), ?_⟩, fun b o e => ?_, ⟨dl, ?_⟩, ?_, ?_⟩⟩
          · rw [ecnt]
            rfl
          · rw [upd_ne (ne_of_none e ngv)]
            exact s3 b o e
          · rw [upd_ne nlg]
            exact o6
          · rw [upd_ne nsg]
            exact sum3
          · rw [upd_same, rng_snoc, eGive]
    · rintro σ H' ⟨⟨v4, v5, v6, rfl⟩, sH, Lv⟩
      rw [List.length_map] at Lv
      exact ⟨_, rfl, k H' le sm gv sH Lv⟩
end
end Mx
end
section
set_option Elab.async false
set_option linter.all false
set_option maxRecDepth 100000
set_option maxHeartbeats 1000000
namespace Mx
open PySem PySem.Spec PyProof.Rows L2
section
variable {P : Program} {w : World} {K : PySem.W.Frag} {mg : Str → Option Value} {base : Heap} {a : AD}
theorem r_z6 (T : Txt K mg a) : RCls K a a.c_z6 := ⟨T.X_z6, T.N_zIb, T.N_zOb, T.R_z6⟩
theorem sc_zB : FnScope ["self"] ["self"] (defScope s_zB) := ⟨rfl, rfl, rfl, by decide +kernel, rfl, by decide +kernel, by decide +kernel⟩
theorem ok_zB (T : Txt K mg a) : FnOk P w K mg base CX0 2 a.f_zB a.d_zB ["self"] (spBareInit a.c_z6 (-1)) := by
  have G := ok_zk (P := P) (w := w) (base := base) T
  refine T.F_zB.ok sc_zB (fun vs H Q E h => ?_) (fun cdv A outer s H vs Q E hr h => ?_)
  · obtain ⟨x, rfl, _⟩ := h
    rfl
  · obtain ⟨x, rfl, hx, q⟩ := h
    refine ⟨_, pss_one (ps_expr (pe_cmeth T.CM_zW G hr rfl T.g_zW T.B_zk pass0 (pa_cons (pv 0) (pa_cons (pe_un un_neg pe_int) (pa_cons (pe_lst pa_nil) pa_nil))))), ?_⟩
    refine ⟨_, rfl, _, rfl, Nat.zero_le _, fun l hl => ?_⟩
    refine ⟨x, a.c_z6, _, l, rfl, by rw [upd_ne (ne_of_none hx hl)]; exact hx, r_z6 T, fun d hd => ?_⟩
    exact behind_init hx hl hd q
end
end Mx
end
section
set_option Elab.async false
set_option linter.all false
set_option maxRecDepth 100000
set_option maxHeartbeats 1000000
namespace Mx
open PySem PySem.Spec PyProof.Rows L2
section
variable {P : Program} {w : World} {K : PySem.W.Frag} {mg : Str → Option Value} {base : Heap} {a : AD}
theorem r_zP (T : Txt K mg a) : RCls K a a.c_zP := ⟨T.X_zP, T.N_znb, T.N_ztb, T.R_zP⟩
theorem sc_zg : FnScope ["self"] ["self"] (defScope s_zg) := ⟨rfl, rfl, rfl, by decide +kernel, rfl, by decide +kernel, by decide +kernel⟩
theorem ok_zg (T : Txt K mg a) : FnOk P w K mg base CX0 2 a.f_zg a.d_zg ["self"] (spBareInit a.c_zP (-5)) := by
  have G := ok_zk (P := P) (w := w) (base := base) T
  refine T.F_zg.ok sc_zg (fun vs H Q E h => ?_) (fun cdv A outer s H vs Q E hr h => ?_)
  · obtain ⟨x, rfl, _⟩ := h
    rfl
  · obtain ⟨x, rfl, hx, q⟩ := h
    refine ⟨_, pss_one (ps_expr (pe_cmeth T.CM_zW G hr rfl T.g_zW T.B_zk pass0 (pa_cons (pv 0) (pa_cons (pe_un un_neg pe_int) (pa_cons (pe_lst pa_nil) pa_nil))))), ?_⟩
    refine ⟨_, rfl, _, rfl, Nat.zero_le _, fun l hl => ?_⟩
    refine ⟨x, a.c_zP, _, l, rfl, by rw [upd_ne (ne_of_none hx hl)]; exact hx, r_zP T, fun d hd => ?_⟩
    exact behind_init hx hl hd q
end
end Mx
end
section
set_option Elab.async false
set_option linter.all false
set_option maxRecDepth 100000
set_option maxHeartbeats 1000000
namespace Mx
open PySem PySem.Spec PyProof.Rows L2
section
variable {P : Program} {w : World} {K : PySem.W.Frag} {mg : Str → Option Value} {base : Heap} {a : AD}
def spCheckCounts (K : PySem.W.Frag) (a : AD) : Sp := fun vs H Q E => ∃ dk A d ls lg, ∃ ns ng : List Nat, vs = [.ref dk, .ref ls, .ref lg] ∧ DkAt a H dk A d ∧ TxL K H ls (kV ns) ∧ TxL K H lg (kV ng) ∧ (¬ (ns.length ≠ d.size ∨ ng.length ≠ d.size) → Q .non H) ∧ (ns.length ≠ d.size ∨ ng.length ≠ d.size → Rz K a (-5) [] E)
theorem sc_zq : FnScope ["desk", "s", "g"] ["desk", "s", "g"] (defScope s_zq) := ⟨rfl, rfl, rfl, by decide +kernel, rfl, by decide +kernel, by decide +kernel⟩
theorem ok_zq (T : Txt K mg a) : FnOk P w K mg base (CXr P w) 4 a.f_zq a.d_zq ["desk", "s", "g"] (spCheckCounts K a) := by
  have GM := ok_zg (P := P) (w := w) (base := base) T
  refine T.F_zq.okR sc_zq (fun vs H Q E h => ?_) (fun cdv A outer s H vs Q E hr h => ?_)
  · obtain ⟨dk, A, d, ls, lg, ns, ng, rfl, _⟩ := h
    rfl
  · obtain ⟨dk, A', d, ls, lg, ns, ng, rfl, D, h1, h2, k, ke⟩ := h
    refine ⟨_, pss_one (ps_if (PW.pt (pw_or (pt_cmpR op_ne (pe_callB call_len_seq (by rfl) T.b_len PySem.boot_len (pa_cons (pv 1) pa_nil)) (pe_callB call_len_seq (by rfl) T.b_len PySem.boot_len (pa_cons (pe_fld (pv 0) rfl) pa_nil)) (nomark _))
        (pw_or1 (pt_cmpR op_ne (pe_callB call_len_seq (by rfl) T.b_len PySem.boot_len (pa_cons (pv 2) pa_nil)) (pe_callB call_len_seq (by rfl) T.b_len PySem.boot_len (pa_cons (pe_fld (pv 0) rfl) pa_nil)) (nomark _)))))
      (pss_one (ps_raise (pe_makeX0 T.K_zP GM hr rfl T.g_zP T.B_zg pass0) rfl throws_r)) pss_nil), ?_⟩
    obtain ⟨dd, o1⟩ := D.obj
    refine ⟨_, rfl, ls, _, rfl, .inl h1.sq, _, rfl, dk, _, dd, _, _, rfl, o1, T.C_Desk, T.N_z9, dk_kinds A', A'.k, _, rfl, .inl (SqL.of D.kinds), rfl, _, rfl, ?_⟩
    rw [kV_len, List.length_map, dec_nat]
    by_cases c1 : ns.length = d.nodes.length
    · rw [decide_eq_true c1]
      refine iteF ⟨_, rfl, lg, _, rfl, .inl h2.sq, _, rfl, dk, _, dd, _, _, rfl, o1, T.C_Desk, T.N_z9, dk_kinds A', A'.k, _, rfl, .inl (SqL.of D.kinds), rfl, _, rfl, ?_⟩
      rw [kV_len, List.length_map, dec_nat]
      by_cases c2 : ng.length = d.nodes.length
      · rw [decide_eq_true c2]
        exact iteF (k (fun z => z.elim (fun q => q c1) fun q => q c2))
      · rw [decide_eq_false c2]
        exact iteT (bare_go (r_zP T) (ke (.inr c2)))
    · rw [decide_eq_false c1]
      exact iteT (iteT (bare_go (r_zP T) (ke (.inl c1))))
def inB (ns ng : List Nat) : Bool := ns.all (fun (n : Nat) => decide (n ≤ 3)) && ng.all fun (n : Nat) => decide (n ≤ Mix.TOP)
theorem any_all (l : List Nat) (c : Nat) : ((l.map fun (n : Nat) => decide ((c : Int) < (n : Int))).any id) = !(l.all fun (n : Nat) => decide (n ≤ c)) := by
  induction l with
  | nil => rfl
  | cons x r ih =>
    rw [List.map_cons, List.any_cons, ih, List.all_cons]
    by_cases h : x ≤ c
    · rw [decide_eq_true h, show decide ((c : Int) < (x : Int)) = false from decide_eq_false (by omega)]
      rfl
    · rw [decide_eq_false h, show decide ((c : Int) < (x : Int)) = true from decide_eq_true (by omega)]
      rfl
def spCheckBounds (K : PySem.W.Frag) (a : AD) : Sp := fun vs H Q E => ∃ ls lg, ∃ ns ng : List Nat, vs = [.ref ls, .ref lg] ∧ TxL K H ls (kV ns) ∧ TxL K H lg (kV ng) ∧ ns.length ≤ 40 ∧ ng.length ≤ 40 ∧ (inB ns ng = true → ∀ H', Same H H' → Q .non H') ∧ (inB ns ng = false → Rz K a (-1) [] E)
theorem sc_zp : FnScope ["s", "g", "switch", "fader"] ["s", "g"] (defScope s_zp) := ⟨rfl, rfl, rfl, by decide +kernel, rfl, by decide +kernel, by decide +kernel⟩
theorem ok_zp (T : Txt K mg a) : FnOk P w K mg base (CXr P w) 4 a.f_zp a.d_zp ["s", "g"] (spCheckBounds K a) := by
  have GM := ok_zB (P := P) (w := w) (base := base) T
  refine T.F_zp.okR sc_zp (fun vs H Q E h => ?_) (fun cdv A outer s H vs Q E hr h => ?_)
  · obtain ⟨ls, lg, ns, ng, rfl, _⟩ := h
    rfl
  · obtain ⟨ls, lg, ns, ng, rfl, h1, h2, z1, z2, k, ke⟩ := h
    have nd := sc_zp.nd
    have hsl := sizeLine_eq
    refine ⟨_, pss_one (ps_if (PW.pt (pw_or (pt_val (pe_callB (cr_any rfl) (by rfl) T.b_any (by decide +kernel) (pa_cons (pe_lc (own := [("switch", 2)]) rfl nd (pi_list (pv 0)) (blkOk_by (by rfl)) (fun s H C cl fp => pg_name (i := 2) nd rfl (Or.inl rfl)) (fun s H C cl fp => pts_nil) (fun s H C cl fp => pe_cmpR op_gt (pv 2) (gint T.i_zrb) (nomark _))) pa_nil)))
        (pw_or1 (pt_val (pe_callB (cr_any rfl) (by rfl) T.b_any (by decide +kernel) (pa_cons (pe_lc (own := [("fader", 3)]) rfl nd (pi_list (pv 1)) (blkOk_by (by rfl)) (fun s H C cl fp => pg_name (i := 3) nd rfl (Or.inl rfl)) (fun s H C cl fp => pts_nil) (fun s H C cl fp => pe_cmpR op_gt (pv 3) (gint T.i_zsb) (nomark _))) pa_nil))))))
      (pss_one (ps_raise (pe_makeX0 T.K_z6 GM hr rfl T.g_z6 T.B_zB pass0) rfl throws_r)) pss_nil), ?_⟩
    refine ⟨_, rfl, ls, rfl, ⟨_, h1.sq⟩, fun L hL => lc_list (K := K) (a := ls) (xs := kV ns) (fun m H' => Same H H' ∧ H' L = some (.lst (((ns.take m).map fun (n : Nat) => decide ((3 : Int) < (n : Int))).map V.bl))) ?_ ?_ ?_ ?_⟩
    · exact ⟨sm_new hL, upd_same⟩
    · rintro m H' _ ⟨sm, _⟩
      exact (h1.same sm).sq
    · rintro m v H' hv ⟨sm, hL'⟩
      obtain ⟨n, hn, rfl⟩ := kV_of hv
      refine ⟨rfl, yes ?_⟩
      refine iteT ⟨_, rfl, _, _, rfl, rfl, _, hL', ?_, fun b o e => ?_, ?_⟩
      · rw [List.length_map, List.length_map, List.length_take]
        omega
      · rw [upd_ne (ne_of_none e hL)]
        exact sm b o e
      · rw [upd_same, tk_snoc hn, List.map_append, List.map_append]
        rfl
    · rintro H1 ⟨s1, hL1⟩
      rw [kV_len, List.take_length] at hL1
      refine ⟨L, _, rfl, SqL.of hL1, _, rfl, ?_⟩
      rw [show (3 : Int) = ((3 : Nat) : Int) from rfl, any_all]
      cases c1 : (ns.all fun (n : Nat) => decide (n ≤ 3)) with
      | false =>
        exact iteT (iteT (bare_go (r_z6 T) (ke (by unfold inB; rw [c1]; rfl))))
      | true =>
        refine iteF ⟨_, rfl, lg, rfl, ⟨_, (h2.same s1).sq⟩, fun M hM => lc_list (K := K) (a := lg) (xs := kV ng) (fun m H' => Same H1 H' ∧ H' M = some (.lst (((ng.take m).map fun (n : Nat) => decide ((65535 : Int) < (n : Int))).map V.bl))) ?_ ?_ ?_ ?_⟩
        · exact ⟨sm_new hM, upd_same⟩
        · rintro m H' _ ⟨sm, _⟩
          exact ((h2.same s1).same sm).sq
        · rintro m v H' hv ⟨sm, hL'⟩
          obtain ⟨n, hn, rfl⟩ := kV_of hv
          refine ⟨rfl, yes ?_⟩
          refine iteT ⟨_, rfl, _, _, rfl, rfl, _, hL', ?_, fun b o e => ?_, ?_⟩
          · rw [List.length_map, List.length_map, List.length_take]
            omega
          · rw [upd_ne (ne_of_none e hM)]
            exact sm b o e
          · rw [upd_same, tk_snoc hn, List.map_append, List.map_append]
            rfl
        · rintro H2 ⟨s2, hM2⟩
          rw [kV_len, List.take_length] at hM2
          refine ⟨M, _, rfl, SqL.of hM2, _, rfl, ?_⟩
          rw [show (65535 : Int) = ((65535 : Nat) : Int) from rfl, any_all]
          cases c2 : (ng.all fun (n : Nat) => decide (n ≤ 65535)) with
          | false => exact iteT (bare_go (r_z6 T) (ke (by unfold inB; rw [c1]; exact c2)))
          | true => exact iteF (k (by unfold inB; rw [c1]; exact c2) H2 (s1.trans s2))
end
end Mx
end
section
set_option Elab.async false
set_option linter.all false
set_option maxRecDepth 100000
set_option maxHeartbeats 1000000
namespace Mx
open PySem PySem.Spec PyProof.Rows L2
section
variable {P : Program} {w : World} {K : PySem.W.Frag} {mg : Str → Option Value} {base : Heap} {a : AD}
def kTell : Nat := 7
theorem sc_tell : FnScope ["desk", "s", "g", "ins", "levels", "both", "sample", "level"] ["desk", "s", "g", "ins"] (defScope s_zT) := ⟨rfl, rfl, rfl, by decide +kernel, rfl, by decide +kernel, by decide +kernel⟩
theorem ok_tell (T : Txt K mg a) : FnOk P w K mg base (CXr P w) kTell a.f_zT a.d_zT ["desk", "s", "g", "ins"] (spTell K a) := by
  have GC := ok_zq (P := P) (w := w) (base := base) T
  have GB := ok_zp (P := P) (w := w) (base := base) T
  have GW := ok_zg (P := P) (w := w) (base := base) T
  have GU := ok_zA (P := P) (w := w) (base := base) T
  have GF := ok_zx (P := P) (w := w) (base := base) T
  have GH := ok_held (P := P) (w := w) (base := base) T
  have GA := (ok_zY (P := P) (w := w) (base := base) T).ok
  refine T.F_zT.okR (k := 6) sc_tell (fun vs H Q E h => ?_) (fun cdv A outer s H vs Q E hr h => ?_)
  · obtain ⟨dk, A, d, ls, ns, lg, ng, lz, zs, rfl, _⟩ := h
    rfl
  · obtain ⟨dk, A', d, ls, ns, lg, ng, lz, zs, rfl, D, g, h1, z1, w1, h2, z2, w2, h3, z3, w3, k, ke⟩ := h
    have nd := sc_tell.nd
    have hsz := g.good.size
    have hsl := sizeLine_eq
    refine ⟨_, pss_cons (ps_expr (pe_call GC (hr.mono (by decide)) rfl T.g_zq T.F_zq.kp T.B_zq .nil passes_r (pa_cons (pv 0) (pa_cons (pv 1) (pa_cons (pv 2) pa_nil)))))
      (pss_cons (ps_if (pt_cmpR op_ne (pe_callB call_len_seq (by rfl) T.b_len PySem.boot_len (pa_cons (pv 3) pa_nil)) (pe_bm PySem.F.plainAttrs_list PySem.F.slot_list_count PySem.F.type_list_count mt_count_ints (pe_fld (pv 0) rfl) (pa_cons (gint T.i_IN) pa_nil)) (nomark _))
        (pss_one (ps_raise (pe_makeX0 T.K_zP GW (hr.mono (by decide)) rfl T.g_zP T.B_zg pass0) rfl throws_r)) pss_nil)
      (pss_cons (ps_expr (pe_call GB (hr.mono (by decide)) rfl T.g_zp T.F_zp.kp T.B_zp .nil passes_r (pa_cons (pv 1) (pa_cons (pv 2) pa_nil))))
      (pss_cons (ps_set (i := 4) nd rfl (Or.inl rfl) (pe_call GF (hr.mono (by decide)) rfl T.g_zx T.F_zx.kp T.B_zx .nil pass0 (pa_cons (pe_make T.K_z3 GU hr rfl T.g_z3 T.B_zA .nil pass0 (pa_cons (pv 0) (pa_cons (pv 1) (pa_cons (pv 2) pa_nil)))) (pa_cons
        (pe_lc (own := [("sample", 6)]) (te := tCall spHeld [] E0 (tCons (tVar 6) tNil)) rfl nd (pi_list (pv 3)) (blkOk_by (by rfl)) (fun s H C cl fp => pg_name (i := 6) nd rfl (Or.inl rfl)) (fun s H C cl fp => pts_nil)
          (fun s H C cl fp => pe_call GH (hr.mono (by decide)) rfl T.g_held T.F_held.kp T.B_held .nil pass0 (pa_cons (pv 6) pa_nil))) pa_nil))))
      (pss_cons (ps_setLc (i := 5) (own := [("level", 7)]) (te := tCall spHeld [] E0 (tCons (tVar 7) tNil)) rfl nd rfl rfl (sw_true rfl rfl rfl (by rfl)) (pi_list (pe_op op_cat (pe_fld (pv 4) rfl) (pe_fld (pv 4) rfl))) (blkOk_by (by rfl)) (fun s H C cl fp => pg_name (i := 7) nd rfl (Or.inl rfl)) (fun s H C cl fp => pts_nil)
          (fun s H C cl fp => pe_call GH (hr.mono (by decide)) rfl T.g_held T.F_held.kp T.B_held .nil pass0 (pa_cons (pv 7) pa_nil)))
      (pss_one (ps_ret (pe_call GA (hr.mono (by decide)) rfl T.g_zY T.F_zY.kp T.B_zY .nil pass0
        (pa_cons (pe_callB call_len_seq (by rfl) T.b_len PySem.boot_len (pa_cons (pe_fld (pv 0) rfl) pa_nil)) (pa_cons (pe_lst pa_nil) (pa_cons (pv 5) pa_nil)))))))))), ?_⟩
    have kE : ∀ z, tellAns d ns ng zs = Mix.says z → Rz K a z [] E := fun z e => by
      rw [e] at ke
      exact ke rfl (Nat.zero_le _)
    have e0 : tellAns d ns ng zs = if zs.length ≠ d.counts 0 then Mix.says (-5) else if ns.length ≠ d.size ∨ ng.length ≠ d.size then Mix.says (-5) else if inB ns ng = true then ⟨(d.size : Nat), [], ((d.ready.mix ⟨ns.toArray, ng.toArray⟩ zs.toArray).toList.map fun (y : Mix.Sounding) => Mix.held y.sum) ++ (d.ready.mix ⟨ns.toArray, ng.toArray⟩ zs.toArray).toList.map Mix.Sounding.post⟩ else Mix.says (-1) := rfl
    refine ⟨_, rfl, _, rfl, _, rfl, dk, A', d, ls, lg, ns, ng, rfl, D, h1, h2, fun c1 => ?_, fun c => kE (-5) (by
      rw [e0]
      by_cases c0 : zs.length ≠ d.counts 0
      · rw [if_pos c0]
      · rw [if_neg c0, if_pos c])⟩
    obtain ⟨dd, o1⟩ := D.obj
    have ek : H A'.k = some (.lst ((d.nodes.map fun n => (n.kind : Int)).map V.int)) := by
      rw [List.map_map]
      exact D.kinds
    refine ⟨_, rfl, lz, _, rfl, .inl h3.sq, _, rfl, dk, _, dd, _, _, rfl, o1, T.C_Desk, T.N_z9, dk_kinds A', .inl ⟨rfl, _, SqL.of ek⟩, A'.k, _, _, rfl, rfl, SqL.of ek, rfl, _, rfl, ?_⟩
    rw [List.length_map, show (d.nodes.map fun n => (n.kind : Int)).count 0 = d.counts 0 from count_kinds d.nodes 0, dec_nat]
    by_cases c0 : zs.length = d.counts 0
    · rw [decide_eq_true c0]
      rw [if_neg (fun z => z c0), if_neg c1] at e0
      refine iteF ⟨_, rfl, _, rfl, ls, lg, ns, ng, rfl, h1, h2, z1, z2, fun c2 H1 s1 => ?_, fun c2 => kE (-1) (by rw [e0, c2]; rfl)⟩
      rw [c2, if_pos rfl, Md.mix_eq, Md.lvA_list] at e0
      rw [e0] at k
      have hns : ns.length = d.size := by
        by_cases q : ns.length = d.size
        · exact q
        · exact absurd (.inl q) c1
      have hng : ng.length = d.size := by
        by_cases q : ng.length = d.size
        · exact q
        · exact absurd (.inr q) c1
      have q : inB ns ng = true := c2
      unfold inB at q
      rw [Bool.and_eq_true] at q
      have hb : ∀ n ∈ ns, n ≤ 3 := fun n hn => of_decide_eq_true (List.all_eq_true.mp q.1 n hn)
      have hb2 : ∀ n ∈ ng, n ≤ 65535 := fun n hn => of_decide_eq_true (List.all_eq_true.mp q.2 n hn)
      refine ⟨_, rfl, _, rfl, _, rfl, fun su dx nx nd' ne => su_made (D.same s1) g ⟨h1.same s1, hns, hb⟩ ⟨h2.same s1, hng, hb2⟩ nx nd' fun H2 lv gs s2 U => ⟨rfl, ?_⟩⟩
      have h32 := (h3.same s1).same s2
      refine ⟨_, rfl, lz, rfl, ⟨_, h32.sq⟩, fun L hL => lc_list (K := K) (a := lz) (xs := zs.map V.int) (fun m H' => Same H2 H' ∧ H' L = some (.lst (((zs.take m).map Mix.held).map V.int))) ?_ ?_ ?_ ?_⟩
      · exact ⟨sm_new hL, upd_same⟩
      · rintro m H' _ ⟨sm, _⟩
        exact (h32.same sm).sq
      · rintro m v H' hv ⟨sm, hL'⟩
        obtain ⟨z, hz, rfl⟩ : ∃ z, zs[m]? = some z ∧ v = .int z := by
          rw [List.getElem?_map] at hv
          cases e : zs[m]? with
          | none => rw [e] at hv; cases hv
          | some x => rw [e] at hv; exact ⟨x, rfl, (Option.some.inj hv).symm⟩
        refine ⟨rfl, yes ?_⟩
        refine iteT ⟨_, rfl, z, rfl, _, hL', ?_, fun b o e => ?_, ?_⟩
        · rw [List.length_map, List.length_map, List.length_take]
          omega
        · rw [upd_ne (ne_of_none e hL)]
          exact sm b o e
        · rw [upd_same, tk_snoc hz, List.map_append, List.map_append]
          rfl
      · rintro H3 ⟨s3, hL3⟩
        rw [List.length_map, List.take_length] at hL3
        refine ⟨su, dk, A', d, lv, gs, L, ns, ng, zs, rfl, U.same s3, g.good, hb2, SqL.of hL3, c0, fun H4 le sm gv s4 Lv => ?_⟩
        obtain ⟨dl, o5⟩ := Lv.obj
        have eB : ((List.range d.size).map fun x => V.int (Md.sn d ⟨ns.toArray, ng.toArray⟩ zs x).sum) ++ ((List.range d.size).map fun x => V.int (Md.sn d ⟨ns.toArray, ng.toArray⟩ zs x).give) = (((List.range d.size).map fun x => (Md.sn d ⟨ns.toArray, ng.toArray⟩ zs x).sum) ++ ((List.range d.size).map fun x => (Md.sn d ⟨ns.toArray, ng.toArray⟩ zs x).give)).map V.int := by
          rw [List.map_append, List.map_map, List.map_map]
          rfl
        have hbl : (((List.range d.size).map fun x => (Md.sn d ⟨ns.toArray, ng.toArray⟩ zs x).sum) ++ ((List.range d.size).map fun x => (Md.sn d ⟨ns.toArray, ng.toArray⟩ zs x).give)).length ≤ 48 := by
          rw [List.length_append, List.length_map, List.length_map, List.length_range]
          omega
        have eF : (((List.range d.size).map (Md.sn d ⟨ns.toArray, ng.toArray⟩ zs)).map fun (y : Mix.Sounding) => Mix.held y.sum) ++ ((List.range d.size).map (Md.sn d ⟨ns.toArray, ng.toArray⟩ zs)).map Mix.Sounding.post = (((List.range d.size).map fun x => (Md.sn d ⟨ns.toArray, ng.toArray⟩ zs x).sum) ++ ((List.range d.size).map fun x => (Md.sn d ⟨ns.toArray, ng.toArray⟩ zs x).give)).map Mix.held := by
          rw [List.map_append, List.map_map, List.map_map, List.map_map, List.map_map]
          rfl
        rw [eF] at k
        refine ⟨_, rfl, le, _, dl, _, _, rfl, o5, T.C_z2, T.N_zjb, rfl, _, rfl, le, _, dl, _, _, rfl, o5, T.C_z2, T.N_zfb, rfl, sm, gv, _, _, rfl, rfl, Lv.sums, Lv.given, (by rw [List.length_map, List.length_map, List.length_range]; omega), fun p np => ?_⟩
        rw [eB]
        generalize ((List.range d.size).map fun x => (Md.sn d ⟨ns.toArray, ng.toArray⟩ zs x).sum) ++ ((List.range d.size).map fun x => (Md.sn d ⟨ns.toArray, ng.toArray⟩ zs x).give) = bs at k hbl
        have s5 := sm_new (o := .lst (bs.map V.int)) np
        have hp5 : upd H4 p (.lst (bs.map V.int)) p = some (.lst (bs.map V.int)) := upd_same
        generalize upd H4 p (.lst (bs.map V.int)) = H5 at s5 hp5
        have D5 := D.same ((((s1.trans s2).trans s3).trans s4).trans s5)
        refine ⟨p, rfl, ⟨_, SqL.of hp5⟩, fun G hG => lc_list (K := K) (a := p) (xs := bs.map V.int) (fun m H' => Same H5 H' ∧ H' G = some (.lst (((bs.take m).map Mix.held).map V.int))) ?_ ?_ ?_ ?_⟩
        · exact ⟨sm_new hG, upd_same⟩
        · rintro m H' _ ⟨sm', _⟩
          exact SqL.of (sm' _ _ hp5)
        · rintro m v H' hv ⟨sm', hG'⟩
          obtain ⟨z, hz, rfl⟩ : ∃ z, bs[m]? = some z ∧ v = .int z := by
            rw [List.getElem?_map] at hv
            cases e : bs[m]? with
            | none => rw [e] at hv; cases hv
            | some x => rw [e] at hv; exact ⟨x, rfl, (Option.some.inj hv).symm⟩
          refine ⟨rfl, yes ?_⟩
          refine iteT ⟨_, rfl, z, rfl, _, hG', ?_, fun b o e => ?_, ?_⟩
          · rw [List.length_map, List.length_map, List.length_take]
            omega
          · rw [upd_ne (ne_of_none e hG)]
            exact sm' b o e
          · rw [upd_same, tk_snoc hz, List.map_append, List.map_append]
            rfl
        · rintro H6 ⟨s6, hG6⟩
          rw [List.length_map, List.take_length] at hG6
          have D6 := D5.same s6
          obtain ⟨dd6, o6⟩ := D6.obj
          refine ⟨_, rfl, dk, _, dd6, _, _, rfl, o6, T.C_Desk, T.N_z9, dk_kinds A', A'.k, _, rfl, .inl (SqL.of D6.kinds), Nat.zero_le _, fun l1 m1 => ?_⟩
          refine ⟨_, rfl, _, l1, G, [], _, rfl, upd_same, sm_new m1 _ _ hG6, (by rw [List.length_map, List.length_map]; show 0 + _ ≤ 10000; omega), fun H' p' _ hp => k H' p' ?_⟩
          rw [hp, ← ans_nums, List.length_map]
          rfl
    · rw [decide_eq_false c0]
      exact iteT (bare_go (r_zP T) (kE (-5) (by rw [e0, if_pos c0])))
end
end Mx
end
section
set_option Elab.async false
set_option linter.all false
set_option maxRecDepth 100000
set_option maxHeartbeats 1000000
namespace Mx
open PySem PySem.Spec PyProof.Rows L2
section
variable {P : Program} {w : World} {K : PySem.W.Frag} {mg : Str → Option Value} {base : Heap} {a : AD}
def kTop : Nat := max 9 kTell + 1
theorem sc_top : FnScope ["t", "s", "g", "ins", "e"] ["t", "s", "g", "ins"] (defScope s_mix) := ⟨rfl, rfl, rfl, by decide +kernel, rfl, by decide +kernel, by decide +kernel⟩
theorem ok_mix (T : Txt K mg a) : FnOk P w K mg base CX0 kTop a.f_mix a.d_mix ["t", "s", "g", "ins"] (spTop K) := by
  have GC := ok_tell (P := P) (w := w) (base := base) T
  have GR := ok_zV (P := P) (w := w) (base := base) T
  refine T.F_mix.ok (k := max 9 kTell) sc_top (fun vs H Q E h => ?_) (fun cdv A outer s H vs Q E hr h => ?_)
  · obtain ⟨l_t, b_t, l_s, n_s, l_g, n_g, l_ins, z_ins, rfl, _⟩ := h
    rfl
  · obtain ⟨l_t, b_t, l_s, n_s, l_g, n_g, l_ins, z_ins, rfl, h_t, h_s, u_s, w_s, h_g, u_g, w_g, h_ins, u_ins, w_ins, k⟩ := h
    have GD := ok_zJ (P := P) (w := w) (base := base) (b := b_t) T
    have nd := sc_top.nd
    have hrH : RoomH 2 (A.deeper (envOfC "mix" (defScope s_mix) s.heap.objs.size a.f_mix cdv)) := (hr.mono (by decide)).h
    refine ⟨_, pss_one (ps_try fun pins D => pss_one (ps_ret (pe_call GC (hr.mono (by decide)) rfl T.g_zT T.F_zT.kp T.B_zT .nil (passes_try (i := 4) rfl rfl nd rfl rfl rfl T.g_zW T.X_zW.ok (fun x => pss_one (ps_ret (pe_callH GR ⟨hrH.dp, hrH.un⟩ rfl T.g_zV T.F_zV.kp T.B_zV pass0 (pa_cons (pv 4) pa_nil)))))
      (pa_cons (pe_call GD (hr.mono (by decide)) rfl T.g_zJ T.F_zJ.kp T.B_zJ .nil (passes_try (i := 4) rfl rfl nd rfl rfl rfl T.g_zW T.X_zW.ok (fun x => pss_one (ps_ret (pe_callH GR ⟨hrH.dp, hrH.un⟩ rfl T.g_zV T.F_zV.kp T.B_zV pass0 (pa_cons (pv 4) pa_nil))))) (pa_cons (pv 0) pa_nil)) (pa_cons (pv 1) (pa_cons (pv 2) (pa_cons (pv 3) pa_nil))))))), ?_⟩
    refine ⟨_, rfl, l_t, rfl, h_t, fun z => rz_of rfl (by show 4 < 5; decide) (by decide) fun H' p hp => ?_, fun z => ⟨fun d hd H1 dk A' D' g s1 => ?_, fun e he => rz_of rfl (by show 4 < 5; decide) (by show 2 ≤ 100; decide) fun H' p hp => ?_⟩⟩
    · refine k H' p ?_
      have e2 : Desks.answer (.mix b_t n_s n_g z_ins) = Mix.says (-2) := if_pos z
      rw [hp, e2, ← ans_nums]
      rfl
    · have e3 : Desks.answer (.mix b_t n_s n_g z_ins) = tellAns d n_s n_g z_ins := by
        have eD : ∀ F : Mix.Desk → Mix.Answer, Desks.ofDesk b_t F = F d := fun F => by
          unfold Desks.ofDesk Desks.LOOKED
          rw [if_neg (by omega), hd]
          all_goals rfl
        show Desks.ofDesk b_t _ = _
        rw [eD]
        unfold tellAns Desks.ofBoard
        dsimp only
        by_cases c : z_ins.length ≠ d.counts 0
        · rw [if_pos c, if_pos c]
        · rw [if_neg c, if_neg c, eD]
          all_goals rfl
      rw [e3] at k
      refine ⟨_, rfl, _, rfl, _, rfl, dk, A', d, l_s, n_s, l_g, n_g, l_ins, z_ins, rfl, D', g, h_s.same s1, u_s, w_s, h_g.same s1, u_g, w_g, h_ins.same s1, u_ins, w_ins, k, fun hb hn => rz_of rfl (by show 4 < 5; decide) hn fun H' p hp => k H' p ?_⟩
      rw [hp, ← ans_nums, hb]
      rfl
    · refine k H' p ?_
      have e3 : Desks.answer (.mix b_t n_s n_g z_ins) = Mix.faulty e := by
        show Desks.ofDesk b_t _ = _
        unfold Desks.ofDesk Desks.LOOKED
        rw [if_neg (by omega), he]
        all_goals rfl
      rw [hp, e3, ← ans_nums]
      rfl
end
set_option maxHeartbeats 4000000 in
theorem all_mk {P : Program} {w : World} {K : PySem.W.Frag} {h : Heap} {mg : Str → Option Value} {fa c_Send c_Desk c_zW c_z1 c_z6 c_zP c_zZ c_zy c_z3 c_z2 f_zH f_zI f_zj f_zd f_zh f_zk f_zn f_zB f_zg f_zm f_zS f_held f_zt f_ze f_zb f_zc f_zi f_zJ f_zz f_zE f_zK f_zo f_zL f_zM f_zu f_zN f_zf f_zF f_zX f_zr f_z0 f_zO f_za f_zQ f_zl f_zv f_zG f_zA f_zC f_zs f_zU f_zD f_zq f_zp f_zw f_zx f_zR f_zT f_zY f_mix f_zV v_z5 v_z7 v_z8 : Addr}
    {od_zH an_zH od_zI an_zI od_zj an_zj od_zd an_zd od_zh an_zh od_zk an_zk od_zn an_zn od_zB an_zB od_zg an_zg od_zm an_zm od_zS an_zS od_held an_held od_zt an_zt od_ze an_ze od_zb an_zb od_zc an_zc od_zi an_zi od_zJ an_zJ od_zz an_zz od_zE an_zE od_zK an_zK od_zo an_zo od_zL an_zL od_zM an_zM od_zu an_zu od_zN an_zN od_zf an_zf od_zF an_zF od_zX an_zX od_zr an_zr od_z0 an_z0 od_zO an_zO od_za an_za od_zQ an_zQ od_zl an_zl od_zv an_zv od_zG an_zG od_zA an_zA od_zC an_zC od_zs an_zs od_zU an_zU od_zD an_zD od_zq an_zq od_zp an_zp od_zw an_zw od_zx an_zx od_zR an_zR od_zT an_zT od_zY an_zY od_mix an_mix od_zV an_zV od_z5 od_z7 od_z8 : Option Addr}
    {sl_zH sl_zI sl_zj sl_zd sl_zh sl_zk sl_zn sl_zB sl_zg sl_zm sl_zS sl_held sl_zt sl_ze sl_zb sl_zc sl_zi sl_zJ sl_zz sl_zE sl_zK sl_zo sl_zL sl_zM sl_zu sl_zN sl_zf sl_zF sl_zX sl_zr sl_z0 sl_zO sl_za sl_zQ sl_zl sl_zv sl_zG sl_zA sl_zC sl_zs sl_zU sl_zD sl_zq sl_zp sl_zw sl_zx sl_zR sl_zT sl_zY sl_mix sl_zV sl_z5 sl_z7 sl_z8 : Array (Option Value)}
    {oc_zH kV_zH dc_zH pm_zH cd_zH ct_zH oc_zI kV_zI dc_zI pm_zI cd_zI ct_zI oc_zj kV_zj dc_zj pm_zj cd_zj ct_zj oc_zd kV_zd dc_zd pm_zd cd_zd ct_zd oc_zh kV_zh dc_zh pm_zh cd_zh ct_zh oc_zk kV_zk dc_zk pm_zk cd_zk ct_zk oc_zn kV_zn dc_zn pm_zn cd_zn ct_zn oc_zB kV_zB dc_zB pm_zB cd_zB ct_zB oc_zg kV_zg dc_zg pm_zg cd_zg ct_zg oc_zm kV_zm dc_zm pm_zm cd_zm ct_zm oc_zS kV_zS dc_zS pm_zS cd_zS ct_zS oc_held kV_held dc_held pm_held cd_held ct_held oc_zt kV_zt dc_zt pm_zt cd_zt ct_zt oc_ze kV_ze dc_ze pm_ze cd_ze ct_ze oc_zb kV_zb dc_zb pm_zb cd_zb ct_zb oc_zc kV_zc dc_zc pm_zc cd_zc ct_zc oc_zi kV_zi dc_zi pm_zi cd_zi ct_zi oc_zJ kV_zJ dc_zJ pm_zJ cd_zJ ct_zJ oc_zz kV_zz dc_zz pm_zz cd_zz ct_zz oc_zE kV_zE dc_zE pm_zE cd_zE ct_zE oc_zK kV_zK dc_zK pm_zK cd_zK ct_zK oc_zo kV_zo dc_zo pm_zo cd_zo ct_zo oc_zL kV_zL dc_zL pm_zL cd_zL ct_zL oc_zM kV_zM dc_zM pm_zM cd_zM ct_zM oc_zu kV_zu dc_zu pm_zu cd_zu ct_zu oc_zN kV_zN dc_zN pm_zN cd_zN ct_zN oc_zf kV_zf dc_zf pm_zf cd_zf ct_zf oc_zF kV_zF dc_zF pm_zF cd_zF ct_zF oc_zX kV_zX dc_zX pm_zX cd_zX ct_zX oc_zr kV_zr dc_zr pm_zr cd_zr ct_zr oc_z0 kV_z0 dc_z0 pm_z0 cd_z0 ct_z0 oc_zO kV_zO dc_zO pm_zO cd_zO ct_zO oc_za kV_za dc_za pm_za cd_za ct_za oc_zQ kV_zQ dc_zQ pm_zQ cd_zQ ct_zQ oc_zl kV_zl dc_zl pm_zl cd_zl ct_zl oc_zv kV_zv dc_zv pm_zv cd_zv ct_zv oc_zG kV_zG dc_zG pm_zG cd_zG ct_zG oc_zA kV_zA dc_zA pm_zA cd_zA ct_zA oc_zC kV_zC dc_zC pm_zC cd_zC ct_zC oc_zs kV_zs dc_zs pm_zs cd_zs ct_zs oc_zU kV_zU dc_zU pm_zU cd_zU ct_zU oc_zD kV_zD dc_zD pm_zD cd_zD ct_zD oc_zq kV_zq dc_zq pm_zq cd_zq ct_zq oc_zp kV_zp dc_zp pm_zp cd_zp ct_zp oc_zw kV_zw dc_zw pm_zw cd_zw ct_zw oc_zx kV_zx dc_zx pm_zx cd_zx ct_zx oc_zR kV_zR dc_zR pm_zR cd_zR ct_zR oc_zT kV_zT dc_zT pm_zT cd_zT ct_zT oc_zY kV_zY dc_zY pm_zY cd_zY ct_zY oc_mix kV_mix dc_mix pm_mix cd_mix ct_mix oc_zV kV_zV dc_zV pm_zV cd_zV ct_zV : Value}
    {n_z5 n_z7 n_z8 : Nat}
    {t_IN t_BUS t_OUT t_zSb t_zlb t_zpb t_zsb t_UNIT t_HALF t_zvb t_zBb t_zQb t_ZERO t_NINE t_zLb t_zMb t_zwb t_zmb t_zqb t_zxb t_zEb t_zeb t_zhb t_zcb t_zFb t_MUTE t_SOLO t_zrb t_zZb t_z0b t_z1b t_z2b t_zTb t_zUb t_zVb t_zWb t_zXb t_zYb t_z3b t_z4b t_z5b t_z6b : Tok}
    (X : K.In h) (G : h.Ns mainGlobals mg) (hfa : mg "mix" = some (.ref fa))
    (gc_Send : PySem.W.nsIn K mainGlobals "Send" = some (some (.ref c_Send)))
    (gc_Desk : PySem.W.nsIn K mainGlobals "Desk" = some (some (.ref c_Desk)))
    (gc_zW : PySem.W.nsIn K mainGlobals "Refusal" = some (some (.ref c_zW)))
    (gc_z1 : PySem.W.nsIn K mainGlobals "TooLong" = some (some (.ref c_z1)))
    (gc_z6 : PySem.W.nsIn K mainGlobals "Unfit" = some (some (.ref c_z6)))
    (gc_zP : PySem.W.nsIn K mainGlobals "WrongCount" = some (some (.ref c_zP)))
    (gc_zZ : PySem.W.nsIn K mainGlobals "Fault" = some (some (.ref c_zZ)))
    (gc_zy : PySem.W.nsIn K mainGlobals "Reader" = some (some (.ref c_zy)))
    (gc_z3 : PySem.W.nsIn K mainGlobals "Setup" = some (some (.ref c_z3)))
    (gc_z2 : PySem.W.nsIn K mainGlobals "Levels" = some (some (.ref c_z2)))
    (a_zH : PySem.W.findIn K (.ref c_Send) "__init__" = some (some (.ref f_zH)))
    (i_zH : PySem.W.isFn K (.ref f_zH) = true)
    (l_zH : K.lookup f_zH = some ⟨oc_zH, od_zH, .func (PySem.W.fnOf "__init__" "Send.__init__" (defArgs s_zH) (defBody s_zH) (defScope s_zH) .none kV_zH dc_zH pm_zH an_zH cd_zH ct_zH), sl_zH⟩)
    (c_zH : PySem.W.codeIn K cd_zH "Send.__init__" = true)
    (k_zH : PySem.W.keepIn K (.ref f_zH) = true)
    (a_zI : PySem.W.findIn K (.ref c_Desk) "__init__" = some (some (.ref f_zI)))
    (i_zI : PySem.W.isFn K (.ref f_zI) = true)
    (l_zI : K.lookup f_zI = some ⟨oc_zI, od_zI, .func (PySem.W.fnOf "__init__" "Desk.__init__" (defArgs s_zI) (defBody s_zI) (defScope s_zI) .none kV_zI dc_zI pm_zI an_zI cd_zI ct_zI), sl_zI⟩)
    (c_zI : PySem.W.codeIn K cd_zI "Desk.__init__" = true)
    (k_zI : PySem.W.keepIn K (.ref f_zI) = true)
    (a_zj : PySem.W.findIn K (.ref c_Desk) "add_node" = some (some (.ref f_zj)))
    (i_zj : PySem.W.isFn K (.ref f_zj) = true)
    (l_zj : K.lookup f_zj = some ⟨oc_zj, od_zj, .func (PySem.W.fnOf "add_node" "Desk.add_node" (defArgs s_zj) (defBody s_zj) (defScope s_zj) .none kV_zj dc_zj pm_zj an_zj cd_zj ct_zj), sl_zj⟩)
    (c_zj : PySem.W.codeIn K cd_zj "Desk.add_node" = true)
    (k_zj : PySem.W.keepIn K (.ref f_zj) = true)
    (a_zd : PySem.W.findIn K (.ref c_Desk) "send_between" = some (some (.ref f_zd)))
    (i_zd : PySem.W.isFn K (.ref f_zd) = true)
    (l_zd : K.lookup f_zd = some ⟨oc_zd, od_zd, .func (PySem.W.fnOf "send_between" "Desk.send_between" (defArgs s_zd) (defBody s_zd) (defScope s_zd) .none kV_zd dc_zd pm_zd an_zd cd_zd ct_zd), sl_zd⟩)
    (c_zd : PySem.W.codeIn K cd_zd "Desk.send_between" = true)
    (k_zd : PySem.W.keepIn K (.ref f_zd) = true)
    (a_zh : PySem.W.findIn K (.ref c_Desk) "groups_of" = some (some (.ref f_zh)))
    (i_zh : PySem.W.isFn K (.ref f_zh) = true)
    (l_zh : K.lookup f_zh = some ⟨oc_zh, od_zh, .func (PySem.W.fnOf "groups_of" "Desk.groups_of" (defArgs s_zh) (defBody s_zh) (defScope s_zh) .none kV_zh dc_zh pm_zh an_zh cd_zh ct_zh), sl_zh⟩)
    (c_zh : PySem.W.codeIn K cd_zh "Desk.groups_of" = true)
    (k_zh : PySem.W.keepIn K (.ref f_zh) = true)
    (a_zk : PySem.W.findIn K (.ref c_zW) "__init__" = some (some (.ref f_zk)))
    (i_zk : PySem.W.isFn K (.ref f_zk) = true)
    (l_zk : K.lookup f_zk = some ⟨oc_zk, od_zk, .func (PySem.W.fnOf "__init__" "Refusal.__init__" (defArgs s_zk) (defBody s_zk) (defScope s_zk) .none kV_zk dc_zk pm_zk an_zk cd_zk ct_zk), sl_zk⟩)
    (c_zk : PySem.W.codeIn K cd_zk "Refusal.__init__" = true)
    (k_zk : PySem.W.keepIn K (.ref f_zk) = true)
    (a_zn : PySem.W.findIn K (.ref c_z1) "__init__" = some (some (.ref f_zn)))
    (i_zn : PySem.W.isFn K (.ref f_zn) = true)
    (l_zn : K.lookup f_zn = some ⟨oc_zn, od_zn, .func (PySem.W.fnOf "__init__" "TooLong.__init__" (defArgs s_zn) (defBody s_zn) (defScope s_zn) .none kV_zn dc_zn pm_zn an_zn cd_zn ct_zn), sl_zn⟩)
    (c_zn : PySem.W.codeIn K cd_zn "TooLong.__init__" = true)
    (k_zn : PySem.W.keepIn K (.ref f_zn) = true)
    (a_zB : PySem.W.findIn K (.ref c_z6) "__init__" = some (some (.ref f_zB)))
    (i_zB : PySem.W.isFn K (.ref f_zB) = true)
    (l_zB : K.lookup f_zB = some ⟨oc_zB, od_zB, .func (PySem.W.fnOf "__init__" "Unfit.__init__" (defArgs s_zB) (defBody s_zB) (defScope s_zB) .none kV_zB dc_zB pm_zB an_zB cd_zB ct_zB), sl_zB⟩)
    (c_zB : PySem.W.codeIn K cd_zB "Unfit.__init__" = true)
    (k_zB : PySem.W.keepIn K (.ref f_zB) = true)
    (a_zg : PySem.W.findIn K (.ref c_zP) "__init__" = some (some (.ref f_zg)))
    (i_zg : PySem.W.isFn K (.ref f_zg) = true)
    (l_zg : K.lookup f_zg = some ⟨oc_zg, od_zg, .func (PySem.W.fnOf "__init__" "WrongCount.__init__" (defArgs s_zg) (defBody s_zg) (defScope s_zg) .none kV_zg dc_zg pm_zg an_zg cd_zg ct_zg), sl_zg⟩)
    (c_zg : PySem.W.codeIn K cd_zg "WrongCount.__init__" = true)
    (k_zg : PySem.W.keepIn K (.ref f_zg) = true)
    (a_zm : PySem.W.findIn K (.ref c_zZ) "__init__" = some (some (.ref f_zm)))
    (i_zm : PySem.W.isFn K (.ref f_zm) = true)
    (l_zm : K.lookup f_zm = some ⟨oc_zm, od_zm, .func (PySem.W.fnOf "__init__" "Fault.__init__" (defArgs s_zm) (defBody s_zm) (defScope s_zm) .none kV_zm dc_zm pm_zm an_zm cd_zm ct_zm), sl_zm⟩)
    (c_zm : PySem.W.codeIn K cd_zm "Fault.__init__" = true)
    (k_zm : PySem.W.keepIn K (.ref f_zm) = true)
    (a_zS : PySem.W.nsIn K mainGlobals "rounded" = some (some (.ref f_zS)))
    (l_zS : K.lookup f_zS = some ⟨oc_zS, od_zS, .func (PySem.W.fnOf "rounded" "rounded" (defArgs s_zS) (defBody s_zS) (defScope s_zS) .none kV_zS dc_zS pm_zS an_zS cd_zS ct_zS), sl_zS⟩)
    (c_zS : PySem.W.codeIn K cd_zS "rounded" = true)
    (k_zS : PySem.W.keepIn K (.ref f_zS) = true)
    (a_held : PySem.W.nsIn K mainGlobals "held" = some (some (.ref f_held)))
    (l_held : K.lookup f_held = some ⟨oc_held, od_held, .func (PySem.W.fnOf "held" "held" (defArgs s_held) (defBody s_held) (defScope s_held) .none kV_held dc_held pm_held an_held cd_held ct_held), sl_held⟩)
    (c_held : PySem.W.codeIn K cd_held "held" = true)
    (k_held : PySem.W.keepIn K (.ref f_held) = true)
    (a_zt : PySem.W.findIn K (.ref c_zy) "__init__" = some (some (.ref f_zt)))
    (i_zt : PySem.W.isFn K (.ref f_zt) = true)
    (l_zt : K.lookup f_zt = some ⟨oc_zt, od_zt, .func (PySem.W.fnOf "__init__" "Reader.__init__" (defArgs s_zt) (defBody s_zt) (defScope s_zt) .none kV_zt dc_zt pm_zt an_zt cd_zt ct_zt), sl_zt⟩)
    (c_zt : PySem.W.codeIn K cd_zt "Reader.__init__" = true)
    (k_zt : PySem.W.keepIn K (.ref f_zt) = true)
    (a_ze : PySem.W.findIn K (.ref c_zy) "next_word" = some (some (.ref f_ze)))
    (i_ze : PySem.W.isFn K (.ref f_ze) = true)
    (l_ze : K.lookup f_ze = some ⟨oc_ze, od_ze, .func (PySem.W.fnOf "next_word" "Reader.next_word" (defArgs s_ze) (defBody s_ze) (defScope s_ze) .none kV_ze dc_ze pm_ze an_ze cd_ze ct_ze), sl_ze⟩)
    (c_ze : PySem.W.codeIn K cd_ze "Reader.next_word" = true)
    (k_ze : PySem.W.keepIn K (.ref f_ze) = true)
    (a_zb : PySem.W.findIn K (.ref c_zy) "take_word" = some (some (.ref f_zb)))
    (i_zb : PySem.W.isFn K (.ref f_zb) = true)
    (l_zb : K.lookup f_zb = some ⟨oc_zb, od_zb, .func (PySem.W.fnOf "take_word" "Reader.take_word" (defArgs s_zb) (defBody s_zb) (defScope s_zb) .none kV_zb dc_zb pm_zb an_zb cd_zb ct_zb), sl_zb⟩)
    (c_zb : PySem.W.codeIn K cd_zb "Reader.take_word" = true)
    (k_zb : PySem.W.keepIn K (.ref f_zb) = true)
    (a_zc : PySem.W.findIn K (.ref c_zy) "take_byte" = some (some (.ref f_zc)))
    (i_zc : PySem.W.isFn K (.ref f_zc) = true)
    (l_zc : K.lookup f_zc = some ⟨oc_zc, od_zc, .func (PySem.W.fnOf "take_byte" "Reader.take_byte" (defArgs s_zc) (defBody s_zc) (defScope s_zc) .none kV_zc dc_zc pm_zc an_zc cd_zc ct_zc), sl_zc⟩)
    (c_zc : PySem.W.codeIn K cd_zc "Reader.take_byte" = true)
    (k_zc : PySem.W.keepIn K (.ref f_zc) = true)
    (a_zi : PySem.W.findIn K (.ref c_zy) "at_end" = some (some (.ref f_zi)))
    (i_zi : PySem.W.isFn K (.ref f_zi) = true)
    (l_zi : K.lookup f_zi = some ⟨oc_zi, od_zi, .func (PySem.W.fnOf "at_end" "Reader.at_end" (defArgs s_zi) (defBody s_zi) (defScope s_zi) .none kV_zi dc_zi pm_zi an_zi cd_zi ct_zi), sl_zi⟩)
    (c_zi : PySem.W.codeIn K cd_zi "Reader.at_end" = true)
    (k_zi : PySem.W.keepIn K (.ref f_zi) = true)
    (a_zJ : PySem.W.nsIn K mainGlobals "read_desk" = some (some (.ref f_zJ)))
    (l_zJ : K.lookup f_zJ = some ⟨oc_zJ, od_zJ, .func (PySem.W.fnOf "read_desk" "read_desk" (defArgs s_zJ) (defBody s_zJ) (defScope s_zJ) .none kV_zJ dc_zJ pm_zJ an_zJ cd_zJ ct_zJ), sl_zJ⟩)
    (c_zJ : PySem.W.codeIn K cd_zJ "read_desk" = true)
    (k_zJ : PySem.W.keepIn K (.ref f_zJ) = true)
    (a_zz : PySem.W.nsIn K mainGlobals "bytes_of" = some (some (.ref f_zz)))
    (l_zz : K.lookup f_zz = some ⟨oc_zz, od_zz, .func (PySem.W.fnOf "bytes_of" "bytes_of" (defArgs s_zz) (defBody s_zz) (defScope s_zz) .none kV_zz dc_zz pm_zz an_zz cd_zz ct_zz), sl_zz⟩)
    (c_zz : PySem.W.codeIn K cd_zz "bytes_of" = true)
    (k_zz : PySem.W.keepIn K (.ref f_zz) = true)
    (a_zE : PySem.W.nsIn K mainGlobals "is_one_of" = some (some (.ref f_zE)))
    (l_zE : K.lookup f_zE = some ⟨oc_zE, od_zE, .func (PySem.W.fnOf "is_one_of" "is_one_of" (defArgs s_zE) (defBody s_zE) (defScope s_zE) .none kV_zE dc_zE pm_zE an_zE cd_zE ct_zE), sl_zE⟩)
    (c_zE : PySem.W.codeIn K cd_zE "is_one_of" = true)
    (k_zE : PySem.W.keepIn K (.ref f_zE) = true)
    (a_zK : PySem.W.nsIn K mainGlobals "read_node" = some (some (.ref f_zK)))
    (l_zK : K.lookup f_zK = some ⟨oc_zK, od_zK, .func (PySem.W.fnOf "read_node" "read_node" (defArgs s_zK) (defBody s_zK) (defScope s_zK) .none kV_zK dc_zK pm_zK an_zK cd_zK ct_zK), sl_zK⟩)
    (c_zK : PySem.W.codeIn K cd_zK "read_node" = true)
    (k_zK : PySem.W.keepIn K (.ref f_zK) = true)
    (a_zo : PySem.W.nsIn K mainGlobals "read_setting" = some (some (.ref f_zo)))
    (l_zo : K.lookup f_zo = some ⟨oc_zo, od_zo, .func (PySem.W.fnOf "read_setting" "read_setting" (defArgs s_zo) (defBody s_zo) (defScope s_zo) .none kV_zo dc_zo pm_zo an_zo cd_zo ct_zo), sl_zo⟩)
    (c_zo : PySem.W.codeIn K cd_zo "read_setting" = true)
    (k_zo : PySem.W.keepIn K (.ref f_zo) = true)
    (a_zL : PySem.W.nsIn K mainGlobals "read_safe" = some (some (.ref f_zL)))
    (l_zL : K.lookup f_zL = some ⟨oc_zL, od_zL, .func (PySem.W.fnOf "read_safe" "read_safe" (defArgs s_zL) (defBody s_zL) (defScope s_zL) .none kV_zL dc_zL pm_zL an_zL cd_zL ct_zL), sl_zL⟩)
    (c_zL : PySem.W.codeIn K cd_zL "read_safe" = true)
    (k_zL : PySem.W.keepIn K (.ref f_zL) = true)
    (a_zM : PySem.W.nsIn K mainGlobals "read_late" = some (some (.ref f_zM)))
    (l_zM : K.lookup f_zM = some ⟨oc_zM, od_zM, .func (PySem.W.fnOf "read_late" "read_late" (defArgs s_zM) (defBody s_zM) (defScope s_zM) .none kV_zM dc_zM pm_zM an_zM cd_zM ct_zM), sl_zM⟩)
    (c_zM : PySem.W.codeIn K cd_zM "read_late" = true)
    (k_zM : PySem.W.keepIn K (.ref f_zM) = true)
    (a_zu : PySem.W.nsIn K mainGlobals "read_member" = some (some (.ref f_zu)))
    (l_zu : K.lookup f_zu = some ⟨oc_zu, od_zu, .func (PySem.W.fnOf "read_member" "read_member" (defArgs s_zu) (defBody s_zu) (defScope s_zu) .none kV_zu dc_zu pm_zu an_zu cd_zu ct_zu), sl_zu⟩)
    (c_zu : PySem.W.codeIn K cd_zu "read_member" = true)
    (k_zu : PySem.W.keepIn K (.ref f_zu) = true)
    (a_zN : PySem.W.nsIn K mainGlobals "read_send" = some (some (.ref f_zN)))
    (l_zN : K.lookup f_zN = some ⟨oc_zN, od_zN, .func (PySem.W.fnOf "read_send" "read_send" (defArgs s_zN) (defBody s_zN) (defScope s_zN) .none kV_zN dc_zN pm_zN an_zN cd_zN ct_zN), sl_zN⟩)
    (c_zN : PySem.W.codeIn K cd_zN "read_send" = true)
    (k_zN : PySem.W.keepIn K (.ref f_zN) = true)
    (a_zf : PySem.W.nsIn K mainGlobals "read_told_node" = some (some (.ref f_zf)))
    (l_zf : K.lookup f_zf = some ⟨oc_zf, od_zf, .func (PySem.W.fnOf "read_told_node" "read_told_node" (defArgs s_zf) (defBody s_zf) (defScope s_zf) .none kV_zf dc_zf pm_zf an_zf cd_zf ct_zf), sl_zf⟩)
    (c_zf : PySem.W.codeIn K cd_zf "read_told_node" = true)
    (k_zf : PySem.W.keepIn K (.ref f_zf) = true)
    (a_zF : PySem.W.nsIn K mainGlobals "read_name" = some (some (.ref f_zF)))
    (l_zF : K.lookup f_zF = some ⟨oc_zF, od_zF, .func (PySem.W.fnOf "read_name" "read_name" (defArgs s_zF) (defBody s_zF) (defScope s_zF) .none kV_zF dc_zF pm_zF an_zF cd_zF ct_zF), sl_zF⟩)
    (c_zF : PySem.W.codeIn K cd_zF "read_name" = true)
    (k_zF : PySem.W.keepIn K (.ref f_zF) = true)
    (a_zX : PySem.W.nsIn K mainGlobals "is_name" = some (some (.ref f_zX)))
    (l_zX : K.lookup f_zX = some ⟨oc_zX, od_zX, .func (PySem.W.fnOf "is_name" "is_name" (defArgs s_zX) (defBody s_zX) (defScope s_zX) .none kV_zX dc_zX pm_zX an_zX cd_zX ct_zX), sl_zX⟩)
    (c_zX : PySem.W.codeIn K cd_zX "is_name" = true)
    (k_zX : PySem.W.keepIn K (.ref f_zX) = true)
    (a_zr : PySem.W.nsIn K mainGlobals "read_number" = some (some (.ref f_zr)))
    (l_zr : K.lookup f_zr = some ⟨oc_zr, od_zr, .func (PySem.W.fnOf "read_number" "read_number" (defArgs s_zr) (defBody s_zr) (defScope s_zr) .none kV_zr dc_zr pm_zr an_zr cd_zr ct_zr), sl_zr⟩)
    (c_zr : PySem.W.codeIn K cd_zr "read_number" = true)
    (k_zr : PySem.W.keepIn K (.ref f_zr) = true)
    (a_z0 : PySem.W.nsIn K mainGlobals "is_num" = some (some (.ref f_z0)))
    (l_z0 : K.lookup f_z0 = some ⟨oc_z0, od_z0, .func (PySem.W.fnOf "is_num" "is_num" (defArgs s_z0) (defBody s_z0) (defScope s_z0) .none kV_z0 dc_z0 pm_z0 an_z0 cd_z0 ct_z0), sl_z0⟩)
    (c_z0 : PySem.W.codeIn K cd_z0 "is_num" = true)
    (k_z0 : PySem.W.keepIn K (.ref f_z0) = true)
    (a_zO : PySem.W.nsIn K mainGlobals "number_of" = some (some (.ref f_zO)))
    (l_zO : K.lookup f_zO = some ⟨oc_zO, od_zO, .func (PySem.W.fnOf "number_of" "number_of" (defArgs s_zO) (defBody s_zO) (defScope s_zO) .none kV_zO dc_zO pm_zO an_zO cd_zO ct_zO), sl_zO⟩)
    (c_zO : PySem.W.codeIn K cd_zO "number_of" = true)
    (k_zO : PySem.W.keepIn K (.ref f_zO) = true)
    (a_za : PySem.W.nsIn K mainGlobals "has_length_and_bytes" = some (some (.ref f_za)))
    (l_za : K.lookup f_za = some ⟨oc_za, od_za, .func (PySem.W.fnOf "has_length_and_bytes" "has_length_and_bytes" (defArgs s_za) (defBody s_za) (defScope s_za) .none kV_za dc_za pm_za an_za cd_za ct_za), sl_za⟩)
    (c_za : PySem.W.codeIn K cd_za "has_length_and_bytes" = true)
    (k_za : PySem.W.keepIn K (.ref f_za) = true)
    (a_zQ : PySem.W.nsIn K mainGlobals "read_pre" = some (some (.ref f_zQ)))
    (l_zQ : K.lookup f_zQ = some ⟨oc_zQ, od_zQ, .func (PySem.W.fnOf "read_pre" "read_pre" (defArgs s_zQ) (defBody s_zQ) (defScope s_zQ) .none kV_zQ dc_zQ pm_zQ an_zQ cd_zQ ct_zQ), sl_zQ⟩)
    (c_zQ : PySem.W.codeIn K cd_zQ "read_pre" = true)
    (k_zQ : PySem.W.keepIn K (.ref f_zQ) = true)
    (a_zl : PySem.W.nsIn K mainGlobals "spread_onward" = some (some (.ref f_zl)))
    (l_zl : K.lookup f_zl = some ⟨oc_zl, od_zl, .func (PySem.W.fnOf "spread_onward" "spread_onward" (defArgs s_zl) (defBody s_zl) (defScope s_zl) .none kV_zl dc_zl pm_zl an_zl cd_zl ct_zl), sl_zl⟩)
    (c_zl : PySem.W.codeIn K cd_zl "spread_onward" = true)
    (k_zl : PySem.W.keepIn K (.ref f_zl) = true)
    (a_zv : PySem.W.nsIn K mainGlobals "spread_back" = some (some (.ref f_zv)))
    (l_zv : K.lookup f_zv = some ⟨oc_zv, od_zv, .func (PySem.W.fnOf "spread_back" "spread_back" (defArgs s_zv) (defBody s_zv) (defScope s_zv) .none kV_zv dc_zv pm_zv an_zv cd_zv ct_zv), sl_zv⟩)
    (c_zv : PySem.W.codeIn K cd_zv "spread_back" = true)
    (k_zv : PySem.W.keepIn K (.ref f_zv) = true)
    (a_zG : PySem.W.nsIn K mainGlobals "sender_of" = some (some (.ref f_zG)))
    (l_zG : K.lookup f_zG = some ⟨oc_zG, od_zG, .func (PySem.W.fnOf "sender_of" "sender_of" (defArgs s_zG) (defBody s_zG) (defScope s_zG) .none kV_zG dc_zG pm_zG an_zG cd_zG ct_zG), sl_zG⟩)
    (c_zG : PySem.W.codeIn K cd_zG "sender_of" = true)
    (k_zG : PySem.W.keepIn K (.ref f_zG) = true)
    (a_zA : PySem.W.findIn K (.ref c_z3) "__init__" = some (some (.ref f_zA)))
    (i_zA : PySem.W.isFn K (.ref f_zA) = true)
    (l_zA : K.lookup f_zA = some ⟨oc_zA, od_zA, .func (PySem.W.fnOf "__init__" "Setup.__init__" (defArgs s_zA) (defBody s_zA) (defScope s_zA) .none kV_zA dc_zA pm_zA an_zA cd_zA ct_zA), sl_zA⟩)
    (c_zA : PySem.W.codeIn K cd_zA "Setup.__init__" = true)
    (k_zA : PySem.W.keepIn K (.ref f_zA) = true)
    (a_zC : PySem.W.nsIn K mainGlobals "live_nodes" = some (some (.ref f_zC)))
    (l_zC : K.lookup f_zC = some ⟨oc_zC, od_zC, .func (PySem.W.fnOf "live_nodes" "live_nodes" (defArgs s_zC) (defBody s_zC) (defScope s_zC) .none kV_zC dc_zC pm_zC an_zC cd_zC ct_zC), sl_zC⟩)
    (c_zC : PySem.W.codeIn K cd_zC "live_nodes" = true)
    (k_zC : PySem.W.keepIn K (.ref f_zC) = true)
    (a_zs : PySem.W.nsIn K mainGlobals "is_switched" = some (some (.ref f_zs)))
    (l_zs : K.lookup f_zs = some ⟨oc_zs, od_zs, .func (PySem.W.fnOf "is_switched" "is_switched" (defArgs s_zs) (defBody s_zs) (defScope s_zs) .none kV_zs dc_zs pm_zs an_zs cd_zs ct_zs), sl_zs⟩)
    (c_zs : PySem.W.codeIn K cd_zs "is_switched" = true)
    (k_zs : PySem.W.keepIn K (.ref f_zs) = true)
    (a_zU : PySem.W.nsIn K mainGlobals "has_bit" = some (some (.ref f_zU)))
    (l_zU : K.lookup f_zU = some ⟨oc_zU, od_zU, .func (PySem.W.fnOf "has_bit" "has_bit" (defArgs s_zU) (defBody s_zU) (defScope s_zU) .none kV_zU dc_zU pm_zU an_zU cd_zU ct_zU), sl_zU⟩)
    (c_zU : PySem.W.codeIn K cd_zU "has_bit" = true)
    (k_zU : PySem.W.keepIn K (.ref f_zU) = true)
    (a_zD : PySem.W.nsIn K mainGlobals "whole_gain" = some (some (.ref f_zD)))
    (l_zD : K.lookup f_zD = some ⟨oc_zD, od_zD, .func (PySem.W.fnOf "whole_gain" "whole_gain" (defArgs s_zD) (defBody s_zD) (defScope s_zD) .none kV_zD dc_zD pm_zD an_zD cd_zD ct_zD), sl_zD⟩)
    (c_zD : PySem.W.codeIn K cd_zD "whole_gain" = true)
    (k_zD : PySem.W.keepIn K (.ref f_zD) = true)
    (a_zq : PySem.W.nsIn K mainGlobals "check_counts" = some (some (.ref f_zq)))
    (l_zq : K.lookup f_zq = some ⟨oc_zq, od_zq, .func (PySem.W.fnOf "check_counts" "check_counts" (defArgs s_zq) (defBody s_zq) (defScope s_zq) .none kV_zq dc_zq pm_zq an_zq cd_zq ct_zq), sl_zq⟩)
    (c_zq : PySem.W.codeIn K cd_zq "check_counts" = true)
    (k_zq : PySem.W.keepIn K (.ref f_zq) = true)
    (a_zp : PySem.W.nsIn K mainGlobals "check_bounds" = some (some (.ref f_zp)))
    (l_zp : K.lookup f_zp = some ⟨oc_zp, od_zp, .func (PySem.W.fnOf "check_bounds" "check_bounds" (defArgs s_zp) (defBody s_zp) (defScope s_zp) .none kV_zp dc_zp pm_zp an_zp cd_zp ct_zp), sl_zp⟩)
    (c_zp : PySem.W.codeIn K cd_zp "check_bounds" = true)
    (k_zp : PySem.W.keepIn K (.ref f_zp) = true)
    (a_zw : PySem.W.findIn K (.ref c_z2) "__init__" = some (some (.ref f_zw)))
    (i_zw : PySem.W.isFn K (.ref f_zw) = true)
    (l_zw : K.lookup f_zw = some ⟨oc_zw, od_zw, .func (PySem.W.fnOf "__init__" "Levels.__init__" (defArgs s_zw) (defBody s_zw) (defScope s_zw) .none kV_zw dc_zw pm_zw an_zw cd_zw ct_zw), sl_zw⟩)
    (c_zw : PySem.W.codeIn K cd_zw "Levels.__init__" = true)
    (k_zw : PySem.W.keepIn K (.ref f_zw) = true)
    (a_zx : PySem.W.nsIn K mainGlobals "find_levels" = some (some (.ref f_zx)))
    (l_zx : K.lookup f_zx = some ⟨oc_zx, od_zx, .func (PySem.W.fnOf "find_levels" "find_levels" (defArgs s_zx) (defBody s_zx) (defScope s_zx) .none kV_zx dc_zx pm_zx an_zx cd_zx ct_zx), sl_zx⟩)
    (c_zx : PySem.W.codeIn K cd_zx "find_levels" = true)
    (k_zx : PySem.W.keepIn K (.ref f_zx) = true)
    (a_zR : PySem.W.nsIn K mainGlobals "sum_sent" = some (some (.ref f_zR)))
    (l_zR : K.lookup f_zR = some ⟨oc_zR, od_zR, .func (PySem.W.fnOf "sum_sent" "sum_sent" (defArgs s_zR) (defBody s_zR) (defScope s_zR) .none kV_zR dc_zR pm_zR an_zR cd_zR ct_zR), sl_zR⟩)
    (c_zR : PySem.W.codeIn K cd_zR "sum_sent" = true)
    (k_zR : PySem.W.keepIn K (.ref f_zR) = true)
    (a_zT : PySem.W.nsIn K mainGlobals "tell_mix" = some (some (.ref f_zT)))
    (l_zT : K.lookup f_zT = some ⟨oc_zT, od_zT, .func (PySem.W.fnOf "tell_mix" "tell_mix" (defArgs s_zT) (defBody s_zT) (defScope s_zT) .none kV_zT dc_zT pm_zT an_zT cd_zT ct_zT), sl_zT⟩)
    (c_zT : PySem.W.codeIn K cd_zT "tell_mix" = true)
    (k_zT : PySem.W.keepIn K (.ref f_zT) = true)
    (a_zY : PySem.W.nsIn K mainGlobals "answer" = some (some (.ref f_zY)))
    (l_zY : K.lookup f_zY = some ⟨oc_zY, od_zY, .func (PySem.W.fnOf "answer" "answer" (defArgs s_zY) (defBody s_zY) (defScope s_zY) .none kV_zY dc_zY pm_zY an_zY cd_zY ct_zY), sl_zY⟩)
    (c_zY : PySem.W.codeIn K cd_zY "answer" = true)
    (k_zY : PySem.W.keepIn K (.ref f_zY) = true)
    (a_mix : PySem.W.nsIn K mainGlobals "mix" = some (some (.ref f_mix)))
    (l_mix : K.lookup f_mix = some ⟨oc_mix, od_mix, .func (PySem.W.fnOf "mix" "mix" (defArgs s_mix) (defBody s_mix) (defScope s_mix) .none kV_mix dc_mix pm_mix an_mix cd_mix ct_mix), sl_mix⟩)
    (c_mix : PySem.W.codeIn K cd_mix "mix" = true)
    (k_mix : PySem.W.keepIn K (.ref f_mix) = true)
    (a_zV : PySem.W.nsIn K mainGlobals "refused" = some (some (.ref f_zV)))
    (l_zV : K.lookup f_zV = some ⟨oc_zV, od_zV, .func (PySem.W.fnOf "refused" "refused" (defArgs s_zV) (defBody s_zV) (defScope s_zV) .none kV_zV dc_zV pm_zV an_zV cd_zV ct_zV), sl_zV⟩)
    (c_zV : PySem.W.codeIn K cd_zV "refused" = true)
    (k_zV : PySem.W.keepIn K (.ref f_zV) = true)
    (pg_Send : PySem.W.plainGet K c_Send Str.empty = true)
    (hd_Send : PySem.W.hasDictIn K c_Send = true)
    (po_Send : PySem.W.plainOver K c_Send = true)
    (sa_Send : PySem.W.findIn K (.ref c_Send) "__setattr__" = some (some (.builtin "object.__setattr__")))
    (mk_Send : PySem.W.makesIn K c_Send = true)
    (kc_Send : PySem.W.keepIn K (.ref c_Send) = true)
    (n_zdb : PySem.W.findIn K (.ref c_Send) "sender" = some none)
    (n_zib : PySem.W.findIn K (.ref c_Send) "target" = some none)
    (n_zKb : PySem.W.findIn K (.ref c_Send) "gain" = some none)
    (n_zRb : PySem.W.findIn K (.ref c_Send) "pre" = some none)
    (pg_Desk : PySem.W.plainGet K c_Desk Str.empty = true)
    (hd_Desk : PySem.W.hasDictIn K c_Desk = true)
    (po_Desk : PySem.W.plainOver K c_Desk = true)
    (sa_Desk : PySem.W.findIn K (.ref c_Desk) "__setattr__" = some (some (.builtin "object.__setattr__")))
    (mk_Desk : PySem.W.makesIn K c_Desk = true)
    (kc_Desk : PySem.W.keepIn K (.ref c_Desk) = true)
    (n_z9 : PySem.W.findIn K (.ref c_Desk) "kinds" = some none)
    (n_zob : PySem.W.findIn K (.ref c_Desk) "names" = some none)
    (n_zyb : PySem.W.findIn K (.ref c_Desk) "safe" = some none)
    (n_zCb : PySem.W.findIn K (.ref c_Desk) "late" = some none)
    (n_zkb : PySem.W.findIn K (.ref c_Desk) "members" = some none)
    (n_zgb : PySem.W.findIn K (.ref c_Desk) "sends" = some none)
    (pg_zy : PySem.W.plainGet K c_zy Str.empty = true)
    (hd_zy : PySem.W.hasDictIn K c_zy = true)
    (po_zy : PySem.W.plainOver K c_zy = true)
    (sa_zy : PySem.W.findIn K (.ref c_zy) "__setattr__" = some (some (.builtin "object.__setattr__")))
    (mk_zy : PySem.W.makesIn K c_zy = true)
    (kc_zy : PySem.W.keepIn K (.ref c_zy) = true)
    (n_zbb : PySem.W.findIn K (.ref c_zy) "text" = some none)
    (n_zab : PySem.W.findIn K (.ref c_zy) "place" = some none)
    (n_z4 : PySem.W.findIn K (.ref c_zy) "word_place" = some none)
    (pg_z3 : PySem.W.plainGet K c_z3 Str.empty = true)
    (hd_z3 : PySem.W.hasDictIn K c_z3 = true)
    (po_z3 : PySem.W.plainOver K c_z3 = true)
    (sa_z3 : PySem.W.findIn K (.ref c_z3) "__setattr__" = some (some (.builtin "object.__setattr__")))
    (mk_z3 : PySem.W.makesIn K c_z3 = true)
    (kc_z3 : PySem.W.keepIn K (.ref c_z3) = true)
    (n_zDb : PySem.W.findIn K (.ref c_z3) "desk" = some none)
    (n_zub : PySem.W.findIn K (.ref c_z3) "live" = some none)
    (n_zzb : PySem.W.findIn K (.ref c_z3) "gains" = some none)
    (pg_z2 : PySem.W.plainGet K c_z2 Str.empty = true)
    (hd_z2 : PySem.W.hasDictIn K c_z2 = true)
    (po_z2 : PySem.W.plainOver K c_z2 = true)
    (sa_z2 : PySem.W.findIn K (.ref c_z2) "__setattr__" = some (some (.builtin "object.__setattr__")))
    (mk_z2 : PySem.W.makesIn K c_z2 = true)
    (kc_z2 : PySem.W.keepIn K (.ref c_z2) = true)
    (n_zjb : PySem.W.findIn K (.ref c_z2) "sums" = some none)
    (n_zfb : PySem.W.findIn K (.ref c_z2) "given" = some none)
    (ok_zW : excOk K c_zW = true)
    (sa_zW : PySem.W.findIn K (.ref c_zW) "__setattr__" = some (some (.builtin "object.__setattr__")))
    (ga_zW : PySem.W.findIn K (.ref c_zW) "__getattribute__" = some (some (.builtin "BaseException.__getattribute__")))
    (gt_zW : PySem.W.findIn K (.ref c_zW) "__getattr__" = some none)
    (kc_zW : PySem.W.keepIn K (.ref c_zW) = true)
    (mr_zW : PySem.W.mroIn K c_zW (.ref c_zW) = some true)
    (n_zGb : PySem.W.findIn K (.ref c_zW) "number" = some none)
    (n_zNb : PySem.W.findIn K (.ref c_zW) "told" = some none)
    (ok_z1 : excOk K c_z1 = true)
    (sa_z1 : PySem.W.findIn K (.ref c_z1) "__setattr__" = some (some (.builtin "object.__setattr__")))
    (ga_z1 : PySem.W.findIn K (.ref c_z1) "__getattribute__" = some (some (.builtin "BaseException.__getattribute__")))
    (gt_z1 : PySem.W.findIn K (.ref c_z1) "__getattr__" = some none)
    (kc_z1 : PySem.W.keepIn K (.ref c_z1) = true)
    (mr_z1 : PySem.W.mroIn K c_z1 (.ref c_zW) = some true)
    (n_zAb : PySem.W.findIn K (.ref c_z1) "number" = some none)
    (n_zHb : PySem.W.findIn K (.ref c_z1) "told" = some none)
    (ok_z6 : excOk K c_z6 = true)
    (sa_z6 : PySem.W.findIn K (.ref c_z6) "__setattr__" = some (some (.builtin "object.__setattr__")))
    (ga_z6 : PySem.W.findIn K (.ref c_z6) "__getattribute__" = some (some (.builtin "BaseException.__getattribute__")))
    (gt_z6 : PySem.W.findIn K (.ref c_z6) "__getattr__" = some none)
    (kc_z6 : PySem.W.keepIn K (.ref c_z6) = true)
    (mr_z6 : PySem.W.mroIn K c_z6 (.ref c_zW) = some true)
    (n_zIb : PySem.W.findIn K (.ref c_z6) "number" = some none)
    (n_zOb : PySem.W.findIn K (.ref c_z6) "told" = some none)
    (ok_zP : excOk K c_zP = true)
    (sa_zP : PySem.W.findIn K (.ref c_zP) "__setattr__" = some (some (.builtin "object.__setattr__")))
    (ga_zP : PySem.W.findIn K (.ref c_zP) "__getattribute__" = some (some (.builtin "BaseException.__getattribute__")))
    (gt_zP : PySem.W.findIn K (.ref c_zP) "__getattr__" = some none)
    (kc_zP : PySem.W.keepIn K (.ref c_zP) = true)
    (mr_zP : PySem.W.mroIn K c_zP (.ref c_zW) = some true)
    (n_znb : PySem.W.findIn K (.ref c_zP) "number" = some none)
    (n_ztb : PySem.W.findIn K (.ref c_zP) "told" = some none)
    (ok_zZ : excOk K c_zZ = true)
    (sa_zZ : PySem.W.findIn K (.ref c_zZ) "__setattr__" = some (some (.builtin "object.__setattr__")))
    (ga_zZ : PySem.W.findIn K (.ref c_zZ) "__getattribute__" = some (some (.builtin "BaseException.__getattribute__")))
    (gt_zZ : PySem.W.findIn K (.ref c_zZ) "__getattr__" = some none)
    (kc_zZ : PySem.W.keepIn K (.ref c_zZ) = true)
    (mr_zZ : PySem.W.mroIn K c_zZ (.ref c_zW) = some true)
    (n_zJb : PySem.W.findIn K (.ref c_zZ) "number" = some none)
    (n_zPb : PySem.W.findIn K (.ref c_zZ) "told" = some none)
    (cg : PySem.W.specialIn K (.ref c_zW) "__getattribute__" = some (some (.builtin "type.__getattribute__")))
    (cr : PySem.W.readsIn K c_zW (.type "type") = true)
    (cf : PySem.W.findCls K (.ref c_zW) (.type "type") "__init__" = some (.val (.ref f_zk)))
    (v_IN : PySem.W.nsIn K mainGlobals "IN" = some (some (.int 0 t_IN)))
    (v_BUS : PySem.W.nsIn K mainGlobals "BUS" = some (some (.int 1 t_BUS)))
    (v_OUT : PySem.W.nsIn K mainGlobals "OUT" = some (some (.int 2 t_OUT)))
    (v_zSb : PySem.W.nsIn K mainGlobals "GROUP" = some (some (.int 3 t_zSb)))
    (v_zlb : PySem.W.nsIn K mainGlobals "LEAST_SAMPLE" = some (some (.int (-8388608) t_zlb)))
    (v_zpb : PySem.W.nsIn K mainGlobals "MOST_SAMPLE" = some (some (.int 8388607 t_zpb)))
    (v_zsb : PySem.W.nsIn K mainGlobals "MOST_GAIN" = some (some (.int 65535 t_zsb)))
    (v_UNIT : PySem.W.nsIn K mainGlobals "UNIT" = some (some (.int 16384 t_UNIT)))
    (v_HALF : PySem.W.nsIn K mainGlobals "HALF" = some (some (.int 8192 t_HALF)))
    (v_zvb : PySem.W.nsIn K mainGlobals "MOST_BYTES" = some (some (.int 4096 t_zvb)))
    (v_zBb : PySem.W.nsIn K mainGlobals "LINE_END" = some (some (.int 10 t_zBb)))
    (v_zQb : PySem.W.nsIn K mainGlobals "BLANK" = some (some (.int 32 t_zQb)))
    (v_ZERO : PySem.W.nsIn K mainGlobals "ZERO" = some (some (.int 48 t_ZERO)))
    (v_NINE : PySem.W.nsIn K mainGlobals "NINE" = some (some (.int 57 t_NINE)))
    (v_zLb : PySem.W.nsIn K mainGlobals "LETTER_A" = some (some (.int 97 t_zLb)))
    (v_zMb : PySem.W.nsIn K mainGlobals "LETTER_Z" = some (some (.int 122 t_zMb)))
    (v_zwb : PySem.W.nsIn K mainGlobals "MOST_SENDS" = some (some (.int 48 t_zwb)))
    (v_zmb : PySem.W.nsIn K mainGlobals "MOST_LETTERS" = some (some (.int 16 t_zmb)))
    (v_zqb : PySem.W.nsIn K mainGlobals "MOST_DIGITS" = some (some (.int 5 t_zqb)))
    (v_zxb : PySem.W.nsIn K mainGlobals "LEAST_LATE" = some (some (.int 1 t_zxb)))
    (v_zEb : PySem.W.nsIn K mainGlobals "MOST_LATE" = some (some (.int 63 t_zEb)))
    (v_zeb : PySem.W.nsIn K mainGlobals "WRONG_FORM" = some (some (.int 1 t_zeb)))
    (v_zhb : PySem.W.nsIn K mainGlobals "OUT_OF_BOUNDS" = some (some (.int 2 t_zhb)))
    (v_zcb : PySem.W.nsIn K mainGlobals "WRONG_NAME" = some (some (.int 3 t_zcb)))
    (v_zFb : PySem.W.nsIn K mainGlobals "TOO_MANY" = some (some (.int 4 t_zFb)))
    (v_MUTE : PySem.W.nsIn K mainGlobals "MUTE" = some (some (.int 1 t_MUTE)))
    (v_SOLO : PySem.W.nsIn K mainGlobals "SOLO" = some (some (.int 2 t_SOLO)))
    (v_zrb : PySem.W.nsIn K mainGlobals "MOST_SWITCH" = some (some (.int 3 t_zrb)))
    (w_z5 : PySem.W.nsIn K mainGlobals "NODE_WORDS" = some (some (.ref v_z5)))
    (x_z5 : K.lookup v_z5 = some ⟨.type "tuple", od_z5, .seq #[.str "in" t_zZb, .str "bus" t_z0b, .str "out" t_z1b, .str "group" t_z2b] n_z5, sl_z5⟩)
    (w_z7 : PySem.W.nsIn K mainGlobals "OTHER_WORDS" = some (some (.ref v_z7)))
    (x_z7 : K.lookup v_z7 = some ⟨.type "tuple", od_z7, .seq #[.str "safe" t_zTb, .str "late" t_zUb, .str "member" t_zVb, .str "send" t_zWb, .str "pre" t_zXb, .str "post" t_zYb] n_z7, sl_z7⟩)
    (w_z8 : PySem.W.nsIn K mainGlobals "MOST_NODES" = some (some (.ref v_z8)))
    (x_z8 : K.lookup v_z8 = some ⟨.type "tuple", od_z8, .seq #[.int 8 t_z3b, .int 8 t_z4b, .int 4 t_z5b, .int 4 t_z6b] n_z8, sl_z8⟩)
    (b_len : PySem.W.nsIn K mainGlobals "len" = some none)
    (b_ord : PySem.W.nsIn K mainGlobals "ord" = some none)
    (b_all : PySem.W.nsIn K mainGlobals "all" = some none)
    (b_any : PySem.W.nsIn K mainGlobals "any" = some none)
    (b_sorted : PySem.W.nsIn K mainGlobals "sorted" = some none)
    (b_max : PySem.W.nsIn K mainGlobals "max" = some none)
    (b_min : PySem.W.nsIn K mainGlobals "min" = some none)
    (b_range : PySem.W.nsIn K mainGlobals "range" = some none)
    (b_enumerate : PySem.W.nsIn K mainGlobals "enumerate" = some none)
    (b_list : PySem.W.nsIn K mainGlobals "list" = some none) :
    ∃ fd : FuncData, (∀ (s : Shared) (us : List Value), us.length = (["t", "s", "g", "ins"] : List Str).length → BindsTo s fd ⟨us, []⟩ ((["t", "s", "g", "ins"] : List Str).zip us)) ∧ ∀ base : Heap, K.In base → base.Ns mainGlobals mg → FnOk P w K mg base CX0 kTop fa fd ["t", "s", "g", "ins"] (spTop K) := by
  have e := hfa.symm.trans (PySem.W.mg_of X G a_mix)
  cases e
  have F_zH := fun_mk (st := s_zH) l_zH c_zH k_zH
  have F_zI := fun_mk (st := s_zI) l_zI c_zI k_zI
  have F_zj := fun_mk (st := s_zj) l_zj c_zj k_zj
  have F_zd := fun_mk (st := s_zd) l_zd c_zd k_zd
  have F_zh := fun_mk (st := s_zh) l_zh c_zh k_zh
  have F_zk := fun_mk (st := s_zk) l_zk c_zk k_zk
  have F_zn := fun_mk (st := s_zn) l_zn c_zn k_zn
  have F_zB := fun_mk (st := s_zB) l_zB c_zB k_zB
  have F_zg := fun_mk (st := s_zg) l_zg c_zg k_zg
  have F_zm := fun_mk (st := s_zm) l_zm c_zm k_zm
  have F_zS := fun_mk (st := s_zS) l_zS c_zS k_zS
  have F_held := fun_mk (st := s_held) l_held c_held k_held
  have F_zt := fun_mk (st := s_zt) l_zt c_zt k_zt
  have F_ze := fun_mk (st := s_ze) l_ze c_ze k_ze
  have F_zb := fun_mk (st := s_zb) l_zb c_zb k_zb
  have F_zc := fun_mk (st := s_zc) l_zc c_zc k_zc
  have F_zi := fun_mk (st := s_zi) l_zi c_zi k_zi
  have F_zJ := fun_mk (st := s_zJ) l_zJ c_zJ k_zJ
  have F_zz := fun_mk (st := s_zz) l_zz c_zz k_zz
  have F_zE := fun_mk (st := s_zE) l_zE c_zE k_zE
  have F_zK := fun_mk (st := s_zK) l_zK c_zK k_zK
  have F_zo := fun_mk (st := s_zo) l_zo c_zo k_zo
  have F_zL := fun_mk (st := s_zL) l_zL c_zL k_zL
  have F_zM := fun_mk (st := s_zM) l_zM c_zM k_zM
  have F_zu := fun_mk (st := s_zu) l_zu c_zu k_zu
  have F_zN := fun_mk (st := s_zN) l_zN c_zN k_zN
  have F_zf := fun_mk (st := s_zf) l_zf c_zf k_zf
  have F_zF := fun_mk (st := s_zF) l_zF c_zF k_zF
  have F_zX := fun_mk (st := s_zX) l_zX c_zX k_zX
  have F_zr := fun_mk (st := s_zr) l_zr c_zr k_zr
  have F_z0 := fun_mk (st := s_z0) l_z0 c_z0 k_z0
  have F_zO := fun_mk (st := s_zO) l_zO c_zO k_zO
  have F_za := fun_mk (st := s_za) l_za c_za k_za
  have F_zQ := fun_mk (st := s_zQ) l_zQ c_zQ k_zQ
  have F_zl := fun_mk (st := s_zl) l_zl c_zl k_zl
  have F_zv := fun_mk (st := s_zv) l_zv c_zv k_zv
  have F_zG := fun_mk (st := s_zG) l_zG c_zG k_zG
  have F_zA := fun_mk (st := s_zA) l_zA c_zA k_zA
  have F_zC := fun_mk (st := s_zC) l_zC c_zC k_zC
  have F_zs := fun_mk (st := s_zs) l_zs c_zs k_zs
  have F_zU := fun_mk (st := s_zU) l_zU c_zU k_zU
  have F_zD := fun_mk (st := s_zD) l_zD c_zD k_zD
  have F_zq := fun_mk (st := s_zq) l_zq c_zq k_zq
  have F_zp := fun_mk (st := s_zp) l_zp c_zp k_zp
  have F_zw := fun_mk (st := s_zw) l_zw c_zw k_zw
  have F_zx := fun_mk (st := s_zx) l_zx c_zx k_zx
  have F_zR := fun_mk (st := s_zR) l_zR c_zR k_zR
  have F_zT := fun_mk (st := s_zT) l_zT c_zT k_zT
  have F_zY := fun_mk (st := s_zY) l_zY c_zY k_zY
  have F_mix := fun_mk (st := s_mix) l_mix c_mix k_mix
  have F_zV := fun_mk (st := s_zV) l_zV c_zV k_zV
  have B_zH := F_zH.binds (ps := ["self", "sender", "target", "gain", "pre"]) fun _ _ _ _ _ _ us hl => match us, hl with | [_, _, _, _, _], _ => rfl
  have B_zI := F_zI.binds (ps := ["self"]) fun _ _ _ _ _ _ us hl => match us, hl with | [_], _ => rfl
  have B_zj := F_zj.binds (ps := ["self", "kind", "spelled"]) fun _ _ _ _ _ _ us hl => match us, hl with | [_, _, _], _ => rfl
  have B_zd := F_zd.binds (ps := ["self", "sender", "target"]) fun _ _ _ _ _ _ us hl => match us, hl with | [_, _, _], _ => rfl
  have B_zh := F_zh.binds (ps := ["self", "i"]) fun _ _ _ _ _ _ us hl => match us, hl with | [_, _], _ => rfl
  have B_zk := F_zk.binds (ps := ["self", "number", "told"]) fun _ _ _ _ _ _ us hl => match us, hl with | [_, _, _], _ => rfl
  have B_zn := F_zn.binds (ps := ["self"]) fun _ _ _ _ _ _ us hl => match us, hl with | [_], _ => rfl
  have B_zB := F_zB.binds (ps := ["self"]) fun _ _ _ _ _ _ us hl => match us, hl with | [_], _ => rfl
  have B_zg := F_zg.binds (ps := ["self"]) fun _ _ _ _ _ _ us hl => match us, hl with | [_], _ => rfl
  have B_zm := F_zm.binds (ps := ["self", "kind", "place"]) fun _ _ _ _ _ _ us hl => match us, hl with | [_, _, _], _ => rfl
  have B_zS := F_zS.binds (ps := ["exact"]) fun _ _ _ _ _ _ us hl => match us, hl with | [_], _ => rfl
  have B_held := F_held.binds (ps := ["sample"]) fun _ _ _ _ _ _ us hl => match us, hl with | [_], _ => rfl
  have B_zt := F_zt.binds (ps := ["self", "text"]) fun _ _ _ _ _ _ us hl => match us, hl with | [_, _], _ => rfl
  have B_ze := F_ze.binds (ps := ["self"]) fun _ _ _ _ _ _ us hl => match us, hl with | [_], _ => rfl
  have B_zb := F_zb.binds (ps := ["self"]) fun _ _ _ _ _ _ us hl => match us, hl with | [_], _ => rfl
  have B_zc := F_zc.binds (ps := ["self", "due"]) fun _ _ _ _ _ _ us hl => match us, hl with | [_, _], _ => rfl
  have B_zi := F_zi.binds (ps := ["self"]) fun _ _ _ _ _ _ us hl => match us, hl with | [_], _ => rfl
  have B_zJ := F_zJ.binds (ps := ["text"]) fun _ _ _ _ _ _ us hl => match us, hl with | [_], _ => rfl
  have B_zz := F_zz.binds (ps := ["written"]) fun _ _ _ _ _ _ us hl => match us, hl with | [_], _ => rfl
  have B_zE := F_zE.binds (ps := ["word", "written_words"]) fun _ _ _ _ _ _ us hl => match us, hl with | [_, _], _ => rfl
  have B_zK := F_zK.binds (ps := ["reader", "desk"]) fun _ _ _ _ _ _ us hl => match us, hl with | [_, _], _ => rfl
  have B_zo := F_zo.binds (ps := ["reader", "desk"]) fun _ _ _ _ _ _ us hl => match us, hl with | [_, _], _ => rfl
  have B_zL := F_zL.binds (ps := ["reader", "desk"]) fun _ _ _ _ _ _ us hl => match us, hl with | [_, _], _ => rfl
  have B_zM := F_zM.binds (ps := ["reader", "desk"]) fun _ _ _ _ _ _ us hl => match us, hl with | [_, _], _ => rfl
  have B_zu := F_zu.binds (ps := ["reader", "desk"]) fun _ _ _ _ _ _ us hl => match us, hl with | [_, _], _ => rfl
  have B_zN := F_zN.binds (ps := ["reader", "desk"]) fun _ _ _ _ _ _ us hl => match us, hl with | [_, _], _ => rfl
  have B_zf := F_zf.binds (ps := ["reader", "desk", "kinds"]) fun _ _ _ _ _ _ us hl => match us, hl with | [_, _, _], _ => rfl
  have B_zF := F_zF.binds (ps := ["reader"]) fun _ _ _ _ _ _ us hl => match us, hl with | [_], _ => rfl
  have B_zX := F_zX.binds (ps := ["word"]) fun _ _ _ _ _ _ us hl => match us, hl with | [_], _ => rfl
  have B_zr := F_zr.binds (ps := ["reader", "least", "most"]) fun _ _ _ _ _ _ us hl => match us, hl with | [_, _, _], _ => rfl
  have B_z0 := F_z0.binds (ps := ["word"]) fun _ _ _ _ _ _ us hl => match us, hl with | [_], _ => rfl
  have B_zO := F_zO.binds (ps := ["digits"]) fun _ _ _ _ _ _ us hl => match us, hl with | [_], _ => rfl
  have B_za := F_za.binds (ps := ["word", "most", "first", "last"]) fun _ _ _ _ _ _ us hl => match us, hl with | [_, _, _, _], _ => rfl
  have B_zQ := F_zQ.binds (ps := ["reader"]) fun _ _ _ _ _ _ us hl => match us, hl with | [_], _ => rfl
  have B_zl := F_zl.binds (ps := ["sends", "begun"]) fun _ _ _ _ _ _ us hl => match us, hl with | [_, _], _ => rfl
  have B_zv := F_zv.binds (ps := ["sends", "begun"]) fun _ _ _ _ _ _ us hl => match us, hl with | [_, _], _ => rfl
  have B_zG := F_zG.binds (ps := ["told"]) fun _ _ _ _ _ _ us hl => match us, hl with | [_], _ => rfl
  have B_zA := F_zA.binds (ps := ["self", "desk", "s", "g"]) fun _ _ _ _ _ _ us hl => match us, hl with | [_, _, _, _], _ => rfl
  have B_zC := F_zC.binds (ps := ["desk", "s"]) fun _ _ _ _ _ _ us hl => match us, hl with | [_, _], _ => rfl
  have B_zs := F_zs.binds (ps := ["desk", "s", "i", "bit"]) fun _ _ _ _ _ _ us hl => match us, hl with | [_, _, _, _], _ => rfl
  have B_zU := F_zU.binds (ps := ["switch", "bit"]) fun _ _ _ _ _ _ us hl => match us, hl with | [_, _], _ => rfl
  have B_zD := F_zD.binds (ps := ["desk", "g", "x"]) fun _ _ _ _ _ _ us hl => match us, hl with | [_, _, _], _ => rfl
  have B_zq := F_zq.binds (ps := ["desk", "s", "g"]) fun _ _ _ _ _ _ us hl => match us, hl with | [_, _, _], _ => rfl
  have B_zp := F_zp.binds (ps := ["s", "g"]) fun _ _ _ _ _ _ us hl => match us, hl with | [_, _], _ => rfl
  have B_zw := F_zw.binds (ps := ["self"]) fun _ _ _ _ _ _ us hl => match us, hl with | [_], _ => rfl
  have B_zx := F_zx.binds (ps := ["setup", "samples"]) fun _ _ _ _ _ _ us hl => match us, hl with | [_, _], _ => rfl
  have B_zR := F_zR.binds (ps := ["setup", "levels", "i"]) fun _ _ _ _ _ _ us hl => match us, hl with | [_, _, _], _ => rfl
  have B_zT := F_zT.binds (ps := ["desk", "s", "g", "ins"]) fun _ _ _ _ _ _ us hl => match us, hl with | [_, _, _, _], _ => rfl
  have B_zY := F_zY.binds (ps := ["number", "told_bytes", "told_numbers"]) fun _ _ _ _ _ _ us hl => match us, hl with | [_, _, _], _ => rfl
  have B_mix := F_mix.binds (ps := ["t", "s", "g", "ins"]) fun _ _ _ _ _ _ us hl => match us, hl with | [_, _, _, _], _ => rfl
  have B_zV := F_zV.binds (ps := ["refusal"]) fun _ _ _ _ _ _ us hl => match us, hl with | [_], _ => rfl
  have T : Txt K mg (AD.mk c_Send c_Desk c_zW c_z1 c_z6 c_zP c_zZ c_zy c_z3 c_z2 f_zH (PySem.W.fnOf "__init__" "Send.__init__" (defArgs s_zH) (defBody s_zH) (defScope s_zH) .none kV_zH dc_zH pm_zH an_zH cd_zH ct_zH) f_zI (PySem.W.fnOf "__init__" "Desk.__init__" (defArgs s_zI) (defBody s_zI) (defScope s_zI) .none kV_zI dc_zI pm_zI an_zI cd_zI ct_zI) f_zj (PySem.W.fnOf "add_node" "Desk.add_node" (defArgs s_zj) (defBody s_zj) (defScope s_zj) .none kV_zj dc_zj pm_zj an_zj cd_zj ct_zj) f_zd (PySem.W.fnOf "send_between" "Desk.send_between" (defArgs s_zd) (defBody s_zd) (defScope s_zd) .none kV_zd dc_zd pm_zd an_zd cd_zd ct_zd) f_zh (PySem.W.fnOf "groups_of" "Desk.groups_of" (defArgs s_zh) (defBody s_zh) (defScope s_zh) .none kV_zh dc_zh pm_zh an_zh cd_zh ct_zh) f_zk (PySem.W.fnOf "__init__" "Refusal.__init__" (defArgs s_zk) (defBody s_zk) (defScope s_zk) .none kV_zk dc_zk pm_zk an_zk cd_zk ct_zk) f_zn (PySem.W.fnOf "__init__" "TooLong.__init__" (defArgs s_zn) (defBody s_zn) (defScope s_zn) .none kV_zn dc_zn pm_zn an_zn cd_zn ct_zn) f_zB (PySem.W.fnOf "__init__" "Unfit.__init__" (defArgs s_zB) (defBody s_zB) (defScope s_zB) .none kV_zB dc_zB pm_zB an_zB cd_zB ct_zB) f_zg (PySem.W.fnOf "__init__" "WrongCount.__init__" (defArgs s_zg) (defBody s_zg) (defScope s_zg) .none kV_zg dc_zg pm_zg an_zg cd_zg ct_zg) f_zm (PySem.W.fnOf "__init__" "Fault.__init__" (defArgs s_zm) (defBody s_zm) (defScope s_zm) .none kV_zm dc_zm pm_zm an_zm cd_zm ct_zm) f_zS (PySem.W.fnOf "rounded" "rounded" (defArgs s_zS) (defBody s_zS) (defScope s_zS) .none kV_zS dc_zS pm_zS an_zS cd_zS ct_zS) f_held (PySem.W.fnOf "held" "held" (defArgs s_held) (defBody s_held) (defScope s_held) .none kV_held dc_held pm_held an_held cd_held ct_held) f_zt (PySem.W.fnOf "__init__" "Reader.__init__" (defArgs s_zt) (defBody s_zt) (defScope s_zt) .none kV_zt dc_zt pm_zt an_zt cd_zt ct_zt) f_ze (PySem.W.fnOf "next_word" "Reader.next_word" (defArgs s_ze) (defBody s_ze) (defScope s_ze) .none kV_ze dc_ze pm_ze an_ze cd_ze ct_ze) f_zb (PySem.W.fnOf "take_word" "Reader.take_word" (defArgs s_zb) (defBody s_zb) (defScope s_zb) .none kV_zb dc_zb pm_zb an_zb cd_zb ct_zb) f_zc (PySem.W.fnOf "take_byte" "Reader.take_byte" (defArgs s_zc) (defBody s_zc) (defScope s_zc) .none kV_zc dc_zc pm_zc an_zc cd_zc ct_zc) f_zi (PySem.W.fnOf "at_end" "Reader.at_end" (defArgs s_zi) (defBody s_zi) (defScope s_zi) .none kV_zi dc_zi pm_zi an_zi cd_zi ct_zi) f_zJ (PySem.W.fnOf "read_desk" "read_desk" (defArgs s_zJ) (defBody s_zJ) (defScope s_zJ) .none kV_zJ dc_zJ pm_zJ an_zJ cd_zJ ct_zJ) f_zz (PySem.W.fnOf "bytes_of" "bytes_of" (defArgs s_zz) (defBody s_zz) (defScope s_zz) .none kV_zz dc_zz pm_zz an_zz cd_zz ct_zz) f_zE (PySem.W.fnOf "is_one_of" "is_one_of" (defArgs s_zE) (defBody s_zE) (defScope s_zE) .none kV_zE dc_zE pm_zE an_zE cd_zE ct_zE) f_zK (PySem.W.fnOf "read_node" "read_node" (defArgs s_zK) (defBody s_zK) (defScope s_zK) .none kV_zK dc_zK pm_zK an_zK cd_zK ct_zK) f_zo (PySem.W.fnOf "read_setting" "read_setting" (defArgs s_zo) (defBody s_zo) (defScope s_zo) .none kV_zo dc_zo pm_zo an_zo cd_zo ct_zo) f_zL (PySem.W.fnOf "read_safe" "read_safe" (defArgs s_zL) (defBody s_zL) (defScope s_zL) .none kV_zL dc_zL pm_zL an_zL cd_zL ct_zL) f_zM (PySem.W.fnOf "read_late" "read_late" (defArgs s_zM) (defBody s_zM) (defScope s_zM) .none kV_zM dc_zM pm_zM an_zM cd_zM ct_zM) f_zu (PySem.W.fnOf "read_member" "read_member" (defArgs s_zu) (defBody s_zu) (defScope s_zu) .none kV_zu dc_zu pm_zu an_zu cd_zu ct_zu) f_zN (PySem.W.fnOf "read_send" "read_send" (defArgs s_zN) (defBody s_zN) (defScope s_zN) .none kV_zN dc_zN pm_zN an_zN cd_zN ct_zN) f_zf (PySem.W.fnOf "read_told_node" "read_told_node" (defArgs s_zf) (defBody s_zf) (defScope s_zf) .none kV_zf dc_zf pm_zf an_zf cd_zf ct_zf) f_zF (PySem.W.fnOf "read_name" "read_name" (defArgs s_zF) (defBody s_zF) (defScope s_zF) .none kV_zF dc_zF pm_zF an_zF cd_zF ct_zF) f_zX (PySem.W.fnOf "is_name" "is_name" (defArgs s_zX) (defBody s_zX) (defScope s_zX) .none kV_zX dc_zX pm_zX an_zX cd_zX ct_zX) f_zr (PySem.W.fnOf "read_number" "read_number" (defArgs s_zr) (defBody s_zr) (defScope s_zr) .none kV_zr dc_zr pm_zr an_zr cd_zr ct_zr) f_z0 (PySem.W.fnOf "is_num" "is_num" (defArgs s_z0) (defBody s_z0) (defScope s_z0) .none kV_z0 dc_z0 pm_z0 an_z0 cd_z0 ct_z0) f_zO (PySem.W.fnOf "number_of" "number_of" (defArgs s_zO) (defBody s_zO) (defScope s_zO) .none kV_zO dc_zO pm_zO an_zO cd_zO ct_zO) f_za (PySem.W.fnOf "has_length_and_bytes" "has_length_and_bytes" (defArgs s_za) (defBody s_za) (defScope s_za) .none kV_za dc_za pm_za an_za cd_za ct_za) f_zQ (PySem.W.fnOf "read_pre" "read_pre" (defArgs s_zQ) (defBody s_zQ) (defScope s_zQ) .none kV_zQ dc_zQ pm_zQ an_zQ cd_zQ ct_zQ) f_zl (PySem.W.fnOf "spread_onward" "spread_onward" (defArgs s_zl) (defBody s_zl) (defScope s_zl) .none kV_zl dc_zl pm_zl an_zl cd_zl ct_zl) f_zv (PySem.W.fnOf "spread_back" "spread_back" (defArgs s_zv) (defBody s_zv) (defScope s_zv) .none kV_zv dc_zv pm_zv an_zv cd_zv ct_zv) f_zG (PySem.W.fnOf "sender_of" "sender_of" (defArgs s_zG) (defBody s_zG) (defScope s_zG) .none kV_zG dc_zG pm_zG an_zG cd_zG ct_zG) f_zA (PySem.W.fnOf "__init__" "Setup.__init__" (defArgs s_zA) (defBody s_zA) (defScope s_zA) .none kV_zA dc_zA pm_zA an_zA cd_zA ct_zA) f_zC (PySem.W.fnOf "live_nodes" "live_nodes" (defArgs s_zC) (defBody s_zC) (defScope s_zC) .none kV_zC dc_zC pm_zC an_zC cd_zC ct_zC) f_zs (PySem.W.fnOf "is_switched" "is_switched" (defArgs s_zs) (defBody s_zs) (defScope s_zs) .none kV_zs dc_zs pm_zs an_zs cd_zs ct_zs) f_zU (PySem.W.fnOf "has_bit" "has_bit" (defArgs s_zU) (defBody s_zU) (defScope s_zU) .none kV_zU dc_zU pm_zU an_zU cd_zU ct_zU) f_zD (PySem.W.fnOf "whole_gain" "whole_gain" (defArgs s_zD) (defBody s_zD) (defScope s_zD) .none kV_zD dc_zD pm_zD an_zD cd_zD ct_zD) f_zq (PySem.W.fnOf "check_counts" "check_counts" (defArgs s_zq) (defBody s_zq) (defScope s_zq) .none kV_zq dc_zq pm_zq an_zq cd_zq ct_zq) f_zp (PySem.W.fnOf "check_bounds" "check_bounds" (defArgs s_zp) (defBody s_zp) (defScope s_zp) .none kV_zp dc_zp pm_zp an_zp cd_zp ct_zp) f_zw (PySem.W.fnOf "__init__" "Levels.__init__" (defArgs s_zw) (defBody s_zw) (defScope s_zw) .none kV_zw dc_zw pm_zw an_zw cd_zw ct_zw) f_zx (PySem.W.fnOf "find_levels" "find_levels" (defArgs s_zx) (defBody s_zx) (defScope s_zx) .none kV_zx dc_zx pm_zx an_zx cd_zx ct_zx) f_zR (PySem.W.fnOf "sum_sent" "sum_sent" (defArgs s_zR) (defBody s_zR) (defScope s_zR) .none kV_zR dc_zR pm_zR an_zR cd_zR ct_zR) f_zT (PySem.W.fnOf "tell_mix" "tell_mix" (defArgs s_zT) (defBody s_zT) (defScope s_zT) .none kV_zT dc_zT pm_zT an_zT cd_zT ct_zT) f_zY (PySem.W.fnOf "answer" "answer" (defArgs s_zY) (defBody s_zY) (defScope s_zY) .none kV_zY dc_zY pm_zY an_zY cd_zY ct_zY) fa (PySem.W.fnOf "mix" "mix" (defArgs s_mix) (defBody s_mix) (defScope s_mix) .none kV_mix dc_mix pm_mix an_mix cd_mix ct_mix) f_zV (PySem.W.fnOf "refused" "refused" (defArgs s_zV) (defBody s_zV) (defScope s_zV) .none kV_zV dc_zV pm_zV an_zV cd_zV ct_zV) v_z5 v_z7 v_z8) := {
    F_zH := F_zH,
    B_zH := B_zH,
    F_zI := F_zI,
    B_zI := B_zI,
    F_zj := F_zj,
    B_zj := B_zj,
    M_zj := ⟨a_zj, i_zj, k_zj⟩,
    F_zd := F_zd,
    B_zd := B_zd,
    M_zd := ⟨a_zd, i_zd, k_zd⟩,
    F_zh := F_zh,
    B_zh := B_zh,
    M_zh := ⟨a_zh, i_zh, k_zh⟩,
    F_zk := F_zk,
    B_zk := B_zk,
    F_zn := F_zn,
    B_zn := B_zn,
    F_zB := F_zB,
    B_zB := B_zB,
    F_zg := F_zg,
    B_zg := B_zg,
    F_zm := F_zm,
    B_zm := B_zm,
    F_zS := F_zS,
    B_zS := B_zS,
    g_zS := PySem.W.mg_of X G a_zS,
    F_held := F_held,
    B_held := B_held,
    g_held := PySem.W.mg_of X G a_held,
    F_zt := F_zt,
    B_zt := B_zt,
    F_ze := F_ze,
    B_ze := B_ze,
    M_ze := ⟨a_ze, i_ze, k_ze⟩,
    F_zb := F_zb,
    B_zb := B_zb,
    M_zb := ⟨a_zb, i_zb, k_zb⟩,
    F_zc := F_zc,
    B_zc := B_zc,
    M_zc := ⟨a_zc, i_zc, k_zc⟩,
    F_zi := F_zi,
    B_zi := B_zi,
    M_zi := ⟨a_zi, i_zi, k_zi⟩,
    F_zJ := F_zJ,
    B_zJ := B_zJ,
    g_zJ := PySem.W.mg_of X G a_zJ,
    F_zz := F_zz,
    B_zz := B_zz,
    g_zz := PySem.W.mg_of X G a_zz,
    F_zE := F_zE,
    B_zE := B_zE,
    g_zE := PySem.W.mg_of X G a_zE,
    F_zK := F_zK,
    B_zK := B_zK,
    g_zK := PySem.W.mg_of X G a_zK,
    F_zo := F_zo,
    B_zo := B_zo,
    g_zo := PySem.W.mg_of X G a_zo,
    F_zL := F_zL,
    B_zL := B_zL,
    g_zL := PySem.W.mg_of X G a_zL,
    F_zM := F_zM,
    B_zM := B_zM,
    g_zM := PySem.W.mg_of X G a_zM,
    F_zu := F_zu,
    B_zu := B_zu,
    g_zu := PySem.W.mg_of X G a_zu,
    F_zN := F_zN,
    B_zN := B_zN,
    g_zN := PySem.W.mg_of X G a_zN,
    F_zf := F_zf,
    B_zf := B_zf,
    g_zf := PySem.W.mg_of X G a_zf,
    F_zF := F_zF,
    B_zF := B_zF,
    g_zF := PySem.W.mg_of X G a_zF,
    F_zX := F_zX,
    B_zX := B_zX,
    g_zX := PySem.W.mg_of X G a_zX,
    F_zr := F_zr,
    B_zr := B_zr,
    g_zr := PySem.W.mg_of X G a_zr,
    F_z0 := F_z0,
    B_z0 := B_z0,
    g_z0 := PySem.W.mg_of X G a_z0,
    F_zO := F_zO,
    B_zO := B_zO,
    g_zO := PySem.W.mg_of X G a_zO,
    F_za := F_za,
    B_za := B_za,
    g_za := PySem.W.mg_of X G a_za,
    F_zQ := F_zQ,
    B_zQ := B_zQ,
    g_zQ := PySem.W.mg_of X G a_zQ,
    F_zl := F_zl,
    B_zl := B_zl,
    g_zl := PySem.W.mg_of X G a_zl,
    F_zv := F_zv,
    B_zv := B_zv,
    g_zv := PySem.W.mg_of X G a_zv,
    F_zG := F_zG,
    B_zG := B_zG,
    g_zG := PySem.W.mg_of X G a_zG,
    F_zA := F_zA,
    B_zA := B_zA,
    F_zC := F_zC,
    B_zC := B_zC,
    g_zC := PySem.W.mg_of X G a_zC,
    F_zs := F_zs,
    B_zs := B_zs,
    g_zs := PySem.W.mg_of X G a_zs,
    F_zU := F_zU,
    B_zU := B_zU,
    g_zU := PySem.W.mg_of X G a_zU,
    F_zD := F_zD,
    B_zD := B_zD,
    g_zD := PySem.W.mg_of X G a_zD,
    F_zq := F_zq,
    B_zq := B_zq,
    g_zq := PySem.W.mg_of X G a_zq,
    F_zp := F_zp,
    B_zp := B_zp,
    g_zp := PySem.W.mg_of X G a_zp,
    F_zw := F_zw,
    B_zw := B_zw,
    F_zx := F_zx,
    B_zx := B_zx,
    g_zx := PySem.W.mg_of X G a_zx,
    F_zR := F_zR,
    B_zR := B_zR,
    g_zR := PySem.W.mg_of X G a_zR,
    F_zT := F_zT,
    B_zT := B_zT,
    g_zT := PySem.W.mg_of X G a_zT,
    F_zY := F_zY,
    B_zY := B_zY,
    g_zY := PySem.W.mg_of X G a_zY,
    F_mix := F_mix,
    B_mix := B_mix,
    g_mix := PySem.W.mg_of X G a_mix,
    F_zV := F_zV,
    B_zV := B_zV,
    g_zV := PySem.W.mg_of X G a_zV,
    g_Send := PySem.W.mg_of X G gc_Send,
    C_Send := ⟨pg_Send, hd_Send, po_Send, sa_Send⟩,
    K_Send := ⟨mk_Send, a_zH, i_zH, kc_Send⟩,
    N_zdb := n_zdb,
    N_zib := n_zib,
    N_zKb := n_zKb,
    N_zRb := n_zRb,
    g_Desk := PySem.W.mg_of X G gc_Desk,
    C_Desk := ⟨pg_Desk, hd_Desk, po_Desk, sa_Desk⟩,
    K_Desk := ⟨mk_Desk, a_zI, i_zI, kc_Desk⟩,
    N_z9 := n_z9,
    N_zob := n_zob,
    N_zyb := n_zyb,
    N_zCb := n_zCb,
    N_zkb := n_zkb,
    N_zgb := n_zgb,
    g_zy := PySem.W.mg_of X G gc_zy,
    C_zy := ⟨pg_zy, hd_zy, po_zy, sa_zy⟩,
    K_zy := ⟨mk_zy, a_zt, i_zt, kc_zy⟩,
    N_zbb := n_zbb,
    N_zab := n_zab,
    N_z4 := n_z4,
    g_z3 := PySem.W.mg_of X G gc_z3,
    C_z3 := ⟨pg_z3, hd_z3, po_z3, sa_z3⟩,
    K_z3 := ⟨mk_z3, a_zA, i_zA, kc_z3⟩,
    N_zDb := n_zDb,
    N_zub := n_zub,
    N_zzb := n_zzb,
    g_z2 := PySem.W.mg_of X G gc_z2,
    C_z2 := ⟨pg_z2, hd_z2, po_z2, sa_z2⟩,
    K_z2 := ⟨mk_z2, a_zw, i_zw, kc_z2⟩,
    N_zjb := n_zjb,
    N_zfb := n_zfb,
    g_zW := PySem.W.mg_of X G gc_zW,
    X_zW := ⟨ok_zW, sa_zW, ga_zW, gt_zW⟩,
    K_zW := ⟨ok_zW, a_zk, i_zk, kc_zW⟩,
    R_zW := mr_zW,
    N_zGb := n_zGb,
    N_zNb := n_zNb,
    g_z1 := PySem.W.mg_of X G gc_z1,
    X_z1 := ⟨ok_z1, sa_z1, ga_z1, gt_z1⟩,
    K_z1 := ⟨ok_z1, a_zn, i_zn, kc_z1⟩,
    R_z1 := mr_z1,
    N_zAb := n_zAb,
    N_zHb := n_zHb,
    g_z6 := PySem.W.mg_of X G gc_z6,
    X_z6 := ⟨ok_z6, sa_z6, ga_z6, gt_z6⟩,
    K_z6 := ⟨ok_z6, a_zB, i_zB, kc_z6⟩,
    R_z6 := mr_z6,
    N_zIb := n_zIb,
    N_zOb := n_zOb,
    g_zP := PySem.W.mg_of X G gc_zP,
    X_zP := ⟨ok_zP, sa_zP, ga_zP, gt_zP⟩,
    K_zP := ⟨ok_zP, a_zg, i_zg, kc_zP⟩,
    R_zP := mr_zP,
    N_znb := n_znb,
    N_ztb := n_ztb,
    g_zZ := PySem.W.mg_of X G gc_zZ,
    X_zZ := ⟨ok_zZ, sa_zZ, ga_zZ, gt_zZ⟩,
    K_zZ := ⟨ok_zZ, a_zm, i_zm, kc_zZ⟩,
    R_zZ := mr_zZ,
    N_zJb := n_zJb,
    N_zPb := n_zPb,
    CM_zW := ⟨cg, cr, cf, k_zk⟩,
    i_IN := ⟨t_IN, PySem.W.mg_of X G v_IN⟩,
    i_BUS := ⟨t_BUS, PySem.W.mg_of X G v_BUS⟩,
    i_OUT := ⟨t_OUT, PySem.W.mg_of X G v_OUT⟩,
    i_zSb := ⟨t_zSb, PySem.W.mg_of X G v_zSb⟩,
    i_zlb := ⟨t_zlb, PySem.W.mg_of X G v_zlb⟩,
    i_zpb := ⟨t_zpb, PySem.W.mg_of X G v_zpb⟩,
    i_zsb := ⟨t_zsb, PySem.W.mg_of X G v_zsb⟩,
    i_UNIT := ⟨t_UNIT, PySem.W.mg_of X G v_UNIT⟩,
    i_HALF := ⟨t_HALF, PySem.W.mg_of X G v_HALF⟩,
    i_zvb := ⟨t_zvb, PySem.W.mg_of X G v_zvb⟩,
    i_zBb := ⟨t_zBb, PySem.W.mg_of X G v_zBb⟩,
    i_zQb := ⟨t_zQb, PySem.W.mg_of X G v_zQb⟩,
    i_ZERO := ⟨t_ZERO, PySem.W.mg_of X G v_ZERO⟩,
    i_NINE := ⟨t_NINE, PySem.W.mg_of X G v_NINE⟩,
    i_zLb := ⟨t_zLb, PySem.W.mg_of X G v_zLb⟩,
    i_zMb := ⟨t_zMb, PySem.W.mg_of X G v_zMb⟩,
    i_zwb := ⟨t_zwb, PySem.W.mg_of X G v_zwb⟩,
    i_zmb := ⟨t_zmb, PySem.W.mg_of X G v_zmb⟩,
    i_zqb := ⟨t_zqb, PySem.W.mg_of X G v_zqb⟩,
    i_zxb := ⟨t_zxb, PySem.W.mg_of X G v_zxb⟩,
    i_zEb := ⟨t_zEb, PySem.W.mg_of X G v_zEb⟩,
    i_zeb := ⟨t_zeb, PySem.W.mg_of X G v_zeb⟩,
    i_zhb := ⟨t_zhb, PySem.W.mg_of X G v_zhb⟩,
    i_zcb := ⟨t_zcb, PySem.W.mg_of X G v_zcb⟩,
    i_zFb := ⟨t_zFb, PySem.W.mg_of X G v_zFb⟩,
    i_MUTE := ⟨t_MUTE, PySem.W.mg_of X G v_MUTE⟩,
    i_SOLO := ⟨t_SOLO, PySem.W.mg_of X G v_SOLO⟩,
    i_zrb := ⟨t_zrb, PySem.W.mg_of X G v_zrb⟩,
    t_z5 := PySem.W.mg_of X G w_z5,
    T_z5 := fun H => .inr ⟨_, _, _, x_z5, rfl, rfl, (by show 4 ≤ sizeLine; decide), (.cons ⟨_, rfl⟩ (.cons ⟨_, rfl⟩ (.cons ⟨_, rfl⟩ (.cons ⟨_, rfl⟩ .nil))))⟩,
    t_z7 := PySem.W.mg_of X G w_z7,
    T_z7 := fun H => .inr ⟨_, _, _, x_z7, rfl, rfl, (by show 6 ≤ sizeLine; decide), (.cons ⟨_, rfl⟩ (.cons ⟨_, rfl⟩ (.cons ⟨_, rfl⟩ (.cons ⟨_, rfl⟩ (.cons ⟨_, rfl⟩ (.cons ⟨_, rfl⟩ .nil))))))⟩,
    t_z8 := PySem.W.mg_of X G w_z8,
    T_z8 := fun H => .inr ⟨_, _, _, x_z8, rfl, rfl, (by show 4 ≤ sizeLine; decide), (.cons ⟨_, rfl⟩ (.cons ⟨_, rfl⟩ (.cons ⟨_, rfl⟩ (.cons ⟨_, rfl⟩ .nil))))⟩,
    b_len := PySem.W.ns_none_of X G b_len,
    b_ord := PySem.W.ns_none_of X G b_ord,
    b_all := PySem.W.ns_none_of X G b_all,
    b_any := PySem.W.ns_none_of X G b_any,
    b_sorted := PySem.W.ns_none_of X G b_sorted,
    b_max := PySem.W.ns_none_of X G b_max,
    b_min := PySem.W.ns_none_of X G b_min,
    b_range := PySem.W.ns_none_of X G b_range,
    b_enumerate := PySem.W.ns_none_of X G b_enumerate,
    b_list := PySem.W.ns_none_of X G b_list }
  exact ⟨_, fun s us hu => match us, hu with | [_, _, _, _], _ => .of_eq rfl, fun base _ _ => ok_mix T⟩
theorem TxL.of_arg {K : PySem.W.Frag} {H : Hp} {t : Addr} {xs : List V} (hO : OnlyF H) (h : SqL K H t xs) : TxL K H t xs := by
  rcases h with (h | h) | h
  · rcases hO t with z | ⟨o, u, z⟩
    · rw [z] at h; cases h
    · rw [z] at h; cases h
  · exact .inl h
  · exact .inr h
theorem nats_back {t : List Int} (h : t.all (PySem.W.Codec.inInt 0 18446744073709551615) = true) : t.map V.int = kV (DesksNeutral.nats t) ∧ (∀ x ∈ DesksNeutral.nats t, x < 2 ^ 64) := by
  refine ⟨?_, fun x hx => ?_⟩
  · unfold kV DesksNeutral.nats
    rw [List.map_map]
    refine List.map_congr_left fun z hz => ?_
    have q : 0 ≤ z ∧ z ≤ 18446744073709551615 := PySem.W.Codec.inInt_iff.mp (List.all_eq_true.mp h z hz)
    show V.int z = V.int ((z.toNat : Nat) : Int)
    congr 1
    omega
  · obtain ⟨z, hz, rfl⟩ := List.mem_map.mp hx
    have q : 0 ≤ z ∧ z ≤ 18446744073709551615 := PySem.W.Codec.inInt_iff.mp (List.all_eq_true.mp h z hz)
    omega
theorem askTop : ∀ (K : PySem.W.Frag) (H : Hp) (xs : List V) (a : PySem.W.Codec.denoteAll PySem.Challenge.rw_mixdesks_s12_mix.args), OnlyF H → PySem.W.Codec.withinAll PySem.Challenge.rw_mixdesks_s12_mix.args a = true → PySem.W.Codec.app PySem.Challenge.rw_mixdesks_s12_mix.args PySem.Challenge.rw_mixdesks_s12_mix.asked a = true → DwAll K H xs (PySem.W.Codec.encAll PySem.Challenge.rw_mixdesks_s12_mix.args a) →
    spTop K xs H (fun v H' => Dw K H' v (PySem.Challenge.rw_mixdesks_s12_mix.ret.enc (PySem.W.Codec.app PySem.Challenge.rw_mixdesks_s12_mix.args PySem.Challenge.rw_mixdesks_s12_mix.f a))) fun _ _ _ => False := by
  rintro K H xs ⟨(a_t : List Int), (a_s : List Int), (a_g : List Int), (a_ins : List Int), un⟩ hO hwi hask hx
  have q : ((PySem.W.Codec.inLen 0 4200 a_t && a_t.all (PySem.W.Codec.inInt 0 255)) && ((PySem.W.Codec.inLen 0 40 a_s && a_s.all (PySem.W.Codec.inInt 0 18446744073709551615)) && ((PySem.W.Codec.inLen 0 40 a_g && a_g.all (PySem.W.Codec.inInt 0 18446744073709551615)) && ((PySem.W.Codec.inLen 0 16 a_ins && a_ins.all (PySem.W.Codec.inInt (-9223372036854775808) 9223372036854775807)) && true)))) = true := hwi
  simp only [Bool.and_eq_true] at q
  obtain ⟨⟨r_t, q_t⟩, ⟨r_s, q_s⟩, ⟨r_g, q_g⟩, ⟨r_ins, q_ins⟩, _⟩ := q
  cases hx with
  | cons h_t hx =>
  cases hx with
  | cons h_s hx =>
  cases hx with
  | cons h_g hx =>
  cases hx with
  | cons h_ins hx =>
  cases hx
  cases h_t with
  | lst hs_t ha_t =>
  have e_t := L2.ints_dw a_t _ ha_t
  subst e_t
  rw [text_back q_t] at hs_t
  cases h_s with
  | lst hs_s ha_s =>
  have e_s := L2.ints_dw a_s _ ha_s
  subst e_s
  obtain ⟨b1_s, b2_s⟩ := nats_back q_s
  rw [b1_s] at hs_s
  cases h_g with
  | lst hs_g ha_g =>
  have e_g := L2.ints_dw a_g _ ha_g
  subst e_g
  obtain ⟨b1_g, b2_g⟩ := nats_back q_g
  rw [b1_g] at hs_g
  cases h_ins with
  | lst hs_ins ha_ins =>
  have e_ins := L2.ints_dw a_ins _ ha_ins
  subst e_ins
  exact ⟨_, DesksNeutral.text a_t, _, DesksNeutral.nats a_s, _, DesksNeutral.nats a_g, _, a_ins, rfl, TxL.of_arg hO hs_t, TxL.of_arg hO hs_s, (by unfold DesksNeutral.nats; rw [List.length_map]; exact (PySem.W.Codec.inNat_iff.mp r_s).2), b2_s, TxL.of_arg hO hs_g, (by unfold DesksNeutral.nats; rw [List.length_map]; exact (PySem.W.Codec.inNat_iff.mp r_g).2), b2_g, TxL.of_arg hO hs_ins, (PySem.W.Codec.inNat_iff.mp r_ins).2, (fun x hx => by have q : -9223372036854775808 ≤ x ∧ x ≤ 9223372036854775807 := PySem.W.Codec.inInt_iff.mp (List.all_eq_true.mp q_ins x hx); omega), fun H' p hp => .lst (L2.SqL.of hp) (L2.dw_ints _)⟩
end Mx
end
set_option Elab.async false
set_option linter.all false
set_option maxRecDepth 100000
set_option maxHeartbeats 1000000
namespace PySem.W.Fast
def tw9492369471217152828 := 0
def tw12741095361690788309 := 0
def tw14104978815650035753 := 0
def tw17408441429478928773 := 0
def tw103322058105404192 := 0
def tw16337901862049432116 := 0
def tw4791374466062632753 := 0
def tw8903869502848406674 := 0
def tw6275133148872924565 := 0
def tw1392761953468284209 := 0
def tw4295127356225695585 := 0
def tw11153661727681780311 := 0
def tw17201900065013385513 := 0
def tw16612023960019091117 := 0
def tw4774583267422664812 := 0
def tw4190031645331581460 := 0
def tw12941953352365310196 := 0
def tw586096675233801519 := 0
def tw7149419486616439752 := 0
def tw11188387625358212108 := 0
def tw873669017941745666 := 0
def tw7549907380273941870 := 0
def tw8222137202822679422 := 0
def tw16560801617623205688 := 0
def tw17731930085170531975 := 0
def tw9683753717362443308 := 0
def tw3845914468312809308 := 0
def tw7951353068060351227 := 0
def tw13029033880403421721 := 0
def tw10381321856453517261 := 0
def tw17935012503564405421 := 0
def tw381693468054119200 := 0
def tw1135080932043443957 := 0
def tw9623459809314412865 := 0
def tw3302484251079445523 := 0
def tw354183831016751240 := 0
def tw11330950828981441063 := 0
def tw2200403001074671291 := 0
def tw2058815738996128096 := 0
def tw1722948810734593508 := 0
def tw16446073192979602076 := 0
def tw15245579406876016856 := 0
def tw1698386568498685385 := 0
def tw3824287760604207622 := 0
def tw17254771401896396321 := 0
def tw6245454049939887922 := 0
def tw7624213741257983781 := 0
def tw7721955115222247012 := 0
def tw1043562169492198119 := 0
def tw14168268865553282985 := 0
def tw5534131967961406611 := 0
def tw8780784806305804909 := 0
def tw8428044157337002176 := 0
def tw1902914794420597497 := 0
def tw2403274385989522942 := 0
def tw7223382237972890509 := 0
def tw17451534594951123762 := 0
def tw14838305209833246760 := 0
def tw8108685671060884133 := 0
def tw8791096982914873976 := 0
def tw16176986355328951502 := 0
def tw822993391737783653 := 0
def tw13250352305534953047 := 0
def tw11156622039393189439 := 0
def tw13559545413891221502 := 0
def tw6797948547539591804 := 0
def tw5241813036166252096 := 0
def tw5668368541611233881 := 0
def tw13666706026949123531 := 0
def tw6341767443770640315 := 0
def tw16888708731697899601 := 0
def tw2973538819524273808 := 0
def tw16090209042068884802 := 0
def tw9816742282449589943 := 0
def tw14772215044429034312 := 0
def tw1595533448077652350 := 0
def tw8023479990188051860 := 0
def tw359214894121102131 := 0
def tw10583488399479897509 := 0
def tw8679299533275434110 := 0
def tw453404133090813537 := 0
def tw1914795915193489660 := 0
def tw5085989029117368494 := 0
def tw154948267339273779 := 0
def tw14570730824530693645 := 0
def tw7897279403660839572 := 0
def tw1455647340513768121 := 0
def tw17710375333093690632 := 0
def tw8880437032431423312 := 0
def tw15193088587996165694 := 0
def tw4626094816660974753 := 0
def tw1704770986400191329 := 0
def tw13857504401426890627 := 0
def tw4109673915319348953 := 0
def tw9632950163018864056 := 0
def tw2747775545445924798 := 0
def tw9448451532368277772 := 0
def tw4646428333590280104 := 0
def tw17134442052445175257 := 0
def tw17721875492049719349 := 0
def tw6970093393215282884 := 0
def tw5403810997886604299 := 0
def tw6525099370619267393 := 0
def tw12155248110671148646 := 0
def tw5797608403503739719 := 0
def tw12245470097486259006 := 0
def tw18329721742475501909 := 0
def tw98016213701380593 := 0
def tw2949407209908098736 := 0
def tw13626245681920800530 := 0
def tw16449431899629952657 := 0
def tw13345493708708127171 := 0
def tw8916240067495036918 := 0
def tw17478369403527695737 := 0
def tw15624736696442009289 := 0
def tw1227376810325780725 := 0
def tw3377425633088579314 := 0
def tw12116518940351863339 := 0
def tw4510384600684733837 := 0
def tw6519112456199331288 := 0
def tw503483732859575649 := 0
def tw1716897979656236080 := 0
def tw14070798597168396744 := 0
def tw16688562887137460078 := 0
def tw17311608703237680104 := 0
def tw5772827268155167901 := 0
def tw5193092627454582398 := 0
def tw5968448199135335928 := 0
def tw2991858780613385559 := 0
def tw16677304510302879715 := 0
def tw13676221654089517936 := 0
def tw7349327372636133826 := 0
def tw6612735707706416341 := 0
def tw14243312060146559051 := 0
def tw3002869167547507128 := 0
def tw17441946059525991797 := 0
def tw1679672855266220528 := 0
def tw2582925251519021411 := 0
def tw6401474324101011911 := 0
def tw5787723736886683223 := 0
def tw13839377004768966168 := 0
def tw2384021966648466026 := 0
def tw12380370160485079757 := 0
def tw10590395384074705226 := 0
def tw9757325175269782898 := 0
def tw9460935725210630389 := 0
def tw9524050382295293037 := 0
def tw16559921943274308509 := 0
def tw12515884436221041873 := 0
def tw11889062676641303741 := 0
def tw1138341491917972208 := 0
def tw14665189246926056928 := 0
def tw7397584311464841917 := 0
def tw16925352302011984504 := 0
def tw7434490225485309111 := 0
def tw16183966119146106915 := 0
def tw5795291954228358536 := 0
def tw2814154837880444300 := 0
def tw5191522362722367699 := 0
def tw14663175153041291720 := 0
def tw16549393043420801261 := 0
def tw6906500869929230433 := 0
def tw8051072512825562286 := 0
def tw3123905072793578387 := 0
def tw10305240109097645516 := 0
def tw689198366960509855 := 0
def tw15117852455690606112 := 0
def tw2294561606405948790 := 0
def tw12144140140491889980 := 0
def tw1067071366505322130 := 0
def tw1525722346502242375 := 0
def tw6060254587562776462 := 0
def tw11110772007080119883 := 0
def tw6198338941092921446 := 0
def tw5185309824221961642 := 0
def tw982102196003869854 := 0
def tw5415176165922227284 := 0
def tw16242324487598087925 := 0
def tw9827946310633555846 := 0
def tw17105193152450807684 := 0
def tw3435746093189404039 := 0
def tw2394733598792756491 := 0
def tw5491272406014128231 := 0
def tw1542972977000619316 := 0
def tw12486941505453740644 := 0
def tw6055729761719887729 := 0
def tw15402475446184410255 := 0
def tw17779311894950165924 := 0
def tw695250442649562305 := 0
def tw15284622022476888622 := 0
def tw3772516301598091962 := 0
def tw802737605790264419 := 0
def tw14123745566773728739 := 0
def tw12148081959910811254 := 0
def tw8644103183170984133 := 0
def tw2159288350597484938 := 0
def tw8069878768117799342 := 0
def tw3647033794904986109 := 0
def tw7386855289935556710 := 0
def tw6662808023192423469 := 0
def tw17181469193247604932 := 0
def tw7753960725382616808 := 0
def tw12977534542233621444 := 0
def tw16812468649879990042 := 0
def tw2110984446644549474 := 0
def tw75723311392108803 := 0
def tw3623713781683733899 := 0
def tw2782723699973249731 := 0
def tw6877663149302809238 := 0
def tw10237684693384268457 := 0
def tw8090108201410743704 := 0
def tw14554251806560626629 := 0
def tw4647485196819429308 := 0
def tw10405417564461435650 := 0
def tw3023147451288009838 := 0
def tw3588889986522789671 := 0
def tw13158434295419854735 := 0
def tw72378781235546038 := 0
def tw8859262582099324192 := 0
def tw12840877529165455502 := 0
def tw16749385533441968082 := 0
def tw771024976982880543 := 0
def tw16589973289061468440 := 0
def tw17416053853296556287 := 0
def tw6777223712893897049 := 0
def tw10188899286065810799 := 0
def tw468808404240943524 := 0
def tw17902013786626395050 := 0
def tw8399285655625758674 := 0
def tw13044293593590220949 := 0
def tw904030839341556981 := 0
def tw17300818093532875523 := 0
def tw18158515009418894761 := 0
def tw7142794539244252586 := 0
def tw5773699860645653931 := 0
def tw920446375261771338 := 0
def tw2526692400672150691 := 0
def tw10859900482032083604 := 0
def tw14874963750590221840 := 0
def tw1530343719122248944 := 0
def tw8796000027379303751 := 0
def tw16883837932578211825 := 0
def tw14802093367729502034 := 0
def tw13978882859541742818 := 0
def tw18010582292875826329 := 0
def tw2289603589746731665 := 0
def tw2041878505783231233 := 0
def tw2165257900758794119 := 0
def tw2689428554567364240 := 0
def tw12393716493291559647 := 0
def tw185299928212896667 := 0
def tw15731068290616222705 := 0
def tw595085775697620475 := 0
def tw5243576704713530851 := 0
def tw15488014233777640045 := 0
def tw8857580242638359600 := 0
def tw9080607316891334046 := 0
def tw11724973155596578180 := 0
def tw13281078498570408336 := 0
def tw13128942412764084183 := 0
def tw17578902342099134307 := 0
def tw6788514346810246320 := 0
def tw7194787777535466587 := 0
def tw9643194207147183215 := 0
def tw13962139133784228799 := 0
def tw6456675753128632848 := 0
def tw14049213107245604107 := 0
def tw5680327882245342066 := 0
def tw611554681733736319 := 0
def tw12858103544917648145 := 0
def tw4735593953447968409 := 0
def tw2585984458062573125 := 0
def tw704328940305865231 := 0
def tw9741137488501220353 := 0
def tw11060761067263329362 := 0
def tw11761906518963724353 := 0
def tw4193258023296635842 := 0
def tw7884971275074137904 := 0
def tw2313428132599560986 := 0
def tw15451078382146721310 := 0
def tw2765895470404056993 := 0
def tw11140705073356813909 := 0
def tw2507951903185122340 := 0
def tw1054491442626098366 := 0
def tw776629972043718633 := 0
def tw8417978021588039454 := 0
def tw11668955768807149154 := 0
def tw12157268376246709476 := 0
def tw14932850358345177977 := 0
def tw7413937957803238661 := 0
def tw1625265970094149491 := 0
def tw8033218996343999100 := 0
def tw9784121338201978598 := 0
def tw16460030303270500897 := 0
def tw1750089486064487152 := 0
def tw2415630985137610810 := 0
def tw636411556621157510 := 0
def tw668411684911069575 := 0
def tw3640358675851117839 := 0
def tw6376354687160569161 := 0
def tw4890107891661283807 := 0
def tw7036161492316699338 := 0
def tw8717797377534025397 := 0
def tw18056908521658921124 := 0
def tw14229178694579740779 := 0
def tw9934891334949896595 := 0
def tw3151926538917242621 := 0
def tw2709737603027894769 := 0
def tw14298635275446572024 := 0
def tw16590791954549559440 := 0
def tw10965774242444221840 := 0
def tw10305844232229096746 := 0
def tw13541054283511632166 := 0
def tw11597517155266963686 := 0
def tw6199351498815217392 := 0
def tw7443845649708518716 := 0
def tw2697183122316653078 := 0
def tw12108079854674124389 := 0
def tw8787128014734813763 := 0
def tw13036332219213726833 := 0
def tw16524416161387330969 := 0
def tw9769361074553721337 := 0
def tw3770603521930673278 := 0
def tw10266330047437402953 := 0
def tw3170218718058021950 := 0
def tw14761513969890810074 := 0
def tw3863457341485628553 := 0
def tw8084523749419577159 := 0
def tw7190454943891233672 := 0
def tw6140417551012631419 := 0
def tw5037723415538926997 := 0
def tw9244932758012797348 := 0
def tw17360475624951149154 := 0
def tw15755633526091135065 := 0
def tw17205738335696330403 := 0
def tw8653439502907747236 := 0
def tw10503437943372577090 := 0
def tw7135498311268767452 := 0
def tw16747322881658421477 := 0
def tw12433547230289981349 := 0
def tw3089321557681211200 := 0
def tw13865483516137621105 := 0
def tw18319512379668415730 := 0
def tw1344142608373063955 := 0
def tw16595017581331690174 := 0
def tw6039652522233995553 := 0
def tw17500301586006820073 := 0
def tw15173135381507383332 := 0
def tw7936261317468443346 := 0
def tw17046588211439858537 := 0
def tw14575255737350543017 := 0
def tw14103125682552326910 := 0
def tw8264379893620624491 := 0
def tw9651459856211099274 := 0
def tw17519467110323699298 := 0
def tw641109029960400696 := 0
def tw9771484751413209056 := 0
def tw14924564256925984225 := 0
def tw16814014887025756848 := 0
def tw801157263839929787 := 0
def tw808011799515797289 := 0
def tw13218891704208055060 := 0
def tw6972054166534758182 := 0
def tw2294256636437848665 := 0
def tw3789984624742178989 := 0
def tw17681435784459435739 := 0
def tw18295140104817591566 := 0
def tw3384599178503755136 := 0
def tw14524637471972765059 := 0
def tw2817866091105846216 := 0
def tw3887633508631225734 := 0
def tw5981848434375378865 := 0
def tw1743574148007901425 := 0
def tw13898027700857198744 := 0
def tw3060659127271359993 := 0
def tw17974001542878086911 := 0
def tw403693991089082756 := 0
def tw16449421250718073074 := 0
def tw2616252931128156447 := 0
def tw2881635731697627985 := 0
def tw9604980732136378716 := 0
def tw8604535621050007930 := 0
def tw4658027139668034342 := 0
def tw15271014759248781837 := 0
def tw8811037160613752285 := 0
def tw306664407754704608 := 0
def tw7796768271385636980 := 0
def tw13789134005106748252 := 0
def tw3261909677626121230 := 0
def tw502248535487564835 := 0
def tw877800663836926206 := 0
def tw12034313440570690717 := 0
def tw16311769249773358508 := 0
def tw11985194967973524191 := 0
def tw6355364631390074713 := 0
def tw11887018589318852644 := 0
def tw14233333345542674390 := 0
def tw1927728655831645886 := 0
def tw7242614706645737356 := 0
def tw14230651242183122953 := 0
def tw5109808948335660517 := 0
def tw1770120120312229863 := 0
def tw14567444451512228887 := 0
def tw10676592956393684146 := 0
def tw17818737433773915496 := 0
def tw1757416545775289038 := 0
def tw13149356905390399300 := 0
def tw13008559512399889029 := 0
def tw15691894418881531816 := 0
def tw7396058482566200272 := 0
def tw13840223350051921023 := 0
def tw62717637963784483 := 0
def tw14419685569145679370 := 0
def tw720470203014753367 := 0
def tw6818498995703559144 := 0
def tw5872052323281356742 := 0
def tw12454044597681909712 := 0
def tw674956384237324904 := 0
def tw2367091634985295493 := 0
def tw5044701198616618561 := 0
def tw457319192913802509 := 0
def tw1675612653716368400 := 0
def tw10207688299214628072 := 0
def tw599932704872800984 := 0
def tw12046063293161650048 := 0
def tw5844318977416948679 := 0
def tw7431500046904410075 := 0
def tw16693969697279184848 := 0
def tw8379151899983281133 := 0
def tw9908874915178327074 := 0
def tw952546207390894245 := 0
def tw10809534658652847549 := 0
def tw15596638951810034647 := 0
def tw4439776578478611127 := 0
def tw4992742486222749111 := 0
def tw15284358001680579518 := 0
def tw13617389925590590864 := 0
def tw8617428587194985620 := 0
def tw7941980869136675404 := 0
def tw4720610156857303568 := 0
def tw15347184083426361580 := 0
def tw7166403954989377970 := 0
def tw3612599535989780997 := 0
def tw3909837422664574619 := 0
def tw9835623533014985243 := 0
def tw11859579626186155367 := 0
def tw17000601579789559817 := 0
def tw9042058318200162345 := 0
def tw12823816437610430807 := 0
def tw13860522990299941966 := 0
def tw13560879194669273216 := 0
def tw3509215128787090007 := 0
def tw14295625378087291443 := 0
def tw3602192564022608415 := 0
def tw8411911711190496899 := 0
def tw381767596525063076 := 0
def tw12214974937458118085 := 0
def tw16153316490986409431 := 0
def tw4129303067179343488 := 0
def tw18427083126306363329 := 0
def tw8696742507562930092 := 0
def tw17495874622154907302 := 0
def tw1976088198435699965 := 0
def tw3341299636928022400 := 0
def tw2850019855153327747 := 0
def tw17980422382716627182 := 0
def tw307024305014397675 := 0
def tw9970924214663607510 := 0
def tw14399043539332577786 := 0
def tw5100896958886585685 := 0
def tw3921357549154102741 := 0
def tw1465750925285654517 := 0
def tw6601575009903203261 := 0
def tw7693561854018312413 := 0
def tw11782192745562805984 := 0
def tw4575183793003527793 := 0
def tw7514096869548495290 := 0
def tw9626685978029893392 := 0
def tw13273093574053214808 := 0
def tw18369907668115545459 := 0
def tw9672585787201668972 := 0
def tw15813076373337992662 := 0
def tw10236247535270849791 := 0
def tw6747800169131648117 := 0
def tw7451732249643384159 := 0
def tw7531329865450342192 := 0
def tw8604536085004571542 := 0
def tw5378621023901725203 := 0
def tw12916677772883381777 := 0
def tw763945606947040952 := 0
def tw9835867586570768866 := 0
def tw13887124719894382597 := 0
def tw9565528570324624905 := 0
def tw15510874279074847877 := 0
def tw11937558249056661845 := 0
def tw18332088120974490823 := 0
def tw2550398694288491163 := 0
def tw9800509214861774561 := 0
def tw7571582071386484807 := 0
def tw14083585283144830101 := 0
def tw9547705121935048728 := 0
def tw7669404968120298629 := 0
def tw12946898698823612545 := 0
def tw6039611120242630682 := 0
def tw4393212042638495603 := 0
def tw16522284620160986592 := 0
def tw15758985897532824357 := 0
def tw6372009242105183592 := 0
def tw8267041764160985993 := 0
def tw14705822513387444057 := 0
def tw8570167653978714043 := 0
def tw8460038765929592595 := 0
def tw11892010718132606908 := 0
def tw4680834257751452581 := 0
def tw4131306372777959769 := 0
def tw1431606192561371766 := 0
def tw12562624912150682766 := 0
def tw7075609556658370884 := 0
def tw2248007958142413992 := 0
def tw989673340016292973 := 0
def tw10384230021036925048 := 0
def tw11420160688993546515 := 0
def tw6487996425171792751 := 0
def tw9728332935301278343 := 0
def tw18303606832957145670 := 0
def tw15593013944965565289 := 0
def tw17930412477369888703 := 0
def tw13179487521053673116 := 0
def tw14021021794214948918 := 0
def tw16819893038291644743 := 0
def tw3536329599607411342 := 0
def tw3186421683762164876 := 0
def tw5234722106792915358 := 0
def tw6933950525858333848 := 0
def tw7551935393624604189 := 0
def tw9496806993657976932 := 0
def tw15557871699781165512 := 0
def tw6874885279135942994 := 0
def tw10753918575278571769 := 0
def tw5286501757257009902 := 0
def tw8939095412598878359 := 0
def tw14754405809113126798 := 0
def tw4740112582148766170 := 0
def tw5444677776851207140 := 0
def tw4492880982086940603 := 0
def tw1546444667138009791 := 0
def tw15138009114986928178 := 0
def tw16259456590626054292 := 0
def tw10901010742138989208 := 0
def tw16805739711136462936 := 0
def tw6151936195083610163 := 0
def tw7437101416585765017 := 0
def tw11064095231923202605 := 0
def tw16402736586500411899 := 0
def tw17813706889684212005 := 0
def tw5299552828258480507 := 0
def tw13564822031575116143 := 0
def tw18284225312705832264 := 0
def tw17520882535808669777 := 0
def tw1790422947134724564 := 0
def tw7587917781450244137 := 0
def tw1152079028193474687 := 0
def tw5890122660511399410 := 0
def tw13788112753248007606 := 0
def tw5186343452543051219 := 0
def tw16976433309411794929 := 0
def tw6903219576273619372 := 0
def tw265070678633258586 := 0
def tw16597884888494353256 := 0
def tw14290848912021283324 := 0
def tw272062455895807671 := 0
def tw1533549739569164781 := 0
def tw8335444450227454235 := 0
def tw16912029342507092279 := 0
def tw14519692869848874084 := 0
def tw14223836240605459862 := 0
def tw5317045600406167867 := 0
def tw11836152964566927994 := 0
def tw11884536007684319669 := 0
def tw10741835251966986354 := 0
def tw5450698535240452174 := 0
def tw655362121175982923 := 0
def tw4243321319834012551 := 0
def tw1851636182821152623 := 0
def tw5480057406931831149 := 0
def tw11561559845082528556 := 0
def tw14579274560699369026 := 0
def tw8109830400569638464 := 0
def tw14835434292942513682 := 0
def tw11449922803238413875 := 0
def tw8331009020838340333 := 0
def tw13500928407424818757 := 0
def tw9359299311309086521 := 0
def tw16370968558695521087 := 0
def tw9868199642464225527 := 0
def tw6250811938956218415 := 0
def tw12117867835081393910 := 0
def tw9456736212904743770 := 0
def tw5183042630712643663 := 0
def tw6520771667226123718 := 0
def tw9151744234292581456 := 0
def tw432956236966314214 := 0
def tw4230077050550478388 := 0
def tw12272716258715104332 := 0
def tw2816770808156083928 := 0
def tw158698203701807827 := 0
def tw1978647734346537459 := 0
def tw4120657073398721020 := 0
def tw9039847055756741644 := 0
def tw1863479881119621090 := 0
def tw13383876997667956746 := 0
def tw15820574124070206751 := 0
def tw13827358423994332345 := 0
def tw1992119251735069182 := 0
def tw5412017125241016809 := 0
def tw1280620423640468314 := 0
def tw13023595562044907822 := 0
def tw13592249931326765571 := 0
def tw680046066920182743 := 0
def tw9223419737587331803 := 0
def tw14325566660009462693 := 0
def tw9574209619680260482 := 0
def tw17994604492205297717 := 0
def tw3011300128885389080 := 0
def tw3512227955733422772 := 0
def tw17381401719800090983 := 0
def tw10638877295181303935 := 0
def tw15267952188830780997 := 0
def tw4880913278359500797 := 0
def tw958784539093805832 := 0
def tw4387212768620555229 := 0
def tw11171158112586132821 := 0
def tw85646539581371532 := 0
def tw4346092750847331347 := 0
def tw6382857520085874135 := 0
def tw7734924665559463769 := 0
def tw17103248402698461189 := 0
def tw5196939510248412814 := 0
def tw4071154321530742052 := 0
def tw7565724947348586579 := 0
def tw2303922316446393072 := 0
def tw12201777013740815853 := 0
def tw12175549037898351890 := 0
def tw4382497656354183678 := 0
def tw13978085578597897851 := 0
def tw9813399816376172262 := 0
def tw10063245611982631534 := 0
def tw17581065469091604380 := 0
def tw15189791917943241157 := 0
def tw17822254388936206055 := 0
def tw17471408178001474998 := 0
def tw3387955793112941802 := 0
def tw18185301071165244988 := 0
def tw5416388514146618529 := 0
def tw10984360696749455344 := 0
def tw17574560485087237109 := 0
def tw11834369684293737717 := 0
def tw788122761852752148 := 0
def tw9401722243043274527 := 0
def tw17920755844428133707 := 0
def tw16990816366836576255 := 0
def tw13008833884195852107 := 0
def tw15885199305270184119 := 0
def tw10275562121726266711 := 0
def tw9782214258930053810 := 0
def tw2323447090398567530 := 0
def tw9420596699598140648 := 0
def tw12483062624529375483 := 0
def tw9895198690612471887 := 0
def tw9367261568293777785 := 0
def tw225447079771243978 := 0
def tw17235362352854098711 := 0
def tw2671110230118963219 := 0
def tw5951478272959485964 := 0
def tw552132771256921738 := 0
def tw9914941042888093468 := 0
def tw6629801915254867793 := 0
def tw187306527313043220 := 0
def tw16503434495433058516 := 0
def tw15954944424169480220 := 0
def tw16822676222503228110 := 0
def tw12890615720233830067 := 0
def tw6421507657798697207 := 0
def tw18340864162530484164 := 0
def tw5091025211734423518 := 0
def tw17168541940379268149 := 0
def tw14518400886842498812 := 0
def tw14799220588424888448 := 0
def tw3051434697859733205 := 0
def tw9425748997944437414 := 0
def tw15762585878242582429 := 0
def tw214284190758296848 := 0
def tw17105469208700425351 := 0
def tw341579882249528696 := 0
def tw14641118469928400227 := 0
def tw2157609240157793574 := 0
def tw5463098578171834044 := 0
def tw8651531091849317531 := 0
def tw18137669741883527100 := 0
def tw7771841452864992524 := 0
end PySem.W.Fast
open PySem PySem.W PyProof.Rows
set_option maxRecDepth 100000 in
set_option maxHeartbeats 0 in
theorem PySem.Challenge.cw_mixdesks_s12_mix_holds : PySem.Challenge.rw_mixdesks_s12_mix.Holds := by
  w_on; k_headS; (case hw => exact ⟨[.list [], .list [], .list [], .list []], by decide +kernel, by decide +kernel⟩)
  k_fillS
  refine L2.walk_specK (r := PySem.Challenge.rw_mixdesks_s12_mix) (k := Mx.kTop) (CX := L2.CX0) (ps := ["t", "s", "g", "ins"]) (sp := Mx.spTop) (by decide +kernel) rfl rfl ⟨rfl, by decide, by decide⟩ (fun w h Y => PySem.W.kIn_of Y) ?F ?S (fun _ _ _ _ z => z)
  case F =>
    intro w mg fa h Y KX G hmg
    refine' Mx.all_mk KX G hmg ?gc_Send ?gc_Desk ?gc_zW ?gc_z1 ?gc_z6 ?gc_zP ?gc_zZ ?gc_zy ?gc_z3 ?gc_z2 ?a_zH ?i_zH ?l_zH ?c_zH ?k_zH ?a_zI ?i_zI ?l_zI ?c_zI ?k_zI ?a_zj ?i_zj ?l_zj ?c_zj ?k_zj ?a_zd ?i_zd ?l_zd ?c_zd ?k_zd ?a_zh ?i_zh ?l_zh ?c_zh ?k_zh ?a_zk ?i_zk ?l_zk ?c_zk ?k_zk ?a_zn ?i_zn ?l_zn ?c_zn ?k_zn ?a_zB ?i_zB ?l_zB ?c_zB ?k_zB ?a_zg ?i_zg ?l_zg ?c_zg ?k_zg ?a_zm ?i_zm ?l_zm ?c_zm ?k_zm ?a_zS ?l_zS ?c_zS ?k_zS ?a_held ?l_held ?c_held ?k_held ?a_zt ?i_zt ?l_zt ?c_zt ?k_zt ?a_ze ?i_ze ?l_ze ?c_ze ?k_ze ?a_zb ?i_zb ?l_zb ?c_zb ?k_zb ?a_zc ?i_zc ?l_zc ?c_zc ?k_zc ?a_zi ?i_zi ?l_zi ?c_zi ?k_zi ?a_zJ ?l_zJ ?c_zJ ?k_zJ ?a_zz ?l_zz ?c_zz ?k_zz ?a_zE ?l_zE ?c_zE ?k_zE ?a_zK ?l_zK ?c_zK ?k_zK ?a_zo ?l_zo ?c_zo ?k_zo ?a_zL ?l_zL ?c_zL ?k_zL ?a_zM ?l_zM ?c_zM ?k_zM ?a_zu ?l_zu ?c_zu ?k_zu ?a_zN ?l_zN ?c_zN ?k_zN ?a_zf ?l_zf ?c_zf ?k_zf ?a_zF ?l_zF ?c_zF ?k_zF ?a_zX ?l_zX ?c_zX ?k_zX ?a_zr ?l_zr ?c_zr ?k_zr ?a_z0 ?l_z0 ?c_z0 ?k_z0 ?a_zO ?l_zO ?c_zO ?k_zO ?a_za ?l_za ?c_za ?k_za ?a_zQ ?l_zQ ?c_zQ ?k_zQ ?a_zl ?l_zl ?c_zl ?k_zl ?a_zv ?l_zv ?c_zv ?k_zv ?a_zG ?l_zG ?c_zG ?k_zG ?a_zA ?i_zA ?l_zA ?c_zA ?k_zA ?a_zC ?l_zC ?c_zC ?k_zC ?a_zs ?l_zs ?c_zs ?k_zs ?a_zU ?l_zU ?c_zU ?k_zU ?a_zD ?l_zD ?c_zD ?k_zD ?a_zq ?l_zq ?c_zq ?k_zq ?a_zp ?l_zp ?c_zp ?k_zp ?a_zw ?i_zw ?l_zw ?c_zw ?k_zw ?a_zx ?l_zx ?c_zx ?k_zx ?a_zR ?l_zR ?c_zR ?k_zR ?a_zT ?l_zT ?c_zT ?k_zT ?a_zY ?l_zY ?c_zY ?k_zY ?a_mix ?l_mix ?c_mix ?k_mix ?a_zV ?l_zV ?c_zV ?k_zV ?pg_Send ?hd_Send ?po_Send ?sa_Send ?mk_Send ?kc_Send ?n_zdb ?n_zib ?n_zKb ?n_zRb ?pg_Desk ?hd_Desk ?po_Desk ?sa_Desk ?mk_Desk ?kc_Desk ?n_z9 ?n_zob ?n_zyb ?n_zCb ?n_zkb ?n_zgb ?pg_zy ?hd_zy ?po_zy ?sa_zy ?mk_zy ?kc_zy ?n_zbb ?n_zab ?n_z4 ?pg_z3 ?hd_z3 ?po_z3 ?sa_z3 ?mk_z3 ?kc_z3 ?n_zDb ?n_zub ?n_zzb ?pg_z2 ?hd_z2 ?po_z2 ?sa_z2 ?mk_z2 ?kc_z2 ?n_zjb ?n_zfb ?ok_zW ?sa_zW ?ga_zW ?gt_zW ?kc_zW ?mr_zW ?n_zGb ?n_zNb ?ok_z1 ?sa_z1 ?ga_z1 ?gt_z1 ?kc_z1 ?mr_z1 ?n_zAb ?n_zHb ?ok_z6 ?sa_z6 ?ga_z6 ?gt_z6 ?kc_z6 ?mr_z6 ?n_zIb ?n_zOb ?ok_zP ?sa_zP ?ga_zP ?gt_zP ?kc_zP ?mr_zP ?n_znb ?n_ztb ?ok_zZ ?sa_zZ ?ga_zZ ?gt_zZ ?kc_zZ ?mr_zZ ?n_zJb ?n_zPb ?cg ?cr ?cf ?v_IN ?v_BUS ?v_OUT ?v_zSb ?v_zlb ?v_zpb ?v_zsb ?v_UNIT ?v_HALF ?v_zvb ?v_zBb ?v_zQb ?v_ZERO ?v_NINE ?v_zLb ?v_zMb ?v_zwb ?v_zmb ?v_zqb ?v_zxb ?v_zEb ?v_zeb ?v_zhb ?v_zcb ?v_zFb ?v_MUTE ?v_SOLO ?v_zrb ?w_z5 ?x_z5 ?w_z7 ?x_z7 ?w_z8 ?x_z8 ?b_len ?b_ord ?b_all ?b_any ?b_sorted ?b_max ?b_min ?b_range ?b_enumerate ?b_list
    (case gc_Send => k_is)
    (case gc_Desk => k_is)
    (case gc_zW => k_is)
    (case gc_z1 => k_is)
    (case gc_z6 => k_is)
    (case gc_zP => k_is)
    (case gc_zZ => k_is)
    (case gc_zy => k_is)
    (case gc_z3 => k_is)
    (case gc_z2 => k_is)
    (case a_zH => k_is)
    (case i_zH => k_is)
    (case l_zH => k_is)
    (case c_zH => k_is)
    (case k_zH => k_is)
    (case a_zI => k_is)
    (case i_zI => k_is)
    (case l_zI => k_is)
    (case c_zI => k_is)
    (case k_zI => k_is)
    (case a_zj => k_is)
    (case i_zj => k_is)
    (case l_zj => k_is)
    (case c_zj => k_is)
    (case k_zj => k_is)
    (case a_zd => k_is)
    (case i_zd => k_is)
    (case l_zd => k_is)
    (case c_zd => k_is)
    (case k_zd => k_is)
    (case a_zh => k_is)
    (case i_zh => k_is)
    (case l_zh => k_is)
    (case c_zh => k_is)
    (case k_zh => k_is)
    (case a_zk => k_is)
    (case i_zk => k_is)
    (case l_zk => k_is)
    (case c_zk => k_is)
    (case k_zk => k_is)
    (case a_zn => k_is)
    (case i_zn => k_is)
    (case l_zn => k_is)
    (case c_zn => k_is)
    (case k_zn => k_is)
    (case a_zB => k_is)
    (case i_zB => k_is)
    (case l_zB => k_is)
    (case c_zB => k_is)
    (case k_zB => k_is)
    (case a_zg => k_is)
    (case i_zg => k_is)
    (case l_zg => k_is)
    (case c_zg => k_is)
    (case k_zg => k_is)
    (case a_zm => k_is)
    (case i_zm => k_is)
    (case l_zm => k_is)
    (case c_zm => k_is)
    (case k_zm => k_is)
    (case a_zS => k_is)
    (case l_zS => k_is)
    (case c_zS => k_is)
    (case k_zS => k_is)
    (case a_held => k_is)
    (case l_held => k_is)
    (case c_held => k_is)
    (case k_held => k_is)
    (case a_zt => k_is)
    (case i_zt => k_is)
    (case l_zt => k_is)
    (case c_zt => k_is)
    (case k_zt => k_is)
    (case a_ze => k_is)
    (case i_ze => k_is)
    (case l_ze => k_is)
    (case c_ze => k_is)
    (case k_ze => k_is)
    (case a_zb => k_is)
    (case i_zb => k_is)
    (case l_zb => k_is)
    (case c_zb => k_is)
    (case k_zb => k_is)
    (case a_zc => k_is)
    (case i_zc => k_is)
    (case l_zc => k_is)
    (case c_zc => k_is)
    (case k_zc => k_is)
    (case a_zi => k_is)
    (case i_zi => k_is)
    (case l_zi => k_is)
    (case c_zi => k_is)
    (case k_zi => k_is)
    (case a_zJ => k_is)
    (case l_zJ => k_is)
    (case c_zJ => k_is)
    (case k_zJ => k_is)
    (case a_zz => k_is)
    (case l_zz => k_is)
    (case c_zz => k_is)
    (case k_zz => k_is)
    (case a_zE => k_is)
    (case l_zE => k_is)
    (case c_zE => k_is)
    (case k_zE => k_is)
    (case a_zK => k_is)
    (case l_zK => k_is)
    (case c_zK => k_is)
    (case k_zK => k_is)
    (case a_zo => k_is)
    (case l_zo => k_is)
    (case c_zo => k_is)
    (case k_zo => k_is)
    (case a_zL => k_is)
    (case l_zL => k_is)
    (case c_zL => k_is)
    (case k_zL => k_is)
    (case a_zM => k_is)
    (case l_zM => k_is)
    (case c_zM => k_is)
    (case k_zM => k_is)
    (case a_zu => k_is)
    (case l_zu => k_is)
    (case c_zu => k_is)
    (case k_zu => k_is)
    (case a_zN => k_is)
    (case l_zN => k_is)
    (case c_zN => k_is)
    (case k_zN => k_is)
    (case a_zf => k_is)
    (case l_zf => k_is)
    (case c_zf => k_is)
    (case k_zf => k_is)
    (case a_zF => k_is)
    (case l_zF => k_is)
    (case c_zF => k_is)
    (case k_zF => k_is)
    (case a_zX => k_is)
    (case l_zX => k_is)
    (case c_zX => k_is)
    (case k_zX => k_is)
    (case a_zr => k_is)
    (case l_zr => k_is)
    (case c_zr => k_is)
    (case k_zr => k_is)
    (case a_z0 => k_is)
    (case l_z0 => k_is)
    (case c_z0 => k_is)
    (case k_z0 => k_is)
    (case a_zO => k_is)
    (case l_zO => k_is)
    (case c_zO => k_is)
    (case k_zO => k_is)
    (case a_za => k_is)
    (case l_za => k_is)
    (case c_za => k_is)
    (case k_za => k_is)
    (case a_zQ => k_is)
    (case l_zQ => k_is)
    (case c_zQ => k_is)
    (case k_zQ => k_is)
    (case a_zl => k_is)
    (case l_zl => k_is)
    (case c_zl => k_is)
    (case k_zl => k_is)
    (case a_zv => k_is)
    (case l_zv => k_is)
    (case c_zv => k_is)
    (case k_zv => k_is)
    (case a_zG => k_is)
    (case l_zG => k_is)
    (case c_zG => k_is)
    (case k_zG => k_is)
    (case a_zA => k_is)
    (case i_zA => k_is)
    (case l_zA => k_is)
    (case c_zA => k_is)
    (case k_zA => k_is)
    (case a_zC => k_is)
    (case l_zC => k_is)
    (case c_zC => k_is)
    (case k_zC => k_is)
    (case a_zs => k_is)
    (case l_zs => k_is)
    (case c_zs => k_is)
    (case k_zs => k_is)
    (case a_zU => k_is)
    (case l_zU => k_is)
    (case c_zU => k_is)
    (case k_zU => k_is)
    (case a_zD => k_is)
    (case l_zD => k_is)
    (case c_zD => k_is)
    (case k_zD => k_is)
    (case a_zq => k_is)
    (case l_zq => k_is)
    (case c_zq => k_is)
    (case k_zq => k_is)
    (case a_zp => k_is)
    (case l_zp => k_is)
    (case c_zp => k_is)
    (case k_zp => k_is)
    (case a_zw => k_is)
    (case i_zw => k_is)
    (case l_zw => k_is)
    (case c_zw => k_is)
    (case k_zw => k_is)
    (case a_zx => k_is)
    (case l_zx => k_is)
    (case c_zx => k_is)
    (case k_zx => k_is)
    (case a_zR => k_is)
    (case l_zR => k_is)
    (case c_zR => k_is)
    (case k_zR => k_is)
    (case a_zT => k_is)
    (case l_zT => k_is)
    (case c_zT => k_is)
    (case k_zT => k_is)
    (case a_zY => k_is)
    (case l_zY => k_is)
    (case c_zY => k_is)
    (case k_zY => k_is)
    (case a_mix => k_is)
    (case l_mix => k_is)
    (case c_mix => k_is)
    (case k_mix => k_is)
    (case a_zV => k_is)
    (case l_zV => k_is)
    (case c_zV => k_is)
    (case k_zV => k_is)
    (case pg_Send => k_is)
    (case hd_Send => k_is)
    (case po_Send => k_is)
    (case sa_Send => k_is)
    (case mk_Send => k_is)
    (case kc_Send => k_is)
    (case n_zdb => k_is)
    (case n_zib => k_is)
    (case n_zKb => k_is)
    (case n_zRb => k_is)
    (case pg_Desk => k_is)
    (case hd_Desk => k_is)
    (case po_Desk => k_is)
    (case sa_Desk => k_is)
    (case mk_Desk => k_is)
    (case kc_Desk => k_is)
    (case n_z9 => k_is)
    (case n_zob => k_is)
    (case n_zyb => k_is)
    (case n_zCb => k_is)
    (case n_zkb => k_is)
    (case n_zgb => k_is)
    (case pg_zy => k_is)
    (case hd_zy => k_is)
    (case po_zy => k_is)
    (case sa_zy => k_is)
    (case mk_zy => k_is)
    (case kc_zy => k_is)
    (case n_zbb => k_is)
    (case n_zab => k_is)
    (case n_z4 => k_is)
    (case pg_z3 => k_is)
    (case hd_z3 => k_is)
    (case po_z3 => k_is)
    (case sa_z3 => k_is)
    (case mk_z3 => k_is)
    (case kc_z3 => k_is)
    (case n_zDb => k_is)
    (case n_zub => k_is)
    (case n_zzb => k_is)
    (case pg_z2 => k_is)
    (case hd_z2 => k_is)
    (case po_z2 => k_is)
    (case sa_z2 => k_is)
    (case mk_z2 => k_is)
    (case kc_z2 => k_is)
    (case n_zjb => k_is)
    (case n_zfb => k_is)
    (case ok_zW => kernel_rfl)
    (case sa_zW => k_is)
    (case ga_zW => k_is)
    (case gt_zW => k_is)
    (case kc_zW => k_is)
    (case mr_zW => k_is)
    (case n_zGb => k_is)
    (case n_zNb => k_is)
    (case ok_z1 => kernel_rfl)
    (case sa_z1 => k_is)
    (case ga_z1 => k_is)
    (case gt_z1 => k_is)
    (case kc_z1 => k_is)
    (case mr_z1 => k_is)
    (case n_zAb => k_is)
    (case n_zHb => k_is)
    (case ok_z6 => kernel_rfl)
    (case sa_z6 => k_is)
    (case ga_z6 => k_is)
    (case gt_z6 => k_is)
    (case kc_z6 => k_is)
    (case mr_z6 => k_is)
    (case n_zIb => k_is)
    (case n_zOb => k_is)
    (case ok_zP => kernel_rfl)
    (case sa_zP => k_is)
    (case ga_zP => k_is)
    (case gt_zP => k_is)
    (case kc_zP => k_is)
    (case mr_zP => k_is)
    (case n_znb => k_is)
    (case n_ztb => k_is)
    (case ok_zZ => kernel_rfl)
    (case sa_zZ => k_is)
    (case ga_zZ => k_is)
    (case gt_zZ => k_is)
    (case kc_zZ => k_is)
    (case mr_zZ => k_is)
    (case n_zJb => k_is)
    (case n_zPb => k_is)
    (case cg => k_is)
    (case cr => k_is)
    (case cf => k_is)
    (case v_IN => k_is)
    (case v_BUS => k_is)
    (case v_OUT => k_is)
    (case v_zSb => k_is)
    (case v_zlb => k_is)
    (case v_zpb => k_is)
    (case v_zsb => k_is)
    (case v_UNIT => k_is)
    (case v_HALF => k_is)
    (case v_zvb => k_is)
    (case v_zBb => k_is)
    (case v_zQb => k_is)
    (case v_ZERO => k_is)
    (case v_NINE => k_is)
    (case v_zLb => k_is)
    (case v_zMb => k_is)
    (case v_zwb => k_is)
    (case v_zmb => k_is)
    (case v_zqb => k_is)
    (case v_zxb => k_is)
    (case v_zEb => k_is)
    (case v_zeb => k_is)
    (case v_zhb => k_is)
    (case v_zcb => k_is)
    (case v_zFb => k_is)
    (case v_MUTE => k_is)
    (case v_SOLO => k_is)
    (case v_zrb => k_is)
    (case w_z5 => k_is)
    (case x_z5 => k_is)
    (case w_z7 => k_is)
    (case x_z7 => k_is)
    (case w_z8 => k_is)
    (case x_z8 => k_is)
    (case b_len => k_is)
    (case b_ord => k_is)
    (case b_all => k_is)
    (case b_any => k_is)
    (case b_sorted => k_is)
    (case b_max => k_is)
    (case b_min => k_is)
    (case b_range => k_is)
    (case b_enumerate => k_is)
    (case b_list => k_is)
  case S => exact Mx.askTop
#print axioms PySem.Challenge.cw_mixdesks_s12_mix_holds
