import PyProof.Rows.All
import Wide.All
import OpenK.AllK
import Wide.FinOn
import PyProof.EqAt
import PyProof.EqKinds
import PyProof.TupleCall
import KE.BitLaws
import PyProof.IsiPairs
import PyProof.IsiHeapPairs
import KE.KIsAll
import PyProof.IsiNone
import KE.KSuper
import KE.KSortTupG
import KE.KDictSum
import KE.KUnpack
import PyProof.P3Eq
import KE.KNest
import KE.KMinKey
import KE.KLam
import KE.KRevIter
import PyProof.Rows.TupDisplay
import PyProof.ListRange
import PySem.Challenge.RW_heldafar_k02_pictures_let_by
set_option Elab.async false
set_option linter.all false
set_option maxRecDepth 100000
namespace L2
open PySem PySem.Spec PyProof.Rows
abbrev Key := Sum Int Str
def keyIs : Key → Value → Bool
  | .inl k, v => Value.isInt k v
  | .inr x, v => Value.isStrOf x v
def keyH (w : World) : Key → Int
  | .inl k => hashInt k
  | .inr x => hashStr w x
theorem keyIs_shape : ∀ {k : Key} {v : Value}, keyIs k v = true → (∃ i t, k = Sum.inl i ∧ v = Value.int i t) ∨ (∃ x t, k = Sum.inr x ∧ v = Value.str x t)
  | .inl i, v, h => by
    obtain ⟨t, e⟩ := Value.isInt_shape (k := i) (v := v) h
    exact .inl ⟨i, t, rfl, e⟩
  | .inr x, v, h => by
    obtain ⟨t, e⟩ := Value.isStrOf_shape (x := x) (v := v) h
    exact .inr ⟨x, t, rfl, e⟩
theorem keyIs_int (i : Int) (t : Tok) : keyIs (.inl i) (.int i t) = true := by simp [keyIs, Value.isInt]
theorem keyIs_str (x : Str) (t : Tok) : keyIs (.inr x) (.str x t) = true := by simp [keyIs, Value.isStrOf]
theorem key_ll (a b : Int) : decide ((Sum.inl a : Key) = Sum.inl b) = (a == b) := by
  by_cases e : a = b
  · subst e; simp
  · have h : ¬ (Sum.inl a : Key) = Sum.inl b := fun q => e (Sum.inl.inj q)
    rw [decide_eq_false h]
    exact (beq_eq_false_iff_ne.mpr e).symm
theorem key_rr (a b : Str) : decide ((Sum.inr a : Key) = Sum.inr b) = decide (a = b) := by
  by_cases e : a = b
  · subst e; simp
  · have h : ¬ (Sum.inr a : Key) = Sum.inr b := fun q => e (Sum.inr.inj q)
    rw [decide_eq_false h, decide_eq_false e]
theorem key_lr (a : Int) (b : Str) : decide ((Sum.inl a : Key) = Sum.inr b) = false := decide_eq_false (fun q => nomatch q)
theorem key_rl (a : Str) (b : Int) : decide ((Sum.inr a : Key) = Sum.inl b) = false := decide_eq_false (fun q => nomatch q)
def mixKind (prog : Program) (w : World) : PySem.KeyKind prog w Key where
  is := keyIs
  hash := keyH w
  inj := fun v a b ha hb => by
    rcases keyIs_shape ha with ⟨i, t, rfl, rfl⟩ | ⟨x, t, rfl, rfl⟩
    · rcases keyIs_shape hb with ⟨j, u, rfl, e⟩ | ⟨y, u, rfl, e⟩
      · injection e with e1 _; rw [e1]
      · exact nomatch e
    · rcases keyIs_shape hb with ⟨j, u, rfl, e⟩ | ⟨y, u, rfl, e⟩
      · exact nomatch e
      · injection e with e1 _; rw [e1]
  byValue := fun k v h => by
    rcases keyIs_shape h with ⟨i, t, rfl, rfl⟩ | ⟨x, t, rfl, rfl⟩ <;> rfl
  pyHash := fun hv h => by
    rcases keyIs_shape hv with ⟨i, t, rfl, rfl⟩ | ⟨x, t, rfl, rfl⟩
    · exact wpAny_pyHash_int h
    · exact wpAny_pyHash_str h
  eqBool := fun hu hv h => by
    rcases keyIs_shape hu with ⟨i, t, rfl, rfl⟩ | ⟨x, t, rfl, rfl⟩
    · rcases keyIs_shape hv with ⟨j, u, rfl, rfl⟩ | ⟨y, u, rfl, rfl⟩
      · rw [key_ll] at h; exact wpAny_eqBool_int h
      · rw [key_lr] at h; exact SeqAt.EqAt.int_str i t y u _ _ _ _ h
    · rcases keyIs_shape hv with ⟨j, u, rfl, rfl⟩ | ⟨y, u, rfl, rfl⟩
      · rw [key_rl] at h; exact SeqAt.EqAt.str_int x t j u _ _ _ _ h
      · rw [key_rr] at h; exact wpAny_eqBool_str h
  «strs» := fun k x t v h => by
    rcases keyIs_shape h with ⟨i, u, rfl, e⟩ | ⟨y, u, rfl, e⟩
    · exact nomatch e
    · injection e with e1 _
      subst e1
      cases v <;> rfl
theorem mixKind_int (prog : Program) (w : World) (i : Int) (t : Tok) : (mixKind prog w).is (.inl i) (.int i t) = true := keyIs_int i t
theorem mixKind_str (prog : Program) (w : World) (x : Str) (t : Tok) : (mixKind prog w).is (.inr x) (.str x t) = true := keyIs_str x t
end L2
namespace L2
open PySem PySem.Spec PyProof.Rows
inductive V where
  | non | bl (b : Bool) | int (i : Int) | str (x : Str) | byt (b : Array UInt8) | flt (b : UInt64) | ref (a : Addr) | ty (n : String)
  deriving DecidableEq
def RelV : V → Value → Prop
  | .non, u => u = Value.none
  | .bl b, u => u = Value.bool b
  | .int i, u => ∃ t, u = Value.int i t
  | .str x, u => ∃ t, u = Value.str x t
  | .byt b, u => ∃ t, u = Value.bytes b t
  | .flt b, u => ∃ t, u = Value.float b t
  | .ref a, u => u = Value.ref a
  | .ty n, u => u = Value.type n
abbrev Vals : List V → List Value → Prop := Paired RelV
theorem Vals.length {xs : List V} {us : List Value} (r : Vals xs us) : xs.length = us.length := Paired.length r
theorem Vals.get : ∀ {xs : List V} {us : List Value} {i : Nat} {x : V}, Vals xs us → xs[i]? = some x → ∃ u, us[i]? = some u ∧ RelV x u
  | _, _, _, _, .nil, e => by simp at e
  | _, _, 0, _, .cons r _, e => by simp at e; subst e; exact ⟨_, rfl, r⟩
  | _, _, i + 1, x, .cons _ t, e => by
    obtain ⟨u, h1, h2⟩ := Vals.get (i := i) (x := x) t (by simpa using e)
    exact ⟨u, by simpa using h1, h2⟩
theorem Vals.set {x : V} {u : Value} (r : RelV x u) : ∀ {xs : List V} {us : List Value} (i : Nat), Vals xs us → Vals (xs.set i x) (us.set i u)
  | _, _, _, .nil => .nil
  | _, _, 0, .cons _ t => .cons r t
  | _, _, i + 1, .cons q t => .cons q (Vals.set r i t)
theorem Vals.append : ∀ {xs ys : List V} {us ws : List Value}, Vals xs us → Vals ys ws → Vals (xs ++ ys) (us ++ ws)
  | _, _, _, _, .nil, s => s
  | _, _, _, _, .cons r t, s => .cons r (Vals.append t s)
theorem Vals.take : ∀ {xs : List V} {us : List Value} (n : Nat), Vals xs us → Vals (xs.take n) (us.take n)
  | _, _, 0, _ => .nil
  | _, _, _ + 1, .nil => .nil
  | _, _, n + 1, .cons r t => .cons r (Vals.take n t)
theorem Vals.drop : ∀ {xs : List V} {us : List Value} (n : Nat), Vals xs us → Vals (xs.drop n) (us.drop n)
  | _, _, 0, r => r
  | _, _, _ + 1, .nil => .nil
  | _, _, n + 1, .cons _ t => Vals.drop n t
theorem Vals.none_of : ∀ {xs : List V} {us : List Value} {i : Nat}, Vals xs us → xs[i]? = none → us[i]? = none := fun {xs us i} r e => by
  have h1 := r.length
  have h2 : xs.length ≤ i := List.getElem?_eq_none_iff.mp e
  exact List.getElem?_eq_none_iff.mpr (by omega)
def RelO : Option V → Option Value → Prop
  | some v, some u => RelV v u
  | none, none => True
  | _, _ => False
def KV {κ : Type} : List (κ × V) → List (κ × Value) → Prop := Paired fun (p : κ × V) (q : κ × Value) => p.1 = q.1 ∧ RelV p.2 q.2
def kV : Key → V
  | .inl i => .int i
  | .inr x => .str x
inductive HO where
  | lst (xs : List V)
  | tup (xs : List V)
  | dK (kvs : List (Key × V)) | dT (kvs : List (List Key × V))
  | set (S : Int → Bool) (n : Nat)
  | ins (C dx : Addr) (fs : List (Str × V))
  | own (x : Addr)
  | xd (fs : List (Str × V))
  | met (f x : Addr)
  | rng (lo hi : Int)
  | frz (o : Obj) (u : HO)
  | tbl (ps : Array Value)
  | ext (φ : Heap → Prop)
abbrev Hp := Addr → Option HO
def upd (H : Hp) (a : Addr) (o : HO) : Hp := fun b => if b = a then some o else H b
theorem upd_same {H : Hp} {a : Addr} {o : HO} : upd H a o a = some o := by unfold upd; rw [if_pos rfl]
theorem upd_ne {H : Hp} {a b : Addr} {o : HO} (h : b ≠ a) : upd H a o b = H b := by unfold upd; rw [if_neg h]
theorem ne_of {H : Hp} {a b : Addr} {o u : HO} (h : H a = some o) (h' : H b = some u) (d : o ≠ u) : a ≠ b := by
  intro e; subst e; rw [h] at h'; exact d (Option.some.inj h')
theorem ne_of_none {H : Hp} {a b : Addr} {o : HO} (h : H a = some o) (h' : H b = none) : a ≠ b := by
  intro e; subst e; rw [h] at h'; cases h'
section
variable (P : Program) (w : World)
def ObjOk (H : Hp) (h : Heap) (a : Addr) : HO → Prop
  | .lst xs => xs.length ≤ sizeLine ∧ ∃ (its : List Value) (n : Nat), Vals xs its ∧ h.get? a = some { cls := .type "list", data := .seq its.toArray n }
  | .tup xs => xs.length ≤ sizeLine ∧ ∃ its : List Value, Vals xs its ∧ IsTup h a its.toArray
  | .dK kvs => kvs.length ≤ sizeLine ∧ (a == sysModules) = false ∧ ∃ vs, KV kvs vs ∧ h.DictOf (mixKind P w) a vs
  | .dT kvs => kvs.length ≤ sizeLine ∧ (a == sysModules) = false ∧ ∃ xs : List (List Key × Addr × Value),
      Paired (fun (p : List Key × V) (q : List Key × Addr × Value) => p.1 = q.1 ∧ H q.2.1 = some (.tup (p.1.map kV)) ∧ RelV p.2 q.2.2) kvs xs ∧
      ∃ o es ep, h.get? a = some o ∧ o.ExactDict ∧ o.data = .dict es ep ∧ es.toList = xs.map (entryOfKey (tupleKind (mixKind P w))) ∧ (xs.map (·.1)).Nodup
  | .set S n => h.SetOf (intKind P w) a S n
  | .ins C dx fs => H dx = some (.own a) ∧ fs.length ≤ 1000 ∧ dx ≠ a ∧ h.get? a = some (PySem.W.instObj C dx) ∧
      ∃ mA, h.Ns1 dx mA ∧ (∀ f, RelO (fs.lookup f) (mA f)) ∧ PySem.Within mA (fs.map (·.1))
  | .own _ => ∃ o, h.get? a = some o
  | .xd fs => ∃ mA, h.Ns1 a mA ∧ ∀ f, RelO (fs.lookup f) (mA f)
  | .rng lo hi => ∃ t u v, h.get? a = some { cls := .type "range", data := .fields #[.int lo t, .int hi u, .int 1 v] }
  | .frz o u => h.get? a = some o ∧ ObjOk H h a u
  | .tbl ps => h.get? a = some { cls := .none, data := .fields ps }
  | .met f x => h.get? a = some (PySem.W.methodObj (.ref f) (.ref x))
  | .ext φ => φ h ∧ (∃ o, h.get? a = some o) ∧ ∀ h1 h2 : Heap, φ h1 → (∀ o, h1.get? a = some o → h2.get? a = some o) → φ h2
def HOk (H : Hp) (h : Heap) : Prop := ∀ a o, H a = some o → ObjOk P w H h a o
end
section
variable {P : Program} {w : World} {H H' : Hp} {h h' : Heap} {a : Addr} {o : HO}
theorem ObjOk.lt (x : ObjOk P w H h a o) : a < h.objs.size := by
  cases o with
  | lst xs => obtain ⟨_, _, _, _, e⟩ := x; exact Heap.lt_size e
  | tup xs => obtain ⟨_, _, _, p⟩ := x; exact p.lt
  | dK kvs => obtain ⟨_, _, _, _, o, _, _, e, _⟩ := x; exact Heap.lt_size e
  | dT kvs => obtain ⟨_, _, _, _, o, _, _, e, _⟩ := x; exact Heap.lt_size e
  | set S n => obtain ⟨o, _, _, _, e, _⟩ := x; exact Heap.lt_size e
  | ins C dx fs => obtain ⟨_, _, _, e, _⟩ := x; exact Heap.lt_size e
  | own y => obtain ⟨_, e⟩ := x; exact Heap.lt_size e
  | xd fs => obtain ⟨_, ⟨_, _, _, e, _⟩, _⟩ := x; exact Heap.lt_size e
  | rng lo hi => obtain ⟨_, _, _, e⟩ := x; exact Heap.lt_size e
  | frz ob u => obtain ⟨e, _⟩ := x; exact Heap.lt_size e
  | tbl ps => exact Heap.lt_size (show h.get? a = some _ from x)
  | met f y => exact Heap.lt_size (show h.get? a = some _ from x)
  | ext φ => obtain ⟨_, ⟨_, e⟩, _⟩ := x; exact Heap.lt_size e
theorem Paired.mapP {α β : Type} {F G : α → β → Prop} : ∀ {l₁ : List α} {l₂ : List β}, Paired F l₁ l₂ → (∀ a b, F a b → G a b) → Paired G l₁ l₂
  | _, _, .nil, _ => .nil
  | _, _, .cons r t, f => .cons (f _ _ r) (Paired.mapP t f)
theorem ObjOk.stay (x : ObjOk P w H h a o) (k : ∀ b u, (b = a ∨ H b = some (.own a)) → h.get? b = some u → h'.get? b = some u)
    (ho : ∀ b, H b = some (.own a) → H' b = some (.own a)) (ht : ∀ b xs, H b = some (.tup xs) → H' b = some (.tup xs)) : ObjOk P w H' h' a o := by
  induction o with
  | lst xs => obtain ⟨z, its, n, r, e⟩ := x; exact ⟨z, its, n, r, k _ _ (.inl rfl) e⟩
  | tup xs => obtain ⟨z, its, r, ob, e, c⟩ := x; exact ⟨z, its, r, ob, k _ _ (.inl rfl) e, c⟩
  | dK kvs => obtain ⟨z, y, vs, r, ob, es, ep, e, c⟩ := x; exact ⟨z, y, vs, r, ob, es, ep, k _ _ (.inl rfl) e, c⟩
  | dT kvs =>
    obtain ⟨z, y, xs, r, ob, es, ep, e, c⟩ := x
    exact ⟨z, y, xs, Paired.mapP r fun p q z => ⟨z.1, ht _ _ z.2.1, z.2.2⟩, ob, es, ep, k _ _ (.inl rfl) e, c⟩
  | set S n => obtain ⟨ob, es, ep, t, e, c⟩ := x; exact ⟨ob, es, ep, t, k _ _ (.inl rfl) e, c⟩
  | ins C dx fs =>
    obtain ⟨d, z, ne, e, mA, ⟨od, es, ep, e2, c⟩, r⟩ := x
    exact ⟨ho _ d, z, ne, k _ _ (.inl rfl) e, mA, ⟨od, es, ep, k _ _ (.inr d) e2, c⟩, r⟩
  | own y => obtain ⟨ob, e⟩ := x; exact ⟨ob, k _ _ (.inl rfl) e⟩
  | xd fs => obtain ⟨mA, ⟨od, es, ep, e, c⟩, r⟩ := x; exact ⟨mA, ⟨od, es, ep, k _ _ (.inl rfl) e, c⟩, r⟩
  | rng lo hi => obtain ⟨t, u, v, e⟩ := x; exact ⟨t, u, v, k _ _ (.inl rfl) e⟩
  | frz ob u ih => obtain ⟨e, q⟩ := x; exact ⟨k _ _ (.inl rfl) e, ih q⟩
  | tbl ps =>
    have e : h.get? a = some { cls := .none, data := .fields ps } := x
    show h'.get? a = some { cls := .none, data := .fields ps }
    exact k a _ (.inl rfl) e
  | met f y =>
    have e : h.get? a = some (PySem.W.methodObj (.ref f) (.ref y)) := x
    show h'.get? a = some (PySem.W.methodObj (.ref f) (.ref y))
    exact k a _ (.inl rfl) e
  | ext φ => obtain ⟨p, ⟨o, e⟩, st⟩ := x; exact ⟨st _ _ p fun o q => k _ _ (.inl rfl) q, ⟨o, k _ _ (.inl rfl) e⟩, st⟩
theorem HOk.lt (x : HOk P w H h) (e : H a = some o) : a < h.objs.size := (x a o e).lt
theorem HOk.fresh (x : HOk P w H h) (e : h.objs.size ≤ a) : H a = none := by
  cases q : H a with
  | none => rfl
  | some u => exact absurd (Nat.lt_of_lt_of_le (x.lt q) e) (Nat.lt_irrefl _)
theorem HOk.kept (x : HOk P w H h) (k : ∀ b u, h.get? b = some u → h'.get? b = some u) : HOk P w H h' := fun a o e =>
  (x a o e).stay (fun b u _ q => k b u q) (fun _ q => q) fun _ _ q => q
theorem HOk.laid (x : HOk P w H h) (k : ∀ b u, h.get? b = some u → h'.get? b = some u) (hp : h.objs.size ≤ a) (new : ObjOk P w (upd H a o) h' a o) : HOk P w (upd H a o) h' := fun b u e => by
  have hn := x.fresh hp
  by_cases hb : b = a
  · subst hb; rw [upd_same] at e; cases e; exact new
  · rw [upd_ne hb] at e
    exact (x b u e).stay (fun c v _ q => k c v q) (fun c q => by rw [upd_ne (ne_of_none q hn)]; exact q) fun c xs q => by rw [upd_ne (ne_of_none q hn)]; exact q
end
def Rd (H : Hp) (a : Addr) (u : HO) : Prop := H a = some u ∨ ∃ o, H a = some (.frz o u)
theorem Rd.of {H : Hp} {a : Addr} {u : HO} (h : H a = some u) : Rd H a u := .inl h
theorem Rd.ok {P : Program} {w : World} {H : Hp} {h : Heap} {a : Addr} {u : HO} (r : Rd H a u) (x : HOk P w H h) : ObjOk P w H h a u := by
  rcases r with r | ⟨o, r⟩
  · exact x a u r
  · obtain ⟨_, q⟩ := x a _ r
    exact q
def Mut : Option HO → Prop
  | some (.lst _) => True
  | some (.dK _) => True
  | some (.dT _) => True
  | some (.set _ _) => True
  | some (.ins _ _ _) => True
  | some (.ext _) => True
  | _ => False
section
variable {P : Program} {w : World} {H : Hp} {h h' : Heap} {x e : Addr} {o' : HO}
theorem HOk.write (ok : HOk P w H h) (mu : Mut (H x)) (he : e = x ∨ H e = some (.own x)) (k : ∀ b u, b ≠ e → h.get? b = some u → h'.get? b = some u) (heo : ∃ u, h'.get? e = some u)
    (new : ObjOk P w (upd H x o') h' x o') : HOk P w (upd H x o') h' := fun b u q => by
  have nown : ∀ c y, H c = some (.own y) → c ≠ x := fun c y r z => by subst z; rw [r] at mu; exact mu
  have ntup : ∀ c xs, H c = some (.tup xs) → c ≠ x := fun c xs r z => by subst z; rw [r] at mu; exact mu
  by_cases hb : b = x
  · subst hb; rw [upd_same] at q; cases q; exact new
  · rw [upd_ne hb] at q
    by_cases hbe : b = e
    · have q' : H b = some (.own x) := by
        rcases he with z | z
        · exact absurd (hbe.trans z) hb
        · rw [hbe]; exact z
      rw [q] at q'; cases q'
      obtain ⟨v, hv⟩ := heo
      exact ⟨v, by rw [hbe]; exact hv⟩
    · refine (ok b u q).stay (fun c v hc r => k c v ?_ r) (fun c r => by rw [upd_ne (nown c b r)]; exact r) fun c xs r => by rw [upd_ne (ntup c xs r)]; exact r
      rcases hc with rfl | hc
      · exact hbe
      · rintro rfl
        rcases he with z | z
        · exact nown c b hc z
        · rw [hc] at z; cases z; exact hb rfl
end
structure Un (fs ex : List Addr) (H H' : Hp) (h h' : Heap) : Prop where
  keep : ∀ b o, h.get? b = some o → H b = none → b ∉ fs → b ∉ ex → h'.get? b = some o
  slot : ∀ b o, h.get? b = some o → H b = none → b ∈ fs → b ∉ ex → ∃ sl, h'.get? b = some { o with slots := sl }
  free : ∀ b o, h.get? b = some o → H b = none → b ∉ ex → H' b = none
  there : ∀ b o, h.get? b = some o → b ∉ ex → ∃ o', h'.get? b = some o'
  tups : ∀ b xs, H b = some (.tup xs) → H' b = some (.tup xs)
  frzs : ∀ b o u, H b = some (.frz o u) → H' b = some (.frz o u)
  tbls : ∀ b ps, H b = some (.tbl ps) → ∃ more, H' b = some (.tbl (ps ++ more))
section
variable {fs fs' ex ex' : List Addr} {H H1 H2 : Hp} {h h1 h2 h' : Heap} {a x e : Addr} {o : HO}
theorem Un.any (u : Un fs ex H H1 h h1) {b : Addr} {ob : Obj} (q : h.get? b = some ob) (n : H b = none) (hx : b ∉ ex) : ∃ sl, h1.get? b = some { ob with slots := sl } := by
  by_cases hb : b ∈ fs
  · exact u.slot b ob q n hb hx
  · exact ⟨ob.slots, u.keep b ob q n hb hx⟩
theorem Un.trans (a : Un fs ex H H1 h h1) (b : Un fs ex H1 H2 h1 h2) : Un fs ex H H2 h h2 where
  keep := fun c ob q n hc hx => b.keep c ob (a.keep c ob q n hc hx) (a.free c ob q n hx) hc hx
  slot := fun c ob q n hc hx => by
    obtain ⟨sl, e1⟩ := a.slot c ob q n hc hx
    obtain ⟨sl', e2⟩ := b.slot c _ e1 (a.free c ob q n hx) hc hx
    exact ⟨sl', e2⟩
  free := fun c ob q n hx => by
    obtain ⟨o', e1⟩ := a.there c ob q hx
    exact b.free c o' e1 (a.free c ob q n hx) hx
  there := fun c ob q hx => by
    obtain ⟨o', e1⟩ := a.there c ob q hx
    exact b.there c o' e1 hx
  tups := fun c xs q => b.tups c xs (a.tups c xs q)
  frzs := fun c ob xs q => b.frzs c ob xs (a.frzs c ob xs q)
  tbls := fun c ps q => by
    obtain ⟨m1, e1⟩ := a.tbls c ps q
    obtain ⟨m2, e2⟩ := b.tbls c _ e1
    exact ⟨m1 ++ m2, by rw [e2, Array.append_assoc]⟩
theorem Un.kept (k : ∀ b u, h.get? b = some u → h'.get? b = some u) : Un fs ex H H h h' :=
  ⟨fun b ob q _ _ _ => k b ob q, fun b ob q _ _ _ => ⟨ob.slots, k b ob q⟩, fun _ _ _ n _ => n, fun b ob q _ => ⟨ob, k b ob q⟩, fun _ _ q => q, fun _ _ _ q => q, fun _ ps q => ⟨#[], by rw [q]; simp⟩⟩
theorem Un.refl : Un fs ex H H h h := Un.kept fun _ _ q => q
theorem Un.laid (k : ∀ b u, h.get? b = some u → h'.get? b = some u) (hp : h.objs.size ≤ a) (hn : H a = none) : Un fs ex H (upd H a o) h h' where
  keep := fun b u q _ _ _ => k b u q
  slot := fun b u q _ _ _ => ⟨u.slots, k b u q⟩
  free := fun b u q n _ => by rw [upd_ne (Nat.ne_of_lt (Nat.lt_of_lt_of_le (Heap.lt_size q) hp))]; exact n
  there := fun b u q _ => ⟨u, k b u q⟩
  tups := fun b xs q => by rw [upd_ne (ne_of_none q hn)]; exact q
  frzs := fun b u xs q => by rw [upd_ne (ne_of_none q hn)]; exact q
  tbls := fun b ps q => ⟨#[], by rw [upd_ne (ne_of_none q hn), q]; simp⟩
theorem Un.write (mu : Mut (H x)) (he : e = x ∨ H e = some (.own x)) (k : ∀ b u, b ≠ e → h.get? b = some u → h'.get? b = some u) (heo : ∃ u, h'.get? e = some u) : Un fs ex H (upd H x o) h h' := by
  have hx : ∀ b, H b = none → b ≠ x := fun b n z => by subst z; rw [n] at mu; exact mu
  have hb : ∀ b, H b = none → b ≠ e := fun b n z => by
    subst z
    rcases he with r | r
    · exact hx b n r
    · rw [n] at r; cases r
  have hm : ∀ b u, H b = some u → ¬ Mut (some u) → b ≠ x := fun b u q nm z => by subst z; rw [q] at mu; exact nm mu
  refine ⟨fun b u q n _ _ => k b u (hb b n) q, fun b u q n _ _ => ⟨u.slots, k b u (hb b n) q⟩, fun b u q n _ => by rw [upd_ne (hx b n)]; exact n, fun b u q _ => ?_,
    fun b xs q => by rw [upd_ne (hm b _ q fun z => z)]; exact q, fun b u xs q => by rw [upd_ne (hm b _ q fun z => z)]; exact q, fun b ps q => ⟨#[], by rw [upd_ne (hm b _ q fun z => z), q]; simp⟩⟩
  by_cases hbe : b = e
  · subst hbe; exact heo
  · exact ⟨u, k b u hbe q⟩
theorem Un.mono (u : Un fs ex H H1 h h1) (hs : ∀ b ∈ fs, b ∈ fs') (hx : ∀ b ∈ ex, b ∈ ex') : Un fs' ex' H H1 h h1 :=
  ⟨fun b ob q n hb he => u.keep b ob q n (fun z => hb (hs b z)) fun z => he (hx b z), fun _ _ q n _ he => u.any q n fun z => he (hx _ z), fun b ob q n he => u.free b ob q n fun z => he (hx b z), fun b ob q he => u.there b ob q fun z => he (hx b z), u.tups, u.frzs, u.tbls⟩
end
def trk (h : Heap) (H : Hp) : List Addr := (List.range h.objs.size).filter fun a => (H a).isSome
def hidT (h : Heap) (H : Hp) : Heap := PySem.W.hideAll h (trk h H)
theorem hidT_size (h : Heap) (H : Hp) : (hidT h H).objs.size = h.objs.size := PySem.W.hideAll_size _ _
theorem hidT_get {h : Heap} {H : Hp} {b : Addr} {o : Obj} (e : h.get? b = some o) (n : H b = none) : (hidT h H).get? b = some o :=
  PySem.W.hideAll_get _ e fun hm => by
    have q : (H b).isSome = true := (List.mem_filter.mp hm).2
    rw [n] at q; simp at q
theorem of_hidT {h : Heap} {H : Hp} {b : Addr} {o : Obj} (e : (hidT h H).get? b = some o) : h.get? b = some o ∧ H b = none := by
  have e' : h.get? b = some o := PySem.W.of_hideAll (trk h H) e
  refine ⟨e', ?_⟩
  cases q : H b with
  | none => rfl
  | some x =>
    have hm : b ∈ trk h H := List.mem_filter.mpr ⟨List.mem_range.mpr (Heap.lt_size e'), by simp [q]⟩
    have z : (hidT h H).get? b = none := PySem.W.hideAll_none (trk h H) hm
    rw [z] at e; cases e
def allNews (g h : Heap) (L : Addr) : List (Addr × Obj) := (List.range h.objs.size).filterMap fun a => if a = L ∨ (g.get? a).isSome = true then none else (h.get? a).map fun o => (a, o)
def rest (g h : Heap) (L d : Addr) : List (Addr × Obj) := (allNews g h L).filter fun p => decide (p.1 ≠ d)
end L2
namespace L2
open PySem PySem.Spec PyProof.Rows
structure Mod (K : PySem.W.Frag) (mg : Str → Option Value) (base : Heap) : Prop where
  kin : K.In base
  glob : base.Ns mainGlobals mg
  blt : ∃ mb, base.Ns builtinsNs mb ∧ ∀ x : Str, x ≠ "__name__" → mb x = bootBuiltins x
  nolimit : base.NoLimit
structure Cx where
  prog : Program
  w : World
  K : PySem.W.Frag
  mg : Str → Option Value
  base : Heap
  A : Around
  N : List Str
  s_0 : Shared
  H_0 : Hp
  env : Env
  outer : List Env
  stack : List Env
  ex : List Addr
  fn : Str → Bool
  calm : Bool
  pn : List (Addr × Obj)
  xe : Value → Shared → Prop
def frs (l : List Env) : List Addr := l.filterMap (·.frame)
abbrev Cx.fs (X : Cx) : List Addr := frs X.outer
def Vis (sc : Scope) (x : Str) : Prop := sc.names.lookup x = some .local ∨ sc.names.lookup x = some .cell ∨ sc.names.lookup x = some .free
def Loc (sc : Scope) (x : Str) : Prop := sc.names.lookup x = some .local ∨ sc.names.lookup x = some .cell
def Look (env : Env) (h : Heap) (m : Str → Option Value) (x : Str) (u : Value) : Prop :=
  (env.kindOf x = some .local ∧ m x = some u) ∨ ((env.kindOf x = some .cell ∨ env.kindOf x = some .free) ∧ ∃ c, env.cells.lookup x = some c ∧ h.IsCell c (some u))
structure Cx.Ok (X : Cx) : Prop where
  mod : Mod X.K X.mg X.base
  kind : X.env.scope.kind = .function
  glob : X.env.globals = mainGlobals
  blt : X.env.builtins = builtinsNs
  above : X.s_0.heap.objs.size ≤ X.env.locals
  inj : ∀ x y c, X.env.cells.lookup x = some c → X.env.cells.lookup y = some c → x = y
  has : ∀ x, (X.env.kindOf x = some .cell ∨ X.env.kindOf x = some .free) → ∃ c, X.env.cells.lookup x = some c
  cab : ∀ x c, X.fn x = true → X.env.cells.lookup x = some c → X.s_0.heap.objs.size ≤ c
  hd : X.calm = true → X.A.handled = none
  frames : X.A.frames = some X.stack
  stk : X.stack = X.outer ∨ (X.stack = X.env :: X.outer ∧ X.env.frame = some X.env.locals)
  exf : ∀ b ∈ X.ex, b ≠ X.env.locals ∧ ∀ x c, X.env.cells.lookup x = some c → c ≠ b
  bs : ∀ b o, X.base.get? b = some o → X.s_0.heap.get? b = some o ∧ X.H_0 b = none
  bsz : X.base.objs.size ≤ X.s_0.heap.objs.size
  noex : ∀ b o, X.base.get? b = some o → b ∉ X.ex
  exfs : ∀ b ∈ X.ex, b ∉ X.fs
  funs : X.s_0.heap.FunFrames X.base X.outer
  frf : ∀ b ∈ X.fs, X.H_0 b = none
structure Inv (X : Cx) (pins : List (Addr × Obj)) (σ : List (Option V)) (H : Hp) (s : Shared) : Prop where
  ok : X.Ok
  os : s.os = X.s_0.os
  bare : AllBare s.gens
  base : Un X.fs X.ex X.H_0 H X.s_0.heap s.heap
  loc : ∃ m, s.heap.Ns X.env.locals m ∧ ∀ (i : Nat) (x : Str) (v : V), X.N[i]? = some x → σ[i]? = some (some v) → Vis X.env.scope x → ∃ u, RelV v u ∧ Look X.env s.heap m x u
  cell : ∀ x c, X.env.cells.lookup x = some c → ∃ v, s.heap.IsCell c v
  free : H X.env.locals = none
  freeC : ∀ x c, X.env.cells.lookup x = some c → H c = none
  pin : ∀ p ∈ X.pn ++ pins, s.heap.get? p.1 = some p.2 ∧ H p.1 = none ∧ p.1 ≠ X.env.locals ∧ p.1 ∉ X.fs ∧ ∀ v, p.2.data ≠ .cell v
  hok : HOk X.prog X.w H s.heap
  len : σ.length = X.N.length
section
variable {X : Cx} {pins : List (Addr × Obj)} {σ : List (Option V)} {H H' : Hp} {s : Shared} {h' : Heap}
theorem Cx.Ok.nofr (ok : X.Ok) {b : Addr} {o : Obj} (e : X.base.get? b = some o) : b ∉ X.fs := fun hb => by
  have := (ok.funs.mem hb).1
  rw [e] at this; cases this
theorem Inv.bs (I : Inv X pins σ H s) : ∀ b o, X.base.get? b = some o → s.heap.get? b = some o ∧ H b = none := fun b o e =>
  ⟨I.base.keep b o (I.ok.bs b o e).1 (I.ok.bs b o e).2 (I.ok.nofr e) (I.ok.noex b o e), I.base.free b o (I.ok.bs b o e).1 (I.ok.bs b o e).2 (I.ok.noex b o e)⟩
theorem Inv.bk (I : Inv X pins σ H s) : ∀ b o, X.base.get? b = some o → s.heap.get? b = some o := fun b o e => (I.bs b o e).1
theorem Inv.mod (I : Inv X pins σ H s) : Mod X.K X.mg X.base := I.ok.mod
theorem Inv.kIn (I : Inv X pins σ H s) : X.K.In s.heap := I.ok.mod.kin.keeps I.bk
theorem Inv.nolimit (I : Inv X pins σ H s) : s.heap.NoLimit := I.ok.mod.nolimit.keeps I.bk
theorem Inv.lt (I : Inv X pins σ H s) : X.env.locals < s.heap.objs.size := let ⟨_, hn, _⟩ := I.loc; hn.lt
theorem Inv.sz (I : Inv X pins σ H s) : X.s_0.heap.objs.size ≤ s.heap.objs.size := Nat.le_trans I.ok.above (Nat.le_of_lt I.lt)
theorem Inv.nofs (I : Inv X pins σ H s) {a : Addr} (h : s.heap.objs.size ≤ a) : a ∉ X.fs := fun hb => by
  obtain ⟨_, o, ho, _⟩ := I.ok.funs.mem hb
  exact absurd (Nat.lt_of_lt_of_le (Heap.lt_size ho) (Nat.le_trans I.sz h)) (Nat.lt_irrefl _)
theorem Inv.cne (I : Inv X pins σ H s) : ∀ x c, X.env.cells.lookup x = some c → c ≠ X.env.locals := fun x c e z => by
  obtain ⟨v, o, ho, hd⟩ := I.cell x c e
  obtain ⟨m, ⟨o', es, ep, ho', hd', _⟩, _⟩ := I.loc
  rw [z, ho'] at ho; cases ho; rw [hd'] at hd; cases hd
theorem Inv.funs (I : Inv X pins σ H s) : s.heap.FunFrames X.base X.outer := by
  have all : ∀ (l : List Env), (∀ b ∈ frs l, b ∈ X.fs) → X.s_0.heap.FunFrames X.base l → s.heap.FunFrames X.base l := by
    intro l
    induction l with
    | nil => intro _ _; trivial
    | cons env r ih =>
      intro hs hl
      obtain ⟨hk, ⟨L, o, hf, hn, ho, hd⟩, hr⟩ := hl
      have hL : L ∈ X.fs := hs L (by unfold frs; rw [List.filterMap_cons, hf]; exact List.mem_cons_self)
      obtain ⟨sl, e⟩ := I.base.slot L o ho (I.ok.frf L hL) hL fun z => I.ok.exfs L z hL
      exact ⟨hk, ⟨L, _, hf, hn, e, hd⟩, ih (fun b hb => hs b (by unfold frs; rw [List.filterMap_cons, hf]; exact List.mem_cons_of_mem _ hb)) hr⟩
  exact all X.outer (fun _ hb => hb) I.ok.funs
theorem Inv.stack (I : Inv X pins σ H s) : s.heap.FunFrames X.base X.stack := by
  rcases I.ok.stk with e | ⟨e, hf⟩
  · rw [e]; exact I.funs
  · rw [e]
    obtain ⟨m, hn, _⟩ := I.loc
    refine .cons (by rw [I.ok.kind]; decide) hf hn ?_ I.funs
    exact Heap.get?_none_of_le (Nat.le_trans I.ok.bsz I.ok.above)
theorem Inv.stkSub (I : Inv X pins σ H s) : ∀ b ∈ frs X.stack, b ∈ X.env.locals :: X.fs := fun b hb => by
  rcases I.ok.stk with e | ⟨e, hf⟩
  · rw [e] at hb; exact List.mem_cons_of_mem _ hb
  · rw [e] at hb
    unfold frs at hb
    rw [List.filterMap_cons, hf] at hb
    exact hb
theorem Inv.stkFree (I : Inv X pins σ H s) : ∀ b ∈ frs X.stack, H b = none := fun b hb => by
  rcases List.mem_cons.mp (I.stkSub b hb) with e | hb
  · rw [e]; exact I.free
  · obtain ⟨_, o, ho, _⟩ := I.ok.funs.mem hb
    exact I.base.free b o ho (I.ok.frf b hb) fun z => I.ok.exfs b z hb
theorem Inv.step {g' : Array GenState} {t' : Nat} {d' : Drawn} {ch : List Addr} (I : Inv X pins σ H s)
    (hch : ∀ b ∈ ch, (b ∈ X.ex ∨ X.s_0.heap.objs.size ≤ b) ∧ b ≠ X.env.locals ∧ (∀ x c, X.env.cells.lookup x = some c → c ≠ b) ∧ ∀ p ∈ X.pn ++ pins, p.1 ≠ b)
    (keep : ∀ b o, b ≠ X.env.locals → b ∉ X.fs → b ∉ ch → s.heap.get? b = some o → H b = none → h'.get? b = some o)
    (slot : ∀ b o, b ≠ X.env.locals → b ∈ X.fs → b ∉ ch → s.heap.get? b = some o → H b = none → ∃ sl, h'.get? b = some { o with slots := sl }) (free : ∀ b o, b ∉ ch → s.heap.get? b = some o → H b = none → H' b = none)
    (there : ∀ b o, b ∉ ch → s.heap.get? b = some o → ∃ o', h'.get? b = some o')
    (tups : ∀ b xs, H b = some (.tup xs) → H' b = some (.tup xs)) (frzs : ∀ b o u, H b = some (.frz o u) → H' b = some (.frz o u)) (tbls : ∀ b ps, H b = some (.tbl ps) → ∃ more, H' b = some (.tbl (ps ++ more)))
    (ns : ∀ m, s.heap.Ns X.env.locals m → h'.Ns X.env.locals m) (hok : HOk X.prog X.w H' h') (hg : AllBare g') :
    Inv X pins σ H' { s with heap := h', gens := g', drawn := d', toks := t' } := by
  have neL : ∀ b o, X.s_0.heap.get? b = some o → b ≠ X.env.locals := fun b o e => Nat.ne_of_lt (Nat.lt_of_lt_of_le (Heap.lt_size e) I.ok.above)
  have neC : ∀ b o, X.s_0.heap.get? b = some o → b ∉ X.ex → b ∉ ch := fun b o e hx hb => by
    rcases (hch b hb).1 with z | z
    · exact hx z
    · exact absurd (Nat.lt_of_lt_of_le (Heap.lt_size e) z) (Nat.lt_irrefl _)
  have cellK : ∀ x c, X.env.cells.lookup x = some c → ∀ v, s.heap.IsCell c v → h'.IsCell c v := fun x c e v ⟨o, ho, hd⟩ => by
    have nch : c ∉ ch := fun z => (hch c z).2.2.1 x c e rfl
    by_cases hc : c ∈ X.fs
    · obtain ⟨sl, q⟩ := slot c o (I.cne x c e) hc nch ho (I.freeC x c e)
      exact ⟨_, q, hd⟩
    · exact ⟨o, keep c o (I.cne x c e) hc nch ho (I.freeC x c e), hd⟩
  refine ⟨I.ok, I.os, hg, ⟨fun b o e n hb hx => ?_, fun b o e n hb hx => ?_, fun b o e n hx => ?_, fun b o e hx => ?_, fun b xs e => tups b xs (I.base.tups b xs e), fun b o xs e => frzs b o xs (I.base.frzs b o xs e), fun b ps e => ?_⟩, ?_, fun x c e => ?_, ?_, fun x c e => ?_, fun p hp => ?_, hok, I.len⟩
  · exact keep b o (neL b o e) hb (neC b o e hx) (I.base.keep b o e n hb hx) (I.base.free b o e n hx)
  · obtain ⟨sl, e1⟩ := I.base.slot b o e n hb hx
    obtain ⟨sl', e2⟩ := slot b _ (neL b o e) hb (neC b o e hx) e1 (I.base.free b o e n hx)
    exact ⟨sl', e2⟩
  · obtain ⟨o', e1⟩ := I.base.there b o e hx
    exact free b o' (neC b o e hx) e1 (I.base.free b o e n hx)
  · obtain ⟨o', e1⟩ := I.base.there b o e hx
    exact there b o' (neC b o e hx) e1
  · obtain ⟨m1, e1⟩ := I.base.tbls b ps e
    obtain ⟨m2, e2⟩ := tbls b _ e1
    exact ⟨m1 ++ m2, by rw [e2, Array.append_assoc]⟩
  · obtain ⟨m, hn, hl⟩ := I.loc
    refine ⟨m, ns m hn, fun i x v e1 e2 e3 => ?_⟩
    obtain ⟨u, r, l⟩ := hl i x v e1 e2 e3
    refine ⟨u, r, ?_⟩
    rcases l with l | ⟨k, c, e, z⟩
    · exact .inl l
    · exact .inr ⟨k, c, e, cellK x c e _ z⟩
  · obtain ⟨v, z⟩ := I.cell x c e
    exact ⟨v, cellK x c e v z⟩
  · obtain ⟨m, ⟨o, _, _, ho, _⟩, _⟩ := I.loc
    exact free _ o (fun z => (hch _ z).2.1 rfl) ho I.free
  · obtain ⟨v, o, ho, hd⟩ := I.cell x c e
    exact free c o (fun z => (hch c z).2.2.1 x c e rfl) ho (I.freeC x c e)
  · obtain ⟨e, n, ne, nf, d⟩ := I.pin p hp
    have nch : p.1 ∉ ch := fun z => (hch p.1 z).2.2.2 p hp rfl
    exact ⟨keep p.1 p.2 ne nf nch e n, free p.1 p.2 nch e n, ne, nf, d⟩
theorem Inv.un {t' : Nat} (I : Inv X pins σ H s) (u : Un X.fs [] H H' s.heap h') (hok : HOk X.prog X.w H' h') : Inv X pins σ H' { s with heap := h', toks := t' } := by
  obtain ⟨m, ⟨o, es, ep, ho, r⟩, _⟩ := id I.loc
  obtain ⟨sl, hL⟩ := u.any ho I.free (by simp)
  exact I.step (g' := s.gens) (d' := s.drawn) (ch := []) (fun _ z => nomatch z) (fun b o _ hb _ e n => u.keep b o e n hb (by simp)) (fun b o _ hb _ e n => u.slot b o e n hb (by simp)) (fun b o _ e n => u.free b o e n (by simp)) (fun b o _ e => u.there b o e (by simp)) u.tups u.frzs u.tbls (fun m' hm => by
    obtain ⟨o', es', ep', ho', r'⟩ := hm
    rw [ho] at ho'; cases ho'
    exact ⟨_, es', ep', hL, r'⟩) hok I.bare
theorem Inv.call {g' : Array GenState} {t' : Nat} {d' : Drawn} {ch : List Addr} (I : Inv X pins σ H s) (u : Un (frs X.stack) ch H H' s.heap h') (hok : HOk X.prog X.w H' h') (hg : AllBare g')
    (hch : ∀ b ∈ ch, (b ∈ X.ex ∨ X.s_0.heap.objs.size ≤ b) ∧ b ≠ X.env.locals ∧ (∀ x c, X.env.cells.lookup x = some c → c ≠ b) ∧ ∀ p ∈ X.pn ++ pins, p.1 ≠ b) :
    Inv X pins σ H' { s with heap := h', gens := g', drawn := d', toks := t' } := by
  obtain ⟨m, ⟨o, es, ep, ho, r⟩, _⟩ := id I.loc
  obtain ⟨sl, hL⟩ := u.any ho I.free fun z => (hch _ z).2.1 rfl
  exact I.step (ch := ch) hch (fun b o hL hb hc e n => u.keep b o e n (fun z => (List.mem_cons.mp (I.stkSub b z)).elim hL hb) hc) (fun b o _ _ hc e n => u.any e n hc) (fun b o hc e n => u.free b o e n hc) (fun b o hc e => u.there b o e hc) u.tups u.frzs u.tbls (fun m' hm => by
    obtain ⟨o', es', ep', ho', r'⟩ := hm
    rw [ho] at ho'; cases ho'
    exact ⟨_, es', ep', hL, r'⟩) hok hg
theorem Inv.turned {t' : Nat} {it : Addr} (I : Inv X pins σ H s) (k : ∀ b o, b ≠ it → s.heap.get? b = some o → h'.get? b = some o) (hn : H it = none) (hL : it ≠ X.env.locals)
    (h1 : it ∈ X.ex ∨ X.s_0.heap.objs.size ≤ it) (h2 : ∀ x c, X.env.cells.lookup x = some c → c ≠ it) (h3 : ∀ p ∈ X.pn ++ pins, p.1 ≠ it) : Inv X pins σ H { s with heap := h', toks := t' } := by
  have nit : ∀ b u, H b = some u → b ≠ it := fun b u e z => by rw [z, hn] at e; cases e
  refine I.step (g' := s.gens) (d' := s.drawn) (ch := [it]) (fun b hb => ?_) (fun b o _ _ hc e _ => k b o (fun z => hc (by simp [z])) e) (fun b o _ _ hc e _ => ⟨o.slots, k b o (fun z => hc (by simp [z])) e⟩) (fun _ _ _ _ n => n)
    (fun b o hc e => ⟨o, k b o (fun z => hc (by simp [z])) e⟩) (fun _ _ e => e) (fun _ _ _ e => e) (fun b ps e => ⟨#[], by rw [e]; simp⟩) (fun m hm => ?_) (fun b u e => ?_) I.bare
  · have e : b = it := by simpa using hb
    subst e
    exact ⟨h1, hL, h2, h3⟩
  · obtain ⟨o, es, ep, ho, r⟩ := hm
    exact ⟨o, es, ep, k _ o (Ne.symm hL) ho, r⟩
  · refine (I.hok b u e).stay (fun c v hc q => k c v ?_ q) (fun _ q => q) fun _ _ q => q
    rcases hc with z | z
    · rw [z]; exact nit b u e
    · exact nit c _ z
theorem Inv.tok (I : Inv X pins σ H s) (t : Nat) : Inv X pins σ H { s with toks := t } := I.un (h' := s.heap) (t' := t) Un.refl I.hok
theorem Inv.kept {t' : Nat} (I : Inv X pins σ H s) (k : ∀ b u, s.heap.get? b = some u → h'.get? b = some u) : Inv X pins σ H { s with heap := h', toks := t' } := I.un (Un.kept k) (I.hok.kept k)
theorem Inv.laid {a : Addr} {o : HO} {t' : Nat} (I : Inv X pins σ H s) (k : ∀ b u, s.heap.get? b = some u → h'.get? b = some u) (hp : s.heap.objs.size ≤ a) (new : ObjOk X.prog X.w (upd H a o) h' a o) :
    Inv X pins σ (upd H a o) { s with heap := h', toks := t' } := I.un (Un.laid k hp (I.hok.fresh hp)) (I.hok.laid k hp new)
theorem Inv.write {x e : Addr} {o : HO} {t' : Nat} (I : Inv X pins σ H s) (mu : Mut (H x)) (he : e = x ∨ H e = some (.own x)) (k : ∀ b u, b ≠ e → s.heap.get? b = some u → h'.get? b = some u) (heo : ∃ u, h'.get? e = some u)
    (new : ObjOk X.prog X.w (upd H x o) h' x o) : Inv X pins σ (upd H x o) { s with heap := h', toks := t' } := I.un (Un.write mu he k heo) (I.hok.write mu he k heo new)
theorem Inv.weak {σ' : List (Option V)} (I : Inv X pins σ H s) (hl : σ'.length = σ.length) (w : ∀ (i : Nat) v, σ'[i]? = some (some v) → σ[i]? = some (some v)) : Inv X pins σ' H s :=
  ⟨I.ok, I.os, I.bare, I.base, let ⟨m, hn, hl'⟩ := I.loc; ⟨m, hn, fun i x v e1 e2 e3 => hl' i x v e1 (w i v e2) e3⟩, I.cell, I.free, I.freeC, I.pin, I.hok, hl.trans I.len⟩
theorem Inv.pins_of {pins' : List (Addr × Obj)} (I : Inv X pins σ H s) (h : ∀ p ∈ pins', s.heap.get? p.1 = some p.2 ∧ H p.1 = none ∧ p.1 ≠ X.env.locals ∧ p.1 ∉ X.fs ∧ ∀ v, p.2.data ≠ .cell v) : Inv X pins' σ H s :=
  ⟨I.ok, I.os, I.bare, I.base, I.loc, I.cell, I.free, I.freeC, fun p hp => (List.mem_append.mp hp).elim (fun z => I.pin p (List.mem_append_left _ z)) (h p), I.hok, I.len⟩
theorem nodup_ix {N : List Str} (hN : N.Nodup) {i j : Nat} {x : Str} (a : N[i]? = some x) (b : N[j]? = some x) : i = j := by
  obtain ⟨h1, e1⟩ := List.getElem?_eq_some_iff.mp a
  obtain ⟨h2, e2⟩ := List.getElem?_eq_some_iff.mp b
  exact (List.getElem_inj hN).mp (e1.trans e2.symm)
theorem store_ok2 {M : Model} {A : Around} {E : Value → Shared → Prop} {i : Nat} {x : Str} {v : V} {u : Value} {Q : Unit → Shared → Prop} (I : Inv X pins σ H s) (hN : X.N.Nodup) (hi : X.N[i]? = some x) (hx : Loc X.env.scope x) (r : RelV v u)
    (h : ∀ s', Inv X pins (σ.set i (some v)) H s' → (∃ a, Heap.SameBut a s.heap s'.heap ∧ (a = X.env.locals ∨ X.env.cells.lookup x = some a)) → Q () s') (hf : X.fn x = true ∨ X.env.scope.names.lookup x = some .local := by first | exact .inl rfl | exact .inr rfl | assumption) : wpAny M A (storeName X.env x u) Q E s := by
  obtain ⟨m, hn, hl⟩ := id I.loc
  have hcls : (X.env.scope.kind == .class || (X.env.scope.kind == .module && X.env.locals != X.env.globals)) = false := by rw [I.ok.kind]; rfl
  have hiσ : i < σ.length := by rw [I.len]; exact (List.getElem?_eq_some_iff.mp hi).1
  have cne := I.cne
  have tracked : ∀ {a : Addr} {h' : Heap}, (∃ o, s.heap.get? a = some o ∧ H a = none) → Heap.SameBut a s.heap h' → HOk X.prog X.w H h' := fun {a h'} ha hs b ob e => by
    obtain ⟨_, _, hfree⟩ := ha
    refine (I.hok b ob e).stay (fun c w' hc q => (hs.2 c ?_).trans q) (fun _ q => q) fun _ _ q => q
    rintro rfl
    rcases hc with rfl | hc
    · rw [hfree] at e; cases e
    · rw [hfree] at hc; cases hc
  rcases hx with hk | hk
  · refine wpAny_storeName_local hk hn (fun h' hn' hs => ?_) hcls
    obtain ⟨oL, _, _, hoL, _⟩ := id hn
    refine h _ ⟨I.ok, I.os, I.bare, ⟨fun b o e n hb hx => ?_, fun b o e n hb hx => ?_, I.base.free, fun b o e hx => ?_, I.base.tups, I.base.frzs, I.base.tbls⟩, ⟨_, hn', fun j y v' e1 e2 e3 => ?_⟩, fun y c e => ?_, I.free, I.freeC, fun p hp => ?_, tracked ⟨oL, hoL, I.free⟩ hs, by simpa using I.len⟩ ⟨_, hs, .inl rfl⟩
    · exact (hs.2 b (Nat.ne_of_lt (Nat.lt_of_lt_of_le (Heap.lt_size e) I.ok.above))).trans (I.base.keep b o e n hb hx)
    · obtain ⟨sl, e1⟩ := I.base.slot b o e n hb hx
      exact ⟨sl, (hs.2 b (Nat.ne_of_lt (Nat.lt_of_lt_of_le (Heap.lt_size e) I.ok.above))).trans e1⟩
    · obtain ⟨o', e1⟩ := I.base.there b o e hx
      exact ⟨o', (hs.2 b (Nat.ne_of_lt (Nat.lt_of_lt_of_le (Heap.lt_size e) I.ok.above))).trans e1⟩
    · by_cases hj : j = i
      · subst hj
        rw [hi] at e1; cases e1
        rw [List.getElem?_set_self hiσ] at e2
        cases e2
        exact ⟨u, r, .inl ⟨hk, by simp⟩⟩
      · rw [List.getElem?_set_ne (Ne.symm hj)] at e2
        obtain ⟨u', r', q⟩ := hl j y v' e1 e2 e3
        refine ⟨u', r', ?_⟩
        rcases q with ⟨k, e⟩ | ⟨k, c, e, z⟩
        · refine .inl ⟨k, ?_⟩
          have : y ≠ x := fun e => hj (nodup_ix hN e1 (e ▸ hi))
          simp [this, e]
        · exact .inr ⟨k, c, e, z.sameBut hs (cne y c e)⟩
    · obtain ⟨w', z⟩ := I.cell y c e
      exact ⟨w', z.sameBut hs (cne y c e)⟩
    · obtain ⟨e, n, ne, nf, d⟩ := I.pin p hp
      exact ⟨(hs.2 p.1 ne).trans e, n, ne, nf, d⟩
  · have hfn : X.fn x = true := by
      rcases hf with z | z
      · exact z
      · rw [z] at hk; cases hk
    obtain ⟨c, hc⟩ := I.ok.has x (.inl hk)
    obtain ⟨w', z⟩ := I.cell x c hc
    refine wpAny_storeName_cell I.ok.kind hk hc z (fun h' hc' hs => ?_)
    obtain ⟨oc, hoc, hocd⟩ := id z
    refine h { s with heap := h' } ⟨I.ok, I.os, I.bare, ⟨fun b o e n hb hx => ?_, fun b o e n hb hx => ?_, I.base.free, fun b o e hx => ?_, I.base.tups, I.base.frzs, I.base.tbls⟩, ⟨m, hn.sameBut hs (Ne.symm (cne x c hc)), fun j y v' e1 e2 e3 => ?_⟩, fun y c' e => ?_, I.free, I.freeC, fun p hp => ?_, tracked ⟨oc, hoc, I.freeC x c hc⟩ hs, by simpa using I.len⟩ ⟨c, hs, .inr hc⟩
    · exact (hs.2 b (Nat.ne_of_lt (Nat.lt_of_lt_of_le (Heap.lt_size e) (I.ok.cab x c hfn hc)))).trans (I.base.keep b o e n hb hx)
    · obtain ⟨sl, e1⟩ := I.base.slot b o e n hb hx
      exact ⟨sl, (hs.2 b (Nat.ne_of_lt (Nat.lt_of_lt_of_le (Heap.lt_size e) (I.ok.cab x c hfn hc)))).trans e1⟩
    · obtain ⟨o', e1⟩ := I.base.there b o e hx
      exact ⟨o', (hs.2 b (Nat.ne_of_lt (Nat.lt_of_lt_of_le (Heap.lt_size e) (I.ok.cab x c hfn hc)))).trans e1⟩
    · by_cases hj : j = i
      · subst hj
        rw [hi] at e1; cases e1
        rw [List.getElem?_set_self hiσ] at e2
        cases e2
        exact ⟨u, r, .inr ⟨.inl hk, c, hc, hc'⟩⟩
      · rw [List.getElem?_set_ne (Ne.symm hj)] at e2
        obtain ⟨u', r', q⟩ := hl j y v' e1 e2 e3
        refine ⟨u', r', ?_⟩
        rcases q with q | ⟨k, c', e, z'⟩
        · exact .inl q
        · refine .inr ⟨k, c', e, z'.sameBut hs ?_⟩
          rintro rfl
          exact hj (nodup_ix hN e1 (I.ok.inj _ _ _ e hc ▸ hi))
    · by_cases hcc : c' = c
      · subst hcc; exact ⟨_, hc'⟩
      · obtain ⟨w2, z2⟩ := I.cell y c' e
        exact ⟨w2, z2.sameBut hs hcc⟩
    · obtain ⟨e, n, ne, nf, d⟩ := I.pin p hp
      refine ⟨(hs.2 p.1 ?_).trans e, n, ne, nf, d⟩
      intro q
      rw [q, hoc] at e
      have q' : oc = p.2 := Option.some.inj e
      exact d w' (by rw [← q']; exact hocd)
theorem store_ok {M : Model} {A : Around} {E : Value → Shared → Prop} {i : Nat} {x : Str} {v : V} {u : Value} {Q : Unit → Shared → Prop} (I : Inv X pins σ H s) (hN : X.N.Nodup) (hi : X.N[i]? = some x) (hx : Loc X.env.scope x) (r : RelV v u)
    (h : ∀ s', Inv X pins (σ.set i (some v)) H s' → Q () s') (hf : X.fn x = true ∨ X.env.scope.names.lookup x = some .local := by first | exact .inl rfl | exact .inr rfl | assumption) : wpAny M A (storeName X.env x u) Q E s :=
  store_ok2 I hN hi hx r (fun s' I' _ => h s' I') hf
theorem Inv.call' {s' : Shared} {ch : List Addr} (I : Inv X pins σ H s) (ho : s'.os = s.os) (u : Un (frs X.stack) ch H H' s.heap s'.heap) (hok : HOk X.prog X.w H' s'.heap) (hg : AllBare s'.gens)
    (hch : ∀ b ∈ ch, (b ∈ X.ex ∨ X.s_0.heap.objs.size ≤ b) ∧ b ≠ X.env.locals ∧ (∀ x c, X.env.cells.lookup x = some c → c ≠ b) ∧ ∀ p ∈ X.pn ++ pins, p.1 ≠ b) : Inv X pins σ H' s' := by
  obtain ⟨h', g', d', t', o'⟩ := s'
  have e : o' = s.os := ho
  subst e
  exact I.call (g' := g') (t' := t') (d' := d') u hok hg hch
end
abbrev XK := Value → Option Addr → Hp → Prop
abbrev St := List (Option V)
abbrev VK := V → Hp → Prop
abbrev TE := St → Hp → VK → Prop
abbrev TT := St → Hp → (Bool → Hp → Prop) → Prop
abbrev TA := St → Hp → (List V → Hp → Prop) → Prop
structure Ends where
  nx : St → Hp → Prop
  rt : VK
  bk : St → Hp → Prop := fun _ _ => False
  ct : St → Hp → Prop := fun _ _ => False
abbrev TS := Ends → St → Hp → Prop
def EP (X : Cx) (pins : List (Addr × Obj)) (σ : St) (Q : VK) (u : Value) (s' : Shared) : Prop := ∃ v H', Inv X pins σ H' s' ∧ RelV v u ∧ Q v H'
def TP (X : Cx) (pins : List (Addr × Obj)) (σ : St) (Q : Bool → Hp → Prop) (b : Bool) (s' : Shared) : Prop := ∃ H', Inv X pins σ H' s' ∧ Q b H'
def AP (X : Cx) (pins : List (Addr × Obj)) (σ : St) (Q : List V → Hp → Prop) (us : List Value) (s' : Shared) : Prop := ∃ vs H', Inv X pins σ H' s' ∧ Vals vs us ∧ Q vs H'
def SP (X : Cx) (pins : List (Addr × Obj)) (D : Ends) (f : Flow) (s' : Shared) : Prop :=
  match f with
  | .next => ∃ σ' H', Inv X pins σ' H' s' ∧ D.nx σ' H'
  | .brk => ∃ σ' H', Inv X pins σ' H' s' ∧ D.bk σ' H'
  | .cont => ∃ σ' H', Inv X pins σ' H' s' ∧ D.ct σ' H'
  | .ret u => ∃ v σ' H', Inv X pins σ' H' s' ∧ RelV v u ∧ D.rt v H'
def PE (X : Cx) (e : Expr) (t : TE) : Prop :=
  ∀ (pins : List (Addr × Obj)) (s : Shared) (σ : St) (H : Hp) (Q : VK), Inv X pins σ H s → t σ H Q → wpAny (model X.prog X.w) X.A (eval e X.env) (EP X pins σ Q) X.xe s
def PT (X : Cx) (e : Expr) (t : TT) : Prop :=
  ∀ (pins : List (Addr × Obj)) (s : Shared) (σ : St) (H : Hp) (Q : Bool → Hp → Prop), Inv X pins σ H s → t σ H Q → wpAny (model X.prog X.w) X.A (isTrue e X.env (eval e X.env)) (TP X pins σ Q) X.xe s
def PW (X : Cx) (e : Expr) (t : TT) : Prop :=
  ∀ (whole : Sem Value) (pins : List (Addr × Obj)) (s : Shared) (σ : St) (H : Hp) (Q : Bool → Hp → Prop), Inv X pins σ H s → t σ H Q → wpAny (model X.prog X.w) X.A (isTrue e X.env whole) (TP X pins σ Q) X.xe s
theorem PW.pt {X : Cx} {e : Expr} {t : TT} (h : PW X e t) : PT X e t := h _
def PA (X : Cx) (es : List Expr) (t : TA) : Prop :=
  ∀ (pos : Pos) (pins : List (Addr × Obj)) (s : Shared) (σ : St) (H : Hp) (Q : List V → Hp → Prop), Inv X pins σ H s → t σ H Q → wpAny (model X.prog X.w) X.A (spliced (backTo pos (starEach es X.env))) (AP X pins σ Q) X.xe s
def PS (X : Cx) (st : Stmt) (t : TS) : Prop :=
  ∀ (pins : List (Addr × Obj)) (s : Shared) (σ : St) (H : Hp) (D : Ends), Inv X pins σ H s → t D σ H → wpAny (model X.prog X.w) X.A (exec st X.env) (SP X pins D) X.xe s
def PSs (X : Cx) (st : List Stmt) (t : TS) : Prop :=
  ∀ (pins : List (Addr × Obj)) (s : Shared) (σ : St) (H : Hp) (D : Ends), Inv X pins σ H s → t D σ H → wpAny (model X.prog X.w) X.A (execs st X.env) (SP X pins D) X.xe s
theorem thn {α : Type} {t : Sem α} {Q Q' : α → Shared → Prop} {M : Model} {A : Around} {E : Value → Shared → Prop} {s : Shared} (h : wpAny M A t Q E s) (hQ : ∀ a s, Q a s → Q' a s) : wpAny M A t Q' E s := wpAny_mono h hQ fun _ _ x => x
end L2
namespace L2
open PySem PySem.Spec PyProof.Rows
section
variable {X : Cx}
def tVar (i : Nat) : TE := fun σ H Q => ∃ v, σ[i]? = some (some v) ∧ Q v H
def tC (v : V) : TE := fun _ H Q => Q v H
theorem pe_var {i : Nat} {x : Str} {pos : Pos} (hN : X.N[i]? = some x) (hv : Vis X.env.scope x) (hd : (x == ("__debug__" : Str)) = false := by decide) (hcd : (x == ("__classdict__" : Str)) = false := by decide) : PE X (.Name x pos) (tVar i) := by
  intro pins s σ H Q I h
  obtain ⟨v, e, h⟩ := h
  obtain ⟨m, hn, hl⟩ := I.loc
  obtain ⟨u, r, l⟩ := hl i x v hN e hv
  have fin : EP X pins σ Q u s := ⟨v, H, I, r, h⟩
  rcases l with ⟨hk, hm⟩ | ⟨hk, c, hc, hcell⟩
  · exact wpAny_Name (wpAny_loadName_local I.ok.kind hk hn hm fin) hd
  · rcases hk with hk | hk
    · exact wpAny_Name (wpAny_loadName_cell I.ok.kind hk hc hcell fin) hd
    · exact wpAny_Name (wpAny_loadName_free I.ok.kind hk hc hcell fin hcd) hd
theorem pe_int {i j pos} : PE X (.Constant (.int i) j pos) (tC (.int i)) := fun _ _ _ H _ I h => wpAny_Constant_int ⟨.int i, H, I.tok _, ⟨_, rfl⟩, h⟩
theorem pe_bl {b j pos} : PE X (.Constant (.bool b) j pos) (tC (.bl b)) := fun _ _ _ H _ I h => Constant_bool ⟨.bl b, H, I, rfl, h⟩
theorem pe_non {j pos} : PE X (.Constant .none j pos) (tC .non) := fun _ _ _ H _ I h => Constant_none ⟨.non, H, I, rfl, h⟩
theorem pe_str {x j pos} : PE X (.Constant (.str x) j pos) (tC (.str x)) := fun _ _ _ H _ I h => Calls.Constant_str ⟨.str x, H, I.tok _, ⟨_, rfl⟩, h⟩
def Gl (X : Cx) (x : Str) : Prop := X.env.kindOf x = some .globalImplicit
theorem ld_glob {E : Value → Shared → Prop} {pins : List (Addr × Obj)} {s : Shared} {σ : St} {H : Hp} {x : Str} {u : Value} {pos : Pos} {Q : Value → Shared → Prop} (I : Inv X pins σ H s) (hg : Gl X x) (hm : X.mg x = some u) (h : Q u s)
    (hd : (x == ("__debug__" : Str)) = false := by decide) : wpAny (model X.prog X.w) X.A (eval (.Name x pos) X.env) Q E s :=
  Calls.Name_function_global I.ok.kind hg (Calls.loadGlobal_global (by rw [I.ok.glob]; exact I.mod.glob.keeps I.bk) hm h) hd
theorem ld_blt {E : Value → Shared → Prop} {pins : List (Addr × Obj)} {s : Shared} {σ : St} {H : Hp} {x : Str} {u : Value} {pos : Pos} {Q : Value → Shared → Prop} (I : Inv X pins σ H s) (hg : Gl X x) (hm : X.mg x = none) (hv : bootBuiltins x = some u) (h : Q u s)
    (hn : x ≠ "__name__" := by decide) (hd : (x == ("__debug__" : Str)) = false := by decide) : wpAny (model X.prog X.w) X.A (eval (.Name x pos) X.env) Q E s := by
  obtain ⟨mb, h1, h2⟩ := I.mod.blt
  exact Calls.Name_function_global I.ok.kind hg (Calls.loadGlobal_builtin (by rw [I.ok.glob]; exact I.mod.glob.keeps I.bk) hm (by rw [I.ok.blt]; exact h1.keeps I.bk) ((h2 x hn).trans hv) h) hd
theorem pe_glob {x : Str} {v : V} {u : Value} {pos : Pos} (hg : Gl X x) (hm : X.mg x = some u) (r : RelV v u) (hd : (x == ("__debug__" : Str)) = false := by decide) : PE X (.Name x pos) (tC v) :=
  fun _ _ _ H _ I h => ld_glob I hg hm ⟨v, H, I, r, h⟩ hd
theorem pe_bltn {x : Str} {v : V} {u : Value} {pos : Pos} (hg : Gl X x) (hm : X.mg x = none) (hv : bootBuiltins x = some u) (r : RelV v u) (hn : x ≠ "__name__" := by decide) (hd : (x == ("__debug__" : Str)) = false := by decide) : PE X (.Name x pos) (tC v) :=
  fun _ _ _ H _ I h => ld_blt I hg hm hv ⟨v, H, I, r, h⟩ hn hd
variable {a b : Expr} {ta tb : TE} {pos : Pos}
def PC (X : Cx) (op : CmpOp) (a b : Expr) (t : TE) : Prop :=
  ∀ (pins : List (Addr × Obj)) (s : Shared) (σ : St) (H : Hp) (Q : VK), Inv X pins σ H s → t σ H Q →
    wpAny (model X.prog X.w) X.A (eval a X.env) (fun v s₁ => wpAny (model X.prog X.w) X.A (eval b X.env) (fun u s₂ => wpAny (model X.prog X.w) X.A (compareOp op v u) (EP X pins σ Q) X.xe s₂) X.xe s₁) X.xe s
theorem nobehind (b : Expr) {op : CmpOp} (h : op ≠ .In) (h2 : op ≠ .NotIn) : behindInMarks op b = false := by
  have e1 : (op == CmpOp.In) = false := by cases op <;> first | rfl | exact absurd rfl h
  have e2 : (op == CmpOp.NotIn) = false := by cases op <;> first | rfl | exact absurd rfl h2
  cases b <;> simp [behindInMarks, e1, e2]
def tIsN (ta : TE) : TE := fun σ H Q => ta σ H fun x H1 => Q (.bl (decide (x = .non))) H1
def tNotN (ta : TE) : TE := fun σ H Q => ta σ H fun x H1 => Q (.bl (!decide (x = .non))) H1
theorem RelV.none_iff {x : V} {v : Value} (r : RelV x v) : (v == Value.none) = decide (x = .non) := by
  cases x with
  | non => cases r; rfl
  | bl _ => cases r; rfl
  | int _ => obtain ⟨t, rfl⟩ := r; rfl
  | str _ => obtain ⟨t, rfl⟩ := r; rfl
  | byt _ => obtain ⟨t, rfl⟩ := r; rfl
  | flt _ => obtain ⟨t, rfl⟩ := r; rfl
  | ref _ => cases r; rfl
  | ty _ => cases r; rfl
theorem pc_isN {j pos'} (ha : PE X a ta) : PC X .Is a (.Constant .none j pos') (tIsN ta) := by
  intro pins s σ H Q I h
  refine thn (ha pins s σ H _ I h) fun v s1 ⟨x, H1, I1, r1, q1⟩ => ?_
  exact Constant_none (is_none_gen ⟨.bl _, H1, I1, by rw [r1.none_iff]; rfl, q1⟩)
theorem pc_notN {j pos'} (ha : PE X a ta) : PC X .IsNot a (.Constant .none j pos') (tNotN ta) := by
  intro pins s σ H Q I h
  refine thn (ha pins s σ H _ I h) fun v s1 ⟨x, H1, I1, r1, q1⟩ => ?_
  exact Constant_none (isnot_none_gen ⟨.bl _, H1, I1, by rw [r1.none_iff]; rfl, q1⟩)
def tB (t : TE) : TT := fun σ H Q => t σ H fun x H1 => ∃ c, x = .bl c ∧ Q c H1
theorem pe_cmp {op : CmpOp} {t : TE} (h : PC X op a b t) (h1 : behindInMarks op b = false := by first | exact nobehind _ (by decide) (by decide) | rfl) : PE X (.Compare a [op] [b] pos) t := fun pins s σ H Q I hw => wpAny_Compare1 (h pins s σ H Q I hw) h1
theorem pt_cmp {op : CmpOp} {t : TE} (h : PC X op a b t) (h1 : behindInMarks op b = false := by first | exact nobehind _ (by decide) (by decide) | rfl) : PT X (.Compare a [op] [b] pos) (tB t) := by
  intro pins s σ H Q I hw
  refine wpAny_isTrue_Compare1 (thn (h pins s σ H _ I hw) fun v s1 h1 => thn h1 fun u s2 h2 => thn h2 fun c s3 ⟨x, H1, I1, r1, q1⟩ => ?_) h1
  obtain ⟨d, rfl, q⟩ := q1
  cases r1
  exact wpAny_truthy_bool ⟨H1, I1, q⟩
theorem pt_val {e : Expr} {t : TE} (h : PE X e t) (he : ∀ whole, isTrue e X.env whole = (do let v ← whole; standAt e.pos; holding [v] (truthy v)) := by intro _; rfl) : PT X e (tB t) := by
  intro pins s σ H Q I hw
  refine isTrue_plain (thn (h pins s σ H _ I hw) fun v s1 ⟨x, H1, I1, r1, q1⟩ => ?_) (he _)
  obtain ⟨d, rfl, q⟩ := q1
  cases r1
  exact wpAny_truthy_bool ⟨H1, I1, q⟩
variable {tA tB' : TT} {rest : List Expr}
def tAnd (t u : TT) : TT := fun σ H Q => t σ H fun c H1 => if c = true then u σ H1 Q else Q false H1
def tOr (t u : TT) : TT := fun σ H Q => t σ H fun c H1 => if c = true then Q true H1 else u σ H1 Q
def tNot (t : TT) : TT := fun σ H Q => t σ H fun c H1 => Q (!c) H1
theorem pw_and1 (ha : PT X a tA) : PW X (.BoolOp .And [a] pos) tA := by
  intro wh pins s σ H Q I h
  refine isTrue_and (thn (ha pins s σ H Q I h) fun c s1 e => ?_)
  cases c with
  | true => exact isTrue_and_nil e
  | false => exact e
theorem pw_or1 (ha : PT X a tA) : PW X (.BoolOp .Or [a] pos) tA := by
  intro wh pins s σ H Q I h
  refine isTrue_or (thn (ha pins s σ H Q I h) fun c s1 e => ?_)
  cases c with
  | false => exact isTrue_or_nil e
  | true => exact e
theorem pw_and (ha : PT X a tA) (hb : PW X (.BoolOp .And (b :: rest) pos) tB') : PW X (.BoolOp .And (a :: b :: rest) pos) (tAnd tA tB') := by
  intro wh pins s σ H Q I h
  refine isTrue_and (thn (ha pins s σ H _ I h) fun c s1 ⟨H1, I1, q1⟩ => ?_)
  cases c with
  | true => exact hb wh pins s1 σ H1 Q I1 q1
  | false => exact ⟨H1, I1, q1⟩
theorem pw_or (ha : PT X a tA) (hb : PW X (.BoolOp .Or (b :: rest) pos) tB') : PW X (.BoolOp .Or (a :: b :: rest) pos) (tOr tA tB') := by
  intro wh pins s σ H Q I h
  refine isTrue_or (thn (ha pins s σ H _ I h) fun c s1 ⟨H1, I1, q1⟩ => ?_)
  cases c with
  | true => exact ⟨H1, I1, q1⟩
  | false => exact hb wh pins s1 σ H1 Q I1 q1
theorem pt_not (ha : PT X a tA) : PT X (.UnaryOp .Not a pos) (tNot tA) := by
  intro pins s σ H Q I h
  exact isTrue_not (ha pins s σ H (fun c H1 => Q (!c) H1) I h)
def tAndV (ta tb : TE) : TE := fun σ H Q => ta σ H fun x H1 => ∃ c, x = .bl c ∧ if c = true then tb σ H1 Q else Q (.bl false) H1
def tOrV (ta tb : TE) : TE := fun σ H Q => ta σ H fun x H1 => ∃ c, x = .bl c ∧ if c = true then Q (.bl true) H1 else tb σ H1 Q
def tNotV (ta : TE) : TE := fun σ H Q => ta σ H fun x H1 => ∃ c, x = .bl c ∧ Q (.bl (!c)) H1
theorem pe_one {op} {t : TE} (h : PE X a t) : PE X (.BoolOp op [a] pos) t := fun pins s σ H Q I hw => BoolOp_one (h pins s σ H Q I hw)
theorem pe_and (ha : PE X a ta) (hb : PE X (.BoolOp .And (b :: rest) pos) tb) : PE X (.BoolOp .And (a :: b :: rest) pos) (tAndV ta tb) := by
  intro pins s σ H Q I h
  refine BoolOp_and (thn (ha pins s σ H _ I h) fun v s1 ⟨x, H1, I1, r1, q1⟩ => ?_)
  obtain ⟨c, rfl, q1⟩ := q1
  cases r1
  refine wpAny_truthy_bool ?_
  cases c with
  | true => exact hb pins s1 σ H1 Q I1 q1
  | false => exact ⟨.bl false, H1, I1, rfl, q1⟩
theorem pe_or (ha : PE X a ta) (hb : PE X (.BoolOp .Or (b :: rest) pos) tb) : PE X (.BoolOp .Or (a :: b :: rest) pos) (tOrV ta tb) := by
  intro pins s σ H Q I h
  refine BoolOp_or (thn (ha pins s σ H _ I h) fun v s1 ⟨x, H1, I1, r1, q1⟩ => ?_)
  obtain ⟨c, rfl, q1⟩ := q1
  cases r1
  refine wpAny_truthy_bool ?_
  cases c with
  | false => exact hb pins s1 σ H1 Q I1 q1
  | true => exact ⟨.bl true, H1, I1, rfl, q1⟩
theorem pe_not (ha : PE X a ta) : PE X (.UnaryOp .Not a pos) (tNotV ta) := by
  intro pins s σ H Q I h
  refine UnaryOp_ (thn (ha pins s σ H _ I h) fun v s1 ⟨x, H1, I1, r1, q1⟩ => ?_)
  obtain ⟨c, rfl, q1⟩ := q1
  cases r1
  exact not_of (wpAny_truthy_bool ⟨.bl (!c), H1, I1, rfl, q1⟩)
def tIf (t : TT) (ta tb : TE) : TE := fun σ H Q => t σ H fun c H1 => if c = true then ta σ H1 Q else tb σ H1 Q
theorem pe_ifExp {c : Expr} (hc : PT X c tA) (ha : PE X a ta) (hb : PE X b tb) : PE X (.IfExp c a b pos) (tIf tA ta tb) := by
  intro pins s σ H Q I h
  refine wpAny_IfExp (thn (hc pins s σ H _ I h) fun d s1 ⟨H1, I1, q1⟩ => ?_)
  cases d with
  | true => exact ha pins s1 σ H1 Q I1 q1
  | false => exact hb pins s1 σ H1 Q I1 q1
end
end L2
namespace L2
open PySem PySem.Spec PyProof.Rows
def SqL (K : PySem.W.Frag) (H : Hp) (a : Addr) (xs : List V) : Prop :=
  Rd H a (.lst xs) ∨
    ∃ (o : Obj) (its : Array Value) (n : Nat), K.lookup a = some o ∧ o.cls = .type "list" ∧ o.dict = none ∧ o.data = .seq its n ∧ its.size ≤ sizeLine ∧ Vals xs its.toList
def SqT (K : PySem.W.Frag) (H : Hp) (a : Addr) (xs : List V) : Prop :=
  Rd H a (.tup xs) ∨
    ∃ (o : Obj) (its : Array Value) (n : Nat), K.lookup a = some o ∧ o.cls = .type "tuple" ∧ o.data = .seq its n ∧ its.size ≤ sizeLine ∧ Vals xs its.toList
def absV : Value → Option V
  | .none => some .non
  | .bool b => some (.bl b)
  | .int i _ => some (.int i)
  | .str x _ => some (.str x)
  | .bytes b _ => some (.byt b)
  | .float b _ => some (.flt b)
  | .ref a => some (.ref a)
  | .type n => some (.ty n)
  | _ => none
theorem RelV.abs {x : V} {u : Value} (r : RelV x u) : absV u = some x := by
  cases x with
  | non => cases r; rfl
  | bl _ => cases r; rfl
  | int _ => obtain ⟨t, rfl⟩ := r; rfl
  | str _ => obtain ⟨t, rfl⟩ := r; rfl
  | byt _ => obtain ⟨t, rfl⟩ := r; rfl
  | flt _ => obtain ⟨t, rfl⟩ := r; rfl
  | ref _ => cases r; rfl
  | ty _ => cases r; rfl
theorem RelV.inj {x y : V} {u : Value} (r : RelV x u) (q : RelV y u) : x = y := Option.some.inj (r.abs.symm.trans q.abs)
theorem Vals.inj : ∀ {xs ys : List V} {us : List Value}, Vals xs us → Vals ys us → xs = ys
  | _, _, _, .nil, .nil => rfl
  | _, _, _, .cons r t, .cons r' t' => by rw [r.inj r', Vals.inj t t']
section
variable {X : Cx} {pins : List (Addr × Obj)} {σ : St} {H : Hp} {s : Shared} {a : Addr} {xs ys : List V}
theorem SqL.of {K : PySem.W.Frag} (h : H a = some (.lst xs)) : SqL K H a xs := .inl (.inl h)
theorem SqT.of {K : PySem.W.Frag} (h : H a = some (.tup xs)) : SqT K H a xs := .inl (.inl h)
theorem Inv.list (I : Inv X pins σ H s) (h : SqL X.K H a xs) : ∃ its : List Value, Vals xs its ∧ PlainL s.heap a its.toArray ∧ xs.length ≤ sizeLine := by
  rcases h with h | ⟨o, its, n, hk, hc, hd, hs, hz, r⟩
  · obtain ⟨z, its, n, r, e⟩ := h.ok I.hok
    exact ⟨its, r, ⟨_, n, e, rfl, rfl, rfl⟩, z⟩
  · refine ⟨its.toList, r, ⟨o, n, I.kIn a o hk, hc, hd, by simpa using hs⟩, ?_⟩
    have e := r.length
    simp only [Array.length_toList] at e
    omega
theorem Inv.tuple (I : Inv X pins σ H s) (h : SqT X.K H a xs) : ∃ its : List Value, Vals xs its ∧ IsTup s.heap a its.toArray ∧ xs.length ≤ sizeLine := by
  rcases h with h | ⟨o, its, n, hk, hc, hs, hz, r⟩
  · obtain ⟨z, its, r, p⟩ := h.ok I.hok
    exact ⟨its, r, p, z⟩
  · refine ⟨its.toList, r, ⟨o, I.kIn a o hk, hc, n, by simpa using hs⟩, ?_⟩
    have e := r.length
    simp only [Array.length_toList] at e
    omega
theorem Inv.list_inj (I : Inv X pins σ H s) (h : SqL X.K H a xs) (h' : SqL X.K H a ys) : xs = ys := by
  obtain ⟨its, r, ⟨o, n, e, _, _, d⟩, _⟩ := I.list h
  obtain ⟨its', r', ⟨o', n', e', _, _, d'⟩, _⟩ := I.list h'
  rw [e] at e'; cases e'
  rw [d] at d'
  injection d' with d1 _
  have : its = its' := by simpa using congrArg Array.toList d1
  subst this
  exact r.inj r'
theorem Inv.tuple_inj (I : Inv X pins σ H s) (h : SqT X.K H a xs) (h' : SqT X.K H a ys) : xs = ys := by
  obtain ⟨its, r, ⟨o, e, _, n, d⟩, _⟩ := I.tuple h
  obtain ⟨its', r', ⟨o', e', _, n', d'⟩, _⟩ := I.tuple h'
  rw [e] at e'; cases e'
  rw [d] at d'
  injection d' with d1 _
  have : its = its' := by simpa using congrArg Array.toList d1
  subst this
  exact r.inj r'
end
abbrev Cx.wish (X : Cx) (E : Value → Shared → Prop) : Cx := { X with xe := E }
abbrev Cx.nox (X : Cx) : Cx := X.wish fun _ _ => False
theorem Cx.Ok.wish {X : Cx} (ok : X.Ok) (E : Value → Shared → Prop) : (X.wish E).Ok :=
  ⟨ok.mod, ok.kind, ok.glob, ok.blt, ok.above, ok.inj, ok.has, ok.cab, ok.hd, ok.frames, ok.stk, ok.exf, ok.bs, ok.bsz, ok.noex, ok.exfs, ok.funs, ok.frf⟩
theorem Cx.Ok.unwish {X : Cx} {E : Value → Shared → Prop} (ok : (X.wish E).Ok) : X.Ok :=
  ⟨ok.mod, ok.kind, ok.glob, ok.blt, ok.above, ok.inj, ok.has, ok.cab, ok.hd, ok.frames, ok.stk, ok.exf, ok.bs, ok.bsz, ok.noex, ok.exfs, ok.funs, ok.frf⟩
section
variable {X : Cx} {pins : List (Addr × Obj)} {σ : St} {H : Hp} {s : Shared} {E : Value → Shared → Prop}
theorem Inv.wish (I : Inv X pins σ H s) (E : Value → Shared → Prop) : Inv (X.wish E) pins σ H s := ⟨I.ok.wish E, I.os, I.bare, I.base, I.loc, I.cell, I.free, I.freeC, I.pin, I.hok, I.len⟩
theorem Inv.unwish (I : Inv (X.wish E) pins σ H s) : Inv X pins σ H s := ⟨I.ok.unwish, I.os, I.bare, I.base, I.loc, I.cell, I.free, I.freeC, I.pin, I.hok, I.len⟩
theorem SP.unwish {D : Ends} {f : Flow} {s' : Shared} (h : SP (X.wish E) pins D f s') : SP X pins D f s' := by
  cases f with
  | next => obtain ⟨σ', H', I, q⟩ := h; exact ⟨σ', H', I.unwish, q⟩
  | brk => obtain ⟨σ', H', I, q⟩ := h; exact ⟨σ', H', I.unwish, q⟩
  | cont => obtain ⟨σ', H', I, q⟩ := h; exact ⟨σ', H', I.unwish, q⟩
  | ret u => obtain ⟨v, σ', H', I, r, q⟩ := h; exact ⟨v, σ', H', I.unwish, r, q⟩
theorem PE.nox {e : Expr} {t : TE} (h : PE X.nox e t) : PE X e t := fun pins s σ H Q I hw =>
  wpAny_mono (h pins s σ H Q (I.wish _) hw) (fun _ _ ⟨v, H', I', r, q⟩ => ⟨v, H', I'.unwish, r, q⟩) fun _ _ z => False.elim z
theorem PT.nox {e : Expr} {t : TT} (h : PT X.nox e t) : PT X e t := fun pins s σ H Q I hw =>
  wpAny_mono (h pins s σ H Q (I.wish _) hw) (fun _ _ ⟨H', I', q⟩ => ⟨H', I'.unwish, q⟩) fun _ _ z => False.elim z
theorem PSs.nox {st : List Stmt} {t : TS} (h : PSs X.nox st t) : PSs X st t := fun pins s σ H D I hw =>
  wpAny_mono (h pins s σ H D (I.wish _) hw) (fun _ _ q => q.unwish) fun _ _ z => False.elim z
end
section
variable {X : Cx} {st : Stmt} {rest : List Stmt} {t u : TS} {e : Expr} {te : TE} {pos : Pos}
def tNext : TS := fun D σ H => D.nx σ H
def tSeq (t u : TS) : TS := fun D σ H => t { D with nx := u D } σ H
theorem pss_nil : PSs X [] tNext := fun _ _ σ H _ I h => wpAny_execs_nil ⟨σ, H, I, h⟩
theorem pss_cons (h1 : PS X st t) (h2 : PSs X rest u) : PSs X (st :: rest) (tSeq t u) := by
  intro pins s σ H D I h
  refine wpAny_execs_cons (thn (h1 pins s σ H { D with nx := u D } I h) fun f s1 q => ?_)
  cases f with
  | next =>
    obtain ⟨σ', H', I', q⟩ := q
    exact h2 pins s1 σ' H' D I' q
  | ret v => exact q
  | brk => exact q
  | cont => exact q
theorem pss_one (h1 : PS X st t) : PSs X [st] t := by
  intro pins s σ H D I h
  refine wpAny_execs_cons (thn (h1 pins s σ H D I h) fun f s1 q => ?_)
  cases f with
  | next => exact wpAny_execs_nil q
  | ret v => exact q
  | brk => exact q
  | cont => exact q
theorem Inv.quiet {pins : List (Addr × Obj)} {σ : St} {H : Hp} {s : Shared} (I : Inv X pins σ H s) : interactive X.env = false := by simp [interactive, I.ok.kind]
def tDrop (te : TE) : TS := fun D σ H => te σ H fun _ H1 => D.nx σ H1
theorem ps_expr (he : PE X e te) (hs : swapsWith e none pos.line X.env = pure false := by rfl) : PS X (.Expr e pos) (tDrop te) := by
  intro pins s σ H D I h
  exact wpAny_Expr_any (thn (he pins s σ H _ I h) fun v s1 ⟨x, H1, I1, r1, q1⟩ => ⟨σ, H1, I1, q1⟩) I.quiet hs
def tRet (te : TE) : TS := fun D σ H => te σ H D.rt
theorem ps_ret (he : PE X e te) : PS X (.Return (some e) pos) (tRet te) := by
  intro pins s σ H D I h
  exact wpAny_Return_some (thn (he pins s σ H _ I h) fun v s1 ⟨x, H1, I1, r1, q1⟩ => ⟨x, σ, H1, I1, r1, q1⟩)
def tIfS (c : TT) (t u : TS) : TS := fun D σ H => c σ H fun b H1 => if b = true then t D σ H1 else u D σ H1
theorem ps_if {c : Expr} {a b : List Stmt} {tc : TT} (hc : PT X c tc) (ha : PSs X a t) (hb : PSs X b u) : PS X (.If c a b pos) (tIfS tc t u) := by
  intro pins s σ H D I h
  refine wpAny_If (thn (hc pins s σ H _ I h) fun d s1 ⟨H1, I1, q1⟩ => ?_)
  cases d with
  | true => exact ha pins s1 σ H1 D I1 q1
  | false => exact hb pins s1 σ H1 D I1 q1
def tNever : TS := fun _ _ _ => False
theorem pss_never {sts : List Stmt} : PSs X sts tNever := fun _ _ _ _ _ _ h => h.elim
end
abbrev TG := V → St → Hp → (St → Hp → Prop) → Prop
abbrev TGs := List V → St → Hp → (St → Hp → Prop) → Prop
def PG (X : Cx) (target : Expr) (t : TG) : Prop :=
  ∀ (pins : List (Addr × Obj)) (s : Shared) (σ : St) (H : Hp) (v : V) (u : Value) (Q : St → Hp → Prop), Inv X pins σ H s → RelV v u → t v σ H Q →
    wpAny (model X.prog X.w) X.A (assign target X.env u) (fun _ s' => ∃ σ' H', Inv X pins σ' H' s' ∧ Q σ' H') X.xe s
def PGs (X : Cx) (ts : List Expr) (t : TGs) : Prop :=
  ∀ (pins : List (Addr × Obj)) (s : Shared) (σ : St) (H : Hp) (vs : List V) (us : List Value) (Q : St → Hp → Prop), Inv X pins σ H s → Vals vs us → t vs σ H Q →
    wpAny (model X.prog X.w) X.A (assignInOrder ((assignEach ts X.env).map (·.2)) us) (fun _ s' => ∃ σ' H', Inv X pins σ' H' s' ∧ Q σ' H') X.xe s
abbrev TSet := V → V → V → Hp → (Hp → Prop) → Prop
def PSet (X : Cx) (t : TSet) : Prop :=
  ∀ (pins : List (Addr × Obj)) (s : Shared) (σ : St) (H : Hp) (o i v : V) (ov iv u : Value) (Q : Hp → Prop), Inv X pins σ H s → RelV o ov → RelV i iv → RelV v u → t o i v H Q →
    wpAny (model X.prog X.w) X.A (setItem ov iv u) (fun _ s' => ∃ H', Inv X pins σ H' s' ∧ Q H') X.xe s
section
variable {X : Cx} {pos : Pos}
def gName (i : Nat) : TG := fun v σ H Q => Q (σ.set i (some v)) H
theorem pg_name {i : Nat} {x : Str} (hN : X.N.Nodup) (hi : X.N[i]? = some x) (hx : Loc X.env.scope x) (hf : X.fn x = true ∨ X.env.scope.names.lookup x = some .local := by first | exact .inl rfl | exact .inr rfl | assumption) : PG X (.Name x pos) (gName i) := by
  intro pins s σ H v u Q I r h
  exact wpAny_assign_Name (store_ok I hN hi hx r (fun s' I' => ⟨_, H, I', h⟩) hf)
def gNil : TGs := fun vs σ H Q => vs = [] ∧ Q σ H
def gCons (t : TG) (u : TGs) : TGs := fun vs σ H Q => ∃ v r, vs = v :: r ∧ t v σ H fun σ' H' => u r σ' H' Q
theorem pgs_nil : PGs X [] gNil := by
  intro pins s σ H vs us Q I r h
  obtain ⟨e, h⟩ := h
  subst e
  cases r
  exact assignInOrder_nil ⟨σ, H, I, h⟩
theorem pgs_cons {e : Expr} {es : List Expr} {t : TG} {u : TGs} (h1 : PG X e t) (h2 : PGs X es u)
    (hs : (assignEach (e :: es) X.env).map (·.2) = assign e X.env :: (assignEach es X.env).map (·.2) := by rfl) : PGs X (e :: es) (gCons t u) := by
  intro pins s σ H vs us Q I r h
  obtain ⟨v, vr, e1, h⟩ := h
  subst e1
  cases r with
  | cons r rr =>
    rw [hs]
    refine assignInOrder_cons (thn (h1 pins s σ H _ _ _ I r h) fun _ s1 ⟨σ1, H1, I1, q1⟩ => ?_)
    exact h2 pins s1 σ1 H1 _ _ Q I1 rr q1
def gTup (K : PySem.W.Frag) (n : Nat) (t : TGs) : TG := fun v σ H Q => ∃ a xs, v = .ref a ∧ SqT K H a xs ∧ xs.length = n ∧ t xs σ H Q
theorem pg_tup {es : List Expr} {k : Nat} {t : TGs} {n : Nat} (hc : X.calm = true) (h : PGs X es t)
    (hn : (assignEach es X.env).length = n := by rfl) (hst : (assignEach es X.env).findIdx? (·.1) = none := by rfl) : PG X (.Tuple es k pos) (gTup X.K n t) := by
  intro pins s σ H v u Q I r hw
  obtain ⟨a, xs, e1, hq, hl, hw⟩ := hw
  subst e1
  cases r
  obtain ⟨its, rv, ht, hz⟩ := I.tuple hq
  refine assign_Tuple_tuple (I.ok.hd hc) ht (by simp [hn, ← hl, rv.length]) hst fun h' hx => ?_
  have I1 : Inv X pins σ H { s with heap := h' } := I.kept (t' := s.toks) fun b o e => hx b o (Nat.ne_of_lt (Heap.lt_size e)) e
  exact h pins _ σ H xs _ Q I1 (by simpa using rv) hw
def gSub (to ti : TE) (t : TSet) : TG := fun v σ H Q => to σ H fun o H1 => ti σ H1 fun i H2 => t o i v H2 fun H3 => Q σ H3
theorem pg_sub {o i : Expr} {to ti : TE} {t : TSet} (ho : PE X o to) (hi : PE X i ti) (hs : PSet X t)
    (ha : ∀ v, assign (.Subscript o i pos) X.env v = (do
      let ov ← holding [v] (eval o X.env)
      let iv ← holding [v, ov] (eval i X.env)
      standAt pos
      holding [v, ov, iv] (setItem ov iv v)
      release [v, ov, iv] []) := by intro _; rfl) : PG X (.Subscript o i pos) (gSub to ti t) := by
  intro pins s σ H v u Q I r h
  rw [ha]
  refine wpAny_bind (wpAny_holding (thn (ho pins s σ H _ I h) fun ov s1 ⟨x, H1, I1, r1, q1⟩ => ?_))
  refine wpAny_bind (wpAny_holding (thn (hi pins s1 σ H1 _ I1 q1) fun iv s2 ⟨y, H2, I2, r2, q2⟩ => ?_))
  refine wpAny_bind (wpAny_standAt (wpAny_bind (wpAny_holding (thn (hs pins s2 σ H2 x y v ov iv u _ I2 r1 r2 r q2) fun _ s3 ⟨H3, I3, q3⟩ => ?_))))
  exact wpAny_release ⟨σ, H3, I3, q3⟩
def tAsg (te : TE) (g : TG) : TS := fun D σ H => te σ H fun x H1 => g x σ H1 D.nx
theorem ps_asg {tg e : Expr} {te : TE} {g : TG} (he : PE X e te) (hg : PG X tg g) (hs : swapsWithSole [tg] e pos.line X.env = pure false := by rfl) (hw : swappedStores [tg] e X.env = pure none := by rfl)
    (h1 : (assignEach [tg] X.env).map (·.2) = [assign tg X.env] := by rfl) : PS X (.Assign [tg] e pos) (tAsg te g) := by
  intro pins s σ H D I h
  refine wpAny_Assign_stores (thn (he pins s σ H _ I h) fun v s1 ⟨x, H1, I1, r1, q1⟩ => ?_) hs hw
  rw [h1]
  exact thn (hg pins s1 σ H1 x v _ I1 r1 q1) fun _ s2 q => q
theorem ps_set {i : Nat} {x : Str} {e : Expr} {te : TE} {pos' : Pos} (hN : X.N.Nodup) (hi : X.N[i]? = some x) (hx : Loc X.env.scope x) (he : PE X e te) (hs : swapsWith e (some (.Name x pos')) pos.line X.env = pure false := by rfl) (hf : X.fn x = true ∨ X.env.scope.names.lookup x = some .local := by first | exact .inl rfl | exact .inr rfl | assumption) :
    PS X (.Assign [.Name x pos'] e pos) (tAsg te (gName i)) := by
  intro pins s σ H D I h
  refine wpAny_Assign_Name (thn (he pins s σ H _ I h) fun v s1 ⟨y, H1, I1, r1, q1⟩ => ?_) hs
  exact store_ok I1 hN hi hx r1 (fun s2 I2 => ⟨_, H1, I2, q1⟩) hf
def tPar (i j : Nat) (ta : TA) : TS := fun D σ H => ta σ H fun vs H1 => ∃ v w, vs = [v, w] ∧ D.nx ((σ.set i (some v)).set j (some w)) H1
theorem ps_par {i j : Nat} {x y : Str} {a b : Expr} {ta : TA} {px py pt : Pos} {kt k2 pt2} (hc : X.calm = true) (hN : X.N.Nodup) (hi : X.N[i]? = some x) (hj : X.N[j]? = some y) (hij : i ≠ j)
    (hx : X.env.scope.names.lookup x = some .local) (hy : X.env.scope.names.lookup y = some .local) (ha : PA X [a, b] ta)
    (hw : swappedStores [.Tuple [.Name x px, .Name y py] kt pt] (.Tuple [a, b] k2 pt2) X.env = pure (some [x, y]))
    (hs : swapsWithSole [.Tuple [.Name x px, .Name y py] kt pt] (.Tuple [a, b] k2 pt2) pos.line X.env = pure false := by rfl) :
    PS X (.Assign [.Tuple [.Name x px, .Name y py] kt pt] (.Tuple [a, b] k2 pt2) pos) (tPar i j ta) := by
  intro pins s σ H D I h
  rw [exec_Assign_arm]
  refine wpAny_bind (wpAny_standAt ?_)
  rw [hs]
  refine wpAny_bind (wpAny_pure ?_)
  rw [if_neg (by decide)]
  refine wpAny_bind (Tuple_ (thn (ha _ pins s σ H _ I h) fun us s1 ⟨vs, H1, I1, r1, q1⟩ => ?_))
  obtain ⟨v, w, e1, q1⟩ := q1
  subst e1
  obtain ⟨u1, u2, rfl, rv, rw'⟩ : ∃ u1 u2, us = [u1, u2] ∧ RelV v u1 ∧ RelV w u2 := by
    cases r1 with
    | cons p q =>
      cases q with
      | cons p' q' =>
        cases q'
        exact ⟨_, _, rfl, p, p'⟩
  refine wpAny_newObj_type ?_ (by show 2 ≤ sizeLine; decide)
  have I2 : Inv X pins σ H1 { s1 with heap := s1.heap.push { cls := .type "tuple", data := .seq [u1, u2].toArray } } := I1.kept (t' := s1.toks) fun b o e => Heap.get?_push_of_some _ e
  rw [hw]
  refine wpAny_bind (wpAny_pure ?_)
  show wpAny (model X.prog X.w) X.A (do rule "assign.swapped-stores"; let items ← unpackItems (.ref s1.heap.objs.size) 2 none; assignInOrder [fun v => bindName X.env y v, fun v => bindName X.env x v] items.reverse; pure Flow.next) _ _ _
  refine wpAny_bind (wpAny_rule (wpAny_bind (unpackItems_tuple (items := #[u1, u2]) (I.ok.hd hc) (IsTup.new s1.heap _) fun h' hx' => ?_)))
  have I3 := I2.kept (h' := h') (t' := s1.toks) fun b o e => hx' b o (Nat.ne_of_lt (Heap.lt_size e)) e
  show wpAny _ _ (assignInOrder [fun v => bindName X.env y v, fun v => bindName X.env x v] [u2, u1] >>= fun _ => pure Flow.next) _ _ _
  refine wpAny_bind (assignInOrder_cons (wpAny_bindName (store_ok I3 hN hj (.inl hy) rw' (fun s2 I4 => ?_) (.inr hy))))
  refine assignInOrder_cons (wpAny_bindName (store_ok I4 hN hi (.inl hx) rv (fun s3 I5 => assignInOrder_nil (wpAny_pure ?_)) (.inr hx)))
  rw [List.set_comm _ _ (Ne.symm hij)] at I5
  exact ⟨_, H1, I5, q1⟩
end
section
variable {X : Cx} {pos : Pos}
def tWhile (c : TT) (tb : TS) : TS := fun D σ H => ∃ W : Nat → St → Hp → Prop, (∃ m, W m σ H) ∧ ∀ m σ H, W m σ H →
  c σ H fun b H1 => if b = true then ∃ N : St → Hp → Prop, (∀ σ' H', N σ' H' → ∃ m', m' < m ∧ W m' σ' H') ∧ tb { D with nx := N, ct := N, bk := D.nx } σ H1 else D.nx σ H1
theorem ps_while {c : Expr} {body : List Stmt} {tc : TT} {tb : TS} (hp : PassesOwn (model X.prog X.w) X.A X.env X.xe) (hc : PT X c tc) (hb : PSs X body tb) : PS X (.While c body [] pos) (tWhile tc tb) := by
  intro pins s σ H D I h
  obtain ⟨W, ⟨m0, w0⟩, turn⟩ := h
  refine wpAny_While (codeAny_whileLoop (fun n s' => ∃ σ' H', Inv X pins σ' H' s' ∧ W n σ' H') ?_ m0 ⟨σ, H, I, w0⟩)
  rintro n s1 ⟨σ1, H1, I1, w1⟩
  refine wpAny_passesOwn hp (thn (hc pins s1 σ1 H1 _ I1 (turn n σ1 H1 w1)) fun b s2 ⟨H2, I2, q2⟩ => ?_)
  cases b with
  | true =>
    obtain ⟨N, hN, q2⟩ := q2
    rw [if_pos rfl]
    refine wpAny_passesOwn hp (thn (hb pins s2 σ1 H2 _ I2 q2) fun f s3 q3 => ?_)
    cases f with
    | next =>
      obtain ⟨σ3, H3, I3, n3⟩ := q3
      obtain ⟨m', hm, w3⟩ := hN σ3 H3 n3
      exact ⟨m', hm, σ3, H3, I3, w3⟩
    | cont =>
      obtain ⟨σ3, H3, I3, n3⟩ := q3
      obtain ⟨m', hm, w3⟩ := hN σ3 H3 n3
      exact ⟨m', hm, σ3, H3, I3, w3⟩
    | brk => exact q3
    | ret v => exact q3
  | false =>
    rw [if_neg Bool.false_ne_true]
    exact wpAny_execs_nil ⟨σ1, H2, I2, q2⟩
end
structure It where
  go : Nat → Hp → Prop
  yld : Nat → Hp → V → Hp → Prop
  stop : Nat → Hp → Prop
def FpOk (X : Cx) (pins : List (Addr × Obj)) (H : Hp) (b : Addr) : Prop :=
  H b = none ∧ b ≠ X.env.locals ∧ b ∉ X.fs ∧ (b ∈ X.ex ∨ X.s_0.heap.objs.size ≤ b) ∧ (∀ x c, X.env.cells.lookup x = some c → c ≠ b) ∧ ∀ p ∈ X.pn ++ pins, p.1 ≠ b
theorem Inv.fpOk {X : Cx} {pins : List (Addr × Obj)} {σ : St} {H H' : Hp} {s : Shared} {b : Addr} (I : Inv X pins σ H s) (hb : s.heap.objs.size ≤ b) (hn : H' b = none) : FpOk X pins H' b := by
  refine ⟨hn, Nat.ne_of_gt (Nat.lt_of_lt_of_le I.lt hb), I.nofs hb, .inr (Nat.le_trans I.sz hb), fun x c e z => ?_, fun p hp z => ?_⟩
  · obtain ⟨v, q⟩ := I.cell x c e
    exact absurd (Nat.lt_of_lt_of_le q.lt (by rw [z]; exact hb)) (Nat.lt_irrefl _)
  · exact absurd (Nat.lt_of_lt_of_le (Heap.lt_size (I.pin p hp).1) (by rw [z]; exact hb)) (Nat.lt_irrefl _)
structure Turn (P : Program) (w : World) (K : PySem.W.Frag) (tg : Expr) (J : It) (fp : List Addr) (it : Addr) (tn : Nat → Heap → Prop) : Prop where
  mem : it ∈ fp
  obj : ∀ i h, tn i h → ∀ b ∈ fp, ∃ o, h.get? b = some o ∧ ∀ v, o.data ≠ .cell v
  keep : ∀ i h h', tn i h → (∀ b ∈ fp, ∀ o, h.get? b = some o → h'.get? b = some o) → tn i h'
  item : ∀ (X : Cx), X.prog = P → X.w = w → X.K = K → X.calm = true → ∀ (i : Nat) (pins : List (Addr × Obj)) (s : Shared) (σ : St) (H : Hp) (E : Value → Shared → Prop), Inv X pins σ H s → (∀ b ∈ fp, FpOk X pins H b) → tn i s.heap → J.go i H →
    wpAny (model P w) X.A (pyNext (.ref it)) (fun r s1 => ∃ u, r = some u ∧
      wpAny (model P w) X.A (letOwnedTupleGo tg (.ref it) u) (fun _ s2 => ∃ x H', Inv X pins σ H' s2 ∧ RelV x u ∧ J.yld i H x H' ∧ tn (i + 1) s2.heap ∧ ∀ b ∈ fp, H' b = none) E s1) E s
  done : ∀ (X : Cx), X.prog = P → X.w = w → X.K = K → X.calm = true → ∀ (i : Nat) (pins : List (Addr × Obj)) (s : Shared) (σ : St) (H : Hp) (E : Value → Shared → Prop), Inv X pins σ H s → (∀ b ∈ fp, FpOk X pins H b) → tn i s.heap → J.stop i H →
    wpAny (model P w) X.A (pyNext (.ref it)) (fun r s1 => r = none ∧ Inv X pins σ H s1) E s
  self : ∀ (A : Around) (i : Nat) (s : Shared) (Q : Value → Shared → Prop) (E : Value → Shared → Prop), tn i s.heap → Q (.ref it) s → wpAny (model P w) A (pyIter (.ref it)) Q E s
abbrev TI := St → Hp → (It → Hp → Prop) → Prop
def PIE (X : Cx) (pins : List (Addr × Obj)) (σ : St) (tg : Expr) (R : It → Hp → Prop) (itv : Value) (s2 : Shared) : Prop :=
  ∃ (it : Addr) (fp : List Addr) (tn : Nat → Heap → Prop) (J : It) (H' : Hp), itv = .ref it ∧ Inv X pins σ H' s2 ∧ Turn X.prog X.w X.K tg J fp it tn ∧ tn 0 s2.heap ∧ (∀ b ∈ fp, FpOk X pins H' b) ∧ R J H'
def PI (X : Cx) (tg iter : Expr) (wi : TI) : Prop :=
  ∀ (pins : List (Addr × Obj)) (s : Shared) (σ : St) (H : Hp) (R : It → Hp → Prop), Inv X pins σ H s → wi σ H R →
    wpAny (model X.prog X.w) X.A (eval iter X.env) (fun v s1 => wpAny (model X.prog X.w) X.A (pyIter v) (PIE X pins σ tg R) X.xe s1) X.xe s
theorem go_of {M : Model} {A : Around} {E : Value → Shared → Prop} {s : Shared} {tg : Expr} {it : Addr} {u : Value} {o : Obj} {n : String} {vs : Array Value} {Q : Unit → Shared → Prop} (ho : s.heap.get? it = some o) (hc : o.cls = .type n) (hd : o.data = .fields vs)
    (hn : ["enumerate", "zip", "dict_itemiterator", "dict_reverseitemiterator", "odict_iterator", "itertools.zip_longest", "itertools.pairwise"].contains n = false) (hQ : Q () s) : wpAny M A (letOwnedTupleGo tg (.ref it) u) Q E s := by
  unfold letOwnedTupleGo
  cases tg <;> first
    | exact wpAny_pure hQ
    | (cases u <;> first
        | exact wpAny_pure hQ
        | (refine wpAny_bind (wpAny_load ho ?_)
           rw [hc, hd]
           show wpAny M A (if (["enumerate", "zip", "dict_itemiterator", "dict_reverseitemiterator", "odict_iterator", "itertools.zip_longest", "itertools.pairwise"].contains n && vs[0]? == some (rawInt _)) = true then _ else _) Q E s
           rw [if_neg (by intro h; rw [hn, Bool.false_and] at h; cases h)]
           exact wpAny_pure hQ))
def Itl (K : PySem.W.Frag) (a : Addr) : It :=
  ⟨fun i H => ∃ xs x, SqL K H a xs ∧ xs[i]? = some x, fun i H x H' => H' = H ∧ ∀ xs, SqL K H a xs → xs[i]? = some x, fun i H => ∃ xs, SqL K H a xs ∧ xs.length ≤ i⟩
def Itt (K : PySem.W.Frag) (a : Addr) : It :=
  ⟨fun i H => ∃ xs x, SqT K H a xs ∧ xs[i]? = some x, fun i H x H' => H' = H ∧ ∀ xs, SqT K H a xs → xs[i]? = some x, fun i H => ∃ xs, SqT K H a xs ∧ xs.length ≤ i⟩
def Itr (lo : Int) (n : Nat) : It := ⟨fun i _ => i < n, fun i H x H' => H' = H ∧ x = .int (lo + i), fun i _ => n ≤ i⟩
theorem turn_list {P : Program} {w : World} {K : PySem.W.Frag} {tg : Expr} (a it : Addr) : Turn P w K tg (Itl K a) [it] it (fun i h => h.IsListIter it a i) where
  mem := by simp
  obj := fun i h st b hb => by
    have e : b = it := by simpa using hb
    subst e
    obtain ⟨o, e, c, d⟩ := st
    exact ⟨o, e, fun v z => by rw [d] at z; cases z⟩
  keep := fun i h h' st k => st.at fun o e => k it (by simp) o e
  item := by
    intro X hP hw hK hc i pins s σ H E I hf st hg
    subst hP hw hK
    obtain ⟨xs, x, hq, hx⟩ := hg
    obtain ⟨its, rv, p, hz⟩ := I.list hq
    obtain ⟨u, hu, ru⟩ := rv.get hx
    obtain ⟨f0, f1, f2, f3, f4, f5⟩ := hf it (by simp)
    refine wpAny_pyNext_list_item st p.isList (x := u) (by simpa using hu) fun h' st' sb => ?_
    have I1 : Inv X pins σ H { s with heap := h' } := I.turned (t' := s.toks) (fun b o hb e => (sb.2 b hb).trans e) f0 f1 f3 f4 f5
    obtain ⟨o, e, c, d⟩ := id st'
    exact ⟨u, rfl, go_of (s := { s with heap := h' }) e c d (by decide) ⟨x, H, I1, ru, ⟨rfl, fun ys hy => by rw [I.list_inj hy hq]; exact hx⟩, st', fun b hb => (hf b hb).1⟩⟩
  done := by
    intro X hP hw hK hc i pins s σ H E I hf st hg
    subst hP hw hK
    obtain ⟨xs, hq, hx⟩ := hg
    obtain ⟨its, rv, p, hz⟩ := I.list hq
    obtain ⟨f0, f1, f2, f3, f4, f5⟩ := hf it (by simp)
    have hl := rv.length
    exact wpAny_pyNext_list_end (I.ok.hd hc) st p.isList (by simp; omega) fun h' eb => ⟨rfl, I.turned (t' := s.toks) (fun b o hb e => eb b o hb e) f0 f1 f3 f4 f5⟩
  self := fun _ _ _ _ _ st h => wpAny_pyIter_listiter st h
theorem turn_tuple {P : Program} {w : World} {K : PySem.W.Frag} {tg : Expr} (a it : Addr) : Turn P w K tg (Itt K a) [it] it (fun i h => h.IsTupleIter it a i) where
  mem := by simp
  obj := fun i h st b hb => by
    have e : b = it := by simpa using hb
    subst e
    obtain ⟨o, e, c, d⟩ := st
    exact ⟨o, e, fun v z => by rw [d] at z; cases z⟩
  keep := fun i h h' st k => st.at fun o e => k it (by simp) o e
  item := by
    intro X hP hw hK hc i pins s σ H E I hf st hg
    subst hP hw hK
    obtain ⟨xs, x, hq, hx⟩ := hg
    obtain ⟨its, rv, p, hz⟩ := I.tuple hq
    obtain ⟨u, hu, ru⟩ := rv.get hx
    obtain ⟨f0, f1, f2, f3, f4, f5⟩ := hf it (by simp)
    refine wpAny_pyNext_tuple_item st (show s.heap.IsTuple a its.toArray from p) (x := u) (by simpa using hu) fun h' st' sb => ?_
    have I1 : Inv X pins σ H { s with heap := h' } := I.turned (t' := s.toks) (fun b o hb e => (sb.2 b hb).trans e) f0 f1 f3 f4 f5
    obtain ⟨o, e, c, d⟩ := id st'
    exact ⟨u, rfl, go_of (s := { s with heap := h' }) e c d (by decide) ⟨x, H, I1, ru, ⟨rfl, fun ys hy => by rw [I.tuple_inj hy hq]; exact hx⟩, st', fun b hb => (hf b hb).1⟩⟩
  done := by
    intro X hP hw hK hc i pins s σ H E I hf st hg
    subst hP hw hK
    obtain ⟨xs, hq, hx⟩ := hg
    obtain ⟨its, rv, p, hz⟩ := I.tuple hq
    obtain ⟨f0, f1, f2, f3, f4, f5⟩ := hf it (by simp)
    have hl := rv.length
    exact wpAny_pyNext_tuple_end (I.ok.hd hc) st (show s.heap.IsTuple a its.toArray from p) (by simp; omega) fun h' eb => ⟨rfl, I.turned (t' := s.toks) (fun b o hb e => eb b o hb e) f0 f1 f3 f4 f5⟩
  self := fun _ _ _ _ _ st h => wpAny_pyIter_tupleiter st h
theorem turn_range {P : Program} {w : World} {K : PySem.W.Frag} {tg : Expr} (it : Addr) (lo : Int) (n : Nat) : Turn P w K tg (Itr lo n) [it] it (fun i h => IsRangeIter h it (lo + (i : Nat) * 1) ((n : Int) - (i : Nat)) 1) where
  mem := by simp
  obj := fun i h st b hb => by
    have e : b = it := by simpa using hb
    subst e
    exact ⟨_, st, fun v z => by
      have z' : Data.fields _ = Data.cell v := z
      cases z'⟩
  keep := fun i h h' st k => k it (by simp) _ st
  item := by
    intro X hP hw hK hc i pins s σ H E I hf st hg
    subst hP hw hK
    obtain ⟨f0, f1, f2, f3, f4, f5⟩ := hf it (by simp)
    have W := Walks.range (prog := X.prog) (w := X.w) (I.ok.hd hc) it lo 1 n
    refine W.item i s _ _ hg st fun v h' tk hv st' kk => ?_
    obtain ⟨t, rfl⟩ := hv
    have I1 : Inv X pins σ H { s with heap := h', toks := tk } := I.turned (fun b o hb e => kk b o (by simpa using hb) e) f0 f1 f3 f4 f5
    refine ⟨_, rfl, go_of (s := { s with heap := h', toks := tk }) (n := "range_iterator") st' rfl rfl (by decide) ⟨.int (lo + i), H, I1, ⟨t, ?_⟩, ⟨rfl, rfl⟩, st', fun b hb => (hf b hb).1⟩⟩
    rw [Int.mul_one]
  done := by
    intro X hP hw hK hc i pins s σ H E I hf st hg
    subst hP hw hK
    obtain ⟨f0, f1, f2, f3, f4, f5⟩ := hf it (by simp)
    exact wpAny_pyNext_range_end (I.ok.hd hc) st (by have : n ≤ i := hg; omega) fun h' eb => ⟨rfl, I.turned (t' := s.toks) (fun b o hb e => eb b o hb e) f0 f1 f3 f4 f5⟩
  self := fun _ _ _ _ _ st h => wpAny_pyIter_rangeiter st h
end L2
namespace L2
open PySem PySem.Spec PyProof.Rows
section
variable {X : Cx} {tg : Expr}
def iList (K : PySem.W.Frag) (tl : TE) : TI := fun σ H R => tl σ H fun x H1 => ∃ a, x = .ref a ∧ (∃ xs, SqL K H1 a xs) ∧ R (Itl K a) H1
def iTup (K : PySem.W.Frag) (tl : TE) : TI := fun σ H R => tl σ H fun x H1 => ∃ a, x = .ref a ∧ (∃ xs, SqT K H1 a xs) ∧ R (Itt K a) H1
theorem pi_list {l : Expr} {tl : TE} (hl : PE X l tl) : PI X tg l (iList X.K tl) := by
  intro pins s σ H R I h
  refine thn (hl pins s σ H _ I h) fun v s1 ⟨x, H1, I1, r1, q1⟩ => ?_
  obtain ⟨a, e, ⟨xs, hq⟩, q⟩ := q1
  subst e
  cases r1
  obtain ⟨its, rv, p, hz⟩ := I1.list hq
  refine wpAny_pyIter_list p.isList ?_
  refine ⟨s1.heap.objs.size, [s1.heap.objs.size], _, _, H1, rfl, I1.kept (t' := s1.toks) fun b o e => Heap.get?_push_of_some _ e, turn_list a _, ⟨_, Heap.get?_push_size _ rfl, rfl, rfl⟩, fun b hb => ?_, q⟩
  have e : b = s1.heap.objs.size := by simpa using hb
  subst e
  exact I1.fpOk (Nat.le_refl _) (I1.hok.fresh (Nat.le_refl _))
theorem pi_tup {l : Expr} {tl : TE} (hl : PE X l tl) : PI X tg l (iTup X.K tl) := by
  intro pins s σ H R I h
  refine thn (hl pins s σ H _ I h) fun v s1 ⟨x, H1, I1, r1, q1⟩ => ?_
  obtain ⟨a, e, ⟨xs, hq⟩, q⟩ := q1
  subst e
  cases r1
  obtain ⟨its, rv, p, hz⟩ := I1.tuple hq
  refine wpAny_pyIter_tuple (show s1.heap.IsTuple a its.toArray from p) ?_
  refine ⟨s1.heap.objs.size, [s1.heap.objs.size], _, _, H1, rfl, I1.kept (t' := s1.toks) fun b o e => Heap.get?_push_of_some _ e, turn_tuple a _, ⟨_, Heap.get?_push_size _ rfl, rfl, rfl⟩, fun b hb => ?_, q⟩
  have e : b = s1.heap.objs.size := by simpa using hb
  subst e
  exact I1.fpOk (Nat.le_refl _) (I1.hok.fresh (Nat.le_refl _))
theorem range_it {pins : List (Addr × Obj)} {σ : St} {H : Hp} {s : Shared} {R : It → Hp → Prop} {E : Value → Shared → Prop} {lo hi : Int} {t u v : Tok} {tk : Nat} (I : Inv X pins σ H s) (h1 : -(2 ^ 62) ≤ lo) (h2 : lo < 2 ^ 62) (h3 : -(2 ^ 62) ≤ hi) (h4 : hi < 2 ^ 62)
    (q : R (Itr lo (hi - lo).toNat) H) : wpAny (model X.prog X.w) X.A (pyIter (.ref s.heap.objs.size)) (PIE X pins σ tg R) E { s with heap := s.heap.push { cls := .type "range", data := .fields #[.int lo t, .int hi u, .int 1 v] }, toks := tk } := by
  refine wpAny_pyIter_range (IsRange.new ..) (small_one h1 h2 h3 h4) ?_
  have I1 : Inv X pins σ H { s with heap := s.heap.push { cls := .type "range", data := .fields #[.int lo t, .int hi u, .int 1 v] }, toks := tk } := I.kept fun b o e => Heap.get?_push_of_some _ e
  refine ⟨(s.heap.push { cls := .type "range", data := .fields #[.int lo t, .int hi u, .int 1 v] }).objs.size, [(s.heap.push { cls := .type "range", data := .fields #[.int lo t, .int hi u, .int 1 v] }).objs.size], _, _, H, rfl,
    I1.kept (t' := tk) fun b o e => Heap.get?_push_of_some _ e, turn_range _ lo (hi - lo).toNat, ?_, fun b hb => ?_, q⟩
  · have e1 : lo + ((0 : Nat) : Int) * 1 = lo := by simp
    have e2 : (((hi - lo).toNat : Nat) : Int) - ((0 : Nat) : Int) = Builtin.Range.rangeSize lo hi 1 := by rw [rangeSize_one]; split <;> omega
    show IsRangeIter _ _ (lo + ((0 : Nat) : Int) * 1) ((((hi - lo).toNat : Nat) : Int) - ((0 : Nat) : Int)) 1
    rw [e1, e2]
    exact Heap.get?_push_size _ rfl
  · have e : b = (s.heap.push { cls := .type "range", data := .fields #[.int lo t, .int hi u, .int 1 v] }).objs.size := by simpa using hb
    subst e
    exact I1.fpOk (Nat.le_refl _) (I1.hok.fresh (Nat.le_refl _))
def iRng1 (ta : TA) : TI := fun σ H R => ta σ H fun vs H1 => ∃ j : Int, vs = [.int j] ∧ -(2 ^ 62) ≤ j ∧ j < 2 ^ 62 ∧ R (Itr 0 j.toNat) H1
theorem pi_range1 {a : Expr} {ta : TA} {p pos : Pos} (hg : Gl X "range") (hm : X.mg "range" = none) (ha : PA X [a] ta) (hs : starEach [a] X.env = [(false, eval a X.env)] := by rfl) : PI X tg (.Call (.Name "range" p) [a] [] pos) (iRng1 ta) := by
  intro pins s σ H R I h
  refine Call_ (ld_blt I hg hm boot_range (PyProof.Rows.callWith_type1 (thn (ha pos pins s σ H _ I h) fun us s1 ⟨vs, H1, I1, r1, q1⟩ => ?_) hs rfl))
  obtain ⟨j, e, q1, q2, q⟩ := q1
  subst e
  cases r1 with
  | cons r rr =>
    cases rr
    obtain ⟨t, rfl⟩ := r
    exact call_range_1 (range_it I1 (by omega) (by omega) q1 q2 (by simpa using q))
def tFor (wi : TI) (g : TG) (tb : TS) : TS := fun D σ H => wi σ H fun J H1 => ∃ W : Nat → Nat → St → Hp → Prop, (∃ m, W 0 m σ H1) ∧ ∀ i m σ H, W i m σ H →
  (J.stop i H ∧ D.nx σ H) ∨ (J.go i H ∧ ∃ N : St → Hp → Prop, (∀ σ' H', N σ' H' → ∃ m', m' < m ∧ W (i + 1) m' σ' H') ∧ ∀ x H', J.yld i H x H' → g x σ H' fun σ2 H2 => tb { D with nx := N, ct := N, bk := D.nx } σ2 H2)
def pinsAt (fp : List Addr) (h : Heap) : List (Addr × Obj) := fp.filterMap fun b => (h.get? b).map fun o => (b, o)
theorem mem_pinsAt {fp : List Addr} {h : Heap} {b : Addr} {o : Obj} (hb : b ∈ fp) (e : h.get? b = some o) : (b, o) ∈ pinsAt fp h := List.mem_filterMap.mpr ⟨b, hb, by rw [e]; rfl⟩
theorem of_pinsAt {fp : List Addr} {h : Heap} {p : Addr × Obj} (hp : p ∈ pinsAt fp h) : p.1 ∈ fp ∧ h.get? p.1 = some p.2 := by
  obtain ⟨b, hb, e⟩ := List.mem_filterMap.mp hp
  cases q : h.get? b with
  | none => rw [q] at e; cases e
  | some o =>
    rw [q] at e
    have e' : (b, o) = p := Option.some.inj e
    subst e'
    exact ⟨hb, q⟩
theorem Inv.pinned {pins : List (Addr × Obj)} {σ : St} {H : Hp} {s : Shared} {fp : List Addr} (I : Inv X pins σ H s) (hf : ∀ b ∈ fp, FpOk X pins H b) (ho : ∀ b ∈ fp, ∃ o, s.heap.get? b = some o ∧ ∀ v, o.data ≠ .cell v) : Inv X (pins ++ pinsAt fp s.heap) σ H s :=
  I.pins_of fun p hp => (List.mem_append.mp hp).elim (fun z => I.pin p (List.mem_append_right _ z)) fun z => by
    obtain ⟨hb, e⟩ := of_pinsAt z
    obtain ⟨f0, f1, f2, _⟩ := hf p.1 hb
    obtain ⟨o, e', d⟩ := ho p.1 hb
    rw [e] at e'; cases e'
    exact ⟨e, f0, f1, f2, d⟩
theorem Inv.unpinned {pins pl : List (Addr × Obj)} {σ : St} {H : Hp} {s : Shared} (I : Inv X (pins ++ pl) σ H s) : Inv X pins σ H s := I.pins_of fun p hp => I.pin p (List.mem_append_right _ (List.mem_append_left _ hp))
theorem ps_for {iter : Expr} {body : List Stmt} {wi : TI} {g : TG} {tb : TS} {pos : Pos} (hp : PassesOwn (model X.prog X.w) X.A X.env X.xe) (hc : X.calm = true) (hi : PI X tg iter wi) (hg : PG X tg g) (hb : PSs X body tb)
    (hs : ∀ x, foldedSetIterable iter X.env x = pure x := by intro _; rfl) : PS X (.For tg iter body [] pos) (tFor wi g tb) := by
  intro pins s σ H D I h
  refine wpAny_For (thn (hi pins s σ H _ I h) fun v s1 h1 => thn h1 fun itv s2 h2 => ?_) hs
  obtain ⟨it, fp, tn, J, H2, e, I2, T, st2, f2, W, ⟨m0, w0⟩, turn⟩ := h2
  subst e
  have stat : ∀ {H' : Hp}, (∀ b ∈ fp, H' b = none) → ∀ b ∈ fp, FpOk X pins H' b := fun hn b hb => ⟨hn b hb, (f2 b hb).2⟩
  refine codeAny_forLoop_any (fun n s' => ∃ i σ' H', Inv X pins σ' H' s' ∧ tn i s'.heap ∧ (∀ b ∈ fp, H' b = none) ∧ W i n σ' H') ?_ m0 ⟨0, σ, H2, I2, st2, fun b hb => (f2 b hb).1, w0⟩
  rintro n s3 ⟨i, σ3, H3, I3, st3, fr3, w3⟩
  rcases turn i n σ3 H3 w3 with ⟨stop, qn⟩ | ⟨go, N, hN, step⟩
  · refine wpAny_passesOwn hp (thn (T.done X rfl rfl rfl hc i pins s3 σ3 H3 X.xe I3 (stat fr3) st3 stop) fun r s4 ⟨hr, I4⟩ => ?_)
    subst hr
    exact wpAny_execs_nil ⟨σ3, H3, I4, qn⟩
  · refine wpAny_passesOwn hp (thn (T.item X rfl rfl rfl hc i pins s3 σ3 H3 X.xe I3 (stat fr3) st3 go) fun r s4 ⟨u, hr, h4⟩ => ?_)
    subst hr
    refine wpAny_passesOwn hp (thn h4 fun _ s5 ⟨x, H5, I5, r5, y5, st5, fr5⟩ => ?_)
    have I5' := I5.pinned (stat fr5) (T.obj _ _ st5)
    refine wpAny_passesOwn hp (thn (hg _ s5 σ3 H5 x u _ I5' r5 (step x H5 y5)) fun _ s6 ⟨σ6, H6, I6, q6⟩ => ?_)
    refine wpAny_passesOwn hp (thn (hb _ s6 σ6 H6 _ I6 q6) fun f s7 q7 => ?_)
    have again : ∀ {σ7 : St} {H7 : Hp}, Inv X (pins ++ pinsAt fp s5.heap) σ7 H7 s7 → N σ7 H7 → ∃ m, m < n ∧ ∃ i σ' H', Inv X pins σ' H' s7 ∧ tn i s7.heap ∧ (∀ b ∈ fp, H' b = none) ∧ W i m σ' H' := fun {σ7 H7} I7 n7 => by
      obtain ⟨m', hm, w7⟩ := hN σ7 H7 n7
      refine ⟨m', hm, i + 1, σ7, H7, I7.unpinned, T.keep _ _ _ st5 fun b hb o e => (I7.pin (b, o) (List.mem_append_right _ (List.mem_append_right _ (mem_pinsAt hb e)))).1, fun b hb => ?_, w7⟩
      obtain ⟨o, e, d⟩ := T.obj _ _ st5 b hb
      exact (I7.pin (b, o) (List.mem_append_right _ (List.mem_append_right _ (mem_pinsAt hb e)))).2.1
    cases f with
    | next => obtain ⟨σ7, H7, I7, n7⟩ := q7; exact again I7 n7
    | cont => obtain ⟨σ7, H7, I7, n7⟩ := q7; exact again I7 n7
    | brk => obtain ⟨σ7, H7, I7, q7⟩ := q7; exact ⟨σ7, H7, I7.unpinned, q7⟩
    | ret v => obtain ⟨x7, σ7, H7, I7, r7, q7⟩ := q7; exact ⟨x7, σ7, H7, I7.unpinned, r7, q7⟩
end
theorem for_range {lo : Int} {n : Nat} {g : TG} {tb : TS} {D : Ends} {σ : St} {H : Hp} (Pv : Nat → St → Hp → Prop) (h0 : Pv 0 σ H)
    (hs : ∀ i σ H, i < n → Pv i σ H → g (.int (lo + i)) σ H fun σ2 H2 => tb { D with nx := Pv (i + 1), ct := Pv (i + 1), bk := D.nx } σ2 H2) (hd : ∀ σ H, Pv n σ H → D.nx σ H) :
    ∃ W : Nat → Nat → St → Hp → Prop, (∃ m, W 0 m σ H) ∧ ∀ i m σ H, W i m σ H →
      ((Itr lo n).stop i H ∧ D.nx σ H) ∨ ((Itr lo n).go i H ∧ ∃ N : St → Hp → Prop, (∀ σ' H', N σ' H' → ∃ m', m' < m ∧ W (i + 1) m' σ' H') ∧ ∀ x H', (Itr lo n).yld i H x H' → g x σ H' fun σ2 H2 => tb { D with nx := N, ct := N, bk := D.nx } σ2 H2) := by
  refine ⟨fun i m σ H => m = n - i ∧ i ≤ n ∧ Pv i σ H, ⟨n, by simp, Nat.zero_le _, h0⟩, ?_⟩
  rintro i m σ H ⟨rfl, hi, p⟩
  by_cases hlt : i < n
  · refine .inr ⟨hlt, Pv (i + 1), fun σ' H' p' => ⟨n - (i + 1), by omega, rfl, hlt, p'⟩, fun x H' y => ?_⟩
    obtain ⟨e, y⟩ := y
    subst e y
    exact hs i σ _ hlt p
  · have e : i = n := by omega
    subst e
    exact .inl ⟨Nat.le_refl _, hd σ H p⟩
end L2
namespace L2
open PySem PySem.Spec PyProof.Rows
abbrev R2 := V → V → Hp → VK → Prop
def OpR (X : Cx) (f : Value → Value → Sem Value) (r : R2) : Prop :=
  ∀ (pins : List (Addr × Obj)) (s : Shared) (σ : St) (H : Hp) (x y : V) (v u : Value) (Q : VK), Inv X pins σ H s → RelV x v → RelV y u → r x y H Q →
    wpAny (model X.prog X.w) X.A (f v u) (EP X pins σ Q) X.xe s
def UnR (X : Cx) (f : Value → Sem Value) (r : V → Hp → VK → Prop) : Prop :=
  ∀ (pins : List (Addr × Obj)) (s : Shared) (σ : St) (H : Hp) (x : V) (v : Value) (Q : VK), Inv X pins σ H s → RelV x v → r x H Q →
    wpAny (model X.prog X.w) X.A (f v) (EP X pins σ Q) X.xe s
def CallR (X : Cx) (f : Value) (r : List V → Hp → VK → Prop) : Prop :=
  ∀ (pins : List (Addr × Obj)) (s : Shared) (σ : St) (H : Hp) (xs : List V) (us : List Value) (Q : VK), Inv X pins σ H s → Vals xs us → r xs H Q →
    wpAny (model X.prog X.w) X.A (call f us) (EP X pins σ Q) X.xe s
def tOp (r : R2) (ta tb : TE) : TE := fun σ H Q => ta σ H fun x H1 => tb σ H1 fun y H2 => r x y H2 Q
def tUn (r : V → Hp → VK → Prop) (ta : TE) : TE := fun σ H Q => ta σ H fun x H1 => r x H1 Q
def rI (C : Int → Int → Prop) (g : Int → Int → V) : R2 := fun x y H Q => ∃ i j, x = .int i ∧ y = .int j ∧ C i j ∧ Q (g i j) H
def rI0 (g : Int → Int → V) : R2 := fun x y H Q => ∃ i j, x = .int i ∧ y = .int j ∧ Q (g i j) H
def rU (g : Int → V) : V → Hp → VK → Prop := fun x H Q => ∃ i, x = .int i ∧ Q (g i) H
section
variable {X : Cx} {a b c : Expr} {ta tb tc : TE} {pos : Pos}
theorem binT (ha : PE X a ta) (hb : PE X b tb) {pins : List (Addr × Obj)} {s : Shared} {σ : St} {H : Hp} {R : V → V → Hp → Prop} (I : Inv X pins σ H s)
    (h : ta σ H fun x H1 => tb σ H1 fun y H2 => R x y H2) {Q : Value → Shared → Prop} {f : Value → Value → Sem Value}
    (hf : ∀ v u s2 x y H2, Inv X pins σ H2 s2 → RelV x v → RelV y u → R x y H2 → wpAny (model X.prog X.w) X.A (f v u) Q X.xe s2) :
    wpAny (model X.prog X.w) X.A (eval a X.env) (fun v s₁ => wpAny (model X.prog X.w) X.A (eval b X.env) (fun u s₂ => wpAny (model X.prog X.w) X.A (f v u) Q X.xe s₂) X.xe s₁) X.xe s := by
  refine thn (ha pins s σ H _ I h) fun v s1 ⟨x, H1, I1, r1, q1⟩ => ?_
  refine thn (hb pins s1 σ H1 _ I1 q1) fun u s2 ⟨y, H2, I2, r2, q2⟩ => ?_
  exact hf v u s2 x y H2 I2 r1 r2 q2
theorem pe_op {op : Operator} {r : R2} (ho : OpR X (binaryOp op) r) (ha : PE X a ta) (hb : PE X b tb) : PE X (.BinOp a op b pos) (tOp r ta tb) := by
  intro pins s σ H Q I h
  exact wpAny_BinOp (binT ha hb I h fun v u s2 x y H2 I2 rx ry q => ho pins s2 σ H2 x y v u Q I2 rx ry q)
theorem pe_un {op : UnaryOp} {r : V → Hp → VK → Prop} (ho : UnR X (unaryOp op) r) (ha : PE X a ta) : PE X (.UnaryOp op a pos) (tUn r ta) := by
  intro pins s σ H Q I h
  exact UnaryOp_ (thn (ha pins s σ H _ I h) fun v s1 ⟨x, H1, I1, r1, q1⟩ => ho pins s1 σ H1 x v Q I1 r1 q1)
theorem opI {f : Value → Value → Sem Value} {C : Int → Int → Prop} {g : Int → Int → Int}
    (rule : ∀ (i j : Int) (t u : Tok) (s : Shared) (Q : Value → Shared → Prop) (E : Value → Shared → Prop), C i j → Q (.int (g i j) s.toks) { s with toks := s.toks + 1 } → wpAny (model X.prog X.w) X.A (f (.int i t) (.int j u)) Q E s) :
    OpR X f (rI C fun i j => .int (g i j)) := by
  intro pins s σ H x y v u Q I rx ry h
  obtain ⟨i, j, rfl, rfl, hc, q⟩ := h
  obtain ⟨t, rfl⟩ := rx
  obtain ⟨t', rfl⟩ := ry
  exact rule i j t t' s _ _ hc ⟨.int (g i j), H, I.tok _, ⟨_, rfl⟩, q⟩
theorem opI0 {f : Value → Value → Sem Value} {g : Int → Int → Int}
    (rule : ∀ (i j : Int) (t u : Tok) (s : Shared) (Q : Value → Shared → Prop) (E : Value → Shared → Prop), Q (.int (g i j) s.toks) { s with toks := s.toks + 1 } → wpAny (model X.prog X.w) X.A (f (.int i t) (.int j u)) Q E s) :
    OpR X f (rI0 fun i j => .int (g i j)) := by
  intro pins s σ H x y v u Q I rx ry h
  obtain ⟨i, j, rfl, rfl, q⟩ := h
  obtain ⟨t, rfl⟩ := rx
  obtain ⟨t', rfl⟩ := ry
  exact rule i j t t' s _ _ ⟨.int (g i j), H, I.tok _, ⟨_, rfl⟩, q⟩
theorem opB0 {f : Value → Value → Sem Value} {g : Int → Int → Bool}
    (rule : ∀ (i j : Int) (t u : Tok) (s : Shared) (Q : Value → Shared → Prop) (E : Value → Shared → Prop), Q (.bool (g i j)) s → wpAny (model X.prog X.w) X.A (f (.int i t) (.int j u)) Q E s) :
    OpR X f (rI0 fun i j => .bl (g i j)) := by
  intro pins s σ H x y v u Q I rx ry h
  obtain ⟨i, j, rfl, rfl, q⟩ := h
  obtain ⟨t, rfl⟩ := rx
  obtain ⟨t', rfl⟩ := ry
  exact rule i j t t' s _ _ ⟨.bl (g i j), H, I, rfl, q⟩
def CDiv (i j : Int) : Prop := 0 < j ∧ j < 1073741824
def CPow (i j : Int) : Prop := 0 ≤ j ∧ j ≤ 1000000 ∧ i.natAbs < 2 ^ 64
def CMul (i j : Int) : Prop := (-(2 ^ 64) < i ∧ i < 2 ^ 64) ∨ (-(2 ^ 64) < j ∧ j < 2 ^ 64)
theorem CMul.ok {i j : Int} (h : CMul i j) : IntMulOk i j := by
  rcases h with ⟨h1, h2⟩ | ⟨h1, h2⟩
  · exact .of_left (intBits_le_64 h1 h2)
  · exact .of_right (intBits_le_64 h1 h2)
theorem op_add : OpR X (binaryOp .Add) (rI0 fun i j => .int (i + j)) := opI0 fun _ _ _ _ _ _ _ q => add_int q
theorem op_sub : OpR X (binaryOp .Sub) (rI0 fun i j => .int (i - j)) := opI0 fun _ _ _ _ _ _ _ q => sub_int q
theorem op_mul : OpR X (binaryOp .Mult) (rI CMul fun i j => .int (i * j)) := opI fun _ _ _ _ _ _ _ hc q => mul_int q hc.ok
theorem op_fdiv : OpR X (binaryOp .FloorDiv) (rI CDiv fun i j => .int (i / j)) := opI fun i j _ _ _ _ _ hc q => by
  have h1 : (0 : Int) < j := hc.1
  have h2 : j < 1073741824 := hc.2
  exact floordiv_int (by omega) (by rw [Int.fdiv_eq_ediv_of_nonneg i (by omega)]; exact q) (.inl (PyProof.noPylong_small (by omega)))
theorem op_mod : OpR X (binaryOp .Mod) (rI (fun _ j => 0 < j) fun i j => .int (i % j)) := opI fun i j _ _ _ _ _ hc q => by
  have h1 : (0 : Int) < j := hc
  exact mod_int' (by omega) (by rw [Int.fmod_eq_emod_of_nonneg i (by omega)]; exact q)
theorem op_pow : OpR X (binaryOp .Pow) (rI CPow fun i j => .int (i ^ j.toNat)) := opI fun _ _ _ _ _ _ _ hc q => pow_int_small hc.1 hc.2.1 hc.2.2 q
theorem unI {f : Value → Sem Value} {g : Int → Int}
    (rule : ∀ (i : Int) (t : Tok) (s : Shared) (Q : Value → Shared → Prop) (E : Value → Shared → Prop), Q (.int (g i) s.toks) { s with toks := s.toks + 1 } → wpAny (model X.prog X.w) X.A (f (.int i t)) Q E s) :
    UnR X f (rU fun i => .int (g i)) := by
  intro pins s σ H x v Q I rx h
  obtain ⟨i, rfl, q⟩ := h
  obtain ⟨t, rfl⟩ := rx
  exact rule i t s _ _ ⟨.int (g i), H, I.tok _, ⟨_, rfl⟩, q⟩
theorem un_neg : UnR X (unaryOp .USub) (rU fun i => .int (-i)) := unI fun _ _ _ _ _ q => neg_int q
end
def scal : V → V → Bool
  | .non, .non => true | .non, .int _ => true | .int _, .non => true | .non, .bl _ => true | .bl _, .non => true | .non, .str _ => true | .str _, .non => true
  | .int _, .int _ => true | .bl _, .bl _ => true | .str _, .str _ => true | .byt _, .byt _ => true
  | .int _, .str _ => true | .str _, .int _ => true | .bl _, .str _ => true | .str _, .bl _ => true
  | _, _ => false
def rEq : R2 := fun x y H Q => scal x y = true ∧ Q (.bl (decide (x = y))) H
def rNe : R2 := fun x y H Q => scal x y = true ∧ Q (.bl (!decide (x = y))) H
theorem dec_int {i j : Int} : decide (V.int i = V.int j) = (i == j) := by
  rw [Bool.eq_iff_iff]
  simp
theorem dec_bl {i j : Bool} : decide (V.bl i = V.bl j) = (i == j) := by
  rw [Bool.eq_iff_iff]
  simp
theorem dec_str {i j : Str} : decide (V.str i = V.str j) = (i == j) := by
  rw [Bool.eq_iff_iff]
  simp
theorem dec_byt {i j : Array UInt8} : decide (V.byt i = V.byt j) = (i.toList == j.toList) := by
  rw [Bool.eq_iff_iff]
  cases i
  cases j
  simp
section
variable {X : Cx} {a b c : Expr} {ta tb tc : TE} {pos : Pos}
theorem fin_bl {pins : List (Addr × Obj)} {σ : St} {H : Hp} {s : Shared} {Q : VK} {k k' : Bool} (I : Inv X pins σ H s) (q : Q (.bl k) H) (e : k = k') : EP X pins σ Q (.bool k') s := by
  subst e
  exact ⟨.bl k, H, I, rfl, q⟩
theorem op_eq : OpR X (compareOp .Eq) rEq := by
  intro pins s σ H x y v u Q I rx ry h
  obtain ⟨hs, q⟩ := h
  cases x with
  | non =>
    cases rx
    cases y with
    | non => cases ry; exact PySem.EqNone.eq_none_none (fin_bl I q (by simp))
    | bl j => cases ry; exact PySem.EqNone.eq_none_bool (fin_bl I q (by simp))
    | int j => obtain ⟨t', rfl⟩ := ry; exact PySem.EqNone.eq_none_int (fin_bl I q (by simp))
    | str j => obtain ⟨t', rfl⟩ := ry; exact PySem.EqNone.eq_none_str (fin_bl I q (by simp))
    | _ => exact absurd (show false = true from hs) Bool.false_ne_true
  | bl i =>
    cases rx
    cases y with
    | non => cases ry; exact PySem.EqNone.eq_bool_none (fin_bl I q (by simp))
    | bl j => cases ry; exact eq_bool (fin_bl I q dec_bl)
    | str j => obtain ⟨t', rfl⟩ := ry; exact PySem.EqMixed.eq_bool_str (fin_bl I q (by simp))
    | _ => exact absurd (show false = true from hs) Bool.false_ne_true
  | int i =>
    obtain ⟨t, rfl⟩ := rx
    cases y with
    | non => cases ry; exact PySem.EqNone.eq_int_none (fin_bl I q (by simp))
    | int j => obtain ⟨t', rfl⟩ := ry; exact eq_int (fin_bl I q dec_int)
    | str j => obtain ⟨t', rfl⟩ := ry; exact PySem.EqMixed.eq_int_str (fin_bl I q (by simp))
    | _ => exact absurd (show false = true from hs) Bool.false_ne_true
  | str i =>
    obtain ⟨t, rfl⟩ := rx
    cases y with
    | non => cases ry; exact PySem.EqNone.eq_str_none (fin_bl I q (by simp))
    | bl j => cases ry; exact PySem.EqMixed.eq_str_bool (fin_bl I q (by simp))
    | int j => obtain ⟨t', rfl⟩ := ry; exact PySem.EqMixed.eq_str_int (fin_bl I q (by simp))
    | str j => obtain ⟨t', rfl⟩ := ry; exact eq_str (fin_bl I q dec_str)
    | _ => exact absurd (show false = true from hs) Bool.false_ne_true
  | byt i =>
    obtain ⟨t, rfl⟩ := rx
    cases y with
    | byt j => obtain ⟨t', rfl⟩ := ry; exact PySem.W.eq_bytes (fin_bl I q dec_byt)
    | _ => exact absurd (show false = true from hs) Bool.false_ne_true
  | _ => cases y <;> exact absurd (show false = true from hs) Bool.false_ne_true
theorem op_ne : OpR X (compareOp .NotEq) rNe := by
  intro pins s σ H x y v u Q I rx ry h
  obtain ⟨hs, q⟩ := h
  cases x with
  | non =>
    cases rx
    cases y with
    | non => cases ry; exact PySem.EqNone.ne_none_none (fin_bl I q (by simp))
    | bl j => cases ry; exact PySem.EqNone.ne_none_bool (fin_bl I q (by simp))
    | int j => obtain ⟨t', rfl⟩ := ry; exact PySem.EqNone.ne_none_int (fin_bl I q (by simp))
    | str j => obtain ⟨t', rfl⟩ := ry; exact PySem.EqNone.ne_none_str (fin_bl I q (by simp))
    | _ => exact absurd (show false = true from hs) Bool.false_ne_true
  | bl i =>
    cases rx
    cases y with
    | non => cases ry; exact PySem.EqNone.ne_bool_none (fin_bl I q (by simp))
    | bl j => cases ry; exact ne_bool (fin_bl I q (congrArg not dec_bl))
    | str j => obtain ⟨t', rfl⟩ := ry; exact PySem.EqMixed.ne_bool_str (fin_bl I q (by simp))
    | _ => exact absurd (show false = true from hs) Bool.false_ne_true
  | int i =>
    obtain ⟨t, rfl⟩ := rx
    cases y with
    | non => cases ry; exact PySem.EqNone.ne_int_none (fin_bl I q (by simp))
    | int j => obtain ⟨t', rfl⟩ := ry; exact ne_int (fin_bl I q (congrArg not dec_int))
    | str j => obtain ⟨t', rfl⟩ := ry; exact PySem.EqMixed.ne_int_str (fin_bl I q (by simp))
    | _ => exact absurd (show false = true from hs) Bool.false_ne_true
  | str i =>
    obtain ⟨t, rfl⟩ := rx
    cases y with
    | non => cases ry; exact PySem.EqNone.ne_str_none (fin_bl I q (by simp))
    | bl j => cases ry; exact PySem.EqMixed.ne_str_bool (fin_bl I q (by simp))
    | int j => obtain ⟨t', rfl⟩ := ry; exact PySem.EqMixed.ne_str_int (fin_bl I q (by simp))
    | str j => obtain ⟨t', rfl⟩ := ry; exact ne_str (fin_bl I q (congrArg not dec_str))
    | _ => exact absurd (show false = true from hs) Bool.false_ne_true
  | byt i =>
    obtain ⟨t, rfl⟩ := rx
    cases y with
    | byt j => obtain ⟨t', rfl⟩ := ry; exact PySem.W.ne_bytes (fin_bl I q (congrArg not dec_byt))
    | _ => exact absurd (show false = true from hs) Bool.false_ne_true
  | _ => cases y <;> exact absurd (show false = true from hs) Bool.false_ne_true
theorem op_lt : OpR X (compareOp .Lt) (rI0 fun i j => .bl (decide (i < j))) := opB0 fun _ _ _ _ _ _ _ q => lt_int q
theorem op_le : OpR X (compareOp .LtE) (rI0 fun i j => .bl (decide (i ≤ j))) := opB0 fun _ _ _ _ _ _ _ q => le_int q
theorem op_gt : OpR X (compareOp .Gt) (rI0 fun i j => .bl (decide (j < i))) := opB0 fun _ _ _ _ _ _ _ q => gt_int q
theorem op_ge : OpR X (compareOp .GtE) (rI0 fun i j => .bl (decide (j ≤ i))) := opB0 fun _ _ _ _ _ _ _ q => ge_int q
theorem OpR.or {f : Value → Value → Sem Value} {r r' : R2} (h : OpR X f r) (h' : OpR X f r') : OpR X f (fun x y H Q => r x y H Q ∨ r' x y H Q) := by
  intro pins s σ H x y v u Q I rx ry q
  rcases q with q | q
  · exact h pins s σ H x y v u Q I rx ry q
  · exact h' pins s σ H x y v u Q I rx ry q
theorem pe_cmpR {op : CmpOp} {r : R2} (ho : OpR X (compareOp op) r) (ha : PE X a ta) (hb : PE X b tb) (hm : behindInMarks op b = false) : PE X (.Compare a [op] [b] pos) (tOp r ta tb) := by
  intro pins s σ H Q I h
  exact wpAny_Compare1 (binT ha hb I h fun v u s2 x y H2 I2 rx ry q => ho pins s2 σ H2 x y v u Q I2 rx ry q) hm
def tTest (t : TE) : TT := fun σ H Q => t σ H fun x H' => ∃ k, x = .bl k ∧ Q k H'
theorem pt_cmpR {op : CmpOp} {r : R2} (ho : OpR X (compareOp op) r) (ha : PE X a ta) (hb : PE X b tb) (hm : behindInMarks op b = false) : PT X (.Compare a [op] [b] pos) (tTest (tOp r ta tb)) := by
  intro pins s σ H Q I h
  refine wpAny_isTrue_Compare1 (thn (ha pins s σ H _ I h) fun v s1 ⟨x, H1, I1, r1, q1⟩ => thn (hb pins s1 σ H1 _ I1 q1) fun u s2 ⟨y, H2, I2, r2, q2⟩ =>
    thn (ho pins s2 σ H2 x y v u _ I2 r1 r2 q2) fun c s3 ⟨z, H3, I3, r3, k, e, q3⟩ => ?_) hm
  subst e
  cases r3
  exact wpAny_truthy_bool ⟨H3, I3, q3⟩
def tChain (r r' : R2) (ta tb tc : TE) : TE := fun σ H Q => ta σ H fun x H1 => tb σ H1 fun y H2 => r x y H2 fun z H3 => ∃ k, z = .bl k ∧
  (if k = true then tc σ H3 fun w' H4 => r' y w' H4 Q else Q (.bl false) H3)
theorem pe_chain {op op' : CmpOp} {r r' : R2} (ho : OpR X (compareOp op) r) (ho' : OpR X (compareOp op') r') (ha : PE X a ta) (hb : PE X b tb) (hc : PE X c tc)
    (hm : lastMarks [op, op'] [b, c] = false := by with_unfolding_all rfl) : PE X (.Compare a [op, op'] [b, c] pos) (tChain r r' ta tb tc) := by
  intro pins s σ H Q I h
  refine Compare_chain (thn (ha pins s σ H _ I h) fun v s1 ⟨x, H1, I1, r1, q1⟩ => chain_link (thn (hb pins s1 σ H1 _ I1 q1) fun u s2 ⟨y, H2, I2, r2, q2⟩ =>
    thn (ho pins s2 σ H2 x y v u _ I2 r1 r2 q2) fun d s3 ⟨z, H3, I3, r3, k, e, q3⟩ => ?_)) hm
  subst e
  cases r3
  refine wpAny_truthy_bool ?_
  cases k with
  | false => exact ite_ff ⟨.bl false, H3, I3, rfl, q3⟩
  | true => exact ite_tt (chain_last (thn (hc pins s3 σ H3 _ I3 q3) fun w' s4 ⟨z', H4, I4, r4, q4⟩ => ho' pins s4 σ H4 y z' u w' Q I4 r2 r4 q4))
theorem pt_chain {op op' : CmpOp} {r r' : R2} (ho : OpR X (compareOp op) r) (ho' : OpR X (compareOp op') r') (ha : PE X a ta) (hb : PE X b tb) (hc : PE X c tc)
    (hm : lastMarks [op, op'] [b, c] = false := by with_unfolding_all rfl) : PT X (.Compare a [op, op'] [b, c] pos) (tTest (tChain r r' ta tb tc)) := by
  intro pins s σ H Q I h
  refine isTrue_chain (thn (ha pins s σ H _ I h) fun v s1 ⟨x, H1, I1, r1, q1⟩ => test_link (thn (hb pins s1 σ H1 _ I1 q1) fun u s2 ⟨y, H2, I2, r2, q2⟩ =>
    thn (ho pins s2 σ H2 x y v u _ I2 r1 r2 q2) fun d s3 ⟨z, H3, I3, r3, k, e, q3⟩ => ?_)) hm
  subst e
  cases r3
  refine wpAny_truthy_bool ?_
  cases k with
  | false =>
    obtain ⟨k', e', q'⟩ := q3
    cases e'
    exact ite_ff ⟨H3, I3, q'⟩
  | true =>
    refine ite_tt (test_last (thn (hc pins s3 σ H3 _ I3 q3) fun w' s4 ⟨z', H4, I4, r4, q4⟩ => thn (ho' pins s4 σ H4 y z' u w' _ I4 r2 r4 q4) fun d' s5 ⟨z2, H5, I5, r5, k2, e2, q5⟩ => ?_))
    subst e2
    cases r5
    exact wpAny_truthy_bool ⟨H5, I5, q5⟩
theorem line63 : (sizeLine : Nat) < 2 ^ 63 := by rw [sizeLine_eq]; decide
theorem op_add_str : OpR X (binaryOp .Add) (fun x y H Q => ∃ i j, x = .str i ∧ y = .str j ∧ i.length + j.length ≤ sizeLine ∧ Q (.str (i ++ j)) H) := by
  intro pins s σ H x y v u Q I rx ry h
  obtain ⟨i, j, rfl, rfl, hz, q⟩ := h
  obtain ⟨t, rfl⟩ := rx
  obtain ⟨t', rfl⟩ := ry
  exact add_str (fun t' tk => ⟨.str (i ++ j), H, I.tok _, ⟨_, rfl⟩, q⟩) hz
theorem vals1 {x : V} {us : List Value} (r : Vals [x] us) : ∃ u, us = [u] ∧ RelV x u := by
  cases r with
  | cons r1 r2 => cases r2; exact ⟨_, rfl, r1⟩
theorem vals2 {x y : V} {us : List Value} (r : Vals [x, y] us) : ∃ u w', us = [u, w'] ∧ RelV x u ∧ RelV y w' := by
  cases r with
  | cons r1 r2 =>
    cases r2 with
    | cons r3 r4 => cases r4; exact ⟨_, _, rfl, r1, r3⟩
theorem call_min2 (hc : X.calm = true) : CallR X (.builtin "min") (fun xs H Q => ∃ i j, xs = [.int i, .int j] ∧ Q (.int (if j < i then j else i)) H) := by
  intro pins s σ H xs us Q I r h
  obtain ⟨i, j, rfl, q⟩ := h
  obtain ⟨u, w', rfl, ⟨t, rfl⟩, ⟨t', rfl⟩⟩ := vals2 r
  refine min_two_ints (I.ok.hd hc) fun h' tk k => ⟨_, H, I.kept k, ?_, q⟩
  by_cases hj : j < i
  · rw [if_pos hj, if_pos hj]; exact ⟨_, rfl⟩
  · rw [if_neg hj, if_neg hj]; exact ⟨_, rfl⟩
end
end L2
namespace L2
open PySem PySem.Spec PyProof.Rows
structure ObjM (h : Heap) (x dx C : Addr) (mA : Str → Option Value) : Prop where
  obj : h.get? x = some (PySem.W.instObj C dx)
  ns : h.Ns1 dx mA
  ne : dx ≠ x
theorem lookIn_ns {h : Heap} {dx : Addr} {mA : Str → Option Value} (n : h.Ns1 dx mA) : ∃ od, h.get? dx = some od ∧ ∀ name, PySem.W.lookIn name od = some (mA name) := by
  obtain ⟨o, es, ep, ho, hd, hk, _, hm⟩ := n
  refine ⟨o, ho, fun name => ?_⟩
  have e := hm name
  unfold nsFind findBy at e
  rw [← Array.find?_toList] at e
  unfold PySem.W.lookIn
  rw [hd]
  dsimp only
  split
  · rename_i y q
    rw [q] at e
    exact congrArg some e
  · rename_i q
    rw [q] at e
    have a : es.toList.any (·.refKey) = false := by
      rw [List.any_eq_false]
      intro y hy
      obtain ⟨z, t, hkey⟩ := hk y (Array.mem_toList_iff.mp hy)
      simp [DictEntry.refKey, hkey]
    have a' : ¬ es.toList.any (·.refKey) = true := by rw [a]; exact Bool.false_ne_true
    rw [if_neg a']
    exact congrArg some e
theorem ObjM.look {h : Heap} {x dx C : Addr} {mA : Str → Option Value} (I : ObjM h x dx C mA) : ∃ od, PySem.W.InstAt h x (PySem.W.instObj C dx) C (some od) ∧ ∀ name, PySem.W.lookIn name od = some (mA name) :=
  let ⟨od, ho, hl⟩ := lookIn_ns I.ns
  ⟨od, ⟨I.obj, rfl, rfl, ho⟩, hl⟩
section
variable {prog : Program} {w : World} {A : Around} {E : Value → Shared → Prop} {s : Shared} {K : PySem.W.Frag} {x dx C f : Addr} {mA : Str → Option Value} {name : Str} {v : Value}
theorem get_map {expr : Bool} {Q : Value → Shared → Prop} (X : K.In s.heap) (I : ObjM s.heap x dx C mA) (hg : PySem.W.plainGet K C name = true) (hh : PySem.W.hasDictIn K C = true)
    (ha : PySem.W.findIn K (.ref C) name = some none) (hv : mA name = some v) (hv' : PySem.W.handedIn v = true) (h : Q v { s with toks := s.toks + 1 }) :
    wpAny (model prog w) A (getAttr (.ref x) name expr) Q E s := by
  obtain ⟨od, J, hl⟩ := I.look
  exact PySem.W.get_value X J (PySem.W.plainGet_of hg).1 (PySem.W.findObj_own hh ha rfl (by rw [hl, hv])) hv' h
theorem make_map {R : Result → Shared → Prop} {vs : List Value} {kw : List (Str × Value)} (X : K.In s.heap) (hm : PySem.W.makesIn K C = true)
    (hi : PySem.W.findIn K (.ref C) "__init__" = some (some (.ref f))) (hf : PySem.W.typeIn K (.ref f) = some (.type "function"))
    (h : codeAny (model prog w) (A.under (.builtin "type.__call__" ⟨.ref C :: vs, kw⟩)) (.call (.ref f) ⟨.ref (s.heap.objs.size + 1) :: vs, kw⟩) (PySem.W.InitBack (s.heap.objs.size + 1) R)
      { s with heap := (s.heap.push PySem.W.emptyDict).push (PySem.W.instObj C s.heap.objs.size) }) :
    codeAny (model prog w) A (.call (.ref C) ⟨vs, kw⟩) R s := by
  obtain ⟨hh, g, d, t, os⟩ := s
  exact PySem.W.make_core (PySem.W.makes_of X hm) (PySem.W.looks_findIn X hi) (fun self => PySem.W.bind_fn X self hf) (.inl rfl) h
end
theorem RelO.some_of {v : V} {o : Option Value} (r : RelO (some v) o) : ∃ u, o = some u ∧ RelV v u := by
  cases o with
  | none => exact (show False from r).elim
  | some u => exact ⟨u, rfl, r⟩
theorem RelO.none_of {o : Option Value} (r : RelO none o) : o = none := by
  cases o with
  | none => rfl
  | some u => exact (show False from r).elim
theorem handed_of {v : V} {u : Value} (r : RelV v u) : PySem.W.handedIn u = true := by
  cases v with
  | non => cases (show u = Value.none from r); rfl
  | bl b => cases (show u = Value.bool b from r); rfl
  | int i => obtain ⟨t, e⟩ := (show ∃ t, u = Value.int i t from r); cases e; rfl
  | str x => obtain ⟨t, e⟩ := (show ∃ t, u = Value.str x t from r); cases e; rfl
  | byt b => obtain ⟨t, e⟩ := (show ∃ t, u = Value.bytes b t from r); cases e; rfl
  | flt b => obtain ⟨t, e⟩ := (show ∃ t, u = Value.float b t from r); cases e; rfl
  | ref a => cases (show u = Value.ref a from r); rfl
  | ty n => cases (show u = Value.type n from r); rfl
section
variable {P : Program} {w : World} {H H' : Hp} {h h' : Heap} {a C dx : Addr} {fs fs' : List (Str × V)}
theorem ins_get (hok : HOk P w H h) (e : H a = some (.ins C dx fs)) : ∃ mA, ObjM h a dx C mA ∧ (∀ f, RelO (fs.lookup f) (mA f)) ∧ PySem.Within mA (fs.map (·.1)) ∧ fs.length ≤ 1000 ∧ H dx = some (.own a) := by
  obtain ⟨d, z, ne, ob, mA, n, r, q⟩ := (show ObjOk P w H h a (.ins C dx fs) from hok a _ e)
  exact ⟨mA, ⟨ob, n, ne⟩, r, q, z, d⟩
end
structure Cls (K : PySem.W.Frag) (C : Addr) : Prop where
  pg : PySem.W.plainGet K C Str.empty = true
  hd : PySem.W.hasDictIn K C = true
  po : PySem.W.plainOver K C = true
  sa : PySem.W.findIn K (.ref C) "__setattr__" = some (some (.builtin "object.__setattr__"))
theorem Cls.get {K : PySem.W.Frag} {C : Addr} (c : Cls K C) (f : Str) : PySem.W.plainGet K C f = true := c.pg
def NoAttr (K : PySem.W.Frag) (C : Addr) (f : Str) : Prop := PySem.W.findIn K (.ref C) f = some none
structure Con (K : PySem.W.Frag) (C : Addr) (f : Str) (v : V) (u : Value) : Prop where
  at_ : PySem.W.findIn K (.ref C) f = some (some u)
  rel : RelV v u
  get : PySem.W.specialIn K u "__get__" = some none
  cp : PySem.W.copiedNames.contains f = false
structure Meth (K : PySem.W.Frag) (C : Addr) (m : Str) (f : Addr) : Prop where
  at_ : PySem.W.findIn K (.ref C) m = some (some (.ref f))
  fn : PySem.W.isFn K (.ref f) = true
  kp : PySem.W.keepIn K (.ref f) = true
section
variable {X : Cx} {pins : List (Addr × Obj)} {σ : St} {H : Hp} {s : Shared} {a C dx : Addr} {fs : List (Str × V)} {f : Str} {v : V} {A : Around} {E : Value → Shared → Prop}
theorem getattr_ok {b : Bool} {Q : Value → Shared → Prop} (I : Inv X pins σ H s) (e : H a = some (.ins C dx fs)) (c : Cls X.K C) (n : NoAttr X.K C f) (l : fs.lookup f = some v)
    (h : ∀ u s', Inv X pins σ H s' → RelV v u → Q u s') : wpAny (model X.prog X.w) A (getAttr (.ref a) f b) Q E s := by
  obtain ⟨mA, O, r, _, _, _⟩ := ins_get I.hok e
  obtain ⟨u, hu, ru⟩ := RelO.some_of (v := v) (o := mA f) (by rw [← l]; exact r f)
  exact get_map I.kIn O (c.get f) c.hd n hu (handed_of ru) (h u _ (I.tok _) ru)
theorem Inv.made (I : Inv X pins σ H s) : Inv X pins σ (upd (upd H s.heap.objs.size (.own (s.heap.objs.size + 1))) (s.heap.objs.size + 1) (.ins C s.heap.objs.size []))
    { s with heap := (s.heap.push PySem.W.emptyDict).push (PySem.W.instObj C s.heap.objs.size) } := by
  have e1 : (s.heap.push PySem.W.emptyDict).get? s.heap.objs.size = some PySem.W.emptyDict := Heap.get?_push_size s.heap rfl
  have e2 : ((s.heap.push PySem.W.emptyDict).push (PySem.W.instObj C s.heap.objs.size)).get? (s.heap.objs.size + 1) = some (PySem.W.instObj C s.heap.objs.size) := by
    have := Heap.get?_push_size (s.heap.push PySem.W.emptyDict) (o := PySem.W.instObj C s.heap.objs.size) rfl
    rwa [Heap.size_push] at this
  have e3 : (s.heap.push PySem.W.emptyDict).Ns s.heap.objs.size (fun _ => none) := ⟨PySem.W.emptyDict, #[], _, e1, rfl, (fun e he => absurd he (by simp)), fun _ => rfl⟩
  have I1 := I.laid (a := s.heap.objs.size) (o := .own (s.heap.objs.size + 1)) (h' := s.heap.push PySem.W.emptyDict) (t' := s.toks) (fun b u q => Heap.get?_push_of_some _ q) (Nat.le_refl _) ⟨_, e1⟩
  refine I1.laid (a := s.heap.objs.size + 1) (o := .ins C s.heap.objs.size []) (t' := s.toks) (fun b u q => Heap.get?_push_of_some _ q) (Nat.le_of_eq (Heap.size_push _ _)) ?_
  have ne : s.heap.objs.size ≠ s.heap.objs.size + 1 := Nat.ne_of_lt (Nat.lt_succ_self _)
  refine ⟨by rw [upd_ne ne, upd_same], Nat.zero_le _, ne, e2, fun _ => none, (Heap.Ns1.of_empty e3).at fun o q => Heap.get?_push_of_some _ q, fun _ => True.intro, fun y hy => absurd rfl hy⟩
theorem attr_of {prog : Program} {w : World} {env : Env} {e : Expr} {f : Str} {pos : Pos} {s : Shared} {Q : Value → Shared → Prop} (hb : attributeBase e f env (eval e env) = eval e env)
    (h : wpAny (model prog w) A (eval e env) (fun o s₁ => wpAny (model prog w) A (getAttr o f true) Q E s₁) E s) : wpAny (model prog w) A (eval (.Attribute e f pos) env) Q E s :=
  Attribute_any_ h (by rw [arm_eval_Attribute, hb])
end
def tFld (K : PySem.W.Frag) (ta : TE) (f : Str) : TE := fun σ H Q => ta σ H fun x H1 => ∃ a C dx fs v, x = .ref a ∧ H1 a = some (.ins C dx fs) ∧ Cls K C ∧ NoAttr K C f ∧ fs.lookup f = some v ∧ Q v H1
section
variable {X : Cx} {o e value : Expr} {f : Str} {pos pos' tpos : Pos} {ta tv : TE}
theorem pe_fld (he : PE X e ta) (hb : attributeBase e f X.env (eval e X.env) = eval e X.env) : PE X (.Attribute e f pos) (tFld X.K ta f) := by
  intro pins s σ H Q I h
  refine attr_of hb (thn (he pins s σ H _ I h) fun u s1 ⟨x, H1, I1, rx, a, C, dx, fs, v, ex, ea, c, n, l, q⟩ => ?_)
  subst ex
  obtain rfl : u = Value.ref a := rx
  exact getattr_ok I1 ea c n l fun u' s2 I2 ru => ⟨v, H1, I2, ru, q⟩
end
section
variable {X : Cx} {pins : List (Addr × Obj)} {σ : St} {H : Hp} {s : Shared} {A : Around} {E : Value → Shared → Prop} {Q : Value → Shared → Prop} {c : Value} {b : Bool}
inductive TyOf (K : PySem.W.Frag) (H : Hp) : V → Value → Prop where
  | non : TyOf K H .non (.type "NoneType")
  | bl (x : Bool) : TyOf K H (.bl x) (.type "bool")
  | int (i : Int) : TyOf K H (.int i) (.type "int")
  | str (x : Str) : TyOf K H (.str x) (.type "str")
  | flt (x : UInt64) : TyOf K H (.flt x) (.type "float")
  | lst {a : Addr} {xs : List V} (e : H a = some (.lst xs)) : TyOf K H (.ref a) (.type "list")
  | frz {a : Addr} {o : Obj} {xs : List V} (e : H a = some (.frz o (.lst xs))) : TyOf K H (.ref a) (.type "list")
  | tup {a : Addr} {xs : List V} (e : H a = some (.tup xs)) : TyOf K H (.ref a) (.type "tuple")
  | dK {a : Addr} {kvs : List (Key × V)} (e : H a = some (.dK kvs)) : TyOf K H (.ref a) (.type "dict")
  | dT {a : Addr} {kvs : List (List Key × V)} (e : H a = some (.dT kvs)) : TyOf K H (.ref a) (.type "dict")
  | ins {a C dx : Addr} {fs : List (Str × V)} (e : H a = some (.ins C dx fs)) (cl : Cls K C) (ha : PySem.W.findIn K (.ref C) "__class__" = some (some (.builtin "object.__class__")))
      (hn : PySem.W.specialIn K (.builtin "object.__class__") "__get__" = some (some (.builtin "getset_descriptor.__get__"))) (htk : PySem.W.takesIn K (.builtin "object.__class__") = some true)
      (hm : PySem.W.mroIn K C (.type "object") = some true) : TyOf K H (.ref a) (.ref C)
end
end L2
namespace L2
open PySem PySem.Spec PyProof.Rows
structure Room (k : Nat) (A : Around) : Prop where
  hd : A.handled = none
  dp : A.depth + 3 * k + 5 < recursionLimit
  un : A.units + 16 * k + 200 < cLine
theorem Room.mono {j k : Nat} {A : Around} (r : Room k A) (h : j ≤ k) : Room j A := ⟨r.hd, by have := r.dp; omega, by have := r.un; omega⟩
theorem Room.deeper {k : Nat} {A : Around} (r : Room (k + 1) A) (env : Env) : Room k (A.deeper env) :=
  ⟨r.hd, by have := r.dp; show A.depth + 1 + 3 * k + 5 < _; omega, by have := r.un; show A.units + 3 + 16 * k + 200 < _; omega⟩
theorem Room.in1 {k : Nat} {A : Around} (r : Room (k + 1) A) : Room k A.in1 :=
  ⟨r.hd, by have := r.dp; show A.depth + 3 * k + 5 < _; omega, by have := r.un; show A.units + 1 + 16 * k + 200 < _; omega⟩
theorem make_depth {A : Around} {C : Addr} {us : List Value} {kw : List (Str × Value)} : (A.under (.builtin "type.__call__" ⟨.ref C :: us, kw⟩)).depth = A.depth + 1 := by
  first | rfl | simp [Around.under, Code.weight, Code.isCreation, Code.isGuard, Code.isCaller, Code.frames, Code.isFrame, guardIds]
theorem make_units {A : Around} {C : Addr} {us : List Value} {kw : List (Str × Value)} : (A.under (.builtin "type.__call__" ⟨.ref C :: us, kw⟩)).units = A.units + 1 := by
  first | rfl | simp [Around.under, Code.cUnits, Code.frames, Code.isFrame]
theorem Room.make {k : Nat} {A : Around} (r : Room (k + 1) A) (C : Addr) (us : List Value) (kw : List (Str × Value)) : Room k (A.under (.builtin "type.__call__" ⟨.ref C :: us, kw⟩)) :=
  ⟨r.hd, by have := r.dp; rw [make_depth]; omega, by have := r.un; rw [make_units]; omega⟩
theorem Room.depth {k : Nat} {A : Around} (r : Room k A) : A.depth < recursionLimit := by have := r.dp; omega
theorem Room.units {k : Nat} {A : Around} (r : Room k A) : A.units + 64 < cLine := by have := r.un; omega
def tNil : TA := fun _ H Q => Q [] H
def tCons (ta : TE) (tr : TA) : TA := fun σ H Q => ta σ H fun x H1 => tr σ H1 fun xs H2 => Q (x :: xs) H2
section
variable {X : Cx} {e : Expr} {es : List Expr} {te : TE} {t : TA} {pos : Pos}
theorem pa_nil : PA X [] tNil := fun _ _ _ _ H Q I h => Calls.spliced_nil ⟨[], H, I, .nil, h⟩
theorem pa_cons (ha : PE X e te) (hr : PA X es t) (hs : starEach (e :: es) X.env = (false, eval e X.env) :: starEach es X.env := by rfl) : PA X (e :: es) (tCons te t) := by
  intro pos pins s σ H Q I h
  rw [hs]
  show wpAny _ _ (spliced ((false, eval e X.env) :: backTo pos (starEach es X.env))) _ _ s
  refine Calls.spliced_cons (thn (ha pins s σ H _ I h) fun u s1 ⟨x, H1, I1, r1, q1⟩ => ?_)
  exact thn (hr pos pins s1 σ H1 _ I1 q1) fun us s2 ⟨xs, H2, I2, r2, q2⟩ => ⟨x :: xs, H2, I2, .cons r1 r2, q2⟩
def tTup (t : TA) : TE := fun σ H Q => t σ H fun xs H1 => xs.length ≤ sizeLine ∧ ∀ p, H1 p = none → Q (.ref p) (upd H1 p (.tup xs))
def tLst (t : TA) : TE := fun σ H Q => t σ H fun xs H1 => xs.length ≤ sizeLine ∧ ∀ p, H1 p = none → Q (.ref p) (upd H1 p (.lst xs))
theorem pe_tup {x1} (h : PA X es t) : PE X (.Tuple es x1 pos) (tTup t) := by
  intro pins s σ H Q I hq
  refine wpAny_Tuple_spliced (thn (h pos pins s σ H _ I hq) fun us s1 ⟨xs, H1, I1, r, z, q⟩ => ⟨by rw [← r.length]; exact z, ?_⟩)
  have hf : H1 s1.heap.objs.size = none := I1.hok.fresh (Nat.le_refl _)
  refine ⟨.ref s1.heap.objs.size, upd H1 s1.heap.objs.size (.tup xs), I1.laid (t' := s1.toks) (fun b u e => Heap.get?_push_of_some _ e) (Nat.le_refl _) ?_, rfl, q _ hf⟩
  exact ⟨z, us, r, ⟨_, Heap.get?_push_size _ rfl, rfl, _, rfl⟩⟩
theorem pe_lst (h : PA X es t) : PE X (.List es pos) (tLst t) := by
  intro pins s σ H Q I hq
  refine wpAny_List_spliced (thn (h pos pins s σ H _ I hq) fun us s1 ⟨xs, H1, I1, r, z, q⟩ => ⟨by rw [← r.length]; exact z, ?_⟩)
  have hf : H1 s1.heap.objs.size = none := I1.hok.fresh (Nat.le_refl _)
  refine ⟨.ref s1.heap.objs.size, upd H1 s1.heap.objs.size (.lst xs), I1.laid (t' := s1.toks) (fun b u e => Heap.get?_push_of_some _ e) (Nat.le_refl _) ?_, rfl, q _ hf⟩
  exact ⟨z, us, 0, r, Heap.get?_push_size _ rfl⟩
end
abbrev Sp := List V → Hp → VK → XK → Prop
abbrev CXT := List Env → Hp → Shared → XK → Value → Shared → Prop
structure Env0 (P : Program) (w : World) (K : PySem.W.Frag) (mg : Str → Option Value) (base : Heap) (A : Around) (outer : List Env) (s : Shared) (H : Hp) : Prop where
  frames : A.frames = some outer
  mod : Mod K mg base
  bs : ∀ b o, base.get? b = some o → s.heap.get? b = some o ∧ H b = none
  bsz : base.objs.size ≤ s.heap.objs.size
  funs : s.heap.FunFrames base outer
  frf : ∀ b ∈ frs outer, H b = none
  hok : HOk P w H s.heap
  bare : AllBare s.gens
def CE (outer : List Env) (P : Program) (w : World) (H : Hp) (s : Shared) (Q : VK) (u : Value) (s' : Shared) : Prop :=
  ∃ v H', s'.os = s.os ∧ AllBare s'.gens ∧ Un (frs outer) [] H H' s.heap s'.heap ∧ HOk P w H' s'.heap ∧ RelV v u ∧ Q v H'
def CR (CX : CXT) (outer : List Env) (P : Program) (w : World) (H : Hp) (s : Shared) (Q : VK) (E : XK) (r : Result) (s' : Shared) : Prop :=
  match r with
  | .ok (.ret u) => CE outer P w H s Q u s'
  | .ok _ => False
  | .error e => CX outer H s E e s'
structure FnOk (P : Program) (w : World) (K : PySem.W.Frag) (mg : Str → Option Value) (base : Heap) (CX : CXT) (k : Nat) (f : Addr) (fd : FuncData) (ps : List Str) (sp : Sp) : Prop where
  len : ∀ vs H Q E, sp vs H Q E → vs.length = ps.length
  run : ∀ (A : Around) (outer : List Env) (s : Shared) (H : Hp) (args : Args) (us : List Value) (vs : List V) (Q : VK) (E : XK), Room k A → Env0 P w K mg base A outer s H → BindsTo s fd args (ps.zip us) → Vals vs us → sp vs H Q E →
    codeAny (model P w) A (.call (.ref f) args) (CR CX outer P w H s Q E) s
theorem FnOk.mono {P : Program} {w : World} {K : PySem.W.Frag} {mg : Str → Option Value} {base : Heap} {CX : CXT} {j k : Nat} {f : Addr} {fd : FuncData} {ps : List Str} {sp : Sp} (F : FnOk P w K mg base CX j f fd ps sp) (h : j ≤ k) :
    FnOk P w K mg base CX k f fd ps sp := ⟨F.len, fun A outer s H args us vs Q E hr => F.run A outer s H args us vs Q E (hr.mono h)⟩
theorem FnOk.imp {P : Program} {w : World} {K : PySem.W.Frag} {mg : Str → Option Value} {base : Heap} {CX : CXT} {k : Nat} {f : Addr} {fd : FuncData} {ps : List Str} {sp sp' : Sp} (F : FnOk P w K mg base CX k f fd ps sp)
    (h : ∀ vs H Q E, sp' vs H Q E → sp vs H Q E) : FnOk P w K mg base CX k f fd ps sp' :=
  ⟨fun vs H Q E q => F.len vs H Q E (h _ _ _ _ q), fun A outer s H args us vs Q E hr he hb hv hs => F.run A outer s H args us vs Q E hr he hb hv (h _ _ _ _ hs)⟩
theorem Env0.make {P : Program} {w : World} {K : PySem.W.Frag} {mg : Str → Option Value} {base : Heap} {A : Around} {outer : List Env} {s : Shared} {H : Hp} (e : Env0 P w K mg base A outer s H) (C : Addr) (us : List Value) (kw : List (Str × Value)) :
    Env0 P w K mg base (A.under (.builtin "type.__call__" ⟨.ref C :: us, kw⟩)) outer s H := ⟨by first | exact e.frames | (simpa [Around.under, Code.envs, Code.isFrame, pushEnvs] using e.frames), e.mod, e.bs, e.bsz, e.funs, e.frf, e.hok, e.bare⟩
theorem Env0.in1 {P : Program} {w : World} {K : PySem.W.Frag} {mg : Str → Option Value} {base : Heap} {A : Around} {outer : List Env} {s : Shared} {H : Hp} (e : Env0 P w K mg base A outer s H) :
    Env0 P w K mg base A.in1 outer s H := ⟨e.frames, e.mod, e.bs, e.bsz, e.funs, e.frf, e.hok, e.bare⟩
section
variable {X : Cx} {pins : List (Addr × Obj)} {σ : St} {H : Hp} {s s' : Shared}
theorem Inv.env0 (I : Inv X pins σ H s) : Env0 X.prog X.w X.K X.mg X.base X.A X.stack s H :=
  ⟨I.ok.frames, I.ok.mod, I.bs, Nat.le_trans I.ok.bsz I.sz, I.stack, I.stkFree, I.hok, I.bare⟩
theorem Inv.after {Q : VK} {u : Value} (I : Inv X pins σ H s) (h : CE X.stack X.prog X.w H s Q u s') : EP X pins σ Q u s' := by
  obtain ⟨v, H', os, bare, un, hok, r, q⟩ := h
  obtain ⟨hh, g, d, t, os'⟩ := s'
  obtain rfl : os' = s.os := os
  exact ⟨v, H', I.call (h' := hh) (g' := g) (d' := d) (t' := t) (ch := []) un hok bare (fun b z => absurd z (by simp)), r, q⟩
end
def tCall (sp : Sp) (dvs : List V) (E : XK) (t : TA) : TE := fun σ H Q => t σ H fun vs H1 => sp (vs ++ dvs) H1 Q E
def tMake (C : Addr) (sp : Sp) (dvs : List V) (E : XK) (t : TA) : TE := fun σ H Q => t σ H fun vs H1 => ∀ x dx, H1 x = none → H1 dx = none → dx ≠ x →
  sp (.ref x :: (vs ++ dvs)) (upd (upd H1 dx (.own x)) x (.ins C dx [])) (fun v H2 => v = .non ∧ Q (.ref x) H2) E
def Binds (K : PySem.W.Frag) (fd : FuncData) (ps : List Str) (ds : List Value) : Prop :=
  ∀ (s : Shared) (us : List Value), K.In s.heap → (us ++ ds).length = ps.length → BindsTo s fd ⟨us, []⟩ (ps.zip (us ++ ds))
theorem Binds.all {K : PySem.W.Frag} {fd : FuncData} {ps : List Str} (h : ∀ us : List Value, us.length = ps.length → bindArgs fd ⟨us, []⟩ = pure (ps.zip us)) : Binds K fd ps [] := fun s us _ hl => by
  rw [List.append_nil] at hl ⊢
  exact .of_eq (h us hl)
def Passes (CX : CXT) (X : Cx) (E : XK) : Prop := ∀ (pins : List (Addr × Obj)) (σ : St) (H : Hp) (s : Shared) (e : Value) (s' : Shared), Inv X pins σ H s → CX X.stack H s E e s' → X.xe e s'
section
variable {X : Cx} {CX : CXT} {k : Nat} {f C : Addr} {fd : FuncData} {ps : List Str} {sp : Sp} {dvs : List V} {ds : List Value} {E : XK} {x m : Str} {p pos apos : Pos} {e o : Expr} {es : List Expr} {ta : TE} {t : TA}
theorem run_fn {pins : List (Addr × Obj)} {σ : St} {H : Hp} {s : Shared} {Q : VK} {us : List Value} {vs : List V} (F : FnOk X.prog X.w X.K X.mg X.base CX k f fd ps sp) (hr : Room k X.A) (hb : Binds X.K fd ps ds) (hd : Vals dvs ds) (hx : Passes CX X E)
    (I : Inv X pins σ H s) (r : Vals vs us) (h : sp (vs ++ dvs) H Q E) : wpAny (model X.prog X.w) X.A (call (.ref f) us) (EP X pins σ Q) X.xe s := by
  have r2 : Vals (vs ++ dvs) (us ++ ds) := r.append hd
  have hl : (us ++ ds).length = ps.length := by rw [← r2.length]; exact F.len _ _ _ _ h
  refine wpAny_call (codeAny_mono (F.run X.A X.stack s H ⟨us, []⟩ (us ++ ds) (vs ++ dvs) Q E hr I.env0 (hb s us I.kIn hl) r2 h) fun r s' hq => ?_)
  cases r with
  | error e => exact hx pins σ H s e s' I hq
  | ok fl =>
    cases fl with
    | ret u => exact I.after hq
    | next => exact False.elim hq
    | brk => exact False.elim hq
    | cont => exact False.elim hq
theorem pe_call (F : FnOk X.prog X.w X.K X.mg X.base CX k f fd ps sp) (hr : Room k X.A) (hg : Gl X x) (hm : X.mg x = some (.ref f)) (hk : PySem.W.keepIn X.K (.ref f) = true) (hb : Binds X.K fd ps ds) (hd : Vals dvs ds) (hx : Passes CX X E)
    (ha : PA X (e :: es) t) (hdb : (x == ("__debug__" : Str)) = false := by decide) (he : starEach (e :: es) X.env = (false, eval e X.env) :: starEach es X.env := by rfl) (hpl : (backTo pos (starEach es X.env)).any (·.1) = false := by rfl) :
    PE X (.Call (.Name x p) (e :: es) [] pos) (tCall sp dvs E t) := by
  intro pins s σ H Q I h
  refine wpAny_Call_Name_kw (ld_glob I hg hm ?_ hdb)
  refine PySem.W.callWith_K (h₀ := X.base) I.ok.mod.kin hk (thn (ha pos pins s σ H _ I h) fun us s1 ⟨vs, H1, I1, r, q⟩ => ⟨I1.kIn, ?_⟩) he hpl
  exact run_fn F hr hb hd hx I1 r q
theorem pe_call0 (F : FnOk X.prog X.w X.K X.mg X.base CX k f fd ps sp) (hr : Room k X.A) (hg : Gl X x) (hm : X.mg x = some (.ref f)) (hk : PySem.W.keepIn X.K (.ref f) = true) (hb : Binds X.K fd ps ds) (hd : Vals dvs ds) (hx : Passes CX X E)
    (hdb : (x == ("__debug__" : Str)) = false := by decide) : PE X (.Call (.Name x p) [] [] pos) (tCall sp dvs E tNil) := by
  intro pins s σ H Q I h
  refine wpAny_Call_Name_kw (ld_glob I hg hm ?_ hdb)
  exact PySem.W.callWith_K0 I.kIn hk (run_fn (us := []) F hr hb hd hx I .nil h)
structure Mk (K : PySem.W.Frag) (C f : Addr) : Prop where
  makes : PySem.W.makesIn K C = true
  init : PySem.W.findIn K (.ref C) "__init__" = some (some (.ref f))
  fn : PySem.W.isFn K (.ref f) = true
  kp : PySem.W.keepIn K (.ref C) = true
theorem run_make {pins : List (Addr × Obj)} {σ : St} {H : Hp} {s : Shared} {Q : VK} {us : List Value} {vs : List V} (M : Mk X.K C f) (F : FnOk X.prog X.w X.K X.mg X.base CX k f fd ps sp) (hr : Room (k + 1) X.A) (hb : Binds X.K fd ps ds) (hd : Vals dvs ds)
    (hx : Passes CX X E) (I : Inv X pins σ H s) (r : Vals vs us)
    (h : ∀ x dx, H x = none → H dx = none → dx ≠ x → sp (.ref x :: (vs ++ dvs)) (upd (upd H dx (.own x)) x (.ins C dx [])) (fun v H2 => v = .non ∧ Q (.ref x) H2) E) :
    wpAny (model X.prog X.w) X.A (call (.ref C) us) (EP X pins σ Q) X.xe s := by
  have hq := h (s.heap.objs.size + 1) s.heap.objs.size (I.hok.fresh (Nat.le_succ _)) (I.hok.fresh (Nat.le_refl _)) (Nat.ne_of_lt (Nat.lt_succ_self _))
  have I2 := Inv.made (C := C) I
  have r2 : Vals (V.ref (s.heap.objs.size + 1) :: (vs ++ dvs)) (Value.ref (s.heap.objs.size + 1) :: (us ++ ds)) := .cons rfl (r.append hd)
  have hl : (Value.ref (s.heap.objs.size + 1) :: us ++ ds).length = ps.length := by
    have e := r2.length
    rw [F.len _ _ _ _ hq] at e
    exact e.symm
  refine wpAny_call (make_map (f := f) I.kIn M.makes M.init (beq_iff_eq.mp M.fn) (codeAny_mono (F.run _ X.stack _ _ ⟨Value.ref (s.heap.objs.size + 1) :: us, []⟩ (Value.ref (s.heap.objs.size + 1) :: (us ++ ds)) _ _ E (hr.make C us [])
    (I2.env0.make C us []) (hb _ (Value.ref (s.heap.objs.size + 1) :: us) I2.kIn hl) r2 hq) fun r s' hq' => ?_))
  cases r with
  | error e => exact hx pins σ _ _ e s' I2 hq'
  | ok fl =>
    cases fl with
    | ret u =>
      obtain ⟨v, H', I3, rv, ev, q3⟩ := I2.after hq'
      subst ev
      exact ⟨rv, ⟨V.ref (s.heap.objs.size + 1), H', I3, rfl, q3⟩⟩
    | next => exact False.elim hq'
    | brk => exact False.elim hq'
    | cont => exact False.elim hq'
theorem pe_make (M : Mk X.K C f) (F : FnOk X.prog X.w X.K X.mg X.base CX k f fd ps sp) (hr : Room (k + 1) X.A) (hg : Gl X x) (hm : X.mg x = some (.ref C)) (hb : Binds X.K fd ps ds) (hd : Vals dvs ds) (hx : Passes CX X E)
    (ha : PA X (e :: es) t) (hdb : (x == ("__debug__" : Str)) = false := by decide) (he : starEach (e :: es) X.env = (false, eval e X.env) :: starEach es X.env := by rfl) (hpl : (backTo pos (starEach es X.env)).any (·.1) = false := by rfl) :
    PE X (.Call (.Name x p) (e :: es) [] pos) (tMake C sp dvs E t) := by
  intro pins s σ H Q I h
  refine wpAny_Call_Name_kw (ld_glob I hg hm ?_ hdb)
  refine PySem.W.callWith_K (h₀ := X.base) I.ok.mod.kin M.kp (thn (ha pos pins s σ H _ I h) fun us s1 ⟨vs, H1, I1, r, q⟩ => ⟨I1.kIn, ?_⟩) he hpl
  exact run_make M F hr hb hd hx I1 r q
end
def PK (X : Cx) (kws : List Keyword) (t : TA) : Prop :=
  ∀ (pos : Pos) (pins : List (Addr × Obj)) (s : Shared) (σ : St) (H : Hp) (Q : List V → Hp → Prop), Inv X pins σ H s → t σ H Q → wpAny (model X.prog X.w) X.A (evalAll ((backToKw pos (keywordEach kws X.env)).map (·.2))) (AP X pins σ Q) X.xe s
section
variable {X : Cx} {CX : CXT} {k : Nat} {f C : Addr} {fd : FuncData} {ps ks : List Str} {sp : Sp} {E : XK} {x m : Str} {p pos apos kpos : Pos} {e o : Expr} {es : List Expr} {kws : List Keyword} {te ta : TE} {t tk : TA} {nm : Option Str}
structure KBinds (K : PySem.W.Frag) (fd : FuncData) (ps ks : List Str) (g : List Value → List Value → List Value) (gV : List V → List V → List V) : Prop where
  to : ∀ (s : Shared) (us ws : List Value), K.In s.heap → (g us ws).length = ps.length → BindsTo s fd ⟨us, ks.zip ws⟩ (ps.zip (g us ws))
  rel : ∀ {vs : List V} {us : List Value} {zs : List V} {ws : List Value}, Vals vs us → Vals zs ws → Vals (gV vs zs) (g us ws)
variable {g : List Value → List Value → List Value} {gV : List V → List V → List V}
end
structure FnScope (N P : List Str) (sc : Scope) : Prop where
  kind : sc.kind = .function
  co : sc.isCoroutine = false
  gen : sc.isGenerator = false
  nd : N.Nodup
  pre : N.take P.length = P
  par : ∀ x ∈ P, sc.names.lookup x = some .local ∨ sc.names.lookup x = some .cell
  nofree : ∀ y ∈ sc.names, y.2 ≠ .free
theorem bindL_out {kindOf : Str → Option NameKind} {x : Str} : ∀ {binds : List (Str × Value)} {m : Str → Option Value}, (∀ v, (x, v) ∉ binds) → bindL kindOf binds m x = m x
  | [], _, _ => rfl
  | (n, v) :: r, m, h => by
    unfold bindL
    rw [bindL_out fun w hw => h w (List.mem_cons_of_mem _ hw)]
    split
    · have : x ≠ n := by rintro rfl; exact h v List.mem_cons_self
      simp [this]
    · rfl
theorem bindC_out {kindOf : Str → Option NameKind} {x : Str} : ∀ {binds : List (Str × Value)} {m : Str → Option Value}, (∀ v, (x, v) ∉ binds) → bindC kindOf binds m x = m x
  | [], _, _ => rfl
  | (n, v) :: r, m, h => by
    unfold bindC
    rw [bindC_out fun w hw => h w (List.mem_cons_of_mem _ hw)]
    split
    · rfl
    · have : x ≠ n := by rintro rfl; exact h v List.mem_cons_self
      simp [this]
theorem bindL_get {kindOf : Str → Option NameKind} {x : Str} {v : Value} : ∀ {P : List Str} {vs : List Value} {i : Nat} {m : Str → Option Value}, P.Nodup → P[i]? = some x → vs[i]? = some v → kindOf x = some .local →
    bindL kindOf (P.zip vs) m x = some v
  | [], _, _, _, _, h, _, _ => by simp at h
  | _ :: _, [], _, _, _, _, h, _ => by simp at h
  | p :: P, w :: vs, 0, m, nd, h1, h2, hk => by
    simp at h1 h2; subst h1; subst h2
    show bindL kindOf ((p, w) :: P.zip vs) m p = _
    unfold bindL
    rw [bindL_out fun v hv => (List.nodup_cons.mp nd).1 (List.of_mem_zip hv).1, if_pos hk]
    simp
  | p :: P, w :: vs, i + 1, m, nd, h1, h2, hk => by
    show bindL kindOf ((p, w) :: P.zip vs) m x = _
    unfold bindL
    exact bindL_get (i := i) (List.nodup_cons.mp nd).2 (by simpa using h1) (by simpa using h2) hk
theorem bindC_get {kindOf : Str → Option NameKind} {x : Str} {v : Value} : ∀ {P : List Str} {vs : List Value} {i : Nat} {m : Str → Option Value}, P.Nodup → P[i]? = some x → vs[i]? = some v → kindOf x ≠ some .local →
    bindC kindOf (P.zip vs) m x = some v
  | [], _, _, _, _, h, _, _ => by simp at h
  | _ :: _, [], _, _, _, _, h, _ => by simp at h
  | p :: P, w :: vs, 0, m, nd, h1, h2, hk => by
    simp at h1 h2; subst h1; subst h2
    show bindC kindOf ((p, w) :: P.zip vs) m p = _
    unfold bindC
    rw [bindC_out fun v hv => (List.nodup_cons.mp nd).1 (List.of_mem_zip hv).1, if_neg hk]
    simp
  | p :: P, w :: vs, i + 1, m, nd, h1, h2, hk => by
    show bindC kindOf ((p, w) :: P.zip vs) m x = _
    unfold bindC
    exact bindC_get (i := i) (List.nodup_cons.mp nd).2 (by simpa using h1) (by simpa using h2) hk
def start (N : List Str) (vs : List V) : St := vs.map some ++ List.replicate (N.length - vs.length) none
def cxOf (CX : CXT) (P : Program) (w : World) (K : PySem.W.Frag) (mg : Str → Option Value) (base : Heap) (N : List Str) (qual : Str) (scope : Scope) (f : Addr) (cd : Value) (A : Around) (outer : List Env) (s : Shared) (H : Hp) (E : XK) : Cx where
  prog := P
  w := w
  K := K
  mg := mg
  base := base
  A := A.deeper (envOfC qual scope s.heap.objs.size f cd)
  N := N
  s_0 := s
  H_0 := H
  env := envOfC qual scope s.heap.objs.size f cd
  outer := outer
  stack := envOfC qual scope s.heap.objs.size f cd :: outer
  ex := []
  calm := true
  fn := fun _ => true
  pn := []
  xe := fun e s' => wpAny (model P w) (A.deeper (envOfC qual scope s.heap.objs.size f cd)) (leaving (envOfC qual scope s.heap.objs.size f cd) e) (fun _ s'' => CX outer H s E e s'') (fun e' s'' => CX outer H s E e' s'') s'
theorem cell_has {sc : Scope} {n : Nat} {x : Str} (h : sc.names.lookup x = some .cell) : ∃ c, (cellsFrom n sc.names []).lookup x = some c := by
  have q := PySem.W.cellsFrom_some sc.names n [] (.inl h)
  exact Option.isSome_iff_exists.mp q
theorem inv_start {CX : CXT} {P : Program} {w : World} {K : PySem.W.Frag} {mg : Str → Option Value} {base : Heap} {N ps : List Str} {qual : Str} {scope : Scope} {f : Addr} {cd : Value} {A : Around} {outer : List Env} {s s1 : Shared} {H : Hp} {E : XK} {us : List Value} {vs : List V}
    (S : FnScope N ps scope) (hd : A.handled = none) (e0 : Env0 P w K mg base A outer s H) (hl : vs.length = ps.length) (r : Vals vs us)
    (x : InCallC s s.heap.objs.size (bindL (envOfC qual scope s.heap.objs.size f cd).kindOf (ps.zip us) fun _ => none) (cellsFrom (s.heap.objs.size + 1) scope.names []) (bindC (envOfC qual scope s.heap.objs.size f cd).kindOf (ps.zip us) fun _ => none) s1) :
    Inv (cxOf CX P w K mg base N qual scope f cd A outer s H E) [] (start N vs) H s1 := by
  have hpl : ps.length ≤ N.length := by have := congrArg List.length S.pre; rw [List.length_take] at this; omega
  obtain ⟨h1, tk, rfl, hk⟩ := x.done
  have noA : ∀ b : Addr, b ∉ (cxOf CX P w K mg base N qual scope f cd A outer s H E).ex := fun b z => absurd (show b ∈ ([] : List Addr) from z) (by simp)
  refine ⟨⟨e0.mod, S.kind, rfl, rfl, Nat.le_refl _, fun y z c h1 h2 => ?_, fun y hy => ?_, fun y c _ h => ?_, fun _ => hd, Around.frames_deeper e0.frames, .inr ⟨rfl, rfl⟩, fun b z => absurd z (noA b), e0.bs, e0.bsz, fun b _ _ => noA b, fun b z => absurd z (noA b), e0.funs, e0.frf⟩,
    rfl, e0.bare, Un.kept hk, ⟨_, x.toInCall.ns, fun i y v h1 h2 h3 => ?_⟩, fun y c h => ⟨_, x.cell y c h⟩, e0.hok.fresh (Nat.le_refl _), fun y c h => ?_, fun p hp => absurd (show p ∈ ([] : List (Addr × Obj)) from hp) (by simp), e0.hok.kept hk, ?_⟩
  · exact name_of_addr x.apart (PySem.mem_of_lookup h1) (PySem.mem_of_lookup h2)
  · have hy : scope.names.lookup y = some .cell ∨ scope.names.lookup y = some .free := hy
    rcases hy with hy | hy
    · exact cell_has hy
    · exact absurd rfl (S.nofree _ (PySem.mem_of_lookup hy))
  · exact Nat.le_of_lt (x.above y c (PySem.mem_of_lookup h))
  · have hi : i < vs.length := by
      unfold start at h2
      by_cases hi : i < vs.length
      · exact hi
      · rw [List.getElem?_append_right (by simpa using hi)] at h2
        rw [List.getElem?_replicate] at h2
        split at h2 <;> cases h2
    have ha : vs[i]? = some v := by
      unfold start at h2
      rw [List.getElem?_append_left (by simpa using hi), List.getElem?_map] at h2
      cases e : vs[i]? with
      | none => rw [e] at h2; cases h2
      | some a => rw [e] at h2; cases h2; rfl
    obtain ⟨u, hu, rv⟩ := r.get ha
    have hp : ps[i]? = some y := by
      rw [← S.pre, List.getElem?_take_of_lt (by omega)]; exact h1
    have ndP : ps.Nodup := by rw [← S.pre]; exact S.nd.sublist (List.take_sublist _ _)
    refine ⟨u, rv, ?_⟩
    rcases S.par y (List.mem_of_getElem? hp) with k | k
    · exact .inl ⟨k, bindL_get ndP hp hu k⟩
    · obtain ⟨c, e⟩ := cell_has (n := s.heap.objs.size + 1) k
      refine .inr ⟨.inl k, c, e, ?_⟩
      have q := x.cell y c e
      rw [bindC_get ndP hp hu (by show scope.names.lookup y ≠ _; rw [k]; decide)] at q
      exact q
  · exact e0.hok.fresh (Nat.le_of_lt (x.above y c (PySem.mem_of_lookup h)))
  · unfold start
    show _ = N.length
    rw [List.length_append, List.length_map, List.length_replicate]
    omega
theorem fn_of {CX : CXT} {P : Program} {w : World} {K : PySem.W.Frag} {mg : Str → Option Value} {base : Heap} {k : Nat} {f : Addr} {name qual : Str} {params : Arguments} {body : List Stmt} {scope : Scope} {dV kV doc pm cdv ct oc : Value} {an od : Option Addr}
    {osl : Array (Option Value)} {N ps : List Str} {sp : Sp} (lk : K.lookup f = some ⟨oc, od, .func (PySem.W.fnOf name qual params body scope dV kV doc pm an cdv ct), osl⟩) (hcd : PySem.W.codeIn K cdv qual = true) (S : FnScope N ps scope)
    (len : ∀ vs H Q E, sp vs H Q E → vs.length = ps.length)
    (hbody : ∀ (A : Around) (outer : List Env) (s : Shared) (H : Hp) (vs : List V) (Q : VK) (E : XK), Room k (A.deeper (envOfC qual scope s.heap.objs.size f cdv)) → sp vs H Q E →
      ∃ t, PSs (cxOf CX P w K mg base N qual scope f cdv A outer s H E) body t ∧ t { nx := fun _ H' => Q .non H', rt := Q } (start N vs) H) :
    FnOk P w K mg base CX (k + 1) f (PySem.W.fnOf name qual params body scope dV kV doc pm an cdv ct) ps sp := by
  refine ⟨len, fun A outer s H args us vs Q E hr e0 hb r hsp => ?_⟩
  have hl := len _ _ _ _ hsp
  have KX : K.In s.heap := e0.mod.kin.keeps fun b o e => (e0.bs b o e).1
  have lim : s.heap.NoLimit := e0.mod.nolimit.keeps fun b o e => (e0.bs b o e).1
  have hkind : ∀ y ∈ ps.zip us, scope.names.lookup y.1 = some .local ∨ (scope.names.lookup y.1 = some .cell ∧ ((cellsFrom (s.heap.objs.size + 1) scope.names []).lookup y.1).isSome = true) := fun ⟨n, v⟩ hy => by
    rcases S.par n (List.of_mem_zip hy).1 with q | q
    · exact .inl q
    · exact .inr ⟨q, PySem.W.cellsFrom_some _ _ _ (.inl q)⟩
  refine codeAny_call_function hr.depth (KX _ _ lk) rfl S.co S.gen rfl (PySem.W.codeRec_of KX hcd) (hb _ _ _ _ ?_)
  refine wpAny_newFunctionEnv_cells S.kind hkind fun env he s1 x => ?_
  subst he
  refine ⟨lim.keeps x.toInCall.keep, codeAny_func ?_⟩
  obtain ⟨t, ht, hq⟩ := hbody A outer s H vs Q E (hr.deeper _) hsp
  have I : Inv (cxOf CX P w K mg base N qual scope f cdv A outer s H E) [] (start N vs) H s1 := inv_start S hr.hd e0 hl r x
  refine wpAny_mono (ht [] s1 (start N vs) H _ I hq) (fun fl s' hs => ?_) fun e s' hs => hs
  have fin : ∀ {σ' : St} {H' : Hp} {v : V} {u : Value}, Inv (cxOf CX P w K mg base N qual scope f cdv A outer s H E) [] σ' H' s' → RelV v u → Q v H' → CE outer P w H s Q u s' :=
    fun {σ' H' v u} J rv q => ⟨v, H', J.os, J.bare, J.base, J.hok, rv, q⟩
  cases fl with
  | ret u =>
    obtain ⟨v, σ', H', J, rv, q⟩ := hs
    exact fin J rv q
  | next =>
    obtain ⟨σ', H', J, q⟩ := hs
    exact fin (v := V.non) (u := Value.none) J rfl q
  | brk =>
    obtain ⟨_, _, _, q⟩ := hs
    exact False.elim q
  | cont =>
    obtain ⟨_, _, _, q⟩ := hs
    exact False.elim q
end L2
namespace L2
open PySem PySem.Spec PyProof.Rows
section
variable {X : Cx} {x : Str} {p pos : Pos} {e : Expr} {es : List Expr} {t : TA} {id T : String} {r : List V → Hp → VK → Prop}
def tCB (r : List V → Hp → VK → Prop) (t : TA) : TE := fun σ H Q => t σ H fun vs H1 => r vs H1 Q
theorem pe_callB (hc : CallR X (.builtin id) r) (hg : Gl X x) (hm : X.mg x = none) (hv : bootBuiltins x = some (.builtin id)) (ha : PA X (e :: es) t) (hn : x ≠ "__name__" := by decide) (hdb : (x == ("__debug__" : Str)) = false := by decide)
    (he : starEach (e :: es) X.env = (false, eval e X.env) :: starEach es X.env := by rfl) (hpl : (backTo pos (starEach es X.env)).any (·.1) = false := by rfl) : PE X (.Call (.Name x p) (e :: es) [] pos) (tCB r t) := by
  intro pins s σ H Q I h
  refine wpAny_Call_Name_kw (ld_blt I hg hm hv ?_ hn hdb)
  exact PyProof.Rows.callWith_builtin1 (thn (ha pos pins s σ H _ I h) fun us s1 ⟨vs, H1, I1, r1, q1⟩ => hc pins s1 σ H1 vs us Q I1 r1 q1) he hpl
theorem pe_callTy (hc : CallR X (.type T) r) (hg : Gl X x) (hm : X.mg x = none) (hv : bootBuiltins x = some (.type T)) (ha : PA X (e :: es) t) (hn : x ≠ "__name__" := by decide) (hdb : (x == ("__debug__" : Str)) = false := by decide)
    (he : starEach (e :: es) X.env = (false, eval e X.env) :: starEach es X.env := by rfl) (hpl : (backTo pos (starEach es X.env)).any (·.1) = false := by rfl) : PE X (.Call (.Name x p) (e :: es) [] pos) (tCB r t) := by
  intro pins s σ H Q I h
  refine wpAny_Call_Name_kw (ld_blt I hg hm hv ?_ hn hdb)
  exact PyProof.Rows.callWith_type1 (thn (ha pos pins s σ H _ I h) fun us s1 ⟨vs, H1, I1, r1, q1⟩ => hc pins s1 σ H1 vs us Q I1 r1 q1) he hpl
end
end L2
namespace HT
open PySem PyProof.Rows
def lexLt : List Int → List Int → Bool
  | [], [] => false
  | [], _ :: _ => true
  | _ :: _, [] => false
  | x :: xs, y :: ys => if x = y then lexLt xs ys else decide (x < y)
theorem lexLt_cons (x y : Int) (xs ys : List Int) : lexLt (x :: xs) (y :: ys) = if x = y then lexLt xs ys else decide (x < y) := rfl
theorem lexLt_nil_nil : lexLt [] [] = false := rfl
theorem lexLt_nil_cons (y : Int) (ys : List Int) : lexLt [] (y :: ys) = true := rfl
theorem lexLt_cons_nil (x : Int) (xs : List Int) : lexLt (x :: xs) [] = false := rfl
theorem eqAt_int (A : Around) (s : Shared) (a : Int) (t : Tok) (c : Int) (u : Tok) : ∃ e, SeqAt.EqAt A s (.int a t) (.int c u) e ∧ (e = true ↔ a = c) :=
  ⟨(a == c), SeqAt.EqAt.int_int a t c u, by simp⟩
theorem rcLt_int (A : Around) (s : Shared) (a : Int) (t : Tok) (c : Int) (u : Tok) (prog : Program) (w : World) (E : Value → Shared → Prop) (Q : Value → Shared → Prop) (h : Q (.bool (decide (a < c))) s) :
    wpAny (model prog w) A (richCompare .Lt (.int a t) (.int c u)) Q E s :=
  (PyProof.Rows.lt_int h : wpAny (model prog w) A (compareOp .Lt (.int a t) (.int c u)) Q E s)
section
open PySem.SeqAt
open PySem.AutoSeq1 (wpAny_loadPart')
open PySem.MeetsSeq PySem.MeetsSeq2 PySem.MeetsSeq3
theorem tuple_lt_ints (l b : Addr) (items items2 : Array Value) (n n2 : Nat) (dd dd2 : Option Addr) (sl sl2 : Array (Option Value)) (ns ms : List Int) (hi : IntsAre items.toList ns) (hj : IntsAre items2.toList ms) :
    Meets (Builtin.«tuple.__lt__» ⟨[.ref l, .ref b], []⟩)
      (fun _ R s => s.heap.get? l = some { cls := .type "tuple", dict := dd, data := .seq items n, slots := sl } ∧ s.heap.get? b = some { cls := .type "tuple", dict := dd2, data := .seq items2 n2, slots := sl2 } ∧
        R (.ok (.ret (.bool (lexLt ns ms)))) s) :=
  .of_wp fun prog w A R s h => by
    obtain ⟨hp, g, d, tk, os⟩ := s; obtain ⟨hl, hb, h⟩ := h
    have f2 := AutoSeq1.sub_tuple_tuple
    have z1 : items.size = ns.length := by rw [← hi.length]; simp
    have z2 : items2.size = ms.length := by rw [← hj.length]; simp
    wp_walk using wpAny_loadPart' hl, wpAny_loadPart' hb, wpAny_forIn_list _ (fun rest b s' => b.1 = none ∧ s' = ⟨hp, g, d, tk, os⟩ ∧ ∃ (vs ws : List Value) (ns' ms' : List Int), rest = vs.zip ws ∧
      IntsAre vs ns' ∧ IntsAre ws ms' ∧ ns'.length + items2.size = ms'.length + items.size ∧ R (.ok (.ret (.bool (lexLt ns' ms')))) ⟨hp, g, d, tk, os⟩) _
    case turn =>
      rintro ⟨y, x⟩ rest b s' ⟨hb', rfl, vs, ws, ns', ms', hz, hvi, hwi, hlen, hR⟩
      cases hvi with
      | nil => rw [List.zip_nil_left] at hz; cases hz
      | cons a t hvi' =>
        cases hwi with
        | nil => rw [List.zip_nil_right] at hz; cases hz
        | cons c u hwi' =>
          rw [List.zip_cons_cons] at hz
          injection hz with hyx hrest
          injection hyx with hy hx
          subst hy hx
          rw [lexLt_cons] at hR
          simp only [List.length_cons] at hlen
          obtain ⟨e, he, hiff⟩ := eqAt_int A.in1 ⟨hp, g, d, tk, os⟩ a t c u
          refine wpAny_bind (he prog w _ _ ?_)
          cases e with
          | true =>
            rw [if_pos (hiff.mp rfl)] at hR
            wp_walk
            exact ⟨rfl, rfl, _, _, _, _, hrest, hvi', hwi', by omega, hR⟩
          | false =>
            rw [if_neg (fun q => absurd (hiff.mpr q) Bool.false_ne_true)] at hR
            have hri := rcLt_int A.in1 ⟨hp, g, d, tk, os⟩ a t c u prog w
            wp_walk using hri
            exact ⟨_, rfl, by simpa using hR⟩
    case fin =>
      rintro ⟨b1, b2⟩ s' ⟨hb', rfl, vs, ws, ns', ms', hz, hvi, hwi, hlen, hR⟩
      simp only at hb'
      subst hb'
      have hv : lexLt ns' ms' = decide (items.size < items2.size) := by
        cases hvi with
        | nil =>
          cases hwi with
          | nil =>
            simp only [List.length_nil] at hlen
            rw [lexLt_nil_nil]
            exact (decide_eq_false (by omega)).symm
          | cons c u hw =>
            simp only [List.length_nil, List.length_cons] at hlen
            rw [lexLt_nil_cons]
            exact (decide_eq_true (by omega)).symm
        | cons a t hv =>
          cases hwi with
          | nil =>
            simp only [List.length_nil, List.length_cons] at hlen
            rw [lexLt_cons_nil]
            exact (decide_eq_false (by omega)).symm
          | cons c u hw =>
            rw [List.zip_cons_cons] at hz
            cases hz
      rw [hv] at hR
      wp_walk
      exact ⟨_, rfl, by simpa [Builtin.Tuple.tupleCompareSizes] using hR⟩
    case h =>
      exact ⟨rfl, rfl, items.toList, items2.toList, ns, ms, rfl, hi, hj, by omega, h⟩
end
section
variable {prog : Program} {w : World} {A : Around} {E : Value → Shared → Prop} {s : Shared}
theorem lt_tupInts {l b : Addr} {items items2 : Array Value} {ns ms : List Int} {Q : Value → Shared → Prop} (hl : IsTup s.heap l items) (hb : IsTup s.heap b items2) (hi : IntsAre items.toList ns) (hj : IntsAre items2.toList ms)
    (hu : A.units < cLine) (h : Q (.bool (lexLt ns ms)) s) : wpAny (model prog w) A (compareOp .Lt (.ref l) (.ref b)) Q E s := by
  obtain ⟨⟨cls, dd, data, sl⟩, ho, hc, n, hd⟩ := id hl
  obtain ⟨⟨cls2, dd2, data2, sl2⟩, ho2, hc2, n2, hd2⟩ := id hb
  simp only at hc hd hc2 hd2
  subst hc hd hc2 hd2
  exact richCompare_meets_room (op := .Lt) ⟨_, ho, rfl⟩ ⟨_, ho2, rfl⟩ PySem.F.slot_tuple_lt PySem.F.entry_tuple_lt (PySem.F.args_tuple_lt_2 _ _) (tuple_lt_ints l b items items2 n n2 dd dd2 sl sl2 ns ms hi hj)
    ⟨ho, ho2, show Value.bool (lexLt ns ms) ≠ Value.notImplemented ∧ Q (.bool (lexLt ns ms)) s from ⟨(fun x => nomatch x), h⟩⟩ hu
theorem cat_tup {t b : Addr} {vs ws : List Value} {Q : Value → Shared → Prop} (ht : IsTup s.heap t vs.toArray) (hb : IsTup s.heap b ws.toArray) (hv : vs ≠ [])
    (h1 : ws = [] → Q (.ref t) s) (h2 : ws ≠ [] → Q (.ref s.heap.objs.size) { s with heap := s.heap.push { cls := .type "tuple", data := .seq (vs ++ ws).toArray } })
    (hsz : vs.length + ws.length ≤ sizeLine) : wpAny (model prog w) A (binaryOp .Add (.ref t) (.ref b)) Q E s := by
  obtain ⟨⟨cls, dd, data, sl⟩, ho, hc, n, hd⟩ := id ht
  obtain ⟨⟨cls2, dd2, data2, sl2⟩, ho2, hc2, n2, hd2⟩ := id hb
  simp only at hc hd hc2 hd2
  subst hc hd hc2 hd2
  have e : vs.toArray ++ ws.toArray = (vs ++ ws).toArray := by simp
  by_cases hw : ws = []
  · exact concat_meets ⟨_, ho, rfl⟩ ⟨_, ho2, rfl⟩ noFill_tuple_add seq_tuple_add PySem.F.slot_tuple_add PySem.F.entry_tuple_add (PySem.F.args_tuple_add_2 _ _)
      (tuple_addW1 t b vs.toArray ws.toArray n n2 dd dd2 sl sl2 (by simpa using hv) (by simp [hw])) ⟨ho, ho2, h1 hw⟩
  · refine concat_meets ⟨_, ho, rfl⟩ ⟨_, ho2, rfl⟩ noFill_tuple_add seq_tuple_add PySem.F.slot_tuple_add PySem.F.entry_tuple_add (PySem.F.args_tuple_add_2 _ _)
      (tuple_addW2 t b vs.toArray ws.toArray n n2 dd dd2 sl sl2 (by simpa using hv) (by simpa using hw) (by rw [List.size_toArray, List.size_toArray]; exact hsz)) ⟨ho, ho2, ?_⟩
    rw [e]
    exact h2 hw
def sIx (n d : Nat) : Option Int → Nat
  | none => d
  | some v => if v < 0 then (v + (n : Int)).toNat else min v.toNat n
theorem sIx_none (n d : Nat) : sIx n d none = d := rfl
theorem sIx_nat (n d k : Nat) : sIx n d (some (k : Int)) = min k n := by
  show (if (k : Int) < 0 then ((k : Int) + (n : Int)).toNat else min (k : Int).toNat n) = min k n
  rw [if_neg (by omega), Int.toNat_natCast]
theorem sIx_le (n d : Nat) (hd : d ≤ n) (o : Option Int) : sIx n d o ≤ n := by
  cases o with
  | none => exact hd
  | some v =>
    show (if v < 0 then (v + (n : Int)).toNat else min v.toNat n) ≤ n
    by_cases hv : v < 0
    · rw [if_pos hv]; omega
    · rw [if_neg hv]; exact Nat.min_le_right _ _
theorem clip_eq (v : Int) (n d : Nat) : (if v < 0 then max (v + (n : Int)) 0 else min v (n : Int)) = ((sIx n d (some v) : Nat) : Int) := by
  show (if v < 0 then max (v + (n : Int)) 0 else min v (n : Int)) = (((if v < 0 then (v + (n : Int)).toNat else min v.toNat n) : Nat) : Int)
  by_cases hv : v < 0
  · simp only [if_pos hv]; omega
  · simp only [if_neg hv]; omega
theorem adjust_gen (lo hi : Option Int) (n : Nat) : Builtin.Slice.sliceAdjust lo hi 1 (n : Int) = (((sIx n 0 lo : Nat) : Int), ((sIx n n hi : Nat) : Int)) := by
  have h1 : ¬ ((1 : Int) < 0) := by omega
  unfold Builtin.Slice.sliceAdjust
  simp only [h1, if_false]
  refine Prod.ext ?_ ?_
  · cases lo with
    | none => rfl
    | some v => exact clip_eq v n 0
  · cases hi with
    | none => rfl
    | some v => exact clip_eq v n n
theorem places_gen (i j : Nat) : Builtin.Slice.slicePlaces (i : Int) (j : Int) 1 = j - i := by
  unfold Builtin.Slice.slicePlaces
  have h1 : (1 : Int) > 0 := by omega
  simp only [h1, if_true, Int.ediv_one]
  split <;> omega
theorem slicePart_ {v : Value} {o : Option Int} {Q : Option Int → Shared → Prop} (p : IsPart v o) (h : Q o s) : wpAny (model prog w) A (Builtin.Slice.slicePartIndex v) Q E s := by
  cases p with
  | none => exact slicePart_none h
  | int i t => exact slicePart_int h
theorem sliceApplied_gen {sl : Addr} {vl vu : Value} {lo hi : Option Int} {n : Nat} {Q : Int × Int × Nat → Shared → Prop} (hs : s.heap.IsSliceOf sl vl vu .none) (pl : IsPart vl lo) (pu : IsPart vu hi)
    (h : Q (((sIx n 0 lo : Nat) : Int), 1, sIx n n hi - sIx n 0 lo) s) : wpAny (model prog w) A (Builtin.Slice.sliceApplied (.ref sl) (pure (n : Int))) Q E s := by
  obtain ⟨os, hos, hcs, hds⟩ := id hs
  unfold Builtin.Slice.sliceApplied Builtin.Slice.sliceFields
  refine wpAny_bind (wpAny_bind (wpAny_field hos hds (x := vl) rfl (wpAny_bind (wpAny_field hos hds (x := vu) rfl (wpAny_bind (wpAny_field hos hds (x := .none) rfl (wpAny_pure ?_)))))))
  refine wpAny_bind (slicePart_none ?_)
  show wpAny _ _ (if ((1 : Int) == 0) = true then _ else _) _ _ s
  rw [if_neg (by decide)]
  refine wpAny_bind (slicePart_ pl (wpAny_bind (slicePart_ pu (wpAny_bind (wpAny_pure ?_)))))
  show wpAny _ _ (match Builtin.Slice.sliceAdjust lo hi 1 (n : Int) with | (lo, hi) => pure (lo, (1 : Int), Builtin.Slice.slicePlaces lo hi 1)) _ _ s
  rw [adjust_gen lo hi n]
  show wpAny _ _ (pure (((sIx n 0 lo : Nat) : Int), (1 : Int), Builtin.Slice.slicePlaces ((sIx n 0 lo : Nat) : Int) ((sIx n n hi : Nat) : Int) 1)) _ _ s
  rw [places_gen]
  exact wpAny_pure h
theorem pick_gen (xs : Array Value) (i k : Nat) : ((List.range k).filterMap fun (m : Nat) => xs[((i : Int) + (m : Int) * 1).toNat]?).toArray = ((xs.toList.drop i).take k).toArray := by
  have e : (fun (m : Nat) => xs[((i : Int) + (m : Int) * 1).toNat]?) = fun m => xs[i + m]? := by
    funext m
    have : ((i : Int) + (m : Int) * 1).toNat = i + m := by omega
    rw [this]
  rw [e]
  have := pick_run xs i k
  rw [List.filterMap_map] at this
  have e2 : ((fun x => xs[x]?) ∘ fun x => i + x) = fun m => xs[i + m]? := rfl
  rw [e2] at this
  rw [this]
theorem getItem_tuple_cut {t sl : Addr} {items : Array Value} {vl vu : Value} {lo hi : Option Int} {Q : Value → Shared → Prop} (ht : IsTup s.heap t items) (hs : s.heap.IsSliceOf sl vl vu .none) (pl : IsPart vl lo) (pu : IsPart vu hi)
    (hw : ¬ (sIx items.size 0 lo = 0 ∧ sIx items.size items.size hi = items.size))
    (h : Q (.ref s.heap.objs.size) { s with heap := s.heap.push { cls := .type "tuple", data := .seq ((items.toList.drop (sIx items.size 0 lo)).take (sIx items.size items.size hi - sIx items.size 0 lo)).toArray } })
    (hsz : items.size ≤ sizeLine) : wpAny (model prog w) A (getItem (.ref t) (.ref sl)) Q E s := by
  have htake : sizeOk (.seq ((items.toList.drop (sIx items.size 0 lo)).take (sIx items.size items.size hi - sIx items.size 0 lo)).toArray) := by
    show ((items.toList.drop (sIx items.size 0 lo)).take (sIx items.size items.size hi - sIx items.size 0 lo)).toArray.size ≤ sizeLine
    rw [List.size_toArray, List.length_take, List.length_drop, Array.length_toList]
    omega
  have hj : sIx items.size items.size hi ≤ items.size := sIx_le _ _ (Nat.le_refl _) hi
  obtain ⟨os, hos, hcs, hds⟩ := id hs
  have hTs : s.TypeIs (.ref sl) "slice" := ⟨os, hos, hcs⟩
  unfold getItem
  try with_reducible refine wpAny_holding ?_
  first | refine wpAny_bind (wpAny_pure ?_) | skip
  refine wpAny_bind (wpAny_sequenceKey ht.typeIs (by decide) ?_)
  refine wpAny_bind (wpAny_callSpecial?_slot (name := Str.ofString "__getitem__") ht.typeIs PyProof.Rows.slot_tuple_getitem
    (wpAny_call_entry PyProof.Rows.slot_tuple_getitem ht.typeIs entry_tuple_getitem ?_ (args_tuple_getitem _ _)))
  show wpAny _ _ (Builtin.Tuple.tupleItemsOf (.ref t) >>= _) _ _ s
  refine wpAny_bind (tupleItemsOf_ ht ?_)
  refine wpAny_bind (wpAny_typeOf hTs ?_)
  rw [if_pos (by decide)]
  refine wpAny_bind (sliceApplied_gen hs pl pu ?_)
  have hno : ¬ ((((sIx items.size 0 lo : Nat) : Int) == 0 && (1 : Int) == 1 && (sIx items.size items.size hi - sIx items.size 0 lo) == items.size) = true) := by
    intro q
    rw [Bool.and_eq_true, Bool.and_eq_true] at q
    have q1 : ((sIx items.size 0 lo : Nat) : Int) = 0 := eq_of_beq q.1.1
    have q2 : sIx items.size items.size hi - sIx items.size 0 lo = items.size := eq_of_beq q.2
    exact hw ⟨by omega, by omega⟩
  show wpAny _ _ (if (((sIx items.size 0 lo : Nat) : Int) == 0 && (1 : Int) == 1 && (sIx items.size items.size hi - sIx items.size 0 lo) == items.size) = true then _ else _) _ _ s
  rw [if_neg hno, pick_gen]
  first
    | exact wpAny_bind (m := Builtin.Tuple.tupleExact _) (wpAny_newObj_type (wpAny_pure ⟨_, rfl, wpAny_pure h⟩) htake)
    | exact wpAny_bind (m := Builtin.Tuple.tupleExact _) (wpAny_newObj_type (wpAny_bind (wpAny_pure (wpAny_pure ⟨_, rfl, wpAny_pure h⟩))) htake)
    | exact wpAny_bind (wpAny_bind (m := Builtin.Tuple.tupleExact _) (wpAny_newObj_type (wpAny_pure (wpAny_pure ⟨_, rfl, wpAny_pure h⟩)) htake))
    | exact wpAny_bind (wpAny_bind (m := Builtin.Tuple.tupleExact _) (wpAny_newObj_type (wpAny_pure ⟨_, rfl, wpAny_pure h⟩) htake))
end
end HT
namespace L2
open PySem PySem.Spec PyProof.Rows
abbrev TO := St → Hp → (Option Int → Hp → Prop) → Prop
def PO (X : Cx) (e : Option Expr) (t : TO) : Prop :=
  ∀ (pins : List (Addr × Obj)) (s : Shared) (σ : St) (H : Hp) (Q : Option Int → Hp → Prop), Inv X pins σ H s → t σ H Q →
    wpAny (model X.prog X.w) X.A (evalPart e X.env) (fun u s' => ∃ o H', Inv X pins σ H' s' ∧ IsPart u o ∧ Q o H') X.xe s
def tNoPart : TO := fun _ H Q => Q none H
def tPart (t : TE) : TO := fun σ H Q => t σ H fun x H1 => ∃ i, x = .int i ∧ Q (some i) H1
theorem intsAre_of {ns : List Int} : ∀ {us : List Value}, Vals (ns.map V.int) us → IntsAre us ns := by
  induction ns with
  | nil => intro us r; rw [List.map_nil] at r; cases r; exact .nil
  | cons n ns ih =>
    intro us r
    rw [List.map_cons] at r
    cases r with
    | cons r1 r2 =>
      obtain ⟨t, e⟩ := r1
      subst e
      exact .cons n t (ih r2)
section
variable {X : Cx} {e : Expr} {te : TE} {lo hi : Option Expr} {tl th : TO} {pos p2 : Pos}
theorem po_none : PO X none tNoPart := by
  intro pins s σ H Q I h
  rw [evalPart_none]
  exact wpAny_pure ⟨none, H, I, .none, h⟩
theorem po_some (h : PE X e te) : PO X (some e) (tPart te) := by
  intro pins s σ H Q I hw
  rw [evalPart_some]
  refine thn (h pins s σ H _ I hw) fun u s1 ⟨x, H1, I1, r1, q1⟩ => ?_
  obtain ⟨i, rfl, q⟩ := q1
  obtain ⟨t, rfl⟩ := r1
  exact ⟨some i, H1, I1, .int i t, q⟩
def SlR (X : Cx) (r : V → Option Int → Option Int → Hp → VK → Prop) : Prop :=
  ∀ (pins : List (Addr × Obj)) (s : Shared) (σ : St) (H : Hp) (x : V) (v vl vu : Value) (lo hi : Option Int) (sl : Addr) (Q : VK), Inv X pins σ H s → RelV x v → s.heap.IsSliceOf sl vl vu .none → IsPart vl lo → IsPart vu hi → r x lo hi H Q →
    ∃ T id, typeLookup (.type T) "__getitem__" = pure (some (.builtin id)) ∧ s.TypeIs v T ∧ wpAny (model X.prog X.w) X.A (getItem v (.ref sl)) (EP X pins σ Q) X.xe s
theorem SlR.or {r r' : V → Option Int → Option Int → Hp → VK → Prop} (h : SlR X r) (h' : SlR X r') : SlR X (fun x lo hi H Q => r x lo hi H Q ∨ r' x lo hi H Q) := by
  intro pins s σ H x v vl vu lo hi sl Q I rx hs pl pu q
  rcases q with q | q
  · exact h pins s σ H x v vl vu lo hi sl Q I rx hs pl pu q
  · exact h' pins s σ H x v vl vu lo hi sl Q I rx hs pl pu q
def tSl (r : V → Option Int → Option Int → Hp → VK → Prop) (te : TE) (tl th : TO) : TE := fun σ H Q => te σ H fun x H1 => tl σ H1 fun l H2 => th σ H2 fun u H3 => r x l u H3 Q
theorem pe_slice {r : V → Option Int → Option Int → Hp → VK → Prop} (hr : SlR X r) (he : PE X e te) (hl : PO X lo tl) (hu : PO X hi th) : PE X (.Subscript e (.Slice lo hi none p2) pos) (tSl r te tl th) := by
  intro pins s σ H Q I h
  refine Subscript_ (thn (he pins s σ H _ I h) fun v s1 ⟨x, H1, I1, r1, q1⟩ => ?_)
  refine wpAny_Slice (thn (hl pins s1 σ H1 _ I1 q1) fun vl s2 ⟨l, H2, I2, pl, q2⟩ => thn (hu pins s2 σ H2 _ I2 q2) fun vu s3 ⟨u, H3, I3, pu, q3⟩ => ?_)
  rw [evalPart_none]
  refine wpAny_pure ?_
  have I4 : Inv X pins σ H3 { s3 with heap := s3.heap.push { cls := .type "slice", data := .fields #[vl, vu, .none] } } := I3.kept (t' := s3.toks) fun b ob q => Heap.get?_push_of_some _ q
  obtain ⟨T, id, hT, ht, hg⟩ := hr pins { s3 with heap := s3.heap.push { cls := .type "slice", data := .fields #[vl, vu, .none] } } σ H3 x v vl vu l u s3.heap.objs.size Q I4 r1 (Heap.IsSliceOf.new ..) pl pu q3
  show wpAny (model X.prog X.w) X.A (subscriptTail e (.Slice lo hi none p2) v (.ref s3.heap.objs.size)) (EP X pins σ Q) X.xe { s3 with heap := s3.heap.push { cls := .type "slice", data := .fields #[vl, vu, .none] } }
  exact tail_any (ops := [.ref s3.heap.objs.size, v]) ht hT hg (by with_unfolding_all rfl)
def cutV (xs : List V) (lo hi : Option Int) : List V := (xs.drop (HT.sIx xs.length 0 lo)).take (HT.sIx xs.length xs.length hi - HT.sIx xs.length 0 lo)
theorem cutV_length (xs : List V) (lo hi : Option Int) : (cutV xs lo hi).length ≤ xs.length := by
  unfold cutV
  rw [List.length_take, List.length_drop]
  omega
def rSlT (K : PySem.W.Frag) : V → Option Int → Option Int → Hp → VK → Prop := fun x lo hi H Q => ∃ a xs, x = .ref a ∧ SqT K H a xs ∧
  ¬ (HT.sIx xs.length 0 lo = 0 ∧ HT.sIx xs.length xs.length hi = xs.length) ∧ ∀ p, H p = none → Q (.ref p) (upd H p (.tup (cutV xs lo hi)))
theorem sl_tup : SlR X (rSlT X.K) := by
  intro pins s σ H x v vl vu lo hi sl Q I rx hs pl pu h
  obtain ⟨a, xs, rfl, hx, hw, q⟩ := h
  cases rx
  obtain ⟨its, r, ht, hz⟩ := I.tuple hx
  have hlen : its.toArray.size = xs.length := by rw [List.size_toArray]; exact r.length.symm
  refine ⟨"tuple", _, PyProof.Rows.slot_tuple_getitem.lookup, ht.typeIs, ?_⟩
  refine HT.getItem_tuple_cut ht hs pl pu (by rw [hlen]; exact hw) ?_ (by rw [hlen]; exact hz)
  rw [hlen]
  refine ⟨.ref s.heap.objs.size, _, I.laid (t' := s.toks) (o := .tup (cutV xs lo hi)) (fun b ob q => Heap.get?_push_of_some _ q) (Nat.le_refl _) ?_, rfl, q _ (I.hok.fresh (Nat.le_refl _))⟩
  exact ⟨Nat.le_trans (cutV_length xs lo hi) hz, _, (r.drop (HT.sIx xs.length 0 lo)).take (HT.sIx xs.length xs.length hi - HT.sIx xs.length 0 lo), IsTup.new _ _⟩
def rLtT (K : PySem.W.Frag) : R2 := fun x y H Q => ∃ a b ns ms, x = .ref a ∧ y = .ref b ∧ SqT K H a (ns.map V.int) ∧ SqT K H b (ms.map V.int) ∧ Q (.bl (HT.lexLt ns ms)) H
theorem op_ltT (hu : X.A.units < cLine) : OpR X (compareOp .Lt) (rLtT X.K) := by
  intro pins s σ H x y v u Q I rx ry h
  obtain ⟨a, b, ns, ms, rfl, rfl, ha, hb, q⟩ := h
  cases rx
  cases ry
  obtain ⟨its, r1, p1, _⟩ := I.tuple ha
  obtain ⟨its2, r2, p2, _⟩ := I.tuple hb
  have i1 : IntsAre its.toArray.toList ns := intsAre_of r1
  have i2 : IntsAre its2.toArray.toList ms := intsAre_of r2
  exact HT.lt_tupInts p1 p2 i1 i2 hu ⟨.bl (HT.lexLt ns ms), H, I, rfl, q⟩
def rCatT (K : PySem.W.Frag) : R2 := fun x y H Q => ∃ a b xs ys, x = .ref a ∧ y = .ref b ∧ SqT K H a xs ∧ SqT K H b ys ∧ xs ≠ [] ∧ xs.length + ys.length ≤ sizeLine ∧
  (ys = [] → Q (.ref a) H) ∧ (ys ≠ [] → ∀ p, H p = none → Q (.ref p) (upd H p (.tup (xs ++ ys))))
theorem Vals.nil_iff {xs : List V} {us : List Value} (r : Vals xs us) : us = [] ↔ xs = [] := by
  cases r with
  | nil => simp
  | cons _ _ => simp
theorem op_catT : OpR X (binaryOp .Add) (rCatT X.K) := by
  intro pins s σ H x y v u Q I rx ry h
  obtain ⟨a, b, xs, ys, rfl, rfl, ha, hb, hx, hz, q1, q2⟩ := h
  cases rx
  cases ry
  obtain ⟨its, r1, p1, _⟩ := I.tuple ha
  obtain ⟨its2, r2, p2, _⟩ := I.tuple hb
  refine HT.cat_tup p1 p2 (fun z => hx (r1.nil_iff.mp z)) (fun z => ⟨.ref a, H, I, rfl, q1 (r2.nil_iff.mp z)⟩) (fun z => ?_) (by rw [← r1.length, ← r2.length]; exact hz)
  refine ⟨.ref s.heap.objs.size, _, I.laid (t' := s.toks) (o := .tup (xs ++ ys)) (fun b ob q => Heap.get?_push_of_some _ q) (Nat.le_refl _) ?_, rfl, q2 (fun w => z (r2.nil_iff.mpr w)) _ (I.hok.fresh (Nat.le_refl _))⟩
  exact ⟨by rw [List.length_append]; exact hz, _, r1.append r2, IsTup.new _ _⟩
end
end L2
namespace L2
open PySem PySem.Spec PyProof.Rows
def ixN (n : Nat) (i : Int) : Option Nat := if 0 ≤ i then (if i < n then some i.toNat else none) else if -(n : Int) ≤ i then some (i + n).toNat else none
def atI {α : Type} (xs : List α) (i : Int) : Option α := (ixN xs.length i).bind fun j => xs[j]?
theorem ixN_seq {n : Nat} {i : Int} {j : Nat} (h : ixN n i = some j) : seqIndex? i n = some j ∧ j < n ∧ -(n : Int) ≤ i ∧ i < n := by
  unfold ixN at h
  by_cases h0 : 0 ≤ i
  · rw [if_pos h0] at h
    by_cases h1 : i < n
    · rw [if_pos h1] at h
      have e : i.toNat = j := Option.some.inj h
      exact ⟨by rw [seqIndex_of h0 h1, e], by omega, by omega, h1⟩
    · rw [if_neg h1] at h; cases h
  · rw [if_neg h0] at h
    by_cases h1 : -(n : Int) ≤ i
    · rw [if_pos h1] at h
      have e : (i + n).toNat = j := Option.some.inj h
      exact ⟨by rw [seqIndex_neg (by omega) h1, e], by omega, h1, by omega⟩
    · rw [if_neg h1] at h; cases h
theorem atI_get {α : Type} {xs : List α} {i : Int} {v : α} (h : atI xs i = some v) : ∃ j, seqIndex? i xs.length = some j ∧ xs[j]? = some v ∧ j < xs.length ∧ -(xs.length : Int) ≤ i ∧ i < xs.length := by
  unfold atI at h
  cases e : ixN xs.length i with
  | none => rw [e] at h; cases h
  | some j =>
    rw [e] at h
    obtain ⟨h1, h2, h3, h4⟩ := ixN_seq e
    exact ⟨j, h1, h, h2, h3, h4⟩
theorem atI_nat {α : Type} {xs : List α} {j : Nat} {v : α} (h : xs[j]? = some v) : atI xs (j : Int) = some v := by
  have hj : j < xs.length := (List.getElem?_eq_some_iff.mp h).1
  have e : ixN xs.length (j : Int) = some j := by
    unfold ixN
    rw [if_pos (by omega), if_pos (by omega)]; simp
  unfold atI; rw [e]; exact h
def PlainIx (b : Expr) : Prop := ∀ o i, subscripted b false o i = operate [o, i] (getItem o i)
def IxR (X : Cx) (r : R2) : Prop :=
  ∀ (value slice : Expr) (pins : List (Addr × Obj)) (s : Shared) (σ : St) (H : Hp) (x y : V) (v u : Value) (Q : VK), Inv X pins σ H s → RelV x v → RelV y u → r x y H Q →
    subscripted slice false v u = operate [v, u] (getItem v u) → wpAny (model X.prog X.w) X.A (subscriptTail value slice v u) (EP X pins σ Q) X.xe s
def MtR (X : Cx) (id : String) (r : V → List V → Hp → VK → Prop) : Prop :=
  ∀ (pins : List (Addr × Obj)) (s : Shared) (σ : St) (H : Hp) (x : V) (xs : List V) (v : Value) (us : List Value) (Q : VK), Inv X pins σ H s → RelV x v → Vals xs us → r x xs H Q →
    wpAny (model X.prog X.w) X.A (call (.builtin id) (v :: us)) (EP X pins σ Q) X.xe s
section
variable {X : Cx} {a b : Expr} {ta tb : TE} {pos : Pos}
theorem IxR.or {r r' : R2} (h : IxR X r) (h' : IxR X r') : IxR X (fun x y H Q => r x y H Q ∨ r' x y H Q) := by
  intro value slice pins s σ H x y v u Q I rx ry q hs
  rcases q with q | q
  · exact h value slice pins s σ H x y v u Q I rx ry q hs
  · exact h' value slice pins s σ H x y v u Q I rx ry q hs
theorem MtR.or {id : String} {r r' : V → List V → Hp → VK → Prop} (h : MtR X id r) (h' : MtR X id r') : MtR X id (fun x xs H Q => r x xs H Q ∨ r' x xs H Q) := by
  intro pins s σ H x xs v us Q I rx rs q
  rcases q with q | q
  · exact h pins s σ H x xs v us Q I rx rs q
  · exact h' pins s σ H x xs v us Q I rx rs q
theorem pe_ix {r : R2} (hr : IxR X r) (ha : PE X a ta) (hb : PE X b tb) (hs : PlainIx b) : PE X (.Subscript a b pos) (tOp r ta tb) := by
  intro pins s σ H Q I h
  exact Subscript_ (binT ha hb I h fun v u s2 x y H2 I2 rx ry q => hr a b pins s2 σ H2 x y v u Q I2 rx ry q (hs _ _))
def rIxL (K : PySem.W.Frag) : R2 := fun x y H Q => ∃ p xs i v, x = .ref p ∧ y = .int i ∧ SqL K H p xs ∧ atI xs i = some v ∧ Q v H
def rIxT (K : PySem.W.Frag) : R2 := fun x y H Q => ∃ p xs i v, x = .ref p ∧ y = .int i ∧ SqT K H p xs ∧ atI xs i = some v ∧ Q v H
theorem ix_list : IxR X (rIxL X.K) := by
  intro value slice pins s σ H x y v u Q I rx ry h hs
  obtain ⟨p, xs, i, z, rfl, rfl, hq, he, q⟩ := h
  cases rx
  obtain ⟨t, rfl⟩ := ry
  obtain ⟨its, r, pl, hz⟩ := I.list hq
  obtain ⟨j, h1, h2, h3, h4, h5⟩ := atI_get he
  obtain ⟨w, ew, rw'⟩ := r.get h2
  have hl := r.length
  have hn := line63
  have fin : EP X pins σ Q w s := ⟨z, H, I, rw', q⟩
  by_cases h0 : 0 ≤ i
  · have hj : i.toNat = j := by
      rw [seqIndex_of h0 h5] at h1
      exact Option.some.inj h1
    exact item_listR pl.isList h0 (by omega) (by rw [hj]; simpa using ew) fin hs
  · have hj : (i + (its.toArray.size : Int)).toNat = j := by
      rw [seqIndex_neg (by omega) h4] at h1
      rw [List.size_toArray, ← hl]
      exact Option.some.inj h1
    exact subscriptTail_builtinR (x := w) pl.isList.typeIs slot_list_getitem.lookup
      (wpAny_getItem_list_neg (Q := fun r s' => r = w ∧ EP X pins σ Q r s') pl.isList (by omega) (by rw [List.size_toArray] <;> omega) (by omega) (by rw [hj]; simpa using ew) ⟨rfl, fin⟩) hs
theorem ix_tup : IxR X (rIxT X.K) := by
  intro value slice pins s σ H x y v u Q I rx ry h hs
  obtain ⟨p, xs, i, z, rfl, rfl, hq, he, q⟩ := h
  cases rx
  obtain ⟨t, rfl⟩ := ry
  obtain ⟨its, r, pl, hz⟩ := I.tuple hq
  obtain ⟨j, h1, h2, h3, h4, h5⟩ := atI_get he
  obtain ⟨w, ew, rw'⟩ := r.get h2
  have hl := r.length
  have hn := line63
  have fin : EP X pins σ Q w s := ⟨z, H, I, rw', q⟩
  exact subscriptTail_builtinR (x := w) pl.typeIs slot_tuple_getitem.lookup
    (getItem_tuple (j := j) (Q := fun r s' => r = w ∧ EP X pins σ Q r s') pl (by omega) (by omega) (by rw [List.size_toArray, ← hl]; exact h1) (by simpa using ew) ⟨rfl, fin⟩) hs
theorem mapSeq_set (its : List Value) (n j : Nat) (u : Value) : Obj.mapSeq (·.setIfInBounds j u) { cls := .type "list", data := .seq its.toArray n } = { cls := .type "list", data := .seq (its.set j u).toArray n } := by
  simp [Obj.mapSeq]
theorem Inv.lst {pins : List (Addr × Obj)} {σ : St} {H : Hp} {s : Shared} {p : Addr} {xs : List V} (I : Inv X pins σ H s) (h : H p = some (.lst xs)) :
    ∃ (its : List Value) (n : Nat), Vals xs its ∧ s.heap.get? p = some { cls := .type "list", data := .seq its.toArray n } ∧ xs.length ≤ sizeLine := by
  obtain ⟨z, its, n, r, e⟩ := I.hok p _ h
  exact ⟨its, n, r, e, z⟩
theorem Inv.lstUpd {pins : List (Addr × Obj)} {σ : St} {H : Hp} {s : Shared} {p : Addr} {xs ys : List V} {its its' : List Value} {n n' : Nat} {f : Obj → Obj} (I : Inv X pins σ H s) (h : H p = some (.lst xs))
    (ho : s.heap.get? p = some { cls := .type "list", data := .seq its.toArray n }) (hf : f { cls := .type "list", data := .seq its.toArray n } = { cls := .type "list", data := .seq its'.toArray n' }) (r : Vals ys its') (hz : ys.length ≤ sizeLine) (t : Nat) :
    Inv X pins σ (upd H p (.lst ys)) { s with heap := s.heap.update p f, toks := t } := by
  have e : (s.heap.update p f).get? p = some { cls := .type "list", data := .seq its'.toArray n' } := by
    rw [Heap.get?_update_self f ho (by rw [hf] <;> rfl), hf]
  refine I.write (x := p) (e := p) (by rw [h]; trivial) (.inl rfl) (fun b u hb q => (Heap.get?_update_other _ _ (Ne.symm hb)).trans q) ⟨_, e⟩ ?_
  exact ⟨hz, its', n', r, e⟩
def rSetL : V → V → V → Hp → (Hp → Prop) → Prop := fun o i v H Q => ∃ p xs k j, o = .ref p ∧ i = .int k ∧ H p = some (.lst xs) ∧ ixN xs.length k = some j ∧ Q (upd H p (.lst (xs.set j v)))
theorem set_list : PSet X rSetL := by
  intro pins s σ H o i v ov iv u Q I ro ri rv h
  obtain ⟨p, xs, k, j, rfl, rfl, hp, hj, q⟩ := h
  cases ro
  obtain ⟨t, rfl⟩ := ri
  obtain ⟨its, n, r, ho, hz⟩ := I.lst hp
  obtain ⟨h1, h2, h3, h4⟩ := ixN_seq hj
  have hl := r.length
  have hn := line63
  have I' : Inv X pins σ (upd H p (.lst (xs.set j v))) { s with heap := s.heap.update p (Obj.mapSeq (·.setIfInBounds j u)) } :=
    I.lstUpd hp ho (mapSeq_set its n j u) (r.set rv j) (by rw [List.length_set]; exact hz) s.toks
  by_cases h0 : 0 ≤ k
  · have hk : k.toNat = j := by
      rw [seqIndex_of h0 h4] at h1
      exact Option.some.inj h1
    exact PySem.W.ki_setAt ho h0 (by omega) (by rw [List.size_toArray, ← hl]; exact h4) (by rw [hk]; exact ⟨_, I', q⟩)
  · have hk : (k + (its.toArray.size : Int)).toNat = j := by
      rw [seqIndex_neg (by omega) h3] at h1
      rw [List.size_toArray, ← hl]
      exact Option.some.inj h1
    exact PySem.W.ki_setBack ho (by omega) (by rw [List.size_toArray, ← hl]; exact h3) (by omega) (by rw [hk]; exact ⟨_, I', q⟩)
theorem slice_bounds (lo hi : Option Int) (n : Nat) : (sliceBounds lo hi none n).1 = ((HT.sIx n 0 lo : Nat) : Int) ∧ (sliceBounds lo hi none n).2.1 = ((HT.sIx n n hi : Nat) : Int) ∧ (sliceBounds lo hi none n).2.2 = 1 := by
  refine ⟨?_, ?_, rfl⟩
  · cases lo with
    | none => simp [sliceBounds, HT.sIx]
    | some i =>
      simp only [sliceBounds, HT.sIx, Option.getD_none, show (1 : Int) > 0 by decide, if_true]
      by_cases h : i < 0
      · simp only [h, if_true] <;> omega
      · simp only [h, if_false] <;> omega
  · cases hi with
    | none => simp [sliceBounds, HT.sIx]
    | some i =>
      simp only [sliceBounds, HT.sIx, Option.getD_none, show (1 : Int) > 0 by decide, if_true]
      by_cases h : i < 0
      · simp only [h, if_true] <;> omega
      · simp only [h, if_false] <;> omega
theorem slicePick_cut (its : List Value) (lo hi : Option Int) : slicePick its.toArray lo hi none = ((its.drop (HT.sIx its.length 0 lo)).take (HT.sIx its.length its.length hi - HT.sIx its.length 0 lo)).toArray := by
  obtain ⟨h1, h2, h3⟩ := slice_bounds lo hi its.toArray.size
  unfold slicePick
  rw [h1, h2, h3]
  simp only [sliceRange_one, pick_run, List.size_toArray] <;> rfl
def rSlL (K : PySem.W.Frag) : V → Option Int → Option Int → Hp → VK → Prop := fun x lo hi H Q => ∃ a xs, x = .ref a ∧ SqL K H a xs ∧ ∀ p, H p = none → Q (.ref p) (upd H p (.lst (cutV xs lo hi)))
theorem sl_list : SlR X (rSlL X.K) := by
  intro pins s σ H x v vl vu lo hi sl Q I rx hs pl pu h
  obtain ⟨a, xs, rfl, hx, q⟩ := h
  cases rx
  obtain ⟨its, r, ht, hz⟩ := I.list hx
  have hlen := r.length
  refine ⟨"list", _, slot_list_getitem.lookup, ht.isList.typeIs, ?_⟩
  refine wpAny_getItem_list_slice ht.isList hs pl pu .none (by simp) ?_ (by rw [List.size_toArray] <;> omega)
  rw [slicePick_cut, ← hlen]
  refine ⟨.ref s.heap.objs.size, _, I.laid (t' := s.toks) (o := .lst (cutV xs lo hi)) (fun b ob q => Heap.get?_push_of_some _ q) (Nat.le_refl _) ?_, rfl, q _ (I.hok.fresh (Nat.le_refl _))⟩
  exact ⟨Nat.le_trans (cutV_length xs lo hi) hz, _, 0, (r.drop (HT.sIx xs.length 0 lo)).take (HT.sIx xs.length xs.length hi - HT.sIx xs.length 0 lo), Heap.get?_push_size _ rfl⟩
def eqV : V → V → Bool
  | .non, .non => true
  | .bl a, .bl b => a == b
  | .bl a, .int b => (if a then 1 else 0) == b
  | .int a, .bl b => a == (if b then 1 else 0)
  | .int a, .int b => a == b
  | .str a, .str b => a == b
  | _, _ => false
def inV (x : V) (xs : List V) : Bool := xs.any fun y => eqV y x
theorem call_len_seq : CallR X (.builtin "len") (fun xs H Q => ∃ p ys, xs = [.ref p] ∧ (SqL X.K H p ys ∨ SqT X.K H p ys) ∧ Q (.int ys.length) H) := by
  intro pins s σ H xs us Q I r h
  obtain ⟨p, ys, rfl, hq, q⟩ := h
  obtain ⟨u, rfl, rx⟩ := vals1 r
  cases rx
  have hn := line63
  rcases hq with hq | hq
  · obtain ⟨its, r', pl, hz⟩ := I.list hq
    have hlen := r'.length
    exact Calls.call_len_list pl.isList (by simp only [List.size_toArray] <;> omega) ⟨.int ys.length, H, I.tok _, ⟨s.toks + 1, by rw [List.size_toArray, hlen]⟩, q⟩
  · obtain ⟨its, r', pl, hz⟩ := I.tuple hq
    have hlen := r'.length
    exact len_tuple pl (by simp only [List.size_toArray] <;> omega) ⟨.int ys.length, H, I.tok _, ⟨s.toks + 1, by rw [List.size_toArray, hlen]⟩, q⟩
theorem CallR.or {f : Value} {r r' : List V → Hp → VK → Prop} (h : CallR X f r) (h' : CallR X f r') : CallR X f (fun xs H Q => r xs H Q ∨ r' xs H Q) := by
  intro pins s σ H xs us Q I rs q
  rcases q with q | q
  · exact h pins s σ H xs us Q I rs q
  · exact h' pins s σ H xs us Q I rs q
theorem call_tuple_of : CallR X (.type "tuple") (fun xs H Q => ∃ p ys, xs = [.ref p] ∧ ((SqL X.K H p ys ∧ ∀ l, H l = none → Q (.ref l) (upd H l (.tup ys))) ∨ (SqT X.K H p ys ∧ Q (.ref p) H))) := by
  intro pins s σ H xs us Q I r h
  obtain ⟨p, ys, rfl, h⟩ := h
  obtain ⟨u, rfl, rx⟩ := vals1 r
  cases rx
  rcases h with ⟨hq, q⟩ | ⟨hq, q⟩
  · obtain ⟨its, r', pl, hz⟩ := I.list hq
    have hlen := r'.length
    refine call_tuple_list pl.isList (fun h' kp => ?_) (by simp only [List.size_toArray] <;> omega)
    have I1 : Inv X pins σ H { s with heap := h' } := I.kept (t' := s.toks) kp
    have I2 : Inv X pins σ (upd H h'.objs.size (.tup ys)) { s with heap := h'.push { cls := .type "tuple", data := .seq its.toArray } } :=
      I1.laid (t' := s.toks) (fun b o e => Heap.get?_push_of_some _ e) (Nat.le_refl _) (show ObjOk X.prog X.w _ _ _ (.tup ys) from ⟨hz, its, r', IsTup.new _ _⟩)
    exact ⟨.ref h'.objs.size, _, I2, rfl, q _ (I1.hok.fresh (Nat.le_refl _))⟩
  · obtain ⟨its, r', pl, hz⟩ := I.tuple hq
    exact call_tuple_same pl ⟨.ref p, H, I, rfl, q⟩
def tyV (K : PySem.W.Frag) (T : String) (x : V) (H : Hp) : Prop := match x with
  | .str _ => T = "str"
  | .int _ => T = "int"
  | .ref p => (T = "list" ∧ ∃ xs, SqL K H p xs) ∨ (T = "tuple" ∧ ∃ o, K.lookup p = some o ∧ o.cls = .type "tuple" ∧ o.dict = none) ∨
      (T = "dict" ∧ ((∃ kvs, H p = some (.dK kvs)) ∨ ∃ kvs, H p = some (.dT kvs))) ∨ (T = "set" ∧ ∃ S n, H p = some (.set S n))
  | _ => False
theorem tyV_is {pins : List (Addr × Obj)} {σ : St} {H : Hp} {s : Shared} {T : String} {x : V} {v : Value} (I : Inv X pins σ H s) (r : RelV x v) (ty : tyV X.K T x H) :
    s.TypeIs v T ∧ ∀ a, v = .ref a → ∃ ob, s.heap.get? a = some ob ∧ ob.dict = none := by
  cases x with
  | str z =>
    obtain ⟨t, rfl⟩ := r
    cases (show T = "str" from ty)
    exact ⟨typeIs_str s z t, fun _ e => nomatch e⟩
  | int i =>
    obtain ⟨t, rfl⟩ := r
    cases (show T = "int" from ty)
    exact ⟨typeIs_int s i t, fun _ e => nomatch e⟩
  | ref p =>
    cases r
    rcases ty with ⟨rfl, xs, hq⟩ | ⟨rfl, o, hk, hc, hd⟩ | ⟨rfl, hk⟩ | ⟨rfl, S, n, hk⟩
    · obtain ⟨its, _, pl, _⟩ := I.list hq
      refine ⟨pl.isList.typeIs, fun a e => ?_⟩
      cases e
      obtain ⟨o, n, e, c, hd, _⟩ := pl
      exact ⟨o, e, hd⟩
    · refine ⟨⟨o, I.kIn p o hk, hc⟩, fun a e => ?_⟩
      cases e
      exact ⟨o, I.kIn _ o hk, hd⟩
    · have z : ∃ o, s.heap.get? p = some o ∧ o.ExactDict := by
        rcases hk with ⟨kvs, hk⟩ | ⟨kvs, hk⟩
        · obtain ⟨_, _, _, _, o, _, _, e, ex, _⟩ := I.hok p _ hk
          exact ⟨o, e, ex⟩
        · obtain ⟨_, _, _, _, o, _, _, e, ex, _⟩ := I.hok p _ hk
          exact ⟨o, e, ex⟩
      obtain ⟨o, e, ex⟩ := z
      refine ⟨⟨o, e, ex.1⟩, fun a e2 => ?_⟩
      cases e2
      exact ⟨o, e, ex.2.1⟩
    · obtain ⟨o, _, _, _, e, ex, _⟩ := I.hok p _ hk
      refine ⟨⟨o, e, ex.1⟩, fun a e2 => ?_⟩
      cases e2
      exact ⟨o, e, ex.2.1⟩
  | _ => exact False.elim ty
def tBM0 (K : PySem.W.Frag) (T : String) (r : V → List V → Hp → VK → Prop) (to : TE) : TE := fun σ H Q => to σ H fun x H1 => tyV K T x H1 ∧ r x [] H1 Q
def tBM (K : PySem.W.Frag) (T : String) (r : V → List V → Hp → VK → Prop) (to : TE) (t : TA) : TE := fun σ H Q => to σ H fun x H1 => tyV K T x H1 ∧ t σ H1 fun xs H2 => r x xs H2 Q
variable {o e : Expr} {es : List Expr} {to : TE} {t : TA} {name : Str} {apos cpos : Pos} {T id : String} {r : V → List V → Hp → VK → Prop}
theorem pe_bm (pa : PlainAttrs T) (slot : Slot T name id) (hty : typeOf (.builtin id) = pure (.type "method_descriptor")) (hm : MtR X id r) (ho : PE X o to) (ha : PA X (e :: es) t)
    (hbase : attributeBase o name X.env (eval o X.env) = eval o X.env := by rfl)
    (hfew : ((backTo cpos (starEach (e :: es) X.env)).all (fun x => !x.1) && (backToKw cpos (keywordEach [] X.env)).all (fun x => x.1.isSome)
      && decide ((e :: es).length + ([] : List Keyword).length + (if ([] : List Keyword).isEmpty then 0 else 1) < 30)) = true := by rfl)
    (hline : (apos.endLine == cpos.line) = true := by rfl) (hs : starEach (e :: es) X.env = (false, eval e X.env) :: starEach es X.env := by rfl) (hplain : (backTo cpos (starEach es X.env)).any (·.1) = false := by rfl) :
    PE X (.Call (.Attribute o name apos) (e :: es) [] cpos) (tBM X.K T r to t) := by
  intro pins s σ H Q I h
  refine wpAny_Call_method_late hbase hfew hline rfl (thn (ho pins s σ H _ I h) fun v s1 ⟨x, H1, I1, r1, ty, q1⟩ => ?_)
  obtain ⟨h1, h2⟩ := tyV_is I1 r1 ty
  refine ⟨T, id, pa, slot, hty, h1, h2, ?_⟩
  have hA := ha cpos pins s1 σ H1 _ I1 q1
  rw [hs] at hA ⊢
  refine Calls.callWith_builtin (by show (false || (backTo cpos (starEach es X.env)).any (·.1)) = false; rw [hplain] <;> rfl) (Calls.evalArgs_plain ?_)
  exact thn hA fun us s2 ⟨vs, H2, I2, r2, q2⟩ => hm pins s2 σ H2 x vs v us Q I2 r1 r2 q2
end
end L2
namespace L2
open PySem PySem.Spec PyProof.Rows
def MtM (X : Cx) (id : String) (r : V → List V → Hp → VK → Prop) : Prop :=
  ∀ (pins : List (Addr × Obj)) (s : Shared) (σ : St) (H : Hp) (x : V) (xs : List V) (v : Value) (us : List Value) (Q : VK), Inv X pins σ H s → RelV x v → Vals xs us → r x xs H Q →
    wpAny (model X.prog X.w) X.A (call (.builtin id) (v :: us)) (EP X pins σ Q) X.xe s
theorem Vals.one : ∀ {x : V} {us : List Value}, Vals [x] us → ∃ u, us = [u] ∧ RelV x u
  | _, _, .cons r .nil => ⟨_, rfl, r⟩
theorem Vals.two : ∀ {x y : V} {us : List Value}, Vals [x, y] us → ∃ u v, us = [u, v] ∧ RelV x u ∧ RelV y v
  | _, _, _, .cons r (.cons q .nil) => ⟨_, _, rfl, r, q⟩
theorem Vals.zero : ∀ {us : List Value}, Vals [] us → us = []
  | _, .nil => rfl
theorem Vals.dropLast {xs : List V} {us : List Value} (h : Vals xs us) : Vals xs.dropLast us.dropLast := by
  induction h with
  | nil => exact .nil
  | cons r t ih =>
    cases t with
    | nil => exact .nil
    | cons q t' => exact .cons r ih
theorem Vals.reverse {xs : List V} {us : List Value} (h : Vals xs us) : Vals xs.reverse us.reverse := by
  induction h with
  | nil => exact .nil
  | cons r t ih => rw [List.reverse_cons, List.reverse_cons]; exact Vals.append ih (.cons r .nil)
section
variable {X : Cx} {pins : List (Addr × Obj)} {σ : St} {H : Hp} {s : Shared} {l b : Addr} {xs ys zs : List V}
theorem Inv.lset {its its' : List Value} {n : Nat} {f : Array Value → Array Value} {t' : Nat} (I : Inv X pins σ H s) (hH : H l = some (.lst xs))
    (e : s.heap.get? l = some { cls := .type "list", data := .seq its.toArray n }) (hf : f its.toArray = its'.toArray) (hv : Vals ys its') (hz : ys.length ≤ sizeLine) :
    Inv X pins σ (upd H l (.lst ys)) { s with heap := s.heap.update l (Obj.mapSeq f), toks := t' } := by
  have q := PySem.IsL.update e f
  rw [hf] at q
  refine I.write (x := l) (e := l) (by rw [hH]; exact trivial) (.inl rfl) (fun b' u hb hu => (Heap.get?_update_other s.heap (Obj.mapSeq f) (Ne.symm hb)).trans hu) ⟨_, q⟩ ?_
  exact ⟨hz, its', _, hv, q⟩
theorem Inv.lnew {its : List Value} {t' : Nat} (I : Inv X pins σ H s) (hv : Vals ys its) (hz : ys.length ≤ sizeLine) :
    Inv X pins σ (upd H s.heap.objs.size (.lst ys)) { s with heap := s.heap.push { cls := .type "list", data := .seq its.toArray }, toks := t' } :=
  I.laid (fun _ _ q => Heap.get?_push_of_some _ q) (Nat.le_refl _) ⟨hz, its, 0, hv, Heap.get?_push_size _ rfl⟩
theorem Inv.fresh (I : Inv X pins σ H s) : H s.heap.objs.size = none := I.hok.fresh (Nat.le_refl _)
theorem Inv.lstM (I : Inv X pins σ H s) (hH : H l = some (.lst xs)) : xs.length ≤ sizeLine ∧ ∃ (its : List Value) (n : Nat), Vals xs its ∧ xs.length = its.length ∧ s.heap.get? l = some { cls := .type "list", data := .seq its.toArray n } := by
  obtain ⟨z, its, n, r, e⟩ := I.hok l _ hH
  exact ⟨z, its, n, r, r.length, e⟩
theorem notLongL {n : Nat} (h : n ≤ sizeLine) : Builtin.List.listTooLong n = false := by
  unfold Builtin.List.listTooLong
  exact decide_eq_false (by omega)
end
section
variable {X : Cx}
def rAppend : V → List V → Hp → VK → Prop := fun x vs H Q => ∃ l xs y, x = .ref l ∧ vs = [y] ∧ H l = some (.lst xs) ∧ xs.length < sizeLine ∧ Q .non (upd H l (.lst (xs ++ [y])))
theorem mt_append : MtM X "list.append" rAppend := by
  intro pins s σ H x vs v us Q I rx rv h
  obtain ⟨l, xs, y, rfl, rfl, hH, hz, q⟩ := h
  cases rx
  obtain ⟨u, rfl, ru⟩ := rv.one
  obtain ⟨z, its, n, r, hl, e⟩ := I.lstM hH
  refine call_meets F.slot_list_append ⟨_, e, rfl⟩ F.entry_list_append (F.args_list_append_2 _ _) (PySem.list_append l its.toArray n u (by rw [List.size_toArray]; omega)) ⟨e, ?_⟩
  refine ⟨.non, _, I.lset (its' := its ++ [u]) hH e (by simp) (r.append (.cons ru .nil)) ?_, rfl, q⟩
  rw [List.length_append, List.length_singleton]
  omega
def rExtend : V → List V → Hp → VK → Prop := fun x vs H Q => ∃ l b xs zs, x = .ref l ∧ vs = [.ref b] ∧ H l = some (.lst xs) ∧ H b = some (.lst zs) ∧ xs.length + zs.length ≤ sizeLine ∧ Q .non (upd H l (.lst (xs ++ zs)))
def rPop : V → List V → Hp → VK → Prop := fun x vs H Q => ∃ l xs y, x = .ref l ∧ vs = [] ∧ H l = some (.lst xs) ∧ xs[xs.length - 1]? = some y ∧ Q y (upd H l (.lst xs.dropLast))
def rCat : R2 := fun x y H Q => ∃ l b xs zs, x = .ref l ∧ y = .ref b ∧ H l = some (.lst xs) ∧ H b = some (.lst zs) ∧ xs.length + zs.length ≤ sizeLine ∧ ∀ p, H p = none → Q (.ref p) (upd H p (.lst (xs ++ zs)))
theorem op_cat : OpR X (binaryOp .Add) rCat := by
  intro pins s σ H x y v u Q I rx ry h
  obtain ⟨l, b, xs, zs, rfl, rfl, hH, hB, hz, q⟩ := h
  cases rx
  cases ry
  obtain ⟨z, its, n, r, hl, e⟩ := I.lstM hH
  obtain ⟨z2, its2, n2, r2, hl2, e2⟩ := I.lstM hB
  refine PySem.P.add_list e e2 ?_ (by rw [List.size_toArray, List.size_toArray]; omega)
  have ea : its.toArray ++ its2.toArray = (its ++ its2).toArray := by simp
  rw [ea]
  exact ⟨.ref _, _, I.lnew (t' := s.toks) (r.append r2) (by rw [List.length_append]; omega), rfl, q _ I.fresh⟩
end
section
variable {prog : Program} {w : World} {A : Around} {E : Value → Shared → Prop} {s : Shared}
end
section
variable {X : Cx}
end
end L2
namespace L2
open PySem PySem.Spec PyProof.Rows
theorem Vals.strs : ∀ {xs : List Str} {us : List Value}, Vals (xs.map V.str) us → StrsAre us xs
  | [], us, h => by
    rw [List.map_nil] at h
    cases h
    exact StrsAre.nil
  | x :: xs, us, h => by
    rw [List.map_cons] at h
    cases h with
    | cons r t =>
      obtain ⟨k, rfl⟩ := r
      exact StrsAre.cons x k (Vals.strs t)
theorem Vals.bls : ∀ {bs : List Bool} {us : List Value}, Vals (bs.map V.bl) us → us = bs.map Value.bool
  | [], us, h => by
    rw [List.map_nil] at h
    cases h
    rfl
  | b :: bs, us, h => by
    rw [List.map_cons] at h
    cases h with
    | cons r t =>
      cases r
      rw [Vals.bls t, List.map_cons]
theorem Vals.ref1 {a : Addr} {us : List Value} (r : Vals [V.ref a] us) : us = [Value.ref a] := by
  cases r with
  | cons r t =>
    cases t
    cases r
    rfl
section
variable {prog : Program} {w : World} {A : Around} {E : Value → Shared → Prop} {s : Shared} {l : Addr} {its : List Value} {ns : List Int} {Q : Value → Shared → Prop}
end
section
variable {X : Cx}
end
section
variable {X : Cx}
end
section
variable {X : Cx}
end
theorem iter_any {prog : Program} {w : World} {A : Around} {E : Value → Shared → Prop} {s : Shared} {l : Addr} {items : Array Value} {Q : Value → Shared → Prop} (hl : s.heap.IsList l items)
    (h : ∀ s₂ : Shared, s₂ = { s with heap := s.heap.push { cls := .type "list_iterator", data := .fields #[.ref l, .int 0 0] } } →
      (s₂.heap.IsListIter s.heap.objs.size l 0 ∧ s₂.heap.IsList l items) → l ≠ s.heap.objs.size → Q (.ref s.heap.objs.size) s₂) : wpAny (model prog w) A (pyIter (.ref l)) Q E s := by
  have hlt : l < s.heap.objs.size := by obtain ⟨_, e, _⟩ := hl; exact Heap.lt_size e
  exact wpAny_pyIter_list hl (h _ rfl ⟨⟨_, Heap.get?_push_size _ rfl, rfl, rfl⟩, hl.push _⟩ (Nat.ne_of_lt hlt))
theorem truth_bools {prog : Program} {w : World} {A : Around} {bs : List Bool} {its : List Value} (e : its = bs.map Value.bool) :
    TruthOf prog w A (fun i v => its.toArray[i]? = some v) (fun i => bs.getD i false) := fun i v s Q E hv hq => by
  have hv' : its[i]? = some v := by simpa using hv
  rw [e, List.getElem?_map] at hv'
  obtain ⟨b, hb, rfl⟩ := Option.map_eq_some_iff.mp hv'
  have hg : bs.getD i false = b := by rw [List.getD_eq_getElem?_getD, hb] <;> rfl
  have hq' : Q (bs.getD i false) s := hq
  rw [hg] at hq'
  exact wpAny_truthy_bool hq'
theorem all_range : ∀ bs : List Bool, (List.range bs.length).all (fun i => bs.getD i false) = bs.all id
  | [] => rfl
  | b :: bs => by
    rw [List.length_cons, List.range_succ_eq_map, List.all_cons, List.all_map, List.all_cons, ← all_range bs]
    all_goals rfl
section
variable {X : Cx}
def rAll (K : PySem.W.Frag) : List V → Hp → VK → Prop := fun vs H Q => ∃ (a : Addr) (bs : List Bool), vs = [V.ref a] ∧ SqL K H a (bs.map V.bl) ∧ Q (.bl (bs.all id)) H
theorem cr_all (hc : X.calm = true) : CallR X (.builtin "all") (rAll X.K) := by
  intro pins s σ H vs us Q I r h
  obtain ⟨a, bs, rfl, hs, q⟩ := h
  obtain ⟨its, rv, hl, _⟩ := I.list hs
  rw [Vals.ref1 r]
  have hb := rv.bls
  refine call_all_walk (iter_any hl.isList fun s₂ e2 st hne => ?_)
  subst e2
  refine ⟨_, _, _, _, _, _, _, rfl, Walks.list (A := X.A.in1) (I.ok.hd hc) _ a hne its.toArray, st, truth_bools hb, fun h' tk hk => ?_⟩
  refine ⟨.bl _, H, I.kept fun b o eo => hk b o (fun hmem => ?_) (Heap.get?_push_of_some _ eo), ?_, q⟩
  · rcases List.mem_cons.mp hmem with e1 | hmem
    · exact absurd (e1 ▸ Heap.lt_size eo) (Nat.lt_irrefl _)
    · cases hmem
  · show Value.bool _ = Value.bool _
    rw [← all_range, hb, List.size_toArray, List.length_map]
end
mutual
inductive Dp (K : PySem.W.Frag) (H : Hp) : V → PyData → Prop
  | non : Dp K H .non .none
  | bl (b : Bool) : Dp K H (.bl b) (.bool b)
  | int (i : Int) : Dp K H (.int i) (.int i)
  | str (x : Str) : Dp K H (.str x) (.str x)
  | lst {a : Addr} {xs : List V} {ds : List PyData} : SqL K H a xs → DpAll K H xs ds → Dp K H (.ref a) (.list ds)
  | tup {a : Addr} {xs : List V} {ds : List PyData} : SqT K H a xs → DpAll K H xs ds → Dp K H (.ref a) (.tuple ds)
inductive DpAll (K : PySem.W.Frag) (H : Hp) : List V → List PyData → Prop
  | nil : DpAll K H [] []
  | cons {v : V} {vs : List V} {d : PyData} {ds : List PyData} : Dp K H v d → DpAll K H vs ds → DpAll K H (v :: vs) (d :: ds)
end
section
variable {X : Cx} {pins : List (Addr × Obj)} {σ : St} {H : Hp} {s : Shared}
mutual
theorem Dp.reads (I : Inv X pins σ H s) : ∀ (d : PyData) (v : V) (u : Value), Dp X.K H v d → RelV v u → ∃ as, Reads s.heap u d as
  | .none, _, _, h, r => by
    cases h
    cases r
    exact ⟨_, Reads.none⟩
  | .bool b, _, _, h, r => by
    cases h
    cases r
    exact ⟨_, Reads.bool b⟩
  | .int i, _, _, h, r => by
    cases h
    obtain ⟨t, rfl⟩ := r
    exact ⟨_, Reads.int i t⟩
  | .str x, _, _, h, r => by
    cases h
    obtain ⟨t, rfl⟩ := r
    exact ⟨_, Reads.str x t⟩
  | .list ds, _, _, h, r => by
    cases h with
    | lst hs ha =>
      cases r
      obtain ⟨its, rv, ⟨o, n, ho, hc, _, hd⟩, _⟩ := I.list hs
      obtain ⟨as, hr⟩ := Dp.readsAll I ds _ its ha rv
      exact ⟨_, Reads.list ho hc hd hr⟩
  | .tuple ds, _, _, h, r => by
    cases h with
    | tup hs ha =>
      cases r
      obtain ⟨its, rv, ⟨o, ho, hc, n, hd⟩, _⟩ := I.tuple hs
      obtain ⟨as, hr⟩ := Dp.readsAll I ds _ its ha rv
      exact ⟨_, Reads.tuple ho hc hd hr⟩
  | .dict _, _, _, h, _ => by cases h
theorem Dp.readsAll (I : Inv X pins σ H s) : ∀ (ds : List PyData) (vs : List V) (us : List Value), DpAll X.K H vs ds → Vals vs us → ∃ as, ReadsAll s.heap us ds as
  | [], _, _, h, r => by
    cases h
    cases r
    exact ⟨_, ReadsAll.nil⟩
  | d :: ds, _, _, h, r => by
    cases h with
    | cons h1 h2 =>
      cases r with
      | cons r1 r2 =>
        obtain ⟨as, q1⟩ := Dp.reads I d _ _ h1 r1
        obtain ⟨bs, q2⟩ := Dp.readsAll I ds _ _ h2 r2
        exact ⟨_, ReadsAll.cons q1 q2⟩
end
end
section
variable {X : Cx}
def rEqD (K : PySem.W.Frag) : R2 := fun x y H Q => ∃ d e, Dp K H x d ∧ Dp K H y e ∧ SeqAt.shaped d = true ∧ SeqAt.shaped e = true ∧ Q (.bl (PyData.eqv d e)) H
def rNeD (K : PySem.W.Frag) : R2 := fun x y H Q => ∃ d e, Dp K H x d ∧ Dp K H y e ∧ SeqAt.shaped d = true ∧ SeqAt.shaped e = true ∧ Q (.bl (!PyData.eqv d e)) H
theorem op_eqD (hu : X.A.units + 64 < cLine) : OpR X (compareOp .Eq) (rEqD X.K) := by
  intro pins s σ H x y v u Q I rx ry h
  obtain ⟨d, e, hd, he, sd, se, q⟩ := h
  obtain ⟨as, r1⟩ := Dp.reads I d x v hd rx
  obtain ⟨bs, r2⟩ := Dp.reads I e y u he ry
  exact SeqAt.compareEq_shaped r1 r2 sd se hu ⟨.bl _, H, I, rfl, q⟩
theorem op_neD (hu : X.A.units + 64 < cLine) : OpR X (compareOp .NotEq) (rNeD X.K) := by
  intro pins s σ H x y v u Q I rx ry h
  obtain ⟨d, e, hd, he, sd, se, q⟩ := h
  obtain ⟨as, r1⟩ := Dp.reads I d x v hd rx
  obtain ⟨bs, r2⟩ := Dp.reads I e y u he ry
  exact SeqAt.compareNe_shaped r1 r2 sd se hu ⟨.bl _, H, I, rfl, q⟩
end
end L2
namespace L2
open PySem PySem.Spec PyProof.Rows
abbrev CellAt (h : Heap) (c : Addr) (v : Option Value) : Prop := h.IsCell c v
def relS (scope sc : Scope) : Scope :=
  { scope with names := scope.names.map fun (n, k) => if (k == .free && sc.kind == .function && sc.names.lookup n == some .cell) then (n, .cell) else (n, k) }
def cloFrom (cells : List (Str × Addr)) : List (Str × NameKind) → List (Str × Addr) → List (Str × Addr)
  | [], acc => acc
  | (n, k) :: r, acc => if k == .free then cloFrom cells r ((n, (cells.lookup n).getD 0) :: acc) else cloFrom cells r acc
theorem closure_loop (env : Env) (f : Str × NameKind → List (Str × Addr) → Sem (ForInStep (List (Str × Addr))))
    (hf : ∀ n k c, f (n, k) c = if k == .free then (do let a ← cellOf env n; pure (.yield ((n, a) :: c))) else pure (.yield c)) :
    ∀ (names : List (Str × NameKind)) (acc : List (Str × Addr)), (∀ y ∈ names, y.2 = .free → ∃ c, env.cells.lookup y.1 = some c) → forIn names acc f = pure (cloFrom env.cells names acc)
  | [], acc, _ => by rw [List.forIn_nil]; rfl
  | (n, k) :: r, acc, h => by
    rw [List.forIn_cons, hf]
    have ih := fun acc => closure_loop env f hf r acc fun y hy => h y (List.mem_cons_of_mem _ hy)
    unfold cloFrom
    by_cases hk : (k == NameKind.free) = true
    · rw [if_pos hk, if_pos hk]
      obtain ⟨c, hc⟩ := h (n, k) List.mem_cons_self (by simpa using hk)
      have e : cellOf env n = pure c := by unfold cellOf; rw [hc]
      rw [e]
      have e2 : (env.cells.lookup n).getD 0 = c := by rw [hc]; rfl
      rw [e2]
      exact ih _
    · rw [if_neg hk, if_neg hk]
      exact ih _
theorem closure_ok {scope : Scope} {env : Env} (h : ∀ y ∈ scope.names, y.2 = .free → ∃ c, env.cells.lookup y.1 = some c) : closureFor scope env = pure (cloFrom env.cells scope.names []) := by
  simp only [closureFor]
  rw [closure_loop env _ (fun n k c => rfl) scope.names [] h]
  rfl
theorem mem_lookup {α : Type} : ∀ {l : List (Str × α)} {n : Str} {c : α}, (n, c) ∈ l → ∃ c', l.lookup n = some c'
  | (k, v) :: r, n, c, h => by
    rw [List.lookup_cons]
    cases hb : n == k with
    | true => exact ⟨_, rfl⟩
    | false =>
      rcases List.mem_cons.mp h with e | h
      · cases e; simp at hb
      · exact mem_lookup h
theorem cloFrom_mem {cells : List (Str × Addr)} : ∀ {names : List (Str × NameKind)} {acc : List (Str × Addr)} {n : Str} {c : Addr}, (n, c) ∈ cloFrom cells names acc → (n, c) ∈ acc ∨ ((n, .free) ∈ names ∧ c = (cells.lookup n).getD 0)
  | [], _, _, _, h => .inl h
  | (m, k) :: r, acc, n, c, h => by
    unfold cloFrom at h
    split at h
    · rename_i hk
      have hk : k = .free := by simpa using hk
      rcases cloFrom_mem h with h | ⟨h1, h2⟩
      · rcases List.mem_cons.mp h with e | h
        · cases e; exact .inr ⟨hk ▸ List.mem_cons_self, rfl⟩
        · exact .inl h
      · exact .inr ⟨List.mem_cons_of_mem _ h1, h2⟩
    · rcases cloFrom_mem h with h | ⟨h1, h2⟩
      · exact .inl h
      · exact .inr ⟨List.mem_cons_of_mem _ h1, h2⟩
theorem cloFrom_acc {cells : List (Str × Addr)} : ∀ {names : List (Str × NameKind)} {acc : List (Str × Addr)} {p : Str × Addr}, p ∈ acc → p ∈ cloFrom cells names acc
  | [], _, _, h => h
  | (m, k) :: r, acc, p, h => by
    unfold cloFrom
    split
    · exact cloFrom_acc (List.mem_cons_of_mem _ h)
    · exact cloFrom_acc h
theorem cloFrom_has {cells : List (Str × Addr)} : ∀ {names : List (Str × NameKind)} {acc : List (Str × Addr)} {n : Str}, (n, .free) ∈ names → (n, (cells.lookup n).getD 0) ∈ cloFrom cells names acc
  | (m, k) :: r, acc, n, h => by
    unfold cloFrom
    rcases List.mem_cons.mp h with e | h
    · cases e
      exact cloFrom_acc List.mem_cons_self
    · split
      · exact cloFrom_has h
      · exact cloFrom_has h
theorem cells_mem : ∀ {names : List (Str × NameKind)} {h : Heap} {acc : List (Str × Addr)} {x : Str} {c : Addr}, (x, c) ∈ cellsFrom h.objs.size names acc →
    (x, c) ∈ acc ∨ ((x, .cell) ∈ names ∧ h.objs.size ≤ c ∧ CellAt (pushCells h names) c none)
  | [], _, _, _, _, h => .inl h
  | (n, k) :: r, h, acc, x, c, hm => by
    unfold cellsFrom at hm
    unfold pushCells
    split at hm
    · rename_i hk
      rw [if_pos hk]
      have hk : k = .cell := by simpa using hk
      rw [← Heap.size_push h { cls := .type "cell", data := .cell none }] at hm
      rcases cells_mem hm with hm | ⟨h1, h2, h3⟩
      · rcases List.mem_cons.mp hm with e | hm
        · cases e
          exact .inr ⟨hk ▸ List.mem_cons_self, Nat.le_refl _, _, pushCells_keeps r _ _ _ (Heap.get?_push_size _ rfl), rfl⟩
        · exact .inl hm
      · rw [Heap.size_push] at h2
        exact .inr ⟨List.mem_cons_of_mem _ h1, Nat.le_of_succ_le h2, h3⟩
    · rename_i hk
      rw [if_neg hk]
      rcases cells_mem hm with hm | ⟨h1, h2, h3⟩
      · exact .inl hm
      · exact .inr ⟨List.mem_cons_of_mem _ h1, h2, h3⟩
theorem cells_acc : ∀ {names : List (Str × NameKind)} {n : Nat} {acc : List (Str × Addr)} {p : Str × Addr}, p ∈ acc → p ∈ cellsFrom n names acc
  | [], _, _, _, h => h
  | (m, k) :: r, n, acc, p, h => by
    unfold cellsFrom
    split
    · exact cells_acc (List.mem_cons_of_mem _ h)
    · exact cells_acc h
theorem cells_has : ∀ {names : List (Str × NameKind)} {n : Nat} {acc : List (Str × Addr)} {x : Str}, (x, .cell) ∈ names → ∃ c, (x, c) ∈ cellsFrom n names acc
  | (m, k) :: r, n, acc, x, h => by
    unfold cellsFrom
    rcases List.mem_cons.mp h with e | h
    · cases e
      exact ⟨n, cells_acc List.mem_cons_self⟩
    · split
      · exact cells_has h
      · exact cells_has h
theorem cells_inj : ∀ {names : List (Str × NameKind)} {h : Heap} {acc : List (Str × Addr)} {x y : Str} {c : Addr}, (∀ p ∈ acc, p.2 < h.objs.size) → (∀ x y c, (x, c) ∈ acc → (y, c) ∈ acc → x = y) →
    (x, c) ∈ cellsFrom h.objs.size names acc → (y, c) ∈ cellsFrom h.objs.size names acc → x = y
  | [], _, _, _, _, _, _, hi, h1, h2 => hi _ _ _ h1 h2
  | (n, k) :: r, h, acc, x, y, c, hl, hi, h1, h2 => by
    unfold cellsFrom at h1 h2
    split at h1
    · rename_i hk
      rw [if_pos hk] at h2
      rw [← Heap.size_push h { cls := .type "cell", data := .cell none }] at h1 h2
      refine cells_inj (h := h.push _) (fun p hp => ?_) (fun x y c a b => ?_) h1 h2
      · rw [Heap.size_push]
        rcases List.mem_cons.mp hp with rfl | hp
        · exact Nat.lt_succ_self _
        · exact Nat.lt_succ_of_lt (hl p hp)
      · rcases List.mem_cons.mp a with e | a <;> rcases List.mem_cons.mp b with e' | b
        · cases e; cases e'; rfl
        · cases e; exact absurd (hl _ b) (Nat.lt_irrefl _)
        · cases e'; exact absurd (hl _ a) (Nat.lt_irrefl _)
        · exact hi _ _ _ a b
    · rename_i hk
      rw [if_neg hk] at h2
      exact cells_inj hl hi h1 h2
theorem newEnv_comp {M : Model} {A : Around} {E : Value → Shared → Prop} {s : Shared} {scope : Scope} {globals : Addr} {closure : List (Str × Addr)} {qual : Str} {func : Option Addr} {code : Value} {around : Env} {builtins : Addr} {Q : Env → Shared → Prop}
    (h : Q (newEnv scope s.heap.objs.size globals (cellsFrom (s.heap.objs.size + 1) scope.names closure) qual func code (some around) builtins)
      { s with heap := pushCells (s.heap.push { cls := .type "dict", data := .dict #[] }) scope.names }) :
    wpAny M A (newFunctionEnv scope globals closure [] qual func code (some around) builtins) Q E s := by
  simp only [newFunctionEnv, Option.isSome_some, if_true]
  refine wpAny_bind (wpAny_alloc ?_)
  refine wpAny_bind (wpAny_layCells _ (fun n k c => rfl) scope.names closure _ _ ?_)
  rw [show ({ s with heap := s.heap.push { cls := .type "dict", data := .dict #[] } } : Shared).heap.objs.size = s.heap.objs.size + 1 from Heap.size_push ..]
  rw [List.forIn_nil]
  exact wpAny_bind (wpAny_pure (wpAny_pure h))
theorem lookup_relS {sc : Scope} : ∀ {names : List (Str × NameKind)} {x : Str} {k : NameKind},
    (names.map fun (n, k) => if (k == NameKind.free && sc.kind == .function && sc.names.lookup n == some .cell) then (n, NameKind.cell) else (n, k)).lookup x = some k →
    ∃ k', names.lookup x = some k' ∧ (k = k' ∨ (k' = .free ∧ k = .cell))
  | [], _, _, h => by simp at h
  | (n, k₀) :: r, x, k, h => by
    have ih := @lookup_relS sc r x k
    have h' : List.lookup x ((if (k₀ == NameKind.free && sc.kind == .function && sc.names.lookup n == some .cell) = true then (n, NameKind.cell) else (n, k₀)) :: (r.map _)) = some k := h
    cases hx : x == n with
    | true =>
      simp only [List.lookup_cons, hx]
      by_cases hc : (k₀ == NameKind.free && sc.kind == .function && sc.names.lookup n == some .cell) = true
      · rw [if_pos hc] at h'
        simp only [List.lookup_cons, hx] at h'
        cases h'
        simp only [Bool.and_eq_true, beq_iff_eq] at hc
        exact ⟨k₀, rfl, .inr ⟨hc.1.1, rfl⟩⟩
      · rw [if_neg hc] at h'
        simp only [List.lookup_cons, hx] at h'
        cases h'
        exact ⟨_, rfl, .inl rfl⟩
    | false =>
      simp only [List.lookup_cons, hx]
      by_cases hc : (k₀ == NameKind.free && sc.kind == .function && sc.names.lookup n == some .cell) = true
      · rw [if_pos hc] at h'
        simp only [List.lookup_cons, hx] at h'
        exact ih h'
      · rw [if_neg hc] at h'
        simp only [List.lookup_cons, hx] at h'
        exact ih h'
structure BlkOk (N : List Str) (sc scope : Scope) (own : List (Str × Nat)) : Prop where
  kind : scope.kind = .function
  uniq : ∀ y ∈ scope.names, scope.names.lookup y.1 = some y.2
  ix : ∀ p ∈ own, N[p.2]? = some p.1
  free : ∀ y ∈ scope.names, y.2 = .free → sc.names.lookup y.1 = some .cell ∨ sc.names.lookup y.1 = some .free
  own : ∀ y ∈ scope.names, y.2 = .local ∨ y.2 = .cell → y.1 ∈ own.map (·.1) ∨ y.1 ∉ N
def wipe (σ : St) : List Nat → St
  | [] => σ
  | v :: vs => (wipe σ vs).set v none
theorem wipe_length (σ : St) : ∀ vs : List Nat, (wipe σ vs).length = σ.length
  | [] => rfl
  | v :: vs => by unfold wipe; rw [List.length_set, wipe_length σ vs]
theorem wipe_some {σ : St} {i : Nat} {x : V} : ∀ {vs : List Nat}, (wipe σ vs)[i]? = some (some x) → σ[i]? = some (some x) ∧ i ∉ vs
  | [], h => ⟨h, by simp⟩
  | v :: vs, h => by
    unfold wipe at h
    by_cases hi : v = i
    · subst hi
      by_cases hv : v < (wipe σ vs).length
      · rw [List.getElem?_set_self hv] at h; cases h
      · rw [List.getElem?_eq_none (by simpa using hv)] at h; cases h
    · rw [List.getElem?_set_ne hi] at h
      obtain ⟨h1, h2⟩ := wipe_some h
      exact ⟨h1, by simp only [List.mem_cons, not_or]; exact ⟨fun e => hi e.symm, h2⟩⟩
abbrev Cx.blk (X : Cx) (s : Shared) (H : Hp) (scope : Scope) (cenv : Env) (fp : List Addr) : Cx := { X with s_0 := s, H_0 := H, env := cenv, outer := X.stack, ex := fp, fn := fun x => scope.names.lookup x == some .cell, pn := [], xe := fun _ _ => False }
section
variable {X : Cx} {pins : List (Addr × Obj)} {σ : St} {H : Hp} {s : Shared}
theorem block_start {scope : Scope} {own : List (Str × Nat)} {fp : List Addr} (I : Inv X pins σ H s) (ok : BlkOk X.N X.env.scope scope own) (hN : X.N.Nodup) (hfp : ∀ b ∈ fp, FpOk X pins H b ∧ b < s.heap.objs.size) :
    Inv (X.blk s H scope (compEnvC scope (cellsFrom (s.heap.objs.size + 1) scope.names (cloFrom X.env.cells scope.names [])) s.heap.objs.size X.env) fp) [] (wipe σ (own.map (·.2))) H { s with heap := pushCells (s.heap.push { cls := .type "dict", data := .dict #[] }) scope.names } := by
  have hfree : ∀ y ∈ scope.names, y.2 = .free → ∃ c, X.env.cells.lookup y.1 = some c := fun y hy e => by
    rcases ok.free y hy e with k | k
    · exact I.ok.has _ (.inl k)
    · exact I.ok.has _ (.inr k)
  generalize hcenv : compEnvC scope (cellsFrom (s.heap.objs.size + 1) scope.names (cloFrom X.env.cells scope.names [])) s.heap.objs.size X.env = cenv
  have kp : ∀ b o, s.heap.get? b = some o → (pushCells (s.heap.push { cls := .type "dict", data := .dict #[] }) scope.names).get? b = some o := fun b o e => pushCells_keeps _ _ _ _ (Heap.get?_push_of_some _ e)
  have hL : cenv.locals = s.heap.objs.size := by rw [← hcenv]; rfl
  have hcl : cenv.cells = cellsFrom (s.heap.objs.size + 1) scope.names (cloFrom X.env.cells scope.names []) := by rw [← hcenv]; rfl
  have hsc : cenv.scope = relS scope X.env.scope := by rw [← hcenv]; rfl
  rw [← Heap.size_push s.heap { cls := .type "dict", data := .dict #[] }] at hcl
  have cm : ∀ {y c}, (y, c) ∈ cloFrom X.env.cells scope.names [] → X.env.cells.lookup y = some c ∧ c < s.heap.objs.size := fun {y c} hm => by
    rcases cloFrom_mem hm with hm | ⟨h1, rfl⟩
    · cases hm
    · obtain ⟨c, hc⟩ := hfree _ h1 rfl
      rw [hc]
      obtain ⟨w, z⟩ := I.cell _ _ hc
      exact ⟨rfl, z.lt⟩
  have mem : ∀ {y c}, cenv.cells.lookup y = some c → (X.env.cells.lookup y = some c ∧ c < s.heap.objs.size) ∨ (s.heap.objs.size + 1 ≤ c ∧ CellAt (pushCells (s.heap.push { cls := .type "dict", data := .dict #[] }) scope.names) c none) := fun {y c} e => by
    rw [hcl] at e
    rcases cells_mem (PySem.mem_of_lookup e) with hm | ⟨_, h2, h3⟩
    · exact .inl (cm hm)
    · rw [Heap.size_push] at h2; exact .inr ⟨h2, h3⟩
  have look : ∀ {y}, scope.names.lookup y = some .free → ∃ c, cenv.cells.lookup y = some c ∧ X.env.cells.lookup y = some c := fun {y} hl => by
    have hy : (y, NameKind.free) ∈ scope.names := PySem.mem_of_lookup hl
    obtain ⟨c', e'⟩ := mem_lookup (cells_acc (names := scope.names) (n := (s.heap.push { cls := .type "dict", data := .dict #[] }).objs.size) (cloFrom_has (cells := X.env.cells) (acc := []) hy))
    rw [← hcl] at e'
    refine ⟨c', e', ?_⟩
    rw [hcl] at e'
    rcases cells_mem (PySem.mem_of_lookup e') with hm | ⟨h1, _, _⟩
    · exact (cm hm).1
    · have := ok.uniq _ h1
      rw [hl] at this; cases this
  have okB : (X.blk s H scope cenv fp).Ok := by
    refine ⟨I.ok.mod, by show cenv.scope.kind = _; rw [hsc]; exact ok.kind, by show cenv.globals = _; rw [← hcenv]; exact I.ok.glob, by show cenv.builtins = _; rw [← hcenv]; exact I.ok.blt, by show s.heap.objs.size ≤ cenv.locals; rw [hL]; exact Nat.le_refl _,
      fun y z c e1 e2 => ?_, fun y hy => ?_, fun y c z e => ?_, I.ok.hd, I.ok.frames, .inl rfl, fun b hb => ⟨?_, fun y c e z => ?_⟩, I.bs, Nat.le_trans I.ok.bsz I.sz, fun b o e hb => ?_, fun b hb z => ?_, I.stack, I.stkFree⟩
    · have e1 : cenv.cells.lookup y = some c := e1
      have e2 : cenv.cells.lookup z = some c := e2
      rw [hcl] at e1 e2
      refine cells_inj (fun p hp => ?_) (fun y z c a b => I.ok.inj y z c (cm a).1 (cm b).1) (PySem.mem_of_lookup e1) (PySem.mem_of_lookup e2)
      rw [Heap.size_push]
      exact Nat.lt_succ_of_lt (cm (y := p.1) (c := p.2) hp).2
    · show ∃ c, cenv.cells.lookup y = some c
      have key : ∀ k, cenv.kindOf y = some k → (k = .cell ∨ k = .free) → ∃ c, cenv.cells.lookup y = some c := fun k hk hk' => by
        unfold Env.kindOf at hk
        rw [hsc] at hk
        obtain ⟨k', e, r⟩ := lookup_relS hk
        have : k' = .cell ∨ k' = .free := by
          rcases r with rfl | ⟨rfl, _⟩
          · exact hk'
          · exact .inr rfl
        rcases this with rfl | rfl
        · obtain ⟨c, hm⟩ := cells_has (n := (s.heap.push { cls := .type "dict", data := .dict #[] }).objs.size) (acc := cloFrom X.env.cells scope.names []) (PySem.mem_of_lookup e)
          obtain ⟨c', e'⟩ := mem_lookup hm
          exact ⟨c', by rw [hcl]; exact e'⟩
        · obtain ⟨c, h1, _⟩ := look e
          exact ⟨c, h1⟩
      rcases hy with hy | hy
      · exact key _ hy (.inl rfl)
      · exact key _ hy (.inr rfl)
    · have z : (scope.names.lookup y == some NameKind.cell) = true := z
      have z : scope.names.lookup y = some .cell := by simpa using z
      have e : cenv.cells.lookup y = some c := e
      rw [hcl] at e
      rcases cells_mem (PySem.mem_of_lookup e) with hm | ⟨_, h2, _⟩
      · rcases cloFrom_mem hm with hm | ⟨h1, _⟩
        · cases hm
        · have q := ok.uniq _ h1
          rw [z] at q; cases q
      · rw [Heap.size_push] at h2
        exact Nat.le_of_succ_le h2
    · show b ≠ cenv.locals
      rw [hL]; exact Nat.ne_of_lt (hfp b hb).2
    · have e : cenv.cells.lookup y = some c := e
      rcases mem e with ⟨h1, _⟩ | ⟨h1, _⟩
      · exact (hfp b hb).1.2.2.2.2.1 y c h1 z
      · have h2 : s.heap.objs.size + 1 ≤ b := by rw [← z]; exact h1
        exact absurd (Nat.lt_of_lt_of_le (hfp b hb).2 (Nat.le_of_succ_le h2)) (Nat.lt_irrefl _)
    · rcases (hfp b hb).1.2.2.2.1 with z | z
      · exact I.ok.noex b o e z
      · exact absurd (Nat.lt_of_lt_of_le (Heap.lt_size e) (Nat.le_trans I.ok.bsz z)) (Nat.lt_irrefl _)
    · rcases List.mem_cons.mp (I.stkSub b z) with z | z
      · exact (hfp b hb).1.2.1 z
      · exact (hfp b hb).1.2.2.1 z
  refine ⟨okB, rfl, I.bare, Un.kept kp, ⟨fun _ => none, ?_, fun i y av e1 e2 e3 => ?_⟩, fun y c e => ?_, ?_, fun y c e => ?_, fun p hp => ?_, I.hok.kept kp, by rw [wipe_length]; exact I.len⟩
  · show Heap.Ns _ cenv.locals _
    rw [hL]
    exact Heap.Ns.keeps (Heap.Ns.new ..) fun b o e => pushCells_keeps _ _ _ _ e
  · obtain ⟨e2, hne⟩ := wipe_some e2
    have hfr : scope.names.lookup y = some .free ∧ (cenv.kindOf y = some .cell ∨ cenv.kindOf y = some .free) := by
      have key : ∀ k, cenv.scope.names.lookup y = some k → k = .local ∨ k = .cell ∨ k = .free → scope.names.lookup y = some .free ∧ (cenv.kindOf y = some .cell ∨ cenv.kindOf y = some .free) := fun k hk hk' => by
        have hk0 := hk
        rw [hsc] at hk
        obtain ⟨k', e, r⟩ := lookup_relS hk
        have no : ¬ (k' = .local ∨ k' = .cell) := fun hh => by
          rcases ok.own _ (PySem.mem_of_lookup e) hh with e' | e'
          · obtain ⟨p, hp, hpy⟩ := List.mem_map.mp e'
            have e3 := ok.ix p hp
            have : p.1 = y := hpy
            rw [this] at e3
            exact hne (List.mem_map.mpr ⟨p, hp, nodup_ix hN e3 e1⟩)
          · exact e' (List.mem_of_getElem? e1)
        rcases r with rfl | ⟨rfl, rfl⟩
        · rcases hk' with rfl | rfl | rfl
          · exact absurd (.inl rfl) no
          · exact absurd (.inr rfl) no
          · exact ⟨e, .inr hk0⟩
        · exact ⟨e, .inl hk0⟩
      have e3 : Vis cenv.scope y := e3
      rcases e3 with e3 | e3 | e3
      · exact key _ e3 (.inl rfl)
      · exact key _ e3 (.inr (.inl rfl))
      · exact key _ e3 (.inr (.inr rfl))
    obtain ⟨m, hn, hl⟩ := I.loc
    have hvis : Vis X.env.scope y := (ok.free _ (PySem.mem_of_lookup hfr.1) rfl).elim (fun k => .inr (.inl k)) (fun k => .inr (.inr k))
    obtain ⟨w, r, q⟩ := hl i y av e1 e2 hvis
    refine ⟨w, r, .inr ⟨hfr.2, ?_⟩⟩
    obtain ⟨c, h1, h2⟩ := look hfr.1
    rcases q with ⟨k, _⟩ | ⟨_, c', e', z⟩
    · have k : X.env.scope.names.lookup y = some .local := k
      rcases ok.free _ (PySem.mem_of_lookup hfr.1) rfl with k' | k' <;> rw [show X.env.scope.names.lookup y = _ from k'] at k <;> cases k
    · rw [h2] at e'; cases e'
      exact ⟨c, h1, z.keeps kp⟩
  · have e : cenv.cells.lookup y = some c := e
    rcases mem e with ⟨h1, _⟩ | ⟨_, z⟩
    · obtain ⟨w, z⟩ := I.cell y c h1
      exact ⟨w, z.keeps kp⟩
    · exact ⟨_, z⟩
  · show H cenv.locals = none
    rw [hL]; exact I.hok.fresh (Nat.le_refl _)
  · have e : cenv.cells.lookup y = some c := e
    rcases mem e with ⟨h1, _⟩ | ⟨h1, _⟩
    · exact I.freeC y c h1
    · exact I.hok.fresh (Nat.le_of_succ_le h1)
  · exact absurd (show p ∈ ([] : List (Addr × Obj)) ++ [] from hp) (by simp)
theorem app_ok {E : Value → Shared → Prop} {D : Addr} {xs : List V} {y : V} {v : Value} {Q : Value → Shared → Prop} (I : Inv X pins σ H s) (hD : H D = some (.lst xs)) (hz : xs.length < sizeLine) (r : RelV y v)
    (h : ∀ s', Inv X pins σ (upd H D (.lst (xs ++ [y]))) s' → Q .none s') : wpAny (model X.prog X.w) X.A (call (.builtin "list.append") [.ref D, v]) Q E s := by
  obtain ⟨hz', its, n, ri, e⟩ := I.hok D _ hD
  have hl := ri.length
  refine append_at (hsz := by rw [List.size_toArray]; omega) e fun h' sb ho' => ?_
  refine h { s with heap := h' } (I.write (t' := s.toks) (by rw [hD]; trivial) (.inl rfl) (fun b u hb q => (sb.2 b hb).trans q) ⟨_, ho'⟩ ⟨by rw [List.length_append]; exact hz, its ++ [v], n + 1, ri.append (.cons r .nil), ?_⟩)
  rw [ho']
  simp
def PTs (X : Cx) (ifs : List Expr) (t : TT) : Prop :=
  ∀ (pins : List (Addr × Obj)) (s : Shared) (σ : St) (H : Hp) (Q : Bool → Hp → Prop), Inv X pins σ H s → t σ H Q →
    wpAny (model X.prog X.w) X.A (forIn ifs true fun c r => if r = true then do let ok ← isTrue c X.env (eval c X.env); pure (ForInStep.yield ok) else pure (ForInStep.yield r)) (TP X pins σ Q) X.xe s
def tYes : TT := fun _ H Q => Q true H
theorem pts_nil : PTs X [] tYes := fun _ _ _ H _ I h => wpAny_tests_nil ⟨H, I, h⟩
theorem pts_one {c : Expr} {t : TT} (h : PT X c t) : PTs X [c] t := fun pins s σ H Q I hw => wpAny_tests_one (h pins s σ H Q I hw)
end
theorem thnF {α : Type} {t : Sem α} {Q Q' : α → Shared → Prop} {M : Model} {A : Around} {E : Value → Shared → Prop} {s : Shared} (h : wpAny M A t Q (fun _ _ => False) s) (hQ : ∀ a s, Q a s → Q' a s) : wpAny M A t Q' E s := wpAny_mono h hQ fun _ _ z => False.elim z
theorem compLoop_any {prog : Program} {w : World} {A : Around} {R : Result → Shared → Prop} {s : Shared} {elt target iter : Expr} {ifs : List Expr} {scope : Scope} {pos : Pos} {it acc : Value} {env : Env} (I : Nat → Shared → Prop)
    (turn : ∀ n s, I n s → wpAny (model prog w) A (pyNext it) (fun r s₁ => match r with
      | none => R (.ok .next) s₁
      | some v => wpAny (model prog w) A (letOwnedTupleGo target it v) (fun _ s₁' => wpAny (model prog w) A (assign target env v) (fun _ s₂ =>
          wpAny (model prog w) A (forIn ifs true fun c r => if r = true then do let ok ← isTrue c env (eval c env); pure (ForInStep.yield ok) else pure (ForInStep.yield r)) (fun ok s₃ =>
            if ok = true then wpAny (model prog w) A (eval elt env) (fun x s₄ =>
              wpAny (model prog w) A (call (.builtin "list.append") [acc, x]) (fun _ s₅ => ∃ m, m < n ∧ I m s₅) (notedBy (model prog w) A env fun e s' => R (.error e) s') s₄) (notedBy (model prog w) A env fun e s' => R (.error e) s') s₃
            else ∃ m, m < n ∧ I m s₃) (notedBy (model prog w) A env fun e s' => R (.error e) s') s₂) (notedBy (model prog w) A env fun e s' => R (.error e) s') s₁') (notedBy (model prog w) A env fun e s' => R (.error e) s') s₁) (notedBy (model prog w) A env fun e s' => R (.error e) s') s)
    (n : Nat) (h : I n s) :
    codeAny (model prog w) A (.compLoop (.ListComp elt [⟨target, iter, ifs, 0⟩] scope pos) 0 it acc env) R s := by
  refine codeAny_loop rfl I (fun n s hI => ?_) n h
  show wpAny _ A ((compTurn (.ListComp elt [⟨target, iter, ifs, 0⟩] scope pos) 0 it acc env).onRaise (fun x => do noteFrame x env; theTreesLotGoes x)) _ _ s
  refine wpAny_noted ?_
  rw [compTurn_list]
  refine wpAny_bind (wpAny_standAt (wpAny_bind (wpAny_mono (turn n s hI) (fun r s₁ h₁ => ?_) fun _ _ h' => h')))
  cases r with
  | none => exact wpAny_pure h₁
  | some v =>
    refine wpAny_bind (wpAny_mono h₁ (fun _ s₁' h₁' => ?_) fun _ _ h' => h')
    refine wpAny_bind (wpAny_mono h₁' (fun _ s₂ h₂ => wpAny_bind (wpAny_mono h₂ (fun ok s₃ h₃ => ?_) fun _ _ h' => h')) fun _ _ h' => h')
    cases ok with
    | false => exact wpAny_pure ⟨rfl, h₃⟩
    | true =>
      exact wpAny_bind (wpAny_bind (wpAny_mono h₃ (fun x s₄ h₄ => wpAny_bind (wpAny_mono h₄ (fun _ s₅ h₅ => wpAny_pure (wpAny_pure ⟨rfl, h₅⟩)) fun _ _ h' => h')) fun _ _ h' => h'))
section
variable {X : Cx}
def tLc (wi : TI) (g : TG) (tt : TT) (te : TE) (vs : List Nat) : TE := fun σ H Q => wi σ H fun J H1 => ∀ D, H1 D = none → ∃ W : Nat → Nat → Hp → Prop, (∃ m, W 0 m (upd H1 D (.lst []))) ∧ ∀ i m H, W i m H →
  (J.stop i H ∧ Q (.ref D) H) ∨ (J.go i H ∧ ∃ Nx : Hp → Prop, (∀ H', Nx H' → ∃ m', m' < m ∧ W (i + 1) m' H') ∧ ∀ x H', J.yld i H x H' → g x (wipe σ vs) H' fun σ2 H2 => wipe σ2 vs = wipe σ vs ∧ tt σ2 H2 fun b H3 =>
    if b = true then te σ2 H3 fun y H4 => ∃ acc, H4 D = some (.lst acc) ∧ acc.length < sizeLine ∧ Nx (upd H4 D (.lst (acc ++ [y]))) else Nx H3)
theorem lc_core {pins : List (Addr × Obj)} {s : Shared} {σ : St} {H : Hp} {Q : VK} {elt tg iter : Expr} {ifs : List Expr} {scope : Scope} {own : List (Str × Nat)} {pos pos' : Pos} {wi : TI} {g : TG} {tt : TT} {te : TE} {use : Option (Value → Sem Unit)} {Qf : Value → Shared → Prop}
    (hc : X.calm = true) (hN : X.N.Nodup) (I : Inv X pins σ H s) (hi : PI X tg iter wi) (ok : BlkOk X.N X.env.scope scope own)
    (hg : ∀ (s : Shared) (H : Hp) (C : Addr) (cl : List (Str × Addr)) (fp : List Addr), PG (X.blk s H scope (compEnvC scope cl C X.env) fp) tg g) (ht : ∀ (s : Shared) (H : Hp) (C : Addr) (cl : List (Str × Addr)) (fp : List Addr), PTs (X.blk s H scope (compEnvC scope cl C X.env) fp) ifs tt)
    (he : ∀ (s : Shared) (H : Hp) (C : Addr) (cl : List (Str × Addr)) (fp : List Addr), PE (X.blk s H scope (compEnvC scope cl C X.env) fp) elt te) (hs : ∀ x, foldedSetIterable iter X.env x = pure x)
    (h : tLc wi g tt te (own.map (·.2)) σ H Q)
    (hRR : ∀ D C s' m H', Inv X pins σ H' s' → Q (.ref D) H' → s'.heap.Ns C m → FpOk X pins H' C → compPost (model X.prog X.w) X.A X.xe use Qf (.ref D) C (.ok .next) s') :
    wpAny (model X.prog X.w) X.A (comprehension (.ListComp elt [⟨tg, iter, ifs, 0⟩] scope pos) scope X.env pos' (newList []) false (eval iter X.env) use) Qf X.xe s := by
  have hfree : ∀ y ∈ scope.names, y.2 = .free → ∃ c, X.env.cells.lookup y.1 = some c := fun y hy e => by
    rcases ok.free y hy e with k | k
    · exact I.ok.has _ (.inl k)
    · exact I.ok.has _ (.inr k)
  refine wpAny_comprehension_free (use := use) rfl hs (closure_ok hfree) ok.kind (fun y hy e => by rw [ok.uniq y hy, e])
    (thn (hi pins s σ H _ I h) fun xv s1 hx => thn hx fun itv s2 h2 => ?_)
  obtain ⟨it, fp, tn, J, H2, e, I2, T, st2, f2, q⟩ := h2
  subst e
  refine wpAny_newObj_type (newEnv_comp ?_) (by show 0 ≤ sizeLine; decide)
  generalize hD : s2.heap.objs.size = D
  have hDn : H2 D = none := I2.hok.fresh (Nat.le_of_eq hD)
  obtain ⟨W, ⟨m0, w0⟩, turn⟩ := q D hDn
  generalize hs3 : ({ s2 with heap := s2.heap.push { cls := .type "list", data := .seq ([] : List Value).toArray } } : Shared) = s3
  have I3 : Inv X pins σ (upd H2 D (.lst [])) s3 := by
    rw [← hs3]
    refine I2.laid (t' := s2.toks) (fun b o e => Heap.get?_push_of_some _ e) (Nat.le_of_eq hD) ⟨Nat.zero_le _, [], 0, .nil, ?_⟩
    rw [← hD]
    exact Heap.get?_push_size _ rfl
  have h3 : s3.heap = s2.heap.push { cls := .type "list", data := .seq ([] : List Value).toArray } := by rw [← hs3]
  have sz : ∀ b ∈ fp, b < s2.heap.objs.size := fun b hb => by
    obtain ⟨o, e, _⟩ := T.obj _ _ st2 b hb
    exact Heap.lt_size e
  have f3 : ∀ b ∈ fp, FpOk X pins (upd H2 D (.lst [])) b ∧ b < s3.heap.objs.size := fun b hb => by
    have hlt := sz b hb
    refine ⟨⟨?_, (f2 b hb).2⟩, by rw [h3, Heap.size_push]; exact Nat.lt_succ_of_lt hlt⟩
    rw [upd_ne (by rw [← hD]; exact Nat.ne_of_lt hlt)]
    exact (f2 b hb).1
  have st3 : tn 0 s3.heap := T.keep _ _ _ st2 fun b _ o e => by rw [h3]; exact Heap.get?_push_of_some _ e
  have I4 := block_start I3 ok hN f3
  have pg := hg s3 (upd H2 D (.lst [])) s3.heap.objs.size (cellsFrom (s3.heap.objs.size + 1) scope.names (cloFrom X.env.cells scope.names [])) fp
  have pt := ht s3 (upd H2 D (.lst [])) s3.heap.objs.size (cellsFrom (s3.heap.objs.size + 1) scope.names (cloFrom X.env.cells scope.names [])) fp
  have pe := he s3 (upd H2 D (.lst [])) s3.heap.objs.size (cellsFrom (s3.heap.objs.size + 1) scope.names (cloFrom X.env.cells scope.names [])) fp
  show codeAny _ _ (.compStart (.ListComp elt [⟨tg, iter, ifs, 0⟩] scope pos) 0 (.ref it) (.ref D) (compEnvC scope (cellsFrom (s3.heap.objs.size + 1) scope.names (cloFrom X.env.cells scope.names [])) s3.heap.objs.size X.env)) (compPost (model X.prog X.w) X.A X.xe use Qf (.ref D) s3.heap.objs.size) { s3 with heap := pushCells (s3.heap.push { cls := .type "dict", data := .dict #[] }) scope.names }
  have nfp : ∀ b ∈ fp, (upd H2 D (.lst [])) b = none := fun b hb => (f3 b hb).1.1
  generalize hce : compEnvC scope (cellsFrom (s3.heap.objs.size + 1) scope.names (cloFrom X.env.cells scope.names [])) s3.heap.objs.size X.env = ce at I4 pg pt pe ⊢
  have cL : ce.locals = s3.heap.objs.size := by subst hce; rfl
  generalize hH3 : upd H2 D (.lst []) = H3 at I3 I4 pg pt pe w0 nfp f3
  generalize hs4 : ({ s3 with heap := pushCells (s3.heap.push { cls := .type "dict", data := .dict #[] }) scope.names } : Shared) = s4 at I4 ⊢
  have st4 : tn 0 s4.heap := T.keep _ _ _ st3 fun b _ o e => by rw [← hs4]; exact pushCells_keeps _ _ _ _ (Heap.get?_push_of_some _ e)
  have stat : ∀ {σ' : St} {H' : Hp} {s' : Shared}, Inv (X.blk s3 H3 scope ce fp) [] σ' H' s' → (∀ b ∈ fp, H' b = none) → ∀ b ∈ fp, FpOk (X.blk s3 H3 scope ce fp) [] H' b := fun {σ' H' s'} I' hn b hb =>
    ⟨hn b hb, (I'.ok.exf b hb).1, I'.ok.exfs b hb, .inl hb, fun x c e => (I'.ok.exf b hb).2 x c e, fun p hp => absurd (show p ∈ ([] : List (Addr × Obj)) ++ [] from hp) (by simp)⟩
  have loop : codeAny (model X.prog X.w) X.A (.compLoop (.ListComp elt [⟨tg, iter, ifs, 0⟩] scope pos) 0 (.ref it) (.ref D) ce) (compPost (model X.prog X.w) X.A X.xe use Qf (.ref D) s3.heap.objs.size) s4 := by
    refine compLoop_any (fun n s' => ∃ i H', Inv (X.blk s3 H3 scope ce fp) [] (wipe σ (own.map (·.2))) H' s' ∧ tn i s'.heap ∧ (∀ b ∈ fp, H' b = none) ∧ W i n H') ?_ m0 ⟨0, H3, I4, st4, nfp, w0⟩
    rintro n s5 ⟨i, H5, I5, st5, n5, w5⟩
    rcases turn i n H5 w5 with ⟨stop, qq⟩ | ⟨go, Nx, hNx, step⟩
    · have td := T.done (X.blk s3 H3 scope ce fp) rfl rfl rfl hc i [] s5 _ H5 (fun _ _ => False) I5 (stat I5 n5) st5 stop
      refine thnF td fun r s6 ⟨hr, I6⟩ => ?_
      subst hr
      have I7 : Inv X pins σ H5 s6 := I3.call' (ch := fp) I6.os I6.base I6.hok I6.bare fun b hb => ⟨(f3 b hb).1.2.2.2.1, (f3 b hb).1.2.1, (f3 b hb).1.2.2.2.2.1, (f3 b hb).1.2.2.2.2.2⟩
      have nC : H5 s3.heap.objs.size = none := by
        have z : H5 ce.locals = none := I6.free
        rw [cL] at z
        exact z
      obtain ⟨m, hn, _⟩ := I6.loc
      have hn : s6.heap.Ns ce.locals m := hn
      rw [cL] at hn
      exact hRR D s3.heap.objs.size s6 m H5 I7 qq hn (I3.fpOk (Nat.le_refl _) nC)
    · have ti := T.item (X.blk s3 H3 scope ce fp) rfl rfl rfl hc i [] s5 _ H5 (fun _ _ => False) I5 (stat I5 n5) st5 go
      refine thnF ti fun r s6 ⟨u, hr, h6⟩ => ?_
      subst hr
      refine thnF h6 fun _ s7 ⟨x, H7, I7, r7, y7, st7, n7⟩ => ?_
      have I7' := I7.pinned (stat I7 n7) (T.obj _ _ st7)
      refine thnF (pg _ s7 _ H7 x u _ I7' r7 (step x H7 y7)) fun _ s8 ⟨σ8, H8, I8, hw8, q8⟩ => ?_
      refine thnF (pt _ s8 σ8 H8 _ I8 q8) fun b s9 ⟨H9, I9, q9⟩ => ?_
      have fin : ∀ {s' : Shared} {H' : Hp}, Inv (X.blk s3 H3 scope ce fp) ([] ++ pinsAt fp s7.heap) σ8 H' s' → Nx H' → ∃ m, m < n ∧ ∃ i H', Inv (X.blk s3 H3 scope ce fp) [] (wipe σ (own.map (·.2))) H' s' ∧ tn i s'.heap ∧ (∀ b ∈ fp, H' b = none) ∧ W i m H' := fun {s' H'} I' nx => by
        obtain ⟨m', hm, w'⟩ := hNx H' nx
        have pin' : ∀ b ∈ fp, ∀ o, s7.heap.get? b = some o → s'.heap.get? b = some o ∧ H' b = none := fun b hb o e =>
          let z := I'.pin (b, o) (List.mem_append_right _ (List.mem_append_right _ (mem_pinsAt hb e)))
          ⟨z.1, z.2.1⟩
        have hl : (wipe σ (own.map (·.2))).length = σ8.length := by rw [← hw8, wipe_length]
        refine ⟨m', hm, i + 1, H', (I'.unpinned (pins := [])).weak hl (fun j v e => ?_), T.keep _ _ _ st7 fun b hb o e => (pin' b hb o e).1, fun b hb => ?_, w'⟩
        · rw [← hw8] at e
          exact (wipe_some e).1
        · obtain ⟨o, e, _⟩ := T.obj _ _ st7 b hb
          exact (pin' b hb o e).2
      cases b with
      | false =>
        simp only [Bool.false_eq_true, if_false] at q9 ⊢
        exact fin I9 q9
      | true =>
        simp only [if_true] at q9 ⊢
        refine thnF (pe _ s9 σ8 H9 _ I9 q9) fun z s10 ⟨yv, H10, I10, r10, acc, hD10, hz10, nx⟩ => ?_
        exact app_ok (X := X.blk s3 H3 scope ce fp) I10 hD10 hz10 r10 fun s11 I11 => fin I11 nx
  exact codeAny_compStart_list loop (T.self X.A 0 _ _ _ st4 loop)
theorem pe_lc {elt tg iter : Expr} {ifs : List Expr} {scope : Scope} {own : List (Str × Nat)} {pos : Pos} {wi : TI} {g : TG} {tt : TT} {te : TE} (hc : X.calm = true) (hN : X.N.Nodup) (hi : PI X tg iter wi) (ok : BlkOk X.N X.env.scope scope own)
    (hg : ∀ (s : Shared) (H : Hp) (C : Addr) (cl : List (Str × Addr)) (fp : List Addr), PG (X.blk s H scope (compEnvC scope cl C X.env) fp) tg g) (ht : ∀ (s : Shared) (H : Hp) (C : Addr) (cl : List (Str × Addr)) (fp : List Addr), PTs (X.blk s H scope (compEnvC scope cl C X.env) fp) ifs tt)
    (he : ∀ (s : Shared) (H : Hp) (C : Addr) (cl : List (Str × Addr)) (fp : List Addr), PE (X.blk s H scope (compEnvC scope cl C X.env) fp) elt te) (hs : ∀ x, foldedSetIterable iter X.env x = pure x := by intro _; rfl) :
    PE X (.ListComp elt [⟨tg, iter, ifs, 0⟩] scope pos) (tLc wi g tt te (own.map (·.2))) := by
  intro pins s σ H Q I h
  rw [eval_ListComp]
  refine lc_core hc hN I hi ok hg ht he hs h fun D C s' m H' I' q hn f => ⟨m, hn, fun h'' sb => ?_⟩
  obtain ⟨f0, f1, f2, f3, f4, f5⟩ := f
  exact ⟨.ref D, H', I'.turned (t' := s'.toks) (fun b o hb e => (sb.2 b hb).trans e) f0 f1 f3 f4 f5, rfl, q⟩
theorem ps_setLc {i : Nat} {y : Str} {py : Pos} {elt tg iter : Expr} {ifs : List Expr} {scope : Scope} {own : List (Str × Nat)} {pos spos : Pos} {wi : TI} {g : TG} {tt : TT} {te : TE} (hc : X.calm = true) (hN : X.N.Nodup) (hy : X.N[i]? = some y) (hyl : X.env.scope.names.lookup y = some .local)
    (hsw : swapsWith (.ListComp elt [⟨tg, iter, ifs, 0⟩] scope pos) (some (.Name y py)) spos.line X.env = pure true) (hi : PI X tg iter wi) (ok : BlkOk X.N X.env.scope scope own)
    (hg : ∀ (s : Shared) (H : Hp) (C : Addr) (cl : List (Str × Addr)) (fp : List Addr), PG (X.blk s H scope (compEnvC scope cl C X.env) fp) tg g) (ht : ∀ (s : Shared) (H : Hp) (C : Addr) (cl : List (Str × Addr)) (fp : List Addr), PTs (X.blk s H scope (compEnvC scope cl C X.env) fp) ifs tt)
    (he : ∀ (s : Shared) (H : Hp) (C : Addr) (cl : List (Str × Addr)) (fp : List Addr), PE (X.blk s H scope (compEnvC scope cl C X.env) fp) elt te) (hs : ∀ x, foldedSetIterable iter X.env x = pure x := by intro _; rfl) :
    PS X (.Assign [.Name y py] (.ListComp elt [⟨tg, iter, ifs, 0⟩] scope pos) spos) (tAsg (tLc wi g tt te (own.map (·.2))) (gName i)) := by
  intro pins s σ H D I h
  rw [exec_Assign_Name_used _ _ _ _ hsw]
  refine wpAny_bind (wpAny_standAt (wpAny_bind ?_))
  show wpAny _ X.A (do let _ ← comprehension (.ListComp elt [⟨tg, iter, ifs, 0⟩] scope pos) scope X.env (firstIterPos [⟨tg, iter, ifs, 0⟩] pos) (newList []) false (eval iter X.env) (some (assign (.Name y py) X.env))) _ _ s
  have h : tLc wi g tt te (own.map (·.2)) σ H (fun x H1 => gName i x σ H1 D.nx) := h
  refine wpAny_bind (thn (lc_core (Qf := fun _ s' => SP X pins D .next s') hc hN I hi ok hg ht he hs h fun L C s' m H' I' q hn f => ?_) fun _ s' hq => wpAny_pure (wpAny_pure hq))
  show wpAny _ _ (assign (.Name y py) X.env (.ref L)) _ _ _
  refine wpAny_assign_Name (store_ok2 (v := V.ref L) I' hN hy (.inl hyl) rfl (fun s2 I2 ⟨a, sb, ha⟩ => ?_) (.inr hyl))
  obtain ⟨f0, f1, f2, f3, f4, f5⟩ := f
  have haC : C ≠ a := by
    rcases ha with z | z
    · rw [z]; exact f1
    · exact fun e => f4 y a z e.symm
  refine ⟨m, hn.sameBut sb haC, fun h3 sb3 => ?_⟩
  exact ⟨_, H', I2.turned (t' := s2.toks) (fun b o hb e => (sb3.2 b hb).trans e) f0 f1 f3 f4 f5, q⟩
theorem sw_true {elt : Expr} {gs : List Comprehension} {scope : Scope} {pos py : Pos} {y : Str} {l : Nat} {env : Env} (hk : env.scope.kind = .function) (hy : env.scope.names.lookup y = some .local) (hl : (py.line == pos.line) = true)
    (ha : (scope.names.any fun (n, k) => n == y && (k == .local || k == .cell)) = false) : swapsWith (.ListComp elt gs scope pos) (some (.Name y py)) l env = pure true := by
  have ky : env.kindOf y = some .local := hy
  have hb : env.blockKind = .function := by unfold Env.blockKind; rw [hk]; rfl
  unfold swapsWith
  simp only [hb, ky, ha, Expr.pos, hl]
  rfl
end
theorem lc_range {lo : Int} {n : Nat} {g : TG} {tt : TT} {te : TE} {vs : List Nat} {σ : St} {H1 : Hp} {D : Addr} {Qd : Hp → Prop} (Pv : Nat → Hp → Prop) (h0 : Pv 0 (upd H1 D (.lst [])))
    (hs : ∀ i H, i < n → Pv i H → g (.int (lo + i)) (wipe σ vs) H fun σ2 H2 => wipe σ2 vs = wipe σ vs ∧ tt σ2 H2 fun b H3 =>
      if b = true then te σ2 H3 fun y H4 => ∃ acc, H4 D = some (.lst acc) ∧ acc.length < sizeLine ∧ Pv (i + 1) (upd H4 D (.lst (acc ++ [y]))) else Pv (i + 1) H3) (hd : ∀ H, Pv n H → Qd H) :
    ∃ W : Nat → Nat → Hp → Prop, (∃ m, W 0 m (upd H1 D (.lst []))) ∧ ∀ i m H, W i m H →
      ((Itr lo n).stop i H ∧ Qd H) ∨ ((Itr lo n).go i H ∧ ∃ Nx : Hp → Prop, (∀ H', Nx H' → ∃ m', m' < m ∧ W (i + 1) m' H') ∧ ∀ x H', (Itr lo n).yld i H x H' → g x (wipe σ vs) H' fun σ2 H2 => wipe σ2 vs = wipe σ vs ∧ tt σ2 H2 fun b H3 =>
        if b = true then te σ2 H3 fun y H4 => ∃ acc, H4 D = some (.lst acc) ∧ acc.length < sizeLine ∧ Nx (upd H4 D (.lst (acc ++ [y]))) else Nx H3) := by
  refine ⟨fun i m H => m = n - i ∧ i ≤ n ∧ Pv i H, ⟨n, by simp, Nat.zero_le _, h0⟩, ?_⟩
  rintro i m H ⟨rfl, hi, p⟩
  by_cases hlt : i < n
  · refine .inr ⟨hlt, Pv (i + 1), fun H' p' => ⟨n - (i + 1), by omega, rfl, hlt, p'⟩, fun x H' y => ?_⟩
    obtain ⟨e, y⟩ := y
    subst e y
    exact hs i _ hlt p
  · have e : i = n := by omega
    subst e
    exact .inl ⟨Nat.le_refl _, hd H p⟩
theorem lc_list {K : PySem.W.Frag} {a : Addr} {xs : List V} {g : TG} {tt : TT} {te : TE} {vs : List Nat} {σ : St} {H1 : Hp} {D : Addr} {Qd : Hp → Prop} (Pv : Nat → Hp → Prop) (h0 : Pv 0 (upd H1 D (.lst []))) (hl : ∀ i H, i ≤ xs.length → Pv i H → SqL K H a xs)
    (hs : ∀ i x H, xs[i]? = some x → Pv i H → g x (wipe σ vs) H fun σ2 H2 => wipe σ2 vs = wipe σ vs ∧ tt σ2 H2 fun b H3 =>
      if b = true then te σ2 H3 fun y H4 => ∃ acc, H4 D = some (.lst acc) ∧ acc.length < sizeLine ∧ Pv (i + 1) (upd H4 D (.lst (acc ++ [y]))) else Pv (i + 1) H3) (hd : ∀ H, Pv xs.length H → Qd H) :
    ∃ W : Nat → Nat → Hp → Prop, (∃ m, W 0 m (upd H1 D (.lst []))) ∧ ∀ i m H, W i m H →
      ((Itl K a).stop i H ∧ Qd H) ∨ ((Itl K a).go i H ∧ ∃ Nx : Hp → Prop, (∀ H', Nx H' → ∃ m', m' < m ∧ W (i + 1) m' H') ∧ ∀ x H', (Itl K a).yld i H x H' → g x (wipe σ vs) H' fun σ2 H2 => wipe σ2 vs = wipe σ vs ∧ tt σ2 H2 fun b H3 =>
        if b = true then te σ2 H3 fun y H4 => ∃ acc, H4 D = some (.lst acc) ∧ acc.length < sizeLine ∧ Nx (upd H4 D (.lst (acc ++ [y]))) else Nx H3) := by
  refine ⟨fun i m H => m = xs.length - i ∧ i ≤ xs.length ∧ Pv i H, ⟨xs.length, by simp, Nat.zero_le _, h0⟩, ?_⟩
  rintro i m H ⟨rfl, hi, p⟩
  have q := hl i H hi p
  by_cases hlt : i < xs.length
  · refine .inr ⟨⟨xs, xs[i], q, by simp [hlt]⟩, Pv (i + 1), fun H' p' => ⟨xs.length - (i + 1), by omega, rfl, hlt, p'⟩, fun x H' y => ?_⟩
    obtain ⟨e, y⟩ := y
    subst e
    exact hs i x _ (y xs q) p
  · have e : i = xs.length := by omega
    subst e
    exact .inl ⟨⟨xs, q, Nat.le_refl _⟩, hd H p⟩
theorem lc_tup {K : PySem.W.Frag} {a : Addr} {xs : List V} {g : TG} {tt : TT} {te : TE} {vs : List Nat} {σ : St} {H1 : Hp} {D : Addr} {Qd : Hp → Prop} (Pv : Nat → Hp → Prop) (h0 : Pv 0 (upd H1 D (.lst []))) (hl : ∀ i H, i ≤ xs.length → Pv i H → SqT K H a xs)
    (hs : ∀ i x H, xs[i]? = some x → Pv i H → g x (wipe σ vs) H fun σ2 H2 => wipe σ2 vs = wipe σ vs ∧ tt σ2 H2 fun b H3 =>
      if b = true then te σ2 H3 fun y H4 => ∃ acc, H4 D = some (.lst acc) ∧ acc.length < sizeLine ∧ Pv (i + 1) (upd H4 D (.lst (acc ++ [y]))) else Pv (i + 1) H3) (hd : ∀ H, Pv xs.length H → Qd H) :
    ∃ W : Nat → Nat → Hp → Prop, (∃ m, W 0 m (upd H1 D (.lst []))) ∧ ∀ i m H, W i m H →
      ((Itt K a).stop i H ∧ Qd H) ∨ ((Itt K a).go i H ∧ ∃ Nx : Hp → Prop, (∀ H', Nx H' → ∃ m', m' < m ∧ W (i + 1) m' H') ∧ ∀ x H', (Itt K a).yld i H x H' → g x (wipe σ vs) H' fun σ2 H2 => wipe σ2 vs = wipe σ vs ∧ tt σ2 H2 fun b H3 =>
        if b = true then te σ2 H3 fun y H4 => ∃ acc, H4 D = some (.lst acc) ∧ acc.length < sizeLine ∧ Nx (upd H4 D (.lst (acc ++ [y]))) else Nx H3) := by
  refine ⟨fun i m H => m = xs.length - i ∧ i ≤ xs.length ∧ Pv i H, ⟨xs.length, by simp, Nat.zero_le _, h0⟩, ?_⟩
  rintro i m H ⟨rfl, hi, p⟩
  have q := hl i H hi p
  by_cases hlt : i < xs.length
  · refine .inr ⟨⟨xs, xs[i], q, by simp [hlt]⟩, Pv (i + 1), fun H' p' => ⟨xs.length - (i + 1), by omega, rfl, hlt, p'⟩, fun x H' y => ?_⟩
    obtain ⟨e, y⟩ := y
    subst e
    exact hs i x _ (y xs q) p
  · have e : i = xs.length := by omega
    subst e
    exact .inl ⟨⟨xs, q, Nat.le_refl _⟩, hd H p⟩
def blkC (N : List Str) (sc scope : Scope) (own : List (Str × Nat)) : Bool :=
  (match scope.kind with | .function => true | _ => false) && (scope.names.all fun y => decide (scope.names.lookup y.1 = some y.2)) && (own.all fun p => decide (N[p.2]? = some p.1)) &&
    (scope.names.all fun y => match y.2 with
      | .free => (match sc.names.lookup y.1 with | some .cell => true | some .free => true | _ => false)
      | .local => decide (y.1 ∈ own.map (·.1)) || decide (y.1 ∉ N)
      | .cell => decide (y.1 ∈ own.map (·.1)) || decide (y.1 ∉ N)
      | _ => true)
theorem blkOk_by {N : List Str} {sc scope : Scope} {own : List (Str × Nat)} (h : blkC N sc scope own = true) : BlkOk N sc scope own := by
  unfold blkC at h
  simp only [Bool.and_eq_true, List.all_eq_true, decide_eq_true_eq] at h
  obtain ⟨⟨⟨h1, h2⟩, h3⟩, h4⟩ := h
  refine ⟨?_, h2, h3, fun y hy e => ?_, fun y hy e => ?_⟩
  · split at h1
    · assumption
    · cases h1
  · have q := h4 y hy
    simp only [e] at q
    split at q <;> first | exact .inl (by assumption) | exact .inr (by assumption) | cases q
  · have q := h4 y hy
    rcases e with e | e <;> (simp only [e, Bool.or_eq_true, decide_eq_true_eq] at q; exact q)
end L2
namespace L2
open PySem PySem.Spec PyProof.Rows
section
variable {prog : Program} {w : World} {A : Around} {R : Result → Shared → Prop} {s : Shared} {elt t0 i0 t1 i1 : Expr} {ifs0 ifs1 : List Expr} {scope : Scope} {pos : Pos} {it acc : Value} {env : Env}
end
theorem wipe_out {σ : St} {i : Nat} : ∀ {vs : List Nat}, i ∉ vs → (wipe σ vs)[i]? = σ[i]?
  | [], _ => rfl
  | v :: vs, h => by
    have h1 : v ≠ i := fun e => h (by rw [e]; exact List.mem_cons_self)
    have h2 : i ∉ vs := fun m => h (List.mem_cons_of_mem _ m)
    unfold wipe
    rw [List.getElem?_set_ne h1]
    exact wipe_out h2
section
variable {X : Cx}
end
end L2
namespace L2
open PySem PySem.Spec PyProof.Rows
section
variable {κ : Type} [DecidableEq κ]
def valV (kvs : List (κ × V)) (k : κ) : Option V := (kvs.find? fun kv => decide (kv.1 = k)).map (·.2)
def putK (kvs : List (κ × V)) (k : κ) (v : V) : List (κ × V) :=
  if (kvs.any fun kv => decide (kv.1 = k)) = true then kvs.map (fun kv => if kv.1 = k then (kv.1, v) else kv) else kvs ++ [(k, v)]
def dropK (kvs : List (κ × V)) (k : κ) : List (κ × V) := kvs.filter fun kv => decide (kv.1 ≠ k)
theorem valV_pos {p : κ × V} {r : List (κ × V)} {k : κ} (e : p.1 = k) : valV (p :: r) k = some p.2 := by simp [valV, List.find?_cons, e]
theorem valV_neg {p : κ × V} {r : List (κ × V)} {k : κ} (e : ¬ p.1 = k) : valV (p :: r) k = valV r k := by simp [valV, List.find?_cons, e]
theorem valV_any (k : κ) : ∀ kvs : List (κ × V), (kvs.any fun kv => decide (kv.1 = k)) = (valV kvs k).isSome
  | [] => rfl
  | p :: r => by
    rw [List.any_cons]
    by_cases e : p.1 = k
    · simp only [valV_pos e, decide_eq_true e, Bool.true_or, Option.isSome_some]
    · rw [valV_neg e, decide_eq_false e, Bool.false_or]; exact valV_any k r
theorem length_putK (kvs : List (κ × V)) (k : κ) (v : V) : (putK kvs k v).length ≤ kvs.length + 1 := by
  unfold putK
  split
  · rw [List.length_map]; omega
  · rw [List.length_append, List.length_cons, List.length_nil]; omega
theorem RelO.isSome_eq {o : Option V} {u : Option Value} (r : RelO o u) : o.isSome = u.isSome := by
  cases o with
  | none => cases u with
    | none => rfl
    | some _ => exact (show False from r).elim
  | some _ => cases u with
    | none => exact (show False from r).elim
    | some _ => rfl
theorem RelO.getD {o : Option V} {u : Option Value} {d : V} {d' : Value} (r : RelO o u) (rd : RelV d d') : RelV (o.getD d) (u.getD d') := by
  cases o with
  | none => cases u with
    | none => exact rd
    | some _ => exact (show False from r).elim
  | some _ => cases u with
    | none => exact (show False from r).elim
    | some _ => exact r
theorem KV.val {kvs : List (κ × V)} {vs : List (κ × Value)} (r : KV kvs vs) (k : κ) : RelO (valV kvs k) (valueAt vs k) := by
  unfold KV at r
  induction r with
  | nil => exact True.intro
  | @cons p q ps qs h t ih =>
    obtain ⟨h1, h2⟩ := h
    by_cases e : p.1 = k
    · have e' : q.1 = k := h1.symm.trans e
      have b : valueAt (q :: qs) k = some q.2 := by simp [valueAt, List.find?_cons, e']
      rw [valV_pos e, b]; exact h2
    · have e' : ¬ q.1 = k := fun z => e (h1.trans z)
      have b : valueAt (q :: qs) k = valueAt qs k := by simp [valueAt, List.find?_cons, e']
      rw [valV_neg e, b]; exact ih
theorem KV.any {kvs : List (κ × V)} {vs : List (κ × Value)} (r : KV kvs vs) (k : κ) : (kvs.any fun kv => decide (kv.1 = k)) = vs.any fun kv => decide (kv.1 = k) := by
  unfold KV at r
  induction r with
  | nil => rfl
  | cons h t ih => rw [List.any_cons, List.any_cons, ih, h.1]
theorem KV.repl {kvs : List (κ × V)} {vs : List (κ × Value)} (r : KV kvs vs) (k : κ) {y : V} {u : Value} (ry : RelV y u) :
    KV (kvs.map fun kv => if kv.1 = k then (kv.1, y) else kv) (vs.map fun kv => if kv.1 = k then (kv.1, u) else kv) := by
  unfold KV at r ⊢
  induction r with
  | nil => exact .nil
  | @cons p q ps qs h t ih =>
    rw [List.map_cons, List.map_cons]
    refine .cons ?_ ih
    obtain ⟨h1, h2⟩ := h
    by_cases e : p.1 = k
    · rw [if_pos e, if_pos (h1.symm.trans e)]; exact ⟨h1, ry⟩
    · rw [if_neg e, if_neg (fun z => e (h1.trans z))]; exact ⟨h1, h2⟩
theorem KV.put {kvs : List (κ × V)} {vs : List (κ × Value)} (r : KV kvs vs) (k : κ) {y : V} {u : Value} (ry : RelV y u) : KV (putK kvs k y) (stored vs k u) := by
  unfold putK stored
  rw [r.any k]
  by_cases e : (vs.any fun kv => decide (kv.1 = k)) = true
  · rw [if_pos e, if_pos e]; exact r.repl k ry
  · rw [if_neg e, if_neg e]; exact Paired.snoc r ⟨rfl, ry⟩
theorem KV.drop {kvs : List (κ × V)} {vs : List (κ × Value)} (r : KV kvs vs) (k : κ) : KV (dropK kvs k) (without vs k) := by
  unfold KV at r ⊢
  unfold dropK without
  induction r with
  | nil => exact .nil
  | @cons p q ps qs h t ih =>
    obtain ⟨h1, h2⟩ := h
    rw [List.filter_cons, List.filter_cons]
    by_cases e : p.1 = k
    · have a : ¬ decide (p.1 ≠ k) = true := by simp [e]
      have b : ¬ decide (q.1 ≠ k) = true := by simp [h1.symm.trans e]
      rw [if_neg a, if_neg b]; exact ih
    · have e' : ¬ q.1 = k := fun z => e (h1.trans z)
      have a : decide (p.1 ≠ k) = true := by simp [e]
      have b : decide (q.1 ≠ k) = true := by simp [e']
      rw [if_pos a, if_pos b]; exact .cons ⟨h1, h2⟩ ih
theorem KV.keys {kvs : List (κ × V)} {vs : List (κ × Value)} (r : KV kvs vs) : kvs.map (·.1) = vs.map (·.1) := by
  unfold KV at r
  induction r with
  | nil => rfl
  | cons h t ih => rw [List.map_cons, List.map_cons, ih, h.1]
theorem KV.length {kvs : List (κ × V)} {vs : List (κ × Value)} (r : KV kvs vs) : kvs.length = vs.length := Paired.length r
end
theorem kV_is {P : Program} {w : World} {k : Key} {u : Value} (r : RelV (kV k) u) : (mixKind P w).is k u = true := by
  cases k with
  | inl i => obtain ⟨t, e⟩ := (show ∃ t, u = Value.int i t from r); subst e; exact mixKind_int P w i t
  | inr x => obtain ⟨t, e⟩ := (show ∃ t, u = Value.str x t from r); subst e; exact mixKind_str P w x t
theorem items_are {P : Program} {w : World} : ∀ {ks : List Key} {us : List Value}, Vals (ks.map kV) us → ItemsAre (mixKind P w) ks us
  | [], _, r => by rw [List.map_nil] at r; cases r; exact .nil
  | k :: ks, _, r => by
    rw [List.map_cons] at r
    cases r with
    | cons h t => exact .cons (kV_is h) (items_are t)
abbrev KT (H : Hp) : List (List Key × V) → List (List Key × Addr × Value) → Prop := Paired fun p q => p.1 = q.1 ∧ H q.2.1 = some (.tup (p.1.map kV)) ∧ RelV p.2 q.2.2
theorem KT.val {H : Hp} {kvs : List (List Key × V)} {xs : List (List Key × Addr × Value)} (r : KT H kvs xs) (k : List Key) : RelO (valV kvs k) ((atKey xs k).map (·.2)) := by
  induction r with
  | nil => exact True.intro
  | @cons p q ps qs h t ih =>
    obtain ⟨h1, _, h2⟩ := h
    by_cases e : p.1 = k
    · have e' : q.1 = k := h1.symm.trans e
      have b : atKey (q :: qs) k = some q.2 := by simp [atKey, List.find?_cons, e']
      rw [valV_pos e, b]; exact h2
    · have e' : ¬ q.1 = k := fun z => e (h1.trans z)
      have b : atKey (q :: qs) k = atKey qs k := by simp [atKey, List.find?_cons, e']
      rw [valV_neg e, b]; exact ih
theorem KT.repl {H : Hp} {kvs : List (List Key × V)} {xs : List (List Key × Addr × Value)} (r : KT H kvs xs) (k : List Key) {y : V} {u : Value} (ry : RelV y u) :
    KT H (kvs.map fun kv => if kv.1 = k then (kv.1, y) else kv) (xs.map (putAt k u)) := by
  induction r with
  | nil => exact .nil
  | @cons p q ps qs h t ih =>
    rw [List.map_cons, List.map_cons]
    refine .cons ?_ ih
    obtain ⟨h1, h2, h3⟩ := h
    unfold putAt
    by_cases e : p.1 = k
    · rw [if_pos e, if_pos (h1.symm.trans e)]; exact ⟨h1, h2, ry⟩
    · rw [if_neg e, if_neg (fun z => e (h1.trans z))]; exact ⟨h1, h2, h3⟩
theorem KT.put {H : Hp} {kvs : List (List Key × V)} {xs : List (List Key × Addr × Value)} (r : KT H kvs xs) (k : List Key) {b : Addr} {y : V} {u : Value} (hb : H b = some (.tup (k.map kV))) (ry : RelV y u) :
    KT H (putK kvs k y) (storedH xs k b u) := by
  have e : (kvs.any fun kv => decide (kv.1 = k)) = (atKey xs k).isSome := by
    rw [valV_any, (r.val k).isSome_eq, Option.isSome_map]
  unfold putK storedH
  rw [e]
  by_cases q : (atKey xs k).isSome = true
  · rw [if_pos q, if_pos q]; exact r.repl k ry
  · rw [if_neg q, if_neg q]; exact Paired.snoc r ⟨rfl, hb, ry⟩
theorem KT.keeps {H H' : Hp} {kvs : List (List Key × V)} {xs : List (List Key × Addr × Value)} (r : KT H kvs xs) (ht : ∀ b ys, H b = some (.tup ys) → H' b = some (.tup ys)) : KT H' kvs xs :=
  Paired.mapP r fun _ _ z => ⟨z.1, ht _ _ z.2.1, z.2.2⟩
section
variable {P : Program} {w : World} {H : Hp} {h : Heap} {a : Addr}
theorem rd_of {u : HO} (ok : HOk P w H h) (e : Rd H a u) : ObjOk P w H h a u := e.ok ok
theorem dk_rd {kvs : List (Key × V)} (ok : HOk P w H h) (e : Rd H a (.dK kvs)) : kvs.length ≤ sizeLine ∧ (a == sysModules) = false ∧ ∃ vs, KV kvs vs ∧ h.DictOf (mixKind P w) a vs :=
  show ObjOk P w H h a (.dK kvs) from rd_of ok e
theorem dk_of {kvs : List (Key × V)} (ok : HOk P w H h) (e : H a = some (.dK kvs)) : kvs.length ≤ sizeLine ∧ (a == sysModules) = false ∧ ∃ vs, KV kvs vs ∧ h.DictOf (mixKind P w) a vs := dk_rd ok (.inl e)
theorem key_of {ks : List Key} (ok : HOk P w H h) (e : H a = some (.tup (ks.map kV))) : (tupleKind (mixKind P w)).is h ks a := by
  obtain ⟨_, its, r, o, h1, h2, n, h3⟩ := (show ObjOk P w H h a (.tup (ks.map kV)) from ok a _ e)
  exact ⟨o, its.toArray, n, h1, h2, h3, by simpa using items_are r⟩
theorem dt_rd {kvs : List (List Key × V)} (ok : HOk P w H h) (e : Rd H a (.dT kvs)) : kvs.length ≤ sizeLine ∧ (a == sysModules) = false ∧
    ∃ xs, KT H kvs xs ∧ h.DictOfH (tupleKind (mixKind P w)) a xs := by
  obtain ⟨z, y, xs, r, o, es, ep, h1, h2, h3, h4, h5⟩ := (show ObjOk P w H h a (.dT kvs) from rd_of ok e)
  refine ⟨z, y, xs, r, o, es, ep, h1, h2, h3, h4, fun x hx => ?_, h5⟩
  have all : ∀ {l : List (List Key × V)} {m : List (List Key × Addr × Value)}, KT H l m → ∀ x ∈ m, (tupleKind (mixKind P w)).is h x.1 x.2.1 := by
    intro l m q
    induction q with
    | nil => intro x hx; exact nomatch hx
    | @cons p q ps qs hq t ih =>
      intro x hx
      rcases List.mem_cons.mp hx with e | hx
      · subst e
        exact key_of ok (by rw [← hq.1]; exact hq.2.1)
      · exact ih x hx
  exact all r x hx
theorem dt_of {kvs : List (List Key × V)} (ok : HOk P w H h) (e : H a = some (.dT kvs)) : kvs.length ≤ sizeLine ∧ (a == sysModules) = false ∧
    ∃ xs, KT H kvs xs ∧ h.DictOfH (tupleKind (mixKind P w)) a xs := dt_rd ok (.inl e)
end
def DGet (H : Hp) (a : Addr) (y : V) (r : Option V) : Prop :=
  (∃ kvs k, Rd H a (.dK kvs) ∧ y = kV k ∧ r = valV kvs k) ∨ ∃ kvs k b, Rd H a (.dT kvs) ∧ y = .ref b ∧ H b = some (.tup (k.map kV)) ∧ r = valV kvs k
def DPut (H : Hp) (a : Addr) (y v : V) (H' : Hp) : Prop :=
  (∃ kvs k, H a = some (.dK kvs) ∧ y = kV k ∧ kvs.length < sizeLine ∧ H' = upd H a (.dK (putK kvs k v))) ∨
  ∃ kvs k b, H a = some (.dT kvs) ∧ y = .ref b ∧ H b = some (.tup (k.map kV)) ∧ kvs.length < sizeLine ∧ H' = upd H a (.dT (putK kvs k v))
theorem DGet.k {H : Hp} {a : Addr} {kvs : List (Key × V)} {k : Key} (e : H a = some (.dK kvs)) : DGet H a (kV k) (valV kvs k) := .inl ⟨kvs, k, .inl e, rfl, rfl⟩
theorem DGet.t {H : Hp} {a b : Addr} {kvs : List (List Key × V)} {k : List Key} (e : H a = some (.dT kvs)) (eb : H b = some (.tup (k.map kV))) : DGet H a (.ref b) (valV kvs k) := .inr ⟨kvs, k, b, .inl e, rfl, eb, rfl⟩
theorem DPut.k {H : Hp} {a : Addr} {kvs : List (Key × V)} {k : Key} {v : V} (e : H a = some (.dK kvs)) (hl : kvs.length < sizeLine) : DPut H a (kV k) v (upd H a (.dK (putK kvs k v))) := .inl ⟨kvs, k, e, rfl, hl, rfl⟩
theorem DPut.t {H : Hp} {a b : Addr} {kvs : List (List Key × V)} {k : List Key} {v : V} (e : H a = some (.dT kvs)) (eb : H b = some (.tup (k.map kV))) (hl : kvs.length < sizeLine) :
    DPut H a (.ref b) v (upd H a (.dT (putK kvs k v))) := .inr ⟨kvs, k, b, e, rfl, eb, hl, rfl⟩
section
variable {X : Cx} {pins : List (Addr × Obj)} {σ : St} {H : Hp} {s : Shared} {a : Addr} {y v : V} {u r : Value} {o : Option V} {A : Around} {E : Value → Shared → Prop}
theorem Inv.big (I : Inv X pins σ H s) : sysModules < s.heap.objs.size := by
  have h : mainGlobals < s.heap.objs.size := (I.mod.glob.keeps I.bk).lt
  exact Nat.lt_trans (by decide) h
theorem d_getItem {Q : Value → Shared → Prop} (hu : A.units + 1 < cLine) (I : Inv X pins σ H s) (g : DGet H a y (some v)) (ry : RelV y u) (h : ∀ w' s', Inv X pins σ H s' → RelV v w' → Q w' s') :
    wpAny (model X.prog X.w) A (getItem (.ref a) u) Q E s := by
  rcases g with ⟨kvs, k, e, ey, l⟩ | ⟨kvs, k, b, e, ey, eb, l⟩
  · subst ey
    obtain ⟨z, hd, vs, rel, dd⟩ := dk_rd I.hok e
    obtain ⟨w', hw, rw'⟩ := RelO.some_of (v := v) (o := valueAt vs k) (by rw [l]; exact rel.val k)
    exact wpAny_getItem_of (kV_is ry) dd.mapOf hw (h w' _ (I.tok _) rw')
  · subst ey
    cases (show u = Value.ref b from ry)
    obtain ⟨z, hd, xs, rel, dd⟩ := dt_rd I.hok e
    obtain ⟨w', hw, rw'⟩ := RelO.some_of (v := v) (o := (atKey xs k).map (·.2)) (by rw [l]; exact rel.val k)
    obtain ⟨p, hp, hp2⟩ := Option.map_eq_some_iff.mp hw
    refine wpAny_getItem_heap (tupleKind_room_in1 hu) (key_of I.hok eb) dd hp ?_
    rw [hp2]
    exact h w' _ (I.tok _) rw'
theorem d_in {Q : Value → Shared → Prop} (hu : A.units + 1 < cLine) (I : Inv X pins σ H s) (g : DGet H a y o) (ry : RelV y u) (h : ∀ s', Inv X pins σ H s' → Q (.bool o.isSome) s') :
    wpAny (model X.prog X.w) A (compareOp .In u (.ref a)) Q E s := by
  rcases g with ⟨kvs, k, e, ey, l⟩ | ⟨kvs, k, b, e, ey, eb, l⟩
  · subst ey
    obtain ⟨z, hd, vs, rel, dd⟩ := dk_rd I.hok e
    refine wpAny_in_of (kV_is ry) hd dd.mapOf ?_
    rw [← (rel.val k).isSome_eq, ← l]
    exact h _ (I.tok _)
  · subst ey
    cases (show u = Value.ref b from ry)
    obtain ⟨z, hd, xs, rel, dd⟩ := dt_rd I.hok e
    refine wpAny_in_heap (tupleKind_room_in1 hu) (key_of I.hok eb) hd dd ?_
    have q := (rel.val k).isSome_eq
    rw [Option.isSome_map] at q
    rw [← q, ← l]
    exact h _ (I.tok _)
theorem d_notIn {Q : Value → Shared → Prop} (hu : A.units + 1 < cLine) (I : Inv X pins σ H s) (g : DGet H a y o) (ry : RelV y u) (h : ∀ s', Inv X pins σ H s' → Q (.bool (!o.isSome)) s') :
    wpAny (model X.prog X.w) A (compareOp .NotIn u (.ref a)) Q E s := by
  rcases g with ⟨kvs, k, e, ey, l⟩ | ⟨kvs, k, b, e, ey, eb, l⟩
  · subst ey
    obtain ⟨z, hd, vs, rel, dd⟩ := dk_rd I.hok e
    refine wpAny_notIn_of (kV_is ry) hd dd.mapOf ?_
    rw [← (rel.val k).isSome_eq, ← l]
    exact h _ (I.tok _)
  · subst ey
    cases (show u = Value.ref b from ry)
    obtain ⟨z, hd, xs, rel, dd⟩ := dt_rd I.hok e
    refine wpAny_notIn_heap (tupleKind_room_in1 hu) (key_of I.hok eb) hd dd ?_
    have q := (rel.val k).isSome_eq
    rw [Option.isSome_map] at q
    rw [← q, ← l]
    exact h _ (I.tok _)
theorem d_write {h' : Heap} {t' : Nat} {ob : HO} (I : Inv X pins σ H s) (mu : Mut (H a)) (hs : Heap.SameBut a s.heap h') (he : ∃ q, h'.get? a = some q) (new : ObjOk X.prog X.w (upd H a ob) h' a ob) :
    Inv X pins σ (upd H a ob) { s with heap := h', toks := t' } :=
  I.write (x := a) (e := a) mu (.inl rfl) (fun b q hb z => (hs.2 b hb).trans z) he new
theorem dk_new {P : Program} {w : World} {H' : Hp} {h' : Heap} {kvs : List (Key × V)} {vs : List (Key × Value)} (z : kvs.length ≤ sizeLine) (hd : (a == sysModules) = false) (rel : KV kvs vs) (dd : h'.DictOf (mixKind P w) a vs) :
    ObjOk P w H' h' a (.dK kvs) := ⟨z, hd, vs, rel, dd⟩
theorem d_setItem {H' : Hp} {Q : Unit → Shared → Prop} (hu : A.units + 1 < cLine) (I : Inv X pins σ H s) (g : DPut H a y v H') (ry : RelV y u) (rv : RelV v r) (h : ∀ s', Inv X pins σ H' s' → Q () s') :
    wpAny (model X.prog X.w) A (setItem (.ref a) u r) Q E s := by
  rcases g with ⟨kvs, k, e, ey, l, eH⟩ | ⟨kvs, k, b, e, ey, eb, l, eH⟩
  · subst ey eH
    obtain ⟨z, hd, vs, rel, dd⟩ := dk_of I.hok e
    have hz : vs.length ≤ sizeLine := by rw [← rel.length]; exact z
    have hl : (putK kvs k v).length ≤ sizeLine := by have := length_putK kvs k v; omega
    refine wpAny_setItem_pairs (hsz := hz) (kV_is ry) dd fun h' dd' hs => h _ ?_
    have he : ∃ q, h'.get? a = some q := let ⟨q, _, _, hq, _⟩ := dd'; ⟨q, hq⟩
    exact d_write I (by rw [e]; exact True.intro) hs he (dk_new hl hd (rel.put k rv) dd')
  · subst ey eH
    cases (show u = Value.ref b from ry)
    obtain ⟨z, hd, xs, rel, dd⟩ := dt_of I.hok e
    have hz : xs.length ≤ sizeLine := by rw [← Paired.length rel]; exact z
    have hl : (putK kvs k v).length ≤ sizeLine := by have := length_putK kvs k v; omega
    refine wpAny_setItem_heap (hsz := hz) (tupleKind_room_in1 hu) (key_of I.hok eb) dd fun h' dd' hs => h _ ?_
    obtain ⟨q, es, ep, hq, h2, h3, h4, _, h5⟩ := dd'
    refine d_write I (by rw [e]; exact True.intro) hs ⟨q, hq⟩ ⟨hl, hd, _, (rel.put k eb rv).keeps fun c ys ec => ?_, q, es, ep, hq, h2, h3, h4, h5⟩
    rw [upd_ne (ne_of ec e (fun z => nomatch z))]
    exact ec
end
section
variable {X : Cx} {pins : List (Addr × Obj)} {σ : St} {H : Hp} {s : Shared} {a : Addr} {kvs : List (Key × V)} {k : Key} {u : Value} {A : Around} {E : Value → Shared → Prop}
end
def NoSl (i : Expr) : Prop := ∀ ov iv, subscripted i false ov iv = operate [ov, iv] (getItem ov iv)
theorem subD_of {prog : Program} {w : World} {A : Around} {E : Value → Shared → Prop} {s : Shared} {env : Env} {value slice : Expr} {pos : Pos} {T id : String} {Q : Value → Shared → Prop}
    (hl : typeLookup (.type T) "__getitem__" = pure (some (.builtin id))) (hs : NoSl slice)
    (h : wpAny (model prog w) A (eval value env) (fun o s₁ => wpAny (model prog w) A (eval slice env) (fun i s₂ => s₂.TypeIs o T ∧ wpAny (model prog w) A (getItem o i) Q E s₂) E s₁) E s) :
    wpAny (model prog w) A (eval (.Subscript value slice pos) env) Q E s := by
  refine Subscript_ (wpAny_mono h (fun o s₁ h₁ => wpAny_mono h₁ (fun i s₂ h₂ => ?_) fun _ _ x => x) fun _ _ x => x)
  obtain ⟨hT, h₂⟩ := h₂
  unfold subscriptTail
  refine wpAny_bind ?_
  rw [getitemInPython_of_ne hT.not_modules]
  refine wpAny_bind (wpAny_specialOf hT hl ?_)
  have fin : wpAny (model prog w) A (subscripted slice false o i) (fun r s₃ => wpAny (model prog w) A (letTemporaryGo value o r >>= fun _ => pure r) Q E s₃) E s₂ := by
    rw [hs o i]
    exact wpAny_operating (wpAny_mono h₂ (fun r s₃ h₃ => wpAny_bind (wpAny_letTemporaryGo (wpAny_pure h₃))) fun _ _ x => x)
  first
    | exact wpAny_pure (wpAny_bind fin)
    | exact wpAny_bind (wpAny_pure (wpAny_bind fin))
    | exact wpAny_bind fin
theorem dict_typeIs {X : Cx} {pins : List (Addr × Obj)} {σ : St} {H : Hp} {s : Shared} {a : Addr} {y : V} {o : Option V} (I : Inv X pins σ H s) (g : DGet H a y o) : s.TypeIs (.ref a) "dict" := by
  rcases g with ⟨kvs, k, e, _, _⟩ | ⟨kvs, k, b, e, _, _, _⟩
  · obtain ⟨_, _, vs, _, dd⟩ := dk_rd I.hok e
    exact dd.typeIs
  · obtain ⟨_, _, xs, _, dd⟩ := dt_rd I.hok e
    exact dd.typeIs
def tDGet (td ty : TE) : TE := fun σ H Q => td σ H fun x H1 => ty σ H1 fun y H2 => ∃ a v, x = .ref a ∧ DGet H2 a y (some v) ∧ Q v H2
def tDIn (ty td : TE) : TE := fun σ H Q => ty σ H fun y H1 => td σ H1 fun x H2 => ∃ a o, x = .ref a ∧ DGet H2 a y o ∧ Q (.bl o.isSome) H2
def tDNotIn (ty td : TE) : TE := fun σ H Q => ty σ H fun y H1 => td σ H1 fun x H2 => ∃ a o, x = .ref a ∧ DGet H2 a y o ∧ Q (.bl (!o.isSome)) H2
def sDPut (td ty tv : TE) : TS := fun D σ H => tv σ H fun v H1 => td σ H1 fun x H2 => ty σ H2 fun y H3 => ∃ a H4, x = .ref a ∧ DPut H3 a y v H4 ∧ D.nx σ H4
section
variable {X : Cx} {o i e value : Expr} {pos pos' tpos : Pos} {td ty tv : TE}
theorem pe_dget (hu : X.A.units + 1 < cLine) (ho : PE X o td) (hi : PE X i ty) (hs : NoSl i) : PE X (.Subscript o i pos) (tDGet td ty) := by
  intro pins s σ H Q I h
  refine subD_of PySem.F.slot_dict_getitem.lookup hs (thn (ho pins s σ H _ I h) fun u s1 ⟨x, H1, I1, rx, q1⟩ => thn (hi pins s1 σ H1 _ I1 q1) fun iv s2 ⟨y, H2, I2, ry, a, v, ex, g, q2⟩ => ?_)
  subst ex
  obtain rfl : u = Value.ref a := rx
  exact ⟨dict_typeIs I2 g, d_getItem hu I2 g ry fun w' s3 I3 rw' => ⟨v, H2, I3, rw', q2⟩⟩
theorem pc_din (hu : X.A.units + 1 < cLine) (hi : PE X i ty) (ho : PE X o td) : PC X .In i o (tDIn ty td) := by
  intro pins s σ H Q I h
  refine thn (hi pins s σ H _ I h) fun iv s1 ⟨y, H1, I1, ry, q1⟩ => thn (ho pins s1 σ H1 _ I1 q1) fun u s2 ⟨x, H2, I2, rx, a, ov, ex, g, q2⟩ => ?_
  subst ex
  obtain rfl : u = Value.ref a := rx
  exact d_in hu I2 g ry fun s3 I3 => ⟨.bl ov.isSome, H2, I3, rfl, q2⟩
theorem pc_dnotin (hu : X.A.units + 1 < cLine) (hi : PE X i ty) (ho : PE X o td) : PC X .NotIn i o (tDNotIn ty td) := by
  intro pins s σ H Q I h
  refine thn (hi pins s σ H _ I h) fun iv s1 ⟨y, H1, I1, ry, q1⟩ => thn (ho pins s1 σ H1 _ I1 q1) fun u s2 ⟨x, H2, I2, rx, a, ov, ex, g, q2⟩ => ?_
  subst ex
  obtain rfl : u = Value.ref a := rx
  exact d_notIn hu I2 g ry fun s3 I3 => ⟨.bl (!ov.isSome), H2, I3, rfl, q2⟩
theorem ps_dput (hu : X.A.units + 1 < cLine) (ho : PE X o td) (hi : PE X i ty) (hv : PE X value tv) (hs : swapsWith value (some (.Subscript o i pos')) pos.line X.env = pure false) :
    PS X (.Assign [.Subscript o i pos'] value pos) (sDPut td ty tv) := by
  intro pins s σ H D I h
  refine wpAny_Assign_Subscript (thn (hv pins s σ H _ I h) fun r s1 ⟨v, H1, I1, rv, q1⟩ => thn (ho pins s1 σ H1 _ I1 q1) fun u s2 ⟨x, H2, I2, rx, q2⟩ => thn (hi pins s2 σ H2 _ I2 q2) fun iv s3 ⟨y, H3, I3, ry, a, H4, ex, g, q3⟩ => ?_) hs
  subst ex
  obtain rfl : u = Value.ref a := rx
  exact d_setItem hu I3 g ry rv fun s4 I4 => ⟨σ, H4, I4, q3⟩
end
theorem dk_empty {P : Program} {w : World} {H : Hp} (h : Heap) (hb : sysModules < h.objs.size) : ObjOk P w H (h.push { cls := .type "dict", data := .dict #[] }) h.objs.size (.dK []) :=
  ⟨Nat.zero_le _, beq_eq_false_iff_ne.mpr (Ne.symm (Nat.ne_of_lt hb)), [], .nil, Heap.DictOf.new h⟩
theorem dt_empty {P : Program} {w : World} {H : Hp} (h : Heap) (hb : sysModules < h.objs.size) : ObjOk P w H (h.push { cls := .type "dict", data := .dict #[] }) h.objs.size (.dT []) :=
  ⟨Nat.zero_le _, beq_eq_false_iff_ne.mpr (Ne.symm (Nat.ne_of_lt hb)), [], .nil, _, #[], 0, Heap.get?_push_size _ rfl, ⟨rfl, rfl, rfl⟩, rfl, rfl, List.nodup_nil⟩
section
variable {X : Cx} {pos : Pos}
end
structure M1 (X : Cx) (o : Expr) (m : Str) (apos : Pos) (e : Expr) (cpos : Pos) : Prop where
  base : attributeBase o m X.env (eval o X.env) = eval o X.env
  few : ((backTo cpos (starEach [e] X.env)).all (fun x => !x.1) && (backToKw cpos (keywordEach [] X.env)).all (fun x => x.1.isSome)
    && decide (([e] : List Expr).length + ([] : List Keyword).length + (if ([] : List Keyword).isEmpty then 0 else 1) < 30)) = true
  line : (apos.endLine == cpos.line) = true
  trees : backTo cpos (starEach [e] X.env) = [(false, eval e X.env)]
structure M2 (X : Cx) (o : Expr) (m : Str) (apos : Pos) (e f : Expr) (cpos : Pos) : Prop where
  base : attributeBase o m X.env (eval o X.env) = eval o X.env
  few : ((backTo cpos (starEach [e, f] X.env)).all (fun x => !x.1) && (backToKw cpos (keywordEach [] X.env)).all (fun x => x.1.isSome)
    && decide (([e, f] : List Expr).length + ([] : List Keyword).length + (if ([] : List Keyword).isEmpty then 0 else 1) < 30)) = true
  line : (apos.endLine == cpos.line) = true
  trees : backTo cpos (starEach [e, f] X.env) = [(false, eval e X.env), (false, eval f X.env)]
def IsD (H : Hp) (a : Addr) : Prop := (∃ kvs, Rd H a (.dK kvs)) ∨ ∃ kvs, Rd H a (.dT kvs)
theorem isD_at {X : Cx} {pins : List (Addr × Obj)} {σ : St} {H : Hp} {s : Shared} {a : Addr} (I : Inv X pins σ H s) (d : IsD H a) :
    s.TypeIs (.ref a) "dict" ∧ (∀ b, Value.ref a = .ref b → ∃ ob, s.heap.get? b = some ob ∧ ob.dict = none) ∧ (a == sysModules) = false := by
  rcases d with ⟨kvs, e⟩ | ⟨kvs, e⟩
  · obtain ⟨_, hd, vs, _, dd⟩ := dk_rd I.hok e
    refine ⟨dd.typeIs, fun b q => ?_, hd⟩
    cases q
    obtain ⟨ob, _, _, h1, h2, _⟩ := dd
    exact ⟨ob, h1, h2.2.1⟩
  · obtain ⟨_, hd, xs, _, dd⟩ := dt_rd I.hok e
    refine ⟨dd.typeIs, fun b q => ?_, hd⟩
    cases q
    obtain ⟨ob, _, _, h1, h2, _⟩ := dd
    exact ⟨ob, h1, h2.2.1⟩
section
variable {X : Cx} {pins : List (Addr × Obj)} {σ : St} {H : Hp} {s : Shared} {a : Addr} {y d : V} {u r : Value} {o : Option V} {A : Around} {E : Value → Shared → Prop}
theorem d_get2 {Q : Value → Shared → Prop} (hu : A.units + 1 < cLine) (I : Inv X pins σ H s) (g : DGet H a y o) (ry : RelV y u) (rd : RelV d r) (h : ∀ w' s', Inv X pins σ H s' → RelV (o.getD d) w' → Q w' s') :
    wpAny (model X.prog X.w) A (call (.builtin "dict.get") [.ref a, u, r]) Q E s := by
  rcases g with ⟨kvs, k, e, ey, l⟩ | ⟨kvs, k, b, e, ey, eb, l⟩
  · subst ey
    obtain ⟨z, hd, vs, rel, dd⟩ := dk_rd I.hok e
    refine call_meetsIn PySem.F.slot_dict_get dd.typeIs PySem.F.entry_dict_get (PySem.F.args_dict_get_3 _ _ _) (meets_dict_get_default (mixKind X.prog X.w) a (kV_is ry) hd r) ⟨_, dd.mapOf, h _ _ (I.tok _) ?_⟩
    rw [l]
    exact (rel.val k).getD rd
  · subst ey
    cases (show u = Value.ref b from ry)
    obtain ⟨z, hd, xs, rel, dd⟩ := dt_rd I.hok e
    refine call_meetsIn PySem.F.slot_dict_get dd.typeIs PySem.F.entry_dict_get (PySem.F.args_dict_get_3 _ _ _) (meetsH_dict_get_default (tupleKind (mixKind X.prog X.w)) a b hd r) ⟨tupleKind_room_in1 hu, k, xs, key_of I.hok eb, dd, h _ _ (I.tok _) ?_⟩
    rw [l]
    exact (rel.val k).getD rd
end
def tDGet2 (td ty tx : TE) : TE := fun σ H Q => td σ H fun x H1 => ∃ a, x = .ref a ∧ IsD H1 a ∧ ty σ H1 fun y H2 => tx σ H2 fun z H3 => ∃ o, DGet H3 a y o ∧ Q (o.getD z) H3
section
variable {X : Cx} {o e f : Expr} {apos cpos : Pos} {td ty tx : TE}
theorem pe_dget2 (hu : X.A.units + 1 < cLine) (ho : PE X o td) (he : PE X e ty) (hf : PE X f tx) (m : M2 X o "get" apos e f cpos) : PE X (.Call (.Attribute o "get" apos) [e, f] [] cpos) (tDGet2 td ty tx) := by
  intro pins s σ H Q I h
  refine wpAny_Call_method m.base m.few m.line PySem.F.plainAttrs_dict PySem.F.slot_dict_get PySem.F.type_dict_get (thn (ho pins s σ H _ I h) fun u s1 ⟨x, H1, I1, rx, a, ex, d, q1⟩ => ?_)
  subst ex
  obtain rfl : u = Value.ref a := rx
  obtain ⟨t1, t2, _⟩ := isD_at I1 d
  refine ⟨t1, t2, ?_⟩
  rw [m.trees]
  refine Calls.callWith_builtin rfl (Calls.evalArgs_plain (Calls.spliced_cons (thn (he pins s1 σ H1 _ I1 q1) fun iv s2 ⟨y, H2, I2, ry, q2⟩ =>
    Calls.spliced_cons (thn (hf pins s2 σ H2 _ I2 q2) fun fv s3 ⟨z, H3, I3, rz, ov, g, q3⟩ => Calls.spliced_nil ?_))))
  exact d_get2 hu I3 g ry rz fun w' s4 I4 rw' => ⟨_, H3, I4, rw', q3⟩
end
section
variable {X : Cx} {pins : List (Addr × Obj)} {σ : St} {H : Hp} {s : Shared} {a : Addr} {kvs : List (Key × V)} {A : Around} {E : Value → Shared → Prop}
end
section
variable {X : Cx} {pins : List (Addr × Obj)} {σ : St} {H : Hp} {s : Shared} {a : Addr} {y : V} {u : Value} {A : Around} {E : Value → Shared → Prop}
end
end L2
namespace L2
open PySem PySem.Spec PyProof.Rows
section
variable {prog : Program} {w : World} {A : Around} {E : Value → Shared → Prop}
end
section
variable {X : Cx}
end
end L2
namespace L2
open PySem PySem.Spec PyProof.Rows
section
variable {X : Cx} {pins : List (Addr × Obj)} {σ : St} {H : Hp} {s : Shared} {h' : Heap}
theorem Inv.turnedL {t' : Nat} {ch : List Addr} (I : Inv X pins σ H s) (k : ∀ b o, b ∉ ch → s.heap.get? b = some o → h'.get? b = some o) (hf : ∀ b ∈ ch, FpOk X pins H b) : Inv X pins σ H { s with heap := h', toks := t' } := by
  have nit : ∀ b u, H b = some u → b ∉ ch := fun b u e z => by
    have q := (hf b z).1
    rw [q] at e; cases e
  refine I.step (g' := s.gens) (d' := s.drawn) (ch := ch) (fun b hb => ⟨(hf b hb).2.2.2.1, (hf b hb).2.1, (hf b hb).2.2.2.2.1, (hf b hb).2.2.2.2.2⟩) (fun b o _ _ hc e _ => k b o hc e) (fun b o _ _ hc e _ => ⟨o.slots, k b o hc e⟩)
    (fun _ _ _ _ n => n) (fun b o hc e => ⟨o, k b o hc e⟩) (fun _ _ e => e) (fun _ _ _ e => e) (fun b ps e => ⟨#[], by rw [e]; simp⟩) (fun m hm => ?_) (fun b u e => ?_) I.bare
  · obtain ⟨o, es, ep, ho, r⟩ := hm
    exact ⟨o, es, ep, k _ o (fun z => (hf _ z).2.1 rfl) ho, r⟩
  · refine (I.hok b u e).stay (fun c v hc q => k c v ?_ q) (fun _ q => q) fun _ _ q => q
    rcases hc with z | z
    · rw [z]; exact nit b u e
    · exact nit c _ z
theorem Inv.turnedNew {t' : Nat} {ch : List Addr} {T : Addr} {ob : HO} (I : Inv X pins σ H s) (k : ∀ b o, b ∉ ch → s.heap.get? b = some o → h'.get? b = some o) (hf : ∀ b ∈ ch, FpOk X pins H b) (hT : s.heap.objs.size ≤ T)
    (new : ObjOk X.prog X.w (upd H T ob) h' T ob) : Inv X pins σ (upd H T ob) { s with heap := h', toks := t' } := by
  have hn : H T = none := I.hok.fresh hT
  have nit : ∀ b u, H b = some u → b ∉ ch := fun b u e z => by
    have q := (hf b z).1
    rw [q] at e; cases e
  refine I.step (g' := s.gens) (d' := s.drawn) (ch := ch) (fun b hb => ⟨(hf b hb).2.2.2.1, (hf b hb).2.1, (hf b hb).2.2.2.2.1, (hf b hb).2.2.2.2.2⟩) (fun b o _ _ hc e _ => k b o hc e) (fun b o _ _ hc e _ => ⟨o.slots, k b o hc e⟩)
    (fun b o _ e n => ?_) (fun b o hc e => ⟨o, k b o hc e⟩) (fun b xs e => ?_) (fun b o u e => ?_) (fun b ps e => ⟨#[], ?_⟩) (fun m hm => ?_) (fun b u e => ?_) I.bare
  · rw [upd_ne (Nat.ne_of_lt (Nat.lt_of_lt_of_le (Heap.lt_size e) hT))]; exact n
  · rw [upd_ne (ne_of_none e hn)]; exact e
  · rw [upd_ne (ne_of_none e hn)]; exact e
  · rw [upd_ne (ne_of_none e hn), e]; simp
  · obtain ⟨o, es, ep, ho, r⟩ := hm
    exact ⟨o, es, ep, k _ o (fun z => (hf _ z).2.1 rfl) ho, r⟩
  · by_cases hb : b = T
    · subst hb
      rw [upd_same] at e
      cases e
      exact new
    · rw [upd_ne hb] at e
      refine (I.hok b u e).stay (fun c v hc q => k c v ?_ q) (fun c q => by rw [upd_ne (ne_of_none q hn)]; exact q) fun c xs q => by rw [upd_ne (ne_of_none q hn)]; exact q
      rcases hc with z | z
      · rw [z]; exact nit b u e
      · exact nit c _ z
theorem Inv.lock {d : Addr} {u : HO} (I : Inv X pins σ H s) (h : H d = some u) (mu : Mut (some u)) : ∃ od, Inv X pins σ (upd H d (.frz od u)) s := by
  have x := I.hok d u h
  have ex : ∃ od, s.heap.get? d = some od := by
    cases u with
    | lst xs => obtain ⟨_, _, _, _, e⟩ := x; exact ⟨_, e⟩
    | dK kvs => obtain ⟨_, _, _, _, o, _, _, e, _⟩ := x; exact ⟨o, e⟩
    | dT kvs => obtain ⟨_, _, _, _, o, _, _, e, _⟩ := x; exact ⟨o, e⟩
    | set S n => obtain ⟨o, _, _, _, e, _⟩ := x; exact ⟨o, e⟩
    | ins C dx fs => obtain ⟨_, _, _, e, _⟩ := x; exact ⟨_, e⟩
    | ext φ => obtain ⟨_, ⟨_, e⟩, _⟩ := x; exact ⟨_, e⟩
    | _ => exact False.elim mu
  obtain ⟨od, e⟩ := ex
  have new : ObjOk X.prog X.w (upd H d (.frz od u)) s.heap d (.frz od u) := by
    refine ⟨e, x.stay (fun b v _ q => q) (fun b q => ?_) fun b xs q => ?_⟩
    · rw [upd_ne (fun z => by rw [z, h] at q; cases q; exact mu)]; exact q
    · rw [upd_ne (fun z => by rw [z, h] at q; cases q; exact mu)]; exact q
  exact ⟨od, I.write (x := d) (e := d) (t' := s.toks) (h' := s.heap) (by rw [h]; exact mu) (.inl rfl) (fun b v _ q => q) ⟨od, e⟩ new⟩
theorem Inv.unlock {d : Addr} {od : Obj} {u : HO} (I : Inv X pins σ H s) (h : H d = some (.frz od u)) (hn : ∀ o' u', X.H_0 d ≠ some (.frz o' u')) : Inv X pins σ (upd H d u) s := by
  have neH : ∀ b o, H b = some o → (∀ o' u', o ≠ .frz o' u') → b ≠ d := fun b o e hne z => by
    rw [z, h] at e
    cases e
    exact hne _ _ rfl
  have neN : ∀ b, H b = none → b ≠ d := fun b e z => by rw [z, h] at e; cases e
  refine ⟨I.ok, I.os, I.bare, ⟨I.base.keep, I.base.slot, fun b o e n hx => ?_, I.base.there, fun b xs e => ?_, fun b o x e => ?_, fun b ps e => ?_⟩, I.loc, I.cell, ?_, fun x c e => ?_, fun p hp => ?_, fun b o e => ?_, I.len⟩
  · rw [upd_ne (neN b (I.base.free b o e n hx))]; exact I.base.free b o e n hx
  · have q := I.base.tups b xs e
    rw [upd_ne (neH b _ q (fun _ _ z => nomatch z))]; exact q
  · have q := I.base.frzs b o x e
    rw [upd_ne (fun z => by rw [z] at e; exact hn _ _ e)]; exact q
  · obtain ⟨m, q⟩ := I.base.tbls b ps e
    exact ⟨m, by rw [upd_ne (neH b _ q (fun _ _ z => nomatch z))]; exact q⟩
  · rw [upd_ne (neN _ I.free)]; exact I.free
  · rw [upd_ne (neN c (I.freeC x c e))]; exact I.freeC x c e
  · obtain ⟨e, n, r⟩ := I.pin p hp
    exact ⟨e, by rw [upd_ne (neN _ n)]; exact n, r⟩
  · by_cases hb : b = d
    · rw [hb, upd_same] at e
      cases e
      rw [hb]
      obtain ⟨_, x⟩ := I.hok d _ h
      exact x.stay (fun c v _ q => q) (fun c q => by rw [upd_ne (neH c _ q (fun _ _ z => nomatch z))]; exact q) fun c xs q => by rw [upd_ne (neH c _ q (fun _ _ z => nomatch z))]; exact q
    · rw [upd_ne hb] at e
      exact (I.hok b o e).stay (fun c v _ q => q) (fun c q => by rw [upd_ne (neH c _ q (fun _ _ z => nomatch z))]; exact q) fun c xs q => by rw [upd_ne (neH c _ q (fun _ _ z => nomatch z))]; exact q
end
def tLock (t : TS) : TS := fun D σ H => ∃ d u, H d = some u ∧ Mut (some u) ∧ ∀ od, t ⟨fun σ' H' => H' d = some (.frz od u) ∧ D.nx σ' (upd H' d u), fun v H' => H' d = some (.frz od u) ∧ D.rt v (upd H' d u), fun σ' H' => H' d = some (.frz od u) ∧ D.bk σ' (upd H' d u), fun σ' H' => H' d = some (.frz od u) ∧ D.ct σ' (upd H' d u)⟩ σ (upd H d (.frz od u))
section
variable {X : Cx}
theorem pi_one {tg : Expr} {pins : List (Addr × Obj)} {σ : St} {H : Hp} {s : Shared} {R : It → Hp → Prop} {J : It} {tn : Nat → Heap → Prop} {tk : Nat} (I : Inv X pins σ H s) (o : Obj)
    (T : Turn X.prog X.w X.K tg J [s.heap.objs.size] s.heap.objs.size tn) (st : tn 0 (s.heap.push o)) (q : R J H) : PIE X pins σ tg R (.ref s.heap.objs.size) { s with heap := s.heap.push o, toks := tk } := by
  refine ⟨s.heap.objs.size, [s.heap.objs.size], tn, J, H, rfl, I.kept fun b ob e => Heap.get?_push_of_some _ e, T, st, fun b hb => ?_, q⟩
  have e : b = s.heap.objs.size := by simpa using hb
  subst e
  exact I.fpOk (Nat.le_refl _) (I.hok.fresh (Nat.le_refl _))
end
def RgC (i j c : Int) (n : Nat) : Prop := c ≠ 0 ∧ c.natAbs < 1073741824 ∧ Builtin.Range.small i j c = true ∧ Builtin.Range.rangeSize i j c = n
theorem RgC.neg {i j : Int} (ha : -(2 ^ 62) ≤ i) (ha' : i < 2 ^ 62) (hb : -(2 ^ 62) ≤ j) (hb' : j < 2 ^ 62) : RgC i j (-1) (i - j).toNat :=
  ⟨by decide, by decide, PySem.W.small_down ha ha' hb hb', PySem.W.rangeSize_downNat i j⟩
section
variable {X : Cx} {tg : Expr}
end
section
variable {X : Cx} {tg : Expr}
end
section
variable {prog : Program} {w : World} {A : Around} {E : Value → Shared → Prop} {s : Shared}
theorem iter_keys {d : Addr} {o : Obj} {es : Array DictEntry} {ep : Nat} {Q : Value → Shared → Prop} (hd : (d == sysModules) = false) (ho : s.heap.get? d = some o) (hc : o.ExactDict) (hdat : o.data = .dict es ep)
    (hQ : Q (.ref s.heap.objs.size) { s with heap := s.heap.push { cls := .type "dict_keyiterator", data := .fields #[.ref d, .int 0 0, .int es.size 0, .int ep 0] } }) :
    wpAny (model prog w) A (pyIter (.ref d)) Q E s := by
  have hT : s.TypeIs (.ref d) "dict" := ⟨o, ho, hc.1⟩
  refine wpAny_pyIter_slot hT F.slot_dict_iter (wpAny_call_entry F.slot_dict_iter hT F.entry_dict_iter ?_ (F.args_dict_iter_1 _))
  unfold Builtin.«dict.__iter__»
  refine wpAny_bind ?_
  unfold Builtin.Dict.dictSlotNone
  refine wpAny_bind (wpAny_notOrdered_dict hT ?_)
  show wpAny _ _ (pure (Value.ref d)) _ _ s
  refine wpAny_pure ?_
  show wpAny _ _ (Builtin.Dict.showsAll d >>= _) _ _ s
  unfold Builtin.Dict.showsAll
  rw [if_neg (by rw [hd]; exact Bool.false_ne_true)]
  refine wpAny_bind (wpAny_pure ?_)
  refine wpAny_bind (wpAny_dictEntries ho hdat ?_)
  refine wpAny_bind (wpAny_dictEpoch ho hdat ?_)
  refine wpAny_bind (wpAny_newObj_type (wpAny_pure ⟨_, rfl, "dict_keyiterator", _, ⟨_, Heap.get?_push_size _ rfl, rfl⟩, F.slot_dict_keyiterator_next.lookup, ?_⟩))
  simpa [rawInt] using hQ
theorem next_key_item {it d : Addr} {i n ep : Nat} {od : Obj} {es : Array DictEntry} {en : DictEntry} {Q : Option Value → Shared → Prop} (hit : s.heap.IsKeyIter it d i n ep) (hod : s.heap.get? d = some od) (hdd : od.data = .dict es ep)
    (hsz : es.size = n) (hx : es[i]? = some en) (hQ : ∀ h', h'.IsKeyIter it d (i + 1) n ep → Heap.SameBut it s.heap h' → Q (some en.key) { s with heap := h' }) : wpAny (model prog w) A (pyNext (.ref it)) Q E s := by
  obtain ⟨o, ho, hc, hd⟩ := id hit
  unfold pyNext
  refine wpAny_bind (wpAny_attempt (wpAny_callSpecial?_slot (name := Str.ofString "__next__") hit.typeIs F.slot_dict_keyiterator_next
    (wpAny_call_entry F.slot_dict_keyiterator_next hit.typeIs F.entry_dict_keyiterator_next ?_ (F.args_dict_keyiterator_next_1 _))))
  refine wpAny_bind (wpAny_pure ?_)
  refine wpAny_bind ?_
  refine wpAny_bind ?_
  first | refine wpAny_bind (wpAny_typeNameOfWhole_keyiter hit.typeIs (wpAny_pure ?_)) | refine wpAny_bind (wpAny_typeNameOf_keyiter hit.typeIs (wpAny_pure ?_))
  refine wpAny_bind (wpAny_fieldsOf ho hd ?_)
  have hown : Builtin.Dict_items.ownsTuple "dict_keyiterator" = false := by decide
  simp only [hown, Bool.false_eq_true, if_false]
  show wpAny _ _ (if (Value.ref d == Value.none) = true then _ else _) _ _ s
  rw [if_neg (show ¬ ((Value.ref d == Value.none) = true) from Bool.false_ne_true)]
  refine wpAny_bind (wpAny_pure ?_)
  refine wpAny_bind (wpAny_dictEntries hod hdd ?_)
  rw [if_neg (by rw [hsz]; simp)]
  refine wpAny_bind (wpAny_pure ?_)
  refine wpAny_bind (wpAny_dictEpoch hod hdd ?_)
  rw [if_neg (by simp)]
  refine wpAny_pure ?_
  obtain ⟨hlt', hen⟩ := Array.getElem?_eq_some_iff.mp hx
  simp only [show ¬ ((i : Int) < 0) from by omega, if_false, Int.toNat_natCast, Array.getElem?_eq_getElem hlt']
  refine wpAny_bind ?_
  first | refine wpAny_bind (wpAny_typeNameOfWhole_keyiter hit.typeIs (wpAny_pure ?_)) | refine wpAny_bind (wpAny_typeNameOf_keyiter hit.typeIs (wpAny_pure ?_))
  refine wpAny_bind (wpAny_isOneOf_keyiter hit.typeIs ?_)
  show wpAny _ _ (setField (.ref it) 1 (rawInt ((i : Int) + 1)) >>= _) _ _ s
  refine wpAny_bind (wpAny_setField ho hd (by simp) ?_)
  have hit' : (s.heap.update it (Obj.mapFields (·.setIfInBounds 1 (rawInt ((i : Int) + 1))))).IsKeyIter it d (i + 1) n ep :=
    ⟨_, Heap.get?_update_self _ ho (Obj.isFreed_of_fields (Obj.data_mapFields hd _)), (Obj.cls_mapFields ..).trans hc, by rw [Obj.data_mapFields hd]; simp [rawInt]⟩
  refine wpAny_bind (wpAny_holding ?_)
  refine wpAny_bind (wpAny_isOneOf_keyiter (s := { s with heap := s.heap.update it (Obj.mapFields (·.setIfInBounds 1 (rawInt ((i : Int) + 1)))) }) hit'.typeIs ?_)
  show wpAny _ _ (pure es[i].key) _ _ _
  rw [hen]
  exact wpAny_pure (wpAny_pure ⟨_, rfl, wpAny_pure (hQ _ hit' (Heap.SameBut.update ..))⟩)
theorem next_key_end {it d : Addr} {i n ep : Nat} {od : Obj} {es : Array DictEntry} {Q : Option Value → Shared → Prop} (hh : A.handled = none) (hit : s.heap.IsKeyIter it d i n ep) (hod : s.heap.get? d = some od) (hdd : od.data = .dict es ep)
    (hsz : es.size = n) (hge : n ≤ i) (hQ : ∀ h', Heap.ExtBut it s.heap h' → Q none { s with heap := h' }) : wpAny (model prog w) A (pyNext (.ref it)) Q E s := by
  obtain ⟨o, ho, hc, hd⟩ := id hit
  unfold pyNext
  refine wpAny_bind (wpAny_attempt (wpAny_callSpecial?_slot (name := Str.ofString "__next__") hit.typeIs F.slot_dict_keyiterator_next
    (wpAny_call_entry F.slot_dict_keyiterator_next hit.typeIs F.entry_dict_keyiterator_next ?_ (F.args_dict_keyiterator_next_1 _))))
  refine wpAny_bind (wpAny_pure ?_)
  refine wpAny_bind ?_
  refine wpAny_bind ?_
  first | refine wpAny_bind (wpAny_typeNameOfWhole_keyiter hit.typeIs (wpAny_pure ?_)) | refine wpAny_bind (wpAny_typeNameOf_keyiter hit.typeIs (wpAny_pure ?_))
  refine wpAny_bind (wpAny_fieldsOf ho hd ?_)
  have hown : Builtin.Dict_items.ownsTuple "dict_keyiterator" = false := by decide
  simp only [hown, Bool.false_eq_true, if_false]
  show wpAny _ _ (if (Value.ref d == Value.none) = true then _ else _) _ _ s
  rw [if_neg (show ¬ ((Value.ref d == Value.none) = true) from Bool.false_ne_true)]
  refine wpAny_bind (wpAny_pure ?_)
  refine wpAny_bind (wpAny_dictEntries hod hdd ?_)
  rw [if_neg (by rw [hsz]; simp)]
  refine wpAny_bind (wpAny_pure ?_)
  refine wpAny_bind (wpAny_dictEpoch hod hdd ?_)
  rw [if_neg (by simp)]
  refine wpAny_pure ?_
  have hge' : es.size ≤ i := by rw [hsz]; exact hge
  simp only [show ¬ ((i : Int) < 0) from by omega, if_false, Int.toNat_natCast, Array.getElem?_eq_none hge']
  refine wpAny_bind ?_
  first | refine wpAny_bind (wpAny_typeNameOfWhole_keyiter hit.typeIs (wpAny_pure ?_)) | refine wpAny_bind (wpAny_typeNameOf_keyiter hit.typeIs (wpAny_pure ?_))
  show wpAny _ _ (setField (.ref it) 0 .none >>= _) _ _ s
  refine wpAny_bind (wpAny_setField ho hd (by simp) ?_)
  show wpAny _ _ (newExc (.type "StopIteration") [] >>= _) _ _ _
  refine wpAny_bind ?_
  simp only [newExc, newTuple]
  refine wpAny_bind (wpAny_newObj_type ?_ (by size_fits))
  refine wpAny_bind (m := firstArgMember _ _) (wpAny_of_eq (a := Value.none) (by first | rfl | (simp only [firstArgMember]; rfl)) ?_)
  refine wpAny_newObj_type ?_ (by size_fits)
  simp only [raiseNew]
  refine wpAny_bind (wpAny_handled ?_)
  rw [show A.in1.handled = none from hh]
  refine wpAny_bind (wpAny_pure (wpAny_throw ?_))
  refine wpAny_bind (wpAny_isInstance (T := "StopIteration") (b := true) ⟨_, Heap.get?_push_size _ rfl, rfl⟩ isSubtype_stop ?_)
  exact wpAny_pure (hQ _ (((Heap.SameBut.update ..).extBut.push _).push _))
end
theorem kv_get {κ : Type} {kvs : List (κ × V)} {vs : List (κ × Value)} (h : KV kvs vs) : ∀ {i : Nat} {k : κ} {v : V}, kvs[i]? = some (k, v) → ∃ u, vs[i]? = some (k, u) ∧ RelV v u := by
  unfold KV at h
  induction h with
  | nil => intro i k v e; simp at e
  | @cons a b l₁ l₂ r t ih =>
    intro i k v e
    cases i with
    | zero =>
      simp only [List.getElem?_cons_zero, Option.some.injEq] at e
      subst e
      refine ⟨b.2, ?_, r.2⟩
      simp only [List.getElem?_cons_zero]
      exact congrArg some (Prod.ext r.1.symm rfl)
    | succ j =>
      simp only [List.getElem?_cons_succ] at e ⊢
      exact ih e
theorem paired_get {α β : Type} {G : α → β → Prop} {l₁ : List α} {l₂ : List β} (h : Paired G l₁ l₂) : ∀ {i : Nat} {a : α}, l₁[i]? = some a → ∃ b, l₂[i]? = some b ∧ G a b := by
  induction h with
  | nil => intro i a e; simp at e
  | @cons a b l₁ l₂ r t ih =>
    intro i a' e
    cases i with
    | zero =>
      simp only [List.getElem?_cons_zero, Option.some.injEq] at e
      subst e
      exact ⟨b, rfl, r⟩
    | succ j =>
      simp only [List.getElem?_cons_succ] at e ⊢
      exact ih e
theorem relV_key {k : Key} {u : Value} (h : keyIs k u = true) : RelV (kV k) u := by
  rcases keyIs_shape h with ⟨i, t, rfl, rfl⟩ | ⟨x, t, rfl, rfl⟩
  · exact ⟨t, rfl⟩
  · exact ⟨t, rfl⟩
section
variable {X : Cx} {pins : List (Addr × Obj)} {σ : St} {H : Hp} {s : Shared} {d : Addr} {o : Obj}
theorem Inv.frzK {kvs : List (Key × V)} (I : Inv X pins σ H s) (h : H d = some (.frz o (.dK kvs))) :
    (d == sysModules) = false ∧ s.heap.get? d = some o ∧ o.ExactDict ∧ ∃ (es : Array DictEntry) (ep : Nat) (vs : List (Key × Value)), o.data = .dict es ep ∧ es.size = kvs.length ∧ KV kvs vs ∧ s.heap.DictAt (mixKind X.prog X.w) d vs ep := by
  obtain ⟨hd, z, hs, vs, kv, o', es, ep, ho, hx, hdt, r⟩ := I.hok d _ h
  rw [hd] at ho
  cases ho
  refine ⟨hs, hd, hx, es, ep, vs, hdt, ?_, kv, o, es, hd, hx, hdt, r⟩
  have l1 := r.2.1.length
  have l2 : kvs.length = vs.length := Paired.length kv
  rw [Array.length_toList] at l1
  omega
theorem Inv.frzT {kvs : List (List Key × V)} (I : Inv X pins σ H s) (h : H d = some (.frz o (.dT kvs))) :
    (d == sysModules) = false ∧ s.heap.get? d = some o ∧ o.ExactDict ∧ ∃ (es : Array DictEntry) (ep : Nat), o.data = .dict es ep ∧ es.size = kvs.length ∧
      ∀ (i : Nat) (k : List Key) (v : V), kvs[i]? = some (k, v) → ∃ (en : DictEntry) (q : Addr), es[i]? = some en ∧ en.key = .ref q ∧ H q = some (.tup (k.map kV)) := by
  obtain ⟨hd, z, hs, xs, pr, o', es, ep, ho, hx, hdt, he, _⟩ := I.hok d _ h
  rw [hd] at ho
  cases ho
  refine ⟨hs, hd, hx, es, ep, hdt, ?_, fun i k v e => ?_⟩
  · have l1 : es.size = xs.length := size_of_entries he
    have l2 : kvs.length = xs.length := Paired.length pr
    omega
  · obtain ⟨b, hb, e1, e2, _⟩ := paired_get pr e
    have q := entry_at he i
    rw [hb] at q
    exact ⟨_, b.2.1, q, rfl, e2⟩
end
def Itk (d : Addr) (o : Obj) (kvs : List (Key × V)) : It :=
  ⟨fun i H => H d = some (.frz o (.dK kvs)) ∧ i < kvs.length, fun i H x H' => H' = H ∧ ∃ k v, kvs[i]? = some (k, v) ∧ x = kV k, fun i H => H d = some (.frz o (.dK kvs)) ∧ kvs.length ≤ i⟩
def Itkt (d : Addr) (o : Obj) (kvs : List (List Key × V)) : It :=
  ⟨fun i H => H d = some (.frz o (.dT kvs)) ∧ i < kvs.length, fun i H x H' => H' = H ∧ ∃ (k : List Key) (v : V) (q : Addr), kvs[i]? = some (k, v) ∧ x = .ref q ∧ H q = some (.tup (k.map kV)), fun i H => H d = some (.frz o (.dT kvs)) ∧ kvs.length ≤ i⟩
theorem dict_ep {o : Obj} {es es' : Array DictEntry} {ep ep' : Nat} (h : o.data = .dict es ep) (h' : o.data = .dict es' ep') : es' = es ∧ ep' = ep := by
  rw [h] at h'
  cases h'
  exact ⟨rfl, rfl⟩
section
variable {P : Program} {w : World} {K : PySem.W.Frag} {tg : Expr} {d : Addr} {o : Obj} {es : Array DictEntry} {ep : Nat}
theorem turn_keys {kvs : List (Key × V)} (it : Addr) (hod : o.data = .dict es ep) : Turn P w K tg (Itk d o kvs) [it] it (fun i h => h.IsKeyIter it d i kvs.length ep) where
  mem := by simp
  obj := fun i h st b hb => by
    have e : b = it := by simpa using hb
    subst e
    obtain ⟨oi, e, c, dd⟩ := st
    exact ⟨oi, e, fun v z => by rw [dd] at z; cases z⟩
  keep := fun i h h' st k => st.at fun oi e => k it (by simp) oi e
  item := by
    intro X hP hw hK hc i pins s σ H E I hf st hg
    subst hP hw hK
    obtain ⟨hd, hi⟩ := hg
    obtain ⟨f0, f1, f2, f3, f4, f5⟩ := hf it (by simp)
    obtain ⟨hs, hgd, hx, es', ep', vs, hdt, hsz, kv, hm⟩ := I.frzK hd
    obtain ⟨rfl, rfl⟩ := dict_ep hod hdt
    obtain ⟨⟨k, v⟩, hkv⟩ : ∃ p, kvs[i]? = some p := ⟨kvs[i], List.getElem?_eq_getElem hi⟩
    obtain ⟨u, hu, ru⟩ := kv_get kv hkv
    have hl : kvs.length = vs.length := Paired.length kv
    rw [hl] at st
    refine wpAny_pyNext_dict_item st hm hu fun key h' hkey st' sb => ?_
    have I1 : Inv X pins σ H { s with heap := h' } := I.turned (t' := s.toks) (fun b ob hb e => (sb.2 b hb).trans e) f0 f1 f3 f4 f5
    obtain ⟨oi, e, c, dd⟩ := id st'
    refine ⟨key, rfl, go_of (s := { s with heap := h' }) e c dd (by decide) ⟨kV k, H, I1, relV_key (show keyIs k key = true from hkey), ⟨rfl, k, v, hkv, rfl⟩, ?_, fun b hb => (hf b hb).1⟩⟩
    show h'.IsKeyIter it d (i + 1) kvs.length _
    rw [hl]
    exact st'
  done := by
    intro X hP hw hK hc i pins s σ H E I hf st hg
    subst hP hw hK
    obtain ⟨hd, hi⟩ := hg
    obtain ⟨f0, f1, f2, f3, f4, f5⟩ := hf it (by simp)
    obtain ⟨hs, hgd, hx, es', ep', vs, hdt, hsz, kv, hm⟩ := I.frzK hd
    obtain ⟨rfl, rfl⟩ := dict_ep hod hdt
    exact next_key_end (I.ok.hd hc) st hgd hdt hsz hi fun h' eb => ⟨rfl, I.turned (t' := s.toks) (fun b ob hb e => eb b ob hb e) f0 f1 f3 f4 f5⟩
  self := fun A i s Q E st h => wpAny_pyIter_keyiter st h
theorem turn_keysT {kvs : List (List Key × V)} (it : Addr) (hod : o.data = .dict es ep) : Turn P w K tg (Itkt d o kvs) [it] it (fun i h => h.IsKeyIter it d i kvs.length ep) where
  mem := by simp
  obj := fun i h st b hb => by
    have e : b = it := by simpa using hb
    subst e
    obtain ⟨oi, e, c, dd⟩ := st
    exact ⟨oi, e, fun v z => by rw [dd] at z; cases z⟩
  keep := fun i h h' st k => st.at fun oi e => k it (by simp) oi e
  item := by
    intro X hP hw hK hc i pins s σ H E I hf st hg
    subst hP hw hK
    obtain ⟨hd, hi⟩ := hg
    obtain ⟨f0, f1, f2, f3, f4, f5⟩ := hf it (by simp)
    obtain ⟨hs, hgd, hx, es', ep', hdt, hsz, ent⟩ := I.frzT hd
    obtain ⟨rfl, rfl⟩ := dict_ep hod hdt
    obtain ⟨⟨k, v⟩, hkv⟩ : ∃ p, kvs[i]? = some p := ⟨kvs[i], List.getElem?_eq_getElem hi⟩
    obtain ⟨en, q, hen, hkey, hq⟩ := ent i k v hkv
    refine next_key_item st hgd hdt hsz hen fun h' st' sb => ?_
    have I1 : Inv X pins σ H { s with heap := h' } := I.turned (t' := s.toks) (fun b ob hb e => (sb.2 b hb).trans e) f0 f1 f3 f4 f5
    obtain ⟨oi, e, c, dd⟩ := id st'
    exact ⟨en.key, rfl, go_of (s := { s with heap := h' }) e c dd (by decide) ⟨.ref q, H, I1, hkey, ⟨rfl, k, v, q, hkv, rfl, hq⟩, st', fun b hb => (hf b hb).1⟩⟩
  done := by
    intro X hP hw hK hc i pins s σ H E I hf st hg
    subst hP hw hK
    obtain ⟨hd, hi⟩ := hg
    obtain ⟨f0, f1, f2, f3, f4, f5⟩ := hf it (by simp)
    obtain ⟨hs, hgd, hx, es', ep', hdt, hsz, ent⟩ := I.frzT hd
    obtain ⟨rfl, rfl⟩ := dict_ep hod hdt
    exact next_key_end (I.ok.hd hc) st hgd hdt hsz hi fun h' eb => ⟨rfl, I.turned (t' := s.toks) (fun b ob hb e => eb b ob hb e) f0 f1 f3 f4 f5⟩
  self := fun A i s Q E st h => by
    refine wpAny_pyIter_slot st.typeIs F.slot_dict_keyiterator_iter (wpAny_call_entry F.slot_dict_keyiterator_iter st.typeIs F.entry_dict_keyiterator_iter ?_ (F.args_dict_keyiterator_iter_1 _))
    show wpAny _ _ (ret (.ref it)) _ _ s
    exact wpAny_pure ⟨_, rfl, "dict_keyiterator", _, st.typeIs, F.slot_dict_keyiterator_next.lookup, h⟩
end
def iKeys (td : TE) : TI := fun σ H R => td σ H fun x H1 => ∃ d o, x = .ref d ∧ ((∃ kvs, H1 d = some (.frz o (.dK kvs)) ∧ R (Itk d o kvs) H1) ∨ ∃ kvs, H1 d = some (.frz o (.dT kvs)) ∧ R (Itkt d o kvs) H1)
section
variable {X : Cx} {tg e : Expr} {td : TE} {apos cpos : Pos}
theorem pi_keys (he : PE X e td) : PI X tg e (iKeys td) := by
  intro pins s σ H R I h
  refine thn (he pins s σ H _ I h) fun u s1 ⟨x, H1, I1, rx, d, o, ex, q⟩ => ?_
  subst ex
  obtain rfl : u = Value.ref d := rx
  rcases q with ⟨kvs, hd, q⟩ | ⟨kvs, hd, q⟩
  · obtain ⟨hs, hgd, hx, es, ep, vs, hdt, hsz, kv, hm⟩ := I1.frzK hd
    refine iter_keys hs hgd hx hdt (pi_one (tk := s1.toks) I1 _ (turn_keys _ hdt) ⟨_, Heap.get?_push_size _ rfl, rfl, ?_⟩ q)
    rw [hsz] <;> rfl
  · obtain ⟨hs, hgd, hx, es, ep, hdt, hsz, ent⟩ := I1.frzT hd
    refine iter_keys hs hgd hx hdt (pi_one (tk := s1.toks) I1 _ (turn_keysT _ hdt) ⟨_, Heap.get?_push_size _ rfl, rfl, ?_⟩ q)
    rw [hsz] <;> rfl
end
theorem boot_zip5 : bootBuiltins "zip" = some (.type "zip") := by decide +kernel
def Itz (K : PySem.W.Frag) (a b : Addr) : It :=
  ⟨fun i H => ∃ (xs ys : List V) (x y : V), SqL K H a xs ∧ SqL K H b ys ∧ xs[i]? = some x ∧ ys[i]? = some y,
    fun i H v H' => ∃ T x y, v = .ref T ∧ H T = none ∧ H' = upd H T (.tup [x, y]) ∧ (∀ xs, SqL K H a xs → xs[i]? = some x) ∧ ∀ ys, SqL K H b ys → ys[i]? = some y,
    fun i H => ∃ xs ys : List V, SqL K H a xs ∧ SqL K H b ys ∧ (xs.length ≤ i ∨ ys.length ≤ i)⟩
theorem turn_zip {P : Program} {w : World} {K : PySem.W.Frag} {elts : List Expr} {kk : Nat} {tpos : Pos} {a b z TI TO i1 i2 : Addr} (D : ZipApart z TI TO i1 i2 a b) :
    Turn P w K (.Tuple elts kk tpos) (Itz K a b) [z, TI, TO, i1, i2] z (fun i h => IsZip h z TI TO .none ∧ IsPair h TI (.ref i1) (.ref i2) ∧ (∃ x y, IsPair h TO x y) ∧ h.IsListIter i1 a i ∧ h.IsListIter i2 b i) where
  mem := by simp
  obj := fun i h st c hc => by
    obtain ⟨hz, hTI, ⟨x, y, hTO⟩, ⟨o1, e1, _, d1⟩, ⟨o2, e2, _, d2⟩⟩ := st
    have e' : c = z ∨ c = TI ∨ c = TO ∨ c = i1 ∨ c = i2 := by simpa using hc
    rcases e' with q | q | q | q | q
    · rw [q]; exact ⟨_, hz, fun v q => nomatch q⟩
    · rw [q]; exact ⟨_, hTI, fun v q => nomatch q⟩
    · rw [q]; exact ⟨_, hTO, fun v q => nomatch q⟩
    · rw [q]; exact ⟨o1, e1, fun v q => by rw [d1] at q; cases q⟩
    · rw [q]; exact ⟨o2, e2, fun v q => by rw [d2] at q; cases q⟩
  keep := fun i h h' st k => by
    obtain ⟨hz, hTI, ⟨x, y, hTO⟩, h1, h2⟩ := st
    exact ⟨k z (by simp) _ hz, k TI (by simp) _ hTI, ⟨x, y, k TO (by simp) _ hTO⟩, h1.at fun o q => k i1 (by simp) o q, h2.at fun o q => k i2 (by simp) o q⟩
  item := by
    intro X hP hw hK hc i pins s σ H E I hf st hg
    subst hP hw hK
    obtain ⟨hz, hTI, ⟨x0, y0, hTO⟩, h1, h2⟩ := st
    obtain ⟨xs, ys, x, y, hqx, hqy, hx, hy⟩ := hg
    obtain ⟨its, rv, p, _⟩ := I.list hqx
    obtain ⟨its2, rv2, p2, _⟩ := I.list hqy
    obtain ⟨u, hu, ru⟩ := rv.get hx
    obtain ⟨u2, hu2, ru2⟩ := rv2.get hy
    have hzl : z < s.heap.objs.size := Heap.lt_size hz
    refine wpAny_pyNext_zip_item D hz hTI hTO h1 h2 p.isList p2.isList (x := u) (y := u2) (by simpa using hu) (by simpa using hu2) fun h' z' TO' h1' h2' hT hsz hk => ?_
    refine ⟨_, rfl, wpAny_letOwnedTupleGo_zip (s := { s with heap := h' }) z' fun h'' z'' sb => ?_⟩
    have hT2 : h''.get? s.heap.objs.size = some { cls := .type "tuple", data := .seq #[u, u2] } := (sb.2 _ (Nat.ne_of_gt hzl)).trans hT
    have new : ObjOk X.prog X.w (upd H s.heap.objs.size (.tup [x, y])) h'' s.heap.objs.size (.tup [x, y]) :=
      ⟨by show 2 ≤ sizeLine; decide, [u, u2], .cons ru (.cons ru2 .nil), ⟨_, hT2, rfl, _, rfl⟩⟩
    have I1 : Inv X pins σ (upd H s.heap.objs.size (.tup [x, y])) { s with heap := h'' } :=
      I.turnedNew (t' := s.toks) (ch := [z, TI, TO, i1, i2]) (fun c o hb q => (sb.2 c (fun q' => hb (by simp [q']))).trans (hk c o (fun q' => hb (by simp [q'])) (fun q' => hb (by simp [q'])) (fun q' => hb (by simp [q'])) (fun q' => hb (by simp [q'])) q)) hf (Nat.le_refl _) new
    refine ⟨.ref s.heap.objs.size, _, I1, rfl, ⟨_, x, y, rfl, I.hok.fresh (Nat.le_refl _), rfl, fun l hl => by rw [I.list_inj hl hqx]; exact hx, fun l hl => by rw [I.list_inj hl hqy]; exact hy⟩, ⟨z'', ?_, ⟨u, u2, ?_⟩, ?_, ?_⟩, fun c hcm => ?_⟩
    · exact (sb.2 _ D.TIz).trans (hk _ _ D.TIz D.TITO D.TIi1 D.TIi2 hTI)
    · exact (sb.2 _ D.TOz).trans TO'
    · exact h1'.at fun o q => (sb.2 _ D.i1z).trans q
    · exact h2'.at fun o q => (sb.2 _ D.i2z).trans q
    · have hlt : c < s.heap.objs.size := by
        have e' : c = z ∨ c = TI ∨ c = TO ∨ c = i1 ∨ c = i2 := by simpa using hcm
        rcases e' with q | q | q | q | q
        · rw [q]; exact hzl
        · rw [q]; exact Heap.lt_size hTI
        · rw [q]; exact Heap.lt_size hTO
        · rw [q]; obtain ⟨_, e1, _⟩ := h1; exact Heap.lt_size e1
        · rw [q]; obtain ⟨_, e2, _⟩ := h2; exact Heap.lt_size e2
      rw [upd_ne (Nat.ne_of_lt hlt)]
      exact (hf c hcm).1
  done := by
    intro X hP hw hK hc i pins s σ H E I hf st hg
    subst hP hw hK
    obtain ⟨hz, hTI, ⟨x0, y0, hTO⟩, h1, h2⟩ := st
    obtain ⟨xs, ys, hqx, hqy, hend⟩ := hg
    obtain ⟨its, rv, p, _⟩ := I.list hqx
    obtain ⟨its2, rv2, p2, _⟩ := I.list hqy
    have l1 := rv.length
    have l2 := rv2.length
    have he : its.toArray[i]? = none ∨ its2.toArray[i]? = none := by
      rcases hend with q | q
      · exact .inl (by simp; omega)
      · exact .inr (by simp; omega)
    exact wpAny_pyNext_zip_end (I.ok.hd hc) D hz hTI hTO h1 h2 p.isList p2.isList he fun h' hk => ⟨rfl, I.turnedL (t' := s.toks) (ch := [z, TI, TO, i1, i2]) (fun c o hb q =>
      hk c o (fun q' => hb (by simp [q'])) (fun q' => hb (by simp [q'])) (fun q' => hb (by simp [q'])) (fun q' => hb (by simp [q'])) q) hf⟩
  self := fun A i s Q E st h => wpAny_pyIter_zip st.1 h
def iZip (K : PySem.W.Frag) (ta : TA) : TI := fun σ H R => ta σ H fun vs H1 => ∃ a b xs ys, vs = [.ref a, .ref b] ∧ SqL K H1 a xs ∧ SqL K H1 b ys ∧ R (Itz K a b) H1
theorem pi_zip {X : Cx} {e e2 : Expr} {ta : TA} {p pos tpos : Pos} {elts : List Expr} {kk : Nat} (hg : Gl X "zip") (hm : X.mg "zip" = none) (ha : PA X [e, e2] ta)
    (hs : starEach [e, e2] X.env = (false, eval e X.env) :: starEach [e2] X.env := by rfl) (hpl : (backTo pos (starEach [e2] X.env)).any (·.1) = false := by rfl) :
    PI X (.Tuple elts kk tpos) (.Call (.Name "zip" p) [e, e2] [] pos) (iZip X.K ta) := by
  intro pins s σ H R I h
  refine Call_ (ld_blt I hg hm boot_zip5 (PyProof.Rows.callWith_type1 (thn (ha pos pins s σ H _ I h) fun us s1 ⟨vs, H1, I1, r1, q1⟩ => ?_) hs hpl))
  obtain ⟨a, b, xs, ys, ex, hqx, hqy, q⟩ := q1
  subst ex
  cases r1 with
  | cons r rr =>
    cases rr with
    | cons r' rr =>
      cases rr
      cases r
      cases r'
      obtain ⟨its, rv, p1, _⟩ := I1.list hqx
      obtain ⟨its2, rv2, p2, _⟩ := I1.list hqy
      have la : a < s1.heap.objs.size := p1.lt
      have lb : b < s1.heap.objs.size := p2.lt
      refine call_zip_2 p1.isList p2.isList fun h' hz hTI hTO h1 h2 hsz hk => wpAny_pyIter_zip hz ?_
      have I2 : Inv X pins σ H1 { s1 with heap := h' } := I1.kept (t' := s1.toks) hk
      refine ⟨s1.heap.objs.size + 4, [s1.heap.objs.size + 4, s1.heap.objs.size + 2, s1.heap.objs.size + 3, s1.heap.objs.size, s1.heap.objs.size + 1], _, _, H1, rfl, I2, turn_zip (PySem.W.ktu_apart s1.heap.objs.size a b la lb), ⟨hz, hTI, ⟨_, _, hTO⟩, h1, h2⟩, fun c hcm => ?_, q⟩
      have e' : c = s1.heap.objs.size + 4 ∨ c = s1.heap.objs.size + 2 ∨ c = s1.heap.objs.size + 3 ∨ c = s1.heap.objs.size ∨ c = s1.heap.objs.size + 1 := by simpa using hcm
      have hle : s1.heap.objs.size ≤ c := by
        rcases e' with z | z | z | z | z
        · rw [z]; exact Nat.le_add_right _ _
        · rw [z]; exact Nat.le_add_right _ _
        · rw [z]; exact Nat.le_add_right _ _
        · rw [z]; exact Nat.le_refl _
        · rw [z]; exact Nat.le_add_right _ _
      exact I1.fpOk hle (I1.hok.fresh hle)
end L2
section
namespace Bits
open PySem PyProof.Rows
end Bits
end
section
namespace TL
open PySem PySem.Builtin PySem.Builtin.Str PySem.StrLaws
abbrev tl (x : Str) : List Nat := x.cps.toList
def pre (S l : List Nat) : Bool := l.take S.length == S
def par (S : List Nat) : List Nat → List Nat → Option (List Nat × List Nat)
  | _, [] => none
  | acc, c :: r => if pre S (c :: r) = true then some (acc, (c :: r).drop S.length) else par S (acc ++ [c]) r
end TL
end
namespace L2
open PySem PySem.Spec PyProof.Rows
theorem vals_strs : ∀ l : List (Str × Tok), Vals ((l.map (·.1)).map V.str) (strValues l)
  | [] => .nil
  | p :: r => .cons ⟨p.2, rfl⟩ (vals_strs r)
theorem strs_of_vals : ∀ {ys : List Str} {us : List Value}, Vals (ys.map V.str) us → StrsAre us ys
  | [], _, .nil => .nil
  | y :: ys, _, .cons r t => by
    obtain ⟨k, rfl⟩ := r
    exact .cons y k (strs_of_vals t)
def rNewStrs (ys : List Str) : Hp → VK → Prop := fun H Q => ∀ p, H p = none → Q (.ref p) (upd H p (.lst (ys.map V.str)))
section
variable {X : Cx} {pins : List (Addr × Obj)} {σ : St} {H : Hp} {s : Shared} {Q : VK}
theorem laid_strs {l : List (Str × Tok)} {ys : List Str} {k : Nat} (I : Inv X pins σ H s) (e : l.map (·.1) = ys) (hz : ys.length ≤ sizeLine) (h : rNewStrs ys H Q) :
    EP X pins σ Q (.ref s.heap.objs.size) { s with toks := k, heap := s.heap.push { cls := .type "list", data := .seq (strValues l).toArray } } := by
  have hp := I.hok.fresh (Nat.le_refl _)
  refine ⟨.ref s.heap.objs.size, upd H s.heap.objs.size (.lst (ys.map V.str)), I.laid (fun b u q => Heap.get?_push_of_some _ q) (Nat.le_refl _) ⟨by rw [List.length_map]; exact hz, strValues l, _, ?_, Heap.get?_push_size _ rfl⟩, rfl, h _ hp⟩
  rw [← e]
  exact vals_strs l
end
section
variable {X : Cx}
theorem mt_split : MtR X "str.split" (fun x xs H Q => ∃ a b, x = .str a ∧ xs = [.str b] ∧ (b.length == 0) = false ∧ a.length + 2 ≤ sizeLine ∧ rNewStrs (Txt.split a b) H Q) := by
  intro pins s σ H x xs v us Q I rx rs h
  obtain ⟨a, b, rfl, rfl, hb, hz, h⟩ := h
  obtain ⟨t, rfl⟩ := rx
  cases rs with
  | cons r1 rs =>
    cases rs
    obtain ⟨u, rfl⟩ := r1
    have hl : (Txt.split a b).length ≤ sizeLine := Nat.le_trans (PyProof.Rows.split_le a b) hz
    have hn : (Builtin.Str.partsBetween a (Builtin.Str.occurrences a b 0 a.length (a.length + 1)) b.length).length ≤ sizeLine := by
      have e1 := StrLaws.occ_length_le a b 0 a.length (a.length + 1)
      rw [length_partsBetween]; omega
    cases h1 : (decide (a.length < b.length) || decide (Builtin.Str.strKind a < Builtin.Str.strKind b))
    · cases hf : (Builtin.Str.occurrences a b 0 a.length (a.length + 1)).isEmpty
      · refine call_meets F.slot_str_split (typeIs_str _ _ _) F.entry_str_split (F.args_str_split_2 _ _) (meets_str_split_sep a b t u h1 hb hf (by omega) hn) ?_
        show EP X pins σ Q (.ref s.heap.objs.size) { s with toks := _, heap := s.heap.push { cls := .type "list", data := .seq (strsFrom s.toks (Builtin.Str.partsBetween a (Builtin.Str.occurrences a b 0 a.length (a.length + 1)) b.length)).toArray } }
        rw [strsFrom_eq]
        exact laid_strs (ys := Txt.split a b) I ((numbered_texts _ _).trans ((if_neg (ne_true_of_eq_false h1)).trans (if_neg (ne_true_of_eq_false hf))).symm) hl h
      · refine call_meets F.slot_str_split (typeIs_str _ _ _) F.entry_str_split (F.args_str_split_2 _ _) (meets_str_split_not_found a b t u h1 hb hf) ?_
        exact laid_strs (l := [(a, t)]) (ys := Txt.split a b) (k := s.toks) I ((if_neg (ne_true_of_eq_false h1)).trans (if_pos hf)).symm hl h
    · refine call_meets F.slot_str_split (typeIs_str _ _ _) F.entry_str_split (F.args_str_split_2 _ _) (meets_str_split_cannot_occur a b t u h1) ?_
      exact laid_strs (l := [(a, t)]) (ys := Txt.split a b) (k := s.toks) I (if_pos h1).symm hl h
theorem mt_join : MtR X "str.join" (fun x xs H Q => ∃ a p, ∃ ys : List Str, x = .str a ∧ xs = [.ref p] ∧ (SqL X.K H p (ys.map V.str) ∨ SqT X.K H p (ys.map V.str)) ∧
    (ys.map (·.length)).sum + ys.length * a.length ≤ 16777216 ∧ Q (.str (Txt.join a ys)) H) := by
  intro pins s σ H x xs v us Q I rx rs h
  obtain ⟨a, p, ys, rfl, rfl, hp, hz, h⟩ := h
  obtain ⟨t, rfl⟩ := rx
  cases rs with
  | cons r1 rs =>
    cases rs
    cases r1
    rcases hp with hp | hp
    · obtain ⟨its, r, ⟨o, n, ho, hc, _, hd⟩, _⟩ := I.list hp
      exact PyProof.Rows.join_list (items := its.toArray) ⟨o, ho, hc, n, hd⟩ (by rw [List.toList_toArray]; exact strs_of_vals r) hz fun t' k => ⟨.str _, H, I.tok k, ⟨t', rfl⟩, h⟩
    · obtain ⟨its, r, ht, _⟩ := I.tuple hp
      exact PyProof.Rows.join_tuple (items := its.toArray) ht (by rw [List.toList_toArray]; exact strs_of_vals r) hz fun t' k => ⟨.str _, H, I.tok k, ⟨t', rfl⟩, h⟩
end
section
variable {X : Cx} {o e : Expr} {to te : TE}
def tM0 (r : V → List V → Hp → VK → Prop) (to : TE) : TE := fun σ H Q => to σ H fun x H1 => (∃ a, x = .str a) ∧ r x [] H1 Q
def tM1 (r : V → List V → Hp → VK → Prop) (to te : TE) : TE := fun σ H Q => to σ H fun x H1 => (∃ a, x = .str a) ∧ te σ H1 fun y H2 => r x [y] H2 Q
theorem pe_m0 {id : String} {name : Str} {apos pos : Pos} {r : V → List V → Hp → VK → Prop} (slot : Slot "str" name id) (ty : typeOf (.builtin id) = pure (.type "method_descriptor")) (rule : MtR X id r) (ho : PE X o to)
    (hbase : attributeBase o name X.env (eval o X.env) = eval o X.env := by rfl) (hline : (apos.endLine == pos.line) = true := by rfl) : PE X (.Call (.Attribute o name apos) [] [] pos) (tM0 r to) := by
  intro pins s σ H Q I h
  refine PySem.Call_method0 hbase hline (thn (ho pins s σ H _ I h) fun v s1 ⟨x, H1, I1, r1, q1⟩ => ?_)
  obtain ⟨⟨a, rfl⟩, q1⟩ := q1
  obtain ⟨t, rfl⟩ := _root_.id r1
  exact ⟨"str", _, F.plainAttrs_str, slot, ty, typeIs_str _ _ _, (fun _ e => nomatch e), Calls.callWith_builtin rfl (PySem.evalArgs_none (rule pins s1 σ H1 _ [] _ [] Q I1 r1 .nil q1))⟩
theorem pe_m1 {id : String} {name : Str} {apos pos : Pos} {r : V → List V → Hp → VK → Prop} (slot : Slot "str" name id) (ty : typeOf (.builtin id) = pure (.type "method_descriptor")) (rule : MtR X id r) (ho : PE X o to) (he : PE X e te)
    (hs : starEach [e] X.env = [(false, eval e X.env)] := by rfl) (hbase : attributeBase o name X.env (eval o X.env) = eval o X.env := by rfl) (hline : (apos.endLine == pos.line) = true := by rfl) :
    PE X (.Call (.Attribute o name apos) [e] [] pos) (tM1 r to te) := by
  intro pins s σ H Q I h
  refine PySem.Call_method1 hbase hs hline (thn (ho pins s σ H _ I h) fun v s1 ⟨x, H1, I1, r1, q1⟩ => ?_)
  obtain ⟨⟨a, rfl⟩, q1⟩ := q1
  obtain ⟨t, rfl⟩ := _root_.id r1
  refine ⟨"str", _, F.plainAttrs_str, slot, ty, typeIs_str _ _ _, (fun _ e => nomatch e), Calls.callWith_builtin rfl (Calls.evalArgs_plain (Calls.spliced_cons ?_))⟩
  exact thn (he pins s1 σ H1 _ I1 q1) fun u s2 ⟨y, H2, I2, r2, q2⟩ => Calls.spliced_nil (rule pins s2 σ H2 _ [y] _ [u] Q I2 r1 (.cons r2 .nil) q2)
theorem pe_split {apos pos : Pos} (ho : PE X o to) (he : PE X e te) (hs : starEach [e] X.env = [(false, eval e X.env)] := by rfl) (hbase : attributeBase o "split" X.env (eval o X.env) = eval o X.env := by rfl) (hline : (apos.endLine == pos.line) = true := by rfl) :
    PE X (.Call (.Attribute o "split" apos) [e] [] pos) (tM1 (fun x xs H Q => ∃ a b, x = .str a ∧ xs = [.str b] ∧ (b.length == 0) = false ∧ a.length + 2 ≤ sizeLine ∧ rNewStrs (Txt.split a b) H Q) to te) :=
  pe_m1 F.slot_str_split F.type_str_split mt_split ho he hs hbase hline
theorem pe_join {apos pos : Pos} (ho : PE X o to) (he : PE X e te) (hs : starEach [e] X.env = [(false, eval e X.env)] := by rfl) (hbase : attributeBase o "join" X.env (eval o X.env) = eval o X.env := by rfl) (hline : (apos.endLine == pos.line) = true := by rfl) :
    PE X (.Call (.Attribute o "join" apos) [e] [] pos) (tM1 (fun x xs H Q => ∃ a p, ∃ ys : List Str, x = .str a ∧ xs = [.ref p] ∧ (SqL X.K H p (ys.map V.str) ∨ SqT X.K H p (ys.map V.str)) ∧
      (ys.map (·.length)).sum + ys.length * a.length ≤ 16777216 ∧ Q (.str (Txt.join a ys)) H) to te) :=
  pe_m1 F.slot_str_join F.type_str_join mt_join ho he hs hbase hline
end
end L2
namespace L2
open PySem PySem.Spec PyProof.Rows
section
variable {X : Cx}
end
theorem IsPart.raw {v : Value} {o : Option Int} (p : IsPart v o) : ∃ l : Option (Int × Tok), v = partValue l ∧ l.map (·.1) = o := by
  cases p with
  | none => exact ⟨none, rfl, rfl⟩
  | int i t => exact ⟨some (i, t), rfl, rfl⟩
end L2
namespace Att
open PySem PySem.W PySem.Calls PyProof.Rows
theorem ints_of_wellAll {P : Params} {h : Heap} : ∀ (ns : List Int) (vs : List Value), WellAll P h vs (ns.map WData.int) → IntsAre vs ns := by
  intro ns
  induction ns with
  | nil =>
    intro vs w
    rw [List.map_nil] at w
    cases w
    exact .nil
  | cons n ns ih =>
    intro vs w
    rw [List.map_cons] at w
    cases w with
    | cons a b =>
      cases a
      exact .cons _ _ (ih _ b)
theorem script_of {l : OpenLaw} {n : Nat} (hn : l.most = some n) {P : Params} {h : Heap} {args : List WData} {vals : List Value}
    (hpre : l.row.toRowW.claim.pre args = true) (hwl : WellAll P h vals args) :
    ∃ a vs ns, vals = [Value.ref a] ∧ args = [WData.list (ns.map WData.int)] ∧ h.get? a = some { cls := .type "list", data := .seq vs.toArray } ∧ IntsAre vs ns ∧ ns.length ≤ n := by
  have hsh : WShape.hasAll [] args [.list .int] = true := (pre_splitW hpre).1
  have hc : l.pre.holds [] { args := args } = true := (pre_splitW hpre).2
  obtain ⟨d, r, rfl, h1, h2⟩ := hasAllW_cons hsh
  obtain rfl := hasAllW_nil h2
  obtain ⟨xs, rfl, h3⟩ := hasW_list h1
  obtain ⟨ns, rfl⟩ := items_int h3
  have hlen : ns.length ≤ n := by
    unfold OpenLaw.pre at hc
    have h4 : (WTm.not (.lt (.lit (.int (n : Int))) (.len (.arg 0)))).holds [] { args := [.list (ns.map .int)] } = true := by
      have h4 := (holds_andW hc).1
      rw [hn] at h4
      exact h4
    have h5 := condW_of h4 (w_not (w_lt w_lit (w_len_list (w_arg rfl))))
    rw [List.length_map] at h5
    refine Nat.le_of_not_lt fun q => ?_
    have q' : (n : Int) < ((ns.length : Nat) : Int) := by omega
    first
      | (rw [decide_eq_true q'] at h5; exact absurd h5 (by decide))
      | (simp at h5; omega)
  cases hwl with
  | cons w1 w2 =>
    cases w2
    cases w1 with
    | list ho hall => exact ⟨_, _, ns, rfl, rfl, ho, ints_of_wellAll ns _ hall, hlen⟩
theorem post_true (l : OpenLaw) (args : List WData) : l.row.toRowW.claim.post args (.bool true) args = true :=
  postW_of (r := l.row.toRowW) (X := (true == true))
    (show WShape.has [] (.bool true) .bool = true by first | rfl | decide | simp [WShape.has, WShape.arms, WShape.armsAll])
    (show (WTm.eq .res (.lit (.bool true))).value [] { args := args, res := some (.bool true), after := args } = some (.bool (true == true)) from w_eq_bool (w_res rfl) w_lit) rfl
theorem attach_call {l : OpenLaw} {n : Nat} {q : Program} {loose : List Str} {XP : (Str → Option Value) → Heap → Prop} {YP : World → Heap → Prop} {d : DefRec}
    (hn : l.most = some n) (hdf : d.params.defaults = [])
    (call : ∀ (w : World) (s₀ s₁ : Shared) (mg mb : Str → Option Value) (fa : Addr) (o : Obj) (pm cd doc : Value) (a : Addr) (vs : List Value) (ns : List Int),
      Ground q loose [] XP w s₀ mg mb s₁.heap → YP w s₁.heap →
      s₁.heap.get? fa = some o → o.data = .func (docDef d.name d.params d.body d.scope pm cd doc) → s₁.heap.CodeRec cd d.name → mg d.name = some (.ref fa) →
      s₁.heap.get? a = some { cls := .type "list", data := .seq vs.toArray } → IntsAre vs ns → ns.length ≤ n → s₁.gens = #[] →
      codeAny (model l.prog w) callerA (.call (.ref fa) ⟨[.ref a], []⟩) (fun r s' => r = .ok (.ret (.bool true)) ∧ OldK s₁.heap s'.heap ∧ s'.os = s₁.os ∧ AllBare s'.gens) s₁) :
    WalkO q loose XP YP l.row.toRowW d [] (fun f vs => PySem.call f vs) := by
  intro w s₀ s₁ mg mb G Y fa o pm cd doc dV kV ho hd hcd hD hmg hg args vals as hpre hlay hrd hwl hlo
  obtain rfl : dV = .none := Dflts.none hD hdf
  obtain rfl : kV = .none := Dflts.noKw hD
  obtain ⟨a, vs, ns, rfl, rfl, hobj, hints, hlen⟩ := script_of hn hpre hwl
  refine enter_call (codeAny_mono (call w s₀ s₁ mg mb fa o pm cd doc a vs ns G Y ho (fd_plain hd) hcd hmg hobj hints hlen hg) fun r s' hq => ?_)
  obtain ⟨rfl, h2, h3, h4⟩ := hq
  exact ⟨.inl ⟨.bool true, .bool true, [], rfl, fun _ => rfl, .bool true, post_true l _, fun _ => ⟨List.Pairwise.nil, fun _ hm => (nomatch hm)⟩⟩, h2, h3, h4⟩
section
variable {prog : Program} {w : World} {A : Around} {E : Value → Shared → Prop} {s : Shared} {K : Frag}
end
end Att
namespace L2
open PySem PySem.Spec PyProof.Rows
theorem vals_ints : ∀ {vs : List Value} {ns : List Int}, IntsAre vs ns → Vals (ns.map V.int) vs
  | _, _, .nil => .nil
  | _, _, .cons n t h => .cons ⟨t, rfl⟩ (vals_ints h)
end L2
namespace L2
open PySem PySem.Spec PyProof.Rows
end L2
namespace L2
open PySem PySem.Spec PyProof.Rows
def defArgs (s : Stmt) : Arguments := match s with
  | .FunctionDef _ a _ _ _ _ _ _ _ _ => a
  | _ => { posonlyargs := [], args := [], vararg := none, kwonlyargs := [], kw_defaults := [], kwarg := none, defaults := [] }
def defBody (s : Stmt) : List Stmt := match s with
  | .FunctionDef _ _ b _ _ _ _ _ _ _ => b
  | _ => []
def defScope (s : Stmt) : Scope := match s with
  | .FunctionDef _ _ _ _ _ _ sc _ _ _ => sc
  | _ => { kind := .function, names := [], isGenerator := false, isCoroutine := false }
abbrev CX0 : CXT := fun _ _ _ _ _ _ => False
abbrev E0 : XK := fun _ _ _ => False
theorem pass0 {X : Cx} : Passes CX0 X E0 := fun _ _ _ _ _ _ _ h => h.elim
structure Fun (K : PySem.W.Frag) (x qual : Str) (st : Stmt) (f : Addr) (fd : FuncData) : Prop where
  ex : ∃ (oc : Value) (od : Option Addr) (kV doc pm : Value) (an : Option Addr) (cdv ct : Value) (osl : Array (Option Value)),
    fd = PySem.W.fnOf x qual (defArgs st) (defBody st) (defScope st) .none kV doc pm an cdv ct ∧ K.lookup f = some ⟨oc, od, .func fd, osl⟩ ∧ PySem.W.codeIn K cdv qual = true
  kp : PySem.W.keepIn K (.ref f) = true
section
variable {P : Program} {w : World} {K : PySem.W.Frag} {mg : Str → Option Value} {base : Heap}
theorem Fun.ok {x qual : Str} {st : Stmt} {f : Addr} {fd : FuncData} {N ps : List Str} {k : Nat} {sp : Sp} (F : Fun K x qual st f fd) (S : FnScope N ps (defScope st)) (len : ∀ vs H Q E, sp vs H Q E → vs.length = ps.length)
    (hbody : ∀ (cdv : Value) (A : Around) (outer : List Env) (s : Shared) (H : Hp) (vs : List V) (Q : VK) (E : XK), Room k (A.deeper (envOfC qual (defScope st) s.heap.objs.size f cdv)) → sp vs H Q E →
      ∃ t, PSs (cxOf CX0 P w K mg base N qual (defScope st) f cdv A outer s H E).nox (defBody st) t ∧ t { nx := fun _ H' => Q .non H', rt := Q } (start N vs) H) : FnOk P w K mg base CX0 (k + 1) f fd ps sp := by
  obtain ⟨oc, od, kV, doc, pm, an, cdv, ct, osl, rfl, lk, hcd⟩ := F.ex
  refine fn_of lk hcd S len fun A outer s H vs Q E hr hsp => ?_
  obtain ⟨t, h, q⟩ := hbody cdv A outer s H vs Q E hr hsp
  exact ⟨t, h.nox, q⟩
theorem Fun.binds {x qual : Str} {st : Stmt} {f : Addr} {fd : FuncData} {ps : List Str} (F : Fun K x qual st f fd)
    (h : ∀ (kV doc pm : Value) (an : Option Addr) (cdv ct : Value) (us : List Value), us.length = ps.length → bindArgs (PySem.W.fnOf x qual (defArgs st) (defBody st) (defScope st) .none kV doc pm an cdv ct) ⟨us, []⟩ = pure (ps.zip us)) : Binds K fd ps [] := by
  obtain ⟨oc, od, kV, doc, pm, an, cdv, ct, osl, rfl, lk, hcd⟩ := F.ex
  exact .all (h kV doc pm an cdv ct)
theorem fun_mk {x qual : Str} {st : Stmt} {f : Addr} {oc : Value} {od an : Option Addr} {osl : Array (Option Value)} {kV doc pm cdv ct : Value} (l : K.lookup f = some ⟨oc, od, .func (PySem.W.fnOf x qual (defArgs st) (defBody st) (defScope st) .none kV doc pm an cdv ct), osl⟩)
    (c : PySem.W.codeIn K cdv qual = true) (k : PySem.W.keepIn K (.ref f) = true) : Fun K x qual st f (PySem.W.fnOf x qual (defArgs st) (defBody st) (defScope st) .none kV doc pm an cdv ct) := ⟨⟨oc, od, kV, doc, pm, an, cdv, ct, osl, rfl, l, c⟩, k⟩
end
section
variable {X : Cx}
theorem pv (i : Nat) {x : Str} {pos : Pos} (hN : X.N[i]? = some x := by rfl) (hv : Vis X.env.scope x := by first | exact Or.inl rfl | exact Or.inr (Or.inl rfl) | exact Or.inr (Or.inr rfl)) (hd : (x == ("__debug__" : Str)) = false := by decide)
    (hcd : (x == ("__classdict__" : Str)) = false := by decide) : PE X (.Name x pos) (tVar i) := pe_var hN hv hd hcd
end
theorem iteF {A B : Prop} (h : B) : if false = true then A else B := by
  rw [if_neg Bool.false_ne_true]
  exact h
theorem iteT {A B : Prop} (h : A) : if true = true then A else B := by
  rw [if_pos rfl]
  exact h
theorem ite2 {c A B : Prop} [Decidable c] (h1 : c → A) (h2 : ¬ c → B) : if c then A else B := by
  by_cases h : c
  · rw [if_pos h]
    exact h1 h
  · rw [if_neg h]
    exact h2 h
def Same (H H' : Hp) : Prop := ∀ b o, H b = some o → H' b = some o
theorem Same.refl (H : Hp) : Same H H := fun _ _ h => h
theorem Same.trans {H H1 H2 : Hp} (a : Same H H1) (b : Same H1 H2) : Same H H2 := fun c o h => b c o (a c o h)
theorem Same.free {H H' : Hp} (e : Same H H') {l : Addr} (h : H' l = Option.none) : H l = Option.none := by
  cases q : H l with
  | none => rfl
  | some o =>
    rw [e l o q] at h
    cases h
theorem Same.seq {K : PySem.W.Frag} {H H' : Hp} {a : Addr} {xs : List V} (e : Same H H') (h : SqL K H a xs) : SqL K H' a xs := by
  rcases h with (h | ⟨o, h⟩) | h
  · exact .inl (.inl (e _ _ h))
  · exact .inl (.inr ⟨o, e _ _ h⟩)
  · exact .inr h
section
variable {κ : Type} [DecidableEq κ]
end
theorem at_of {xs : List V} {z : Int} {j : Nat} {v : V} (e : z = (j : Int)) (h : xs[j]? = some v) : atI xs z = some v := by
  rw [e]
  exact atI_nat h
theorem Same.made {H H1 : Hp} {x dx C : Addr} (nx : H x = Option.none) (nd : H dx = Option.none) (k : ∀ b o, (upd (upd H dx (.own x)) x (.ins C dx [])) b = some o → b ≠ x → H1 b = some o) : Same H H1 := fun b o e =>
  k b o (by rw [upd_ne (ne_of_none e nx), upd_ne (ne_of_none e nd)]; exact e) (ne_of_none e nx)
end L2
section
set_option Elab.async false
set_option linter.all false
set_option maxRecDepth 100000
namespace L2
open PySem PySem.Spec PyProof.Rows
inductive TyV (K : PySem.W.Frag) (H : Hp) : V → String → Prop
  | int (i : Int) : TyV K H (.int i) "int"
  | str (x : Str) : TyV K H (.str x) "str"
  | bl (b : Bool) : TyV K H (.bl b) "bool"
  | lst {a : Addr} {xs : List V} : SqL K H a xs → TyV K H (.ref a) "list"
  | tup {a : Addr} {xs : List V} : SqT K H a xs → TyV K H (.ref a) "tuple"
def isiB (n T : String) : Bool := n == T || (n == "bool" && T == "int")
def rIsi (K : PySem.W.Frag) : List V → Hp → VK → Prop := fun xs H Q => ∃ x n T b, xs = [x, .ty T] ∧ TyV K H x n ∧ T ∈ ["int", "bool", "str", "tuple", "list"] ∧ isiB n T = b ∧ Q (.bl b) H
section
variable {X : Cx} {pos : Pos}
theorem cr_isi : CallR X (.builtin "isinstance") (rIsi X.K) := by
  intro pins s σ H xs us Q I r h
  obtain ⟨x, n, T, bb, rfl, ty, hT, rfl, q⟩ := h
  obtain ⟨u, v, rfl, ru, rv⟩ := vals2 r
  cases (show v = Value.type T from rv)
  have fin : ∀ (b : Bool) (k : Nat), b = isiB n T → EP X pins σ Q (.bool b) { s with toks := k } := fun b k e => ⟨.bl b, H, I.tok k, rfl, by rw [e]; exact q⟩
  cases ty with
  | int i =>
    obtain ⟨t, rfl⟩ := ru
    simp only [List.mem_cons, List.not_mem_nil, or_false] at hT
    rcases hT with rfl | rfl | rfl | rfl | rfl
    · exact IsiPair.int_int (fin true s.toks rfl)
    · exact IsiPair.int_bool (fin false _ rfl)
    · exact IsiPair.int_str (fin false _ rfl)
    · exact IsiPair.int_tuple (fin false _ rfl)
    · exact IsiPair.int_list (fin false _ rfl)
  | str y =>
    obtain ⟨t, rfl⟩ := ru
    simp only [List.mem_cons, List.not_mem_nil, or_false] at hT
    rcases hT with rfl | rfl | rfl | rfl | rfl
    · exact IsiPair.str_int (fin false _ rfl)
    · exact IsiPair.str_bool (fin false _ rfl)
    · exact IsiPair.str_str (fin true s.toks rfl)
    · exact IsiPair.str_tuple (fin false _ rfl)
    · exact IsiPair.str_list (fin false _ rfl)
  | bl b =>
    cases (show u = Value.bool b from ru)
    simp only [List.mem_cons, List.not_mem_nil, or_false] at hT
    rcases hT with rfl | rfl | rfl | rfl | rfl
    · exact IsiPair.bool_int (fin true s.toks rfl)
    · exact IsiPair.bool_bool (fin true s.toks rfl)
    · exact IsiPair.bool_str (fin false _ rfl)
    · exact IsiPair.bool_tuple (fin false _ rfl)
    · exact IsiPair.bool_list (fin false _ rfl)
  | @lst a xs hs =>
    cases (show u = Value.ref a from ru)
    obtain ⟨its, rv, hl, _⟩ := I.list hs
    obtain ⟨o, ho, hc, _⟩ := hl.isList
    simp only [List.mem_cons, List.not_mem_nil, or_false] at hT
    rcases hT with rfl | rfl | rfl | rfl | rfl
    · exact IsiPair.list_int ho hc (fin false _ rfl)
    · exact IsiPair.list_bool ho hc (fin false _ rfl)
    · exact IsiPair.list_str ho hc (fin false _ rfl)
    · exact IsiPair.list_tuple ho hc (fin false _ rfl)
    · exact IsiPair.list_list ho hc (fin true s.toks rfl)
  | @tup a xs hs =>
    cases (show u = Value.ref a from ru)
    obtain ⟨its, rv, ht, _⟩ := I.tuple hs
    obtain ⟨o, ho, hc, _⟩ := ht
    simp only [List.mem_cons, List.not_mem_nil, or_false] at hT
    rcases hT with rfl | rfl | rfl | rfl | rfl
    · exact IsiPair.tuple_int ho hc (fin false _ rfl)
    · exact IsiPair.tuple_bool ho hc (fin false _ rfl)
    · exact IsiPair.tuple_str ho hc (fin false _ rfl)
    · exact IsiPair.tuple_tuple ho hc (fin true s.toks rfl)
    · exact IsiPair.tuple_list ho hc (fin false _ rfl)
abbrev TJ := St → Hp → Str → (Str → Hp → Prop) → Prop
def PJ (X : Cx) (es : List Expr) (t : TJ) : Prop :=
  ∀ (pins : List (Addr × Obj)) (s : Shared) (σ : St) (H : Hp) (acc : Str) (Q : Str → Hp → Prop), Inv X pins σ H s → t σ H acc Q →
    Joins (model X.prog X.w) X.A X.xe (evalEach es X.env) acc (fun out s' => ∃ H', Inv X pins σ H' s' ∧ Q out H') s
def TabRel (P : Params) : List DictEntry → List (Str × Int) → Prop
  | [], [] => True
  | e :: r, p :: q => (∃ t, e.key = .str p.1 t) ∧ (∃ t, e.val = .int p.2 t) ∧ e.hash = PyData.keyHash P p.1 ∧ TabRel P r q
  | _, _ => False
theorem TabRel.lit {P : Params} : ∀ {es : List DictEntry} {kv : List (Str × Int)}, TabRel P es kv → PySem.W.KeysLit P es
  | [], [], _ => trivial
  | e :: r, p :: q, ⟨⟨t, h1⟩, _, h3, h4⟩ => ⟨⟨p.1, t, h1, h3⟩, TabRel.lit h4⟩
  | [], _ :: _, h => h.elim
  | _ :: _, [], h => h.elim
structure TabK (K : PySem.W.Frag) (P : Params) (a : Addr) (kv : List (Str × Int)) : Prop where
  ex : ∃ es n, K.lookup a = some ⟨.type "dict", none, .dict es n, #[]⟩ ∧ TabRel P es.toList kv
  lo : (a == sysModules) = false
end
end L2
end
section
set_option Elab.async false
set_option linter.all false
set_option maxRecDepth 100000
namespace L2
open PySem PySem.Spec PyProof.Rows
section
variable {X : Cx} {es : List Expr} {te : TE} {t : TA}
theorem pa_C {c : Const} {k : Nat} {p : Pos} (ha : PE X (.Constant c k p) te) (hr : PA X es t) : PA X (.Constant c k p :: es) (tCons te t) := pa_cons ha hr rfl
theorem pa_B {a b : Expr} {o : Operator} {p : Pos} (ha : PE X (.BinOp a o b p) te) (hr : PA X es t) : PA X (.BinOp a o b p :: es) (tCons te t) := pa_cons ha hr rfl
inductive Cs : List Expr → List V → Prop
  | nil : Cs [] []
  | int {i : Int} {k : Nat} {p : Pos} {es : List Expr} {vs : List V} : Cs es vs → Cs (.Constant (.int i) k p :: es) (.int i :: vs)
  | str {x : Str} {k : Nat} {p : Pos} {es : List Expr} {vs : List V} : Cs es vs → Cs (.Constant (.str x) k p :: es) (.str x :: vs)
  | non {k : Nat} {p : Pos} {es : List Expr} {vs : List V} : Cs es vs → Cs (.Constant .none k p :: es) (.non :: vs)
  | pow {a b : Int} {k k' : Nat} {p p' p'' : Pos} {es : List Expr} {vs : List V} : CPow a b → Cs es vs → Cs (.BinOp (.Constant (.int a) k p) .Pow (.Constant (.int b) k' p') p'' :: es) (.int (a ^ b.toNat) :: vs)
theorem pa_consts {vs : List V} (h : Cs es vs) : PA X es (fun _ H Q => Q vs H) := by
  induction h with
  | nil => exact pa_nil
  | int _ ih => exact pa_C pe_int ih
  | str _ ih => exact pa_C pe_str ih
  | non _ ih => exact pa_C pe_non ih
  | pow hc _ ih => exact fun pos pins s σ H Q I h => (pa_B (pe_op op_pow pe_int pe_int) ih) pos pins s σ H Q I ⟨_, _, rfl, rfl, hc, h⟩
end
end L2
end
section
set_option Elab.async false
set_option linter.all false
set_option maxRecDepth 100000
namespace L2
open PySem PySem.Spec PyProof.Rows
section
variable {X : Cx} {pos p : Pos} {x : Str} {e : Expr} {es : List Expr} {te : TE} {t : TA}
theorem vl (i : Nat) (hN : X.N[i]? = some x := by kernel_rfl) (hv : X.env.scope.names.lookup x = some .local := by kernel_rfl) (hd : (x == ("__debug__" : Str)) = false := by kernel_rfl) (hcd : (x == ("__classdict__" : Str)) = false := by kernel_rfl) :
    PE X (.Name x pos) (tVar i) := pe_var hN (.inl hv) hd hcd
theorem vc (i : Nat) (hN : X.N[i]? = some x := by kernel_rfl) (hv : X.env.scope.names.lookup x = some .cell := by kernel_rfl) (hd : (x == ("__debug__" : Str)) = false := by kernel_rfl) (hcd : (x == ("__classdict__" : Str)) = false := by kernel_rfl) :
    PE X (.Name x pos) (tVar i) := pe_var hN (.inr (.inl hv)) hd hcd
theorem vf (i : Nat) (hN : X.N[i]? = some x := by kernel_rfl) (hv : X.env.scope.names.lookup x = some .free := by kernel_rfl) (hd : (x == ("__debug__" : Str)) = false := by kernel_rfl) (hcd : (x == ("__classdict__" : Str)) = false := by kernel_rfl) :
    PE X (.Name x pos) (tVar i) := pe_var hN (.inr (.inr hv)) hd hcd
theorem gl (i : Nat) (nd : X.N.Nodup) (hi : X.N[i]? = some x := by kernel_rfl) (hx : X.env.scope.names.lookup x = some .local := by kernel_rfl) : PG X (.Name x pos) (gName i) := pg_name nd hi (.inl hx) (.inr hx)
theorem gc (i : Nat) (nd : X.N.Nodup) (hi : X.N[i]? = some x := by kernel_rfl) (hx : X.env.scope.names.lookup x = some .cell := by kernel_rfl) (hf : X.fn x = true := by kernel_rfl) : PG X (.Name x pos) (gName i) := pg_name nd hi (.inr hx) (.inl hf)
theorem stl (i : Nat) {pos' : Pos} (nd : X.N.Nodup) (he : PE X e te) (hi : X.N[i]? = some x := by kernel_rfl) (hx : X.env.scope.names.lookup x = some .local := by kernel_rfl) (hs : swapsWith e (some (.Name x pos')) pos.line X.env = pure false := by kernel_rfl) :
    PS X (.Assign [.Name x pos'] e pos) (tAsg te (gName i)) := ps_set nd hi (.inl hx) he hs (.inr hx)
theorem stc (i : Nat) {pos' : Pos} (nd : X.N.Nodup) (he : PE X e te) (hi : X.N[i]? = some x := by kernel_rfl) (hx : X.env.scope.names.lookup x = some .cell := by kernel_rfl) (hf : X.fn x = true := by kernel_rfl) (hs : swapsWith e (some (.Name x pos')) pos.line X.env = pure false := by kernel_rfl) :
    PS X (.Assign [.Name x pos'] e pos) (tAsg te (gName i)) := ps_set nd hi (.inr hx) he hs (.inl hf)
theorem cf {CX : CXT} {k : Nat} {f : Addr} {fd : FuncData} {ps : List Str} {sp : Sp} {E : XK} (F : FnOk X.prog X.w X.K X.mg X.base CX k f fd ps sp) (hr : Room k X.A) (hm : X.mg x = some (.ref f)) (hk : PySem.W.keepIn X.K (.ref f) = true) (hb : Binds X.K fd ps [])
    (hx : Passes CX X E) (ha : PA X (e :: es) t) (hg : X.env.kindOf x = some .globalImplicit := by kernel_rfl) (hdb : (x == ("__debug__" : Str)) = false := by kernel_rfl)
    (he : starEach (e :: es) X.env = (false, eval e X.env) :: starEach es X.env := by kernel_rfl) (hpl : (backTo pos (starEach es X.env)).any (·.1) = false := by kernel_rfl) : PE X (.Call (.Name x p) (e :: es) [] pos) (tCall sp [] E t) :=
  pe_call F hr hg hm hk hb .nil hx ha hdb he hpl
theorem cb {id : String} {r : List V → Hp → VK → Prop} (hc : CallR X (.builtin id) r) (hm : X.mg x = none) (ha : PA X (e :: es) t) (hv : bootBuiltins x = some (.builtin id) := by kernel_rfl) (hg : X.env.kindOf x = some .globalImplicit := by kernel_rfl)
    (hn : (x == ("__name__" : Str)) = false := by kernel_rfl) (hdb : (x == ("__debug__" : Str)) = false := by kernel_rfl)
    (he : starEach (e :: es) X.env = (false, eval e X.env) :: starEach es X.env := by kernel_rfl) (hpl : (backTo pos (starEach es X.env)).any (·.1) = false := by kernel_rfl) : PE X (.Call (.Name x p) (e :: es) [] pos) (tCB r t) :=
  pe_callB hc hg hm hv ha (beq_eq_false_iff_ne.mp hn) hdb he hpl
theorem ct {T : String} {r : List V → Hp → VK → Prop} (hc : CallR X (.type T) r) (hm : X.mg x = none) (ha : PA X (e :: es) t) (hv : bootBuiltins x = some (.type T) := by kernel_rfl) (hg : X.env.kindOf x = some .globalImplicit := by kernel_rfl)
    (hn : (x == ("__name__" : Str)) = false := by kernel_rfl) (hdb : (x == ("__debug__" : Str)) = false := by kernel_rfl)
    (he : starEach (e :: es) X.env = (false, eval e X.env) :: starEach es X.env := by kernel_rfl) (hpl : (backTo pos (starEach es X.env)).any (·.1) = false := by kernel_rfl) : PE X (.Call (.Name x p) (e :: es) [] pos) (tCB r t) :=
  pe_callTy hc hg hm hv ha (beq_eq_false_iff_ne.mp hn) hdb he hpl
theorem ty (T : String) (hm : X.mg x = none) (hv : bootBuiltins x = some (.type T) := by kernel_rfl) (hg : X.env.kindOf x = some .globalImplicit := by kernel_rfl) (hn : (x == ("__name__" : Str)) = false := by kernel_rfl) (hdb : (x == ("__debug__" : Str)) = false := by kernel_rfl) :
    PE X (.Name x pos) (tC (.ty T)) := pe_bltn hg hm hv rfl (beq_eq_false_iff_ne.mp hn) hdb
theorem rg1 {tg a : Expr} {ta : TA} (hm : X.mg "range" = none) (ha : PA X [a] ta) (hg : X.env.kindOf "range" = some .globalImplicit := by kernel_rfl) (hs : starEach [a] X.env = [(false, eval a X.env)] := by kernel_rfl) : PI X tg (.Call (.Name "range" p) [a] [] pos) (iRng1 ta) := pi_range1 hg hm ha hs
end
end L2
end
section
set_option Elab.async false
set_option linter.all false
set_option maxRecDepth 100000
set_option autoImplicit false
namespace L2
open PySem PySem.Spec PyProof.Rows
structure ZE (X : Cx) (e : Expr) (t : TE) : Prop where
  h : PE X e t
structure ZT (X : Cx) (e : Expr) (t : TT) : Prop where
  h : PT X e t
structure ZW (X : Cx) (e : Expr) (t : TT) : Prop where
  h : PW X e t
structure ZA (X : Cx) (es : List Expr) (t : TA) : Prop where
  h : PA X es t
structure ZS (X : Cx) (st : Stmt) (t : TS) : Prop where
  h : PS X st t
structure ZSs (X : Cx) (st : List Stmt) (t : TS) : Prop where
  h : PSs X st t
structure ZG (X : Cx) (tg : Expr) (t : TG) : Prop where
  h : PG X tg t
structure ZGs (X : Cx) (ts : List Expr) (t : TGs) : Prop where
  h : PGs X ts t
structure ZI (X : Cx) (tg iter : Expr) (wi : TI) : Prop where
  h : PI X tg iter wi
structure ZO (X : Cx) (e : Option Expr) (t : TO) : Prop where
  h : PO X e t
structure ZTs (X : Cx) (ifs : List Expr) (t : TT) : Prop where
  h : PTs X ifs t
structure ZJ (X : Cx) (es : List Expr) (t : TJ) : Prop where
  h : PJ X es t
structure ZOp (X : Cx) (f : Value → Value → Sem Value) (r : R2) : Prop where
  h : OpR X f r
structure ZCall (X : Cx) (f : Value) (r : List V → Hp → VK → Prop) : Prop where
  h : CallR X f r
structure ZIx (X : Cx) (r : R2) : Prop where
  h : IxR X r
structure ZSl (X : Cx) (r : V → Option Int → Option Int → Hp → VK → Prop) : Prop where
  h : SlR X r
structure ZM (X : Cx) (id : String) (r : V → List V → Hp → VK → Prop) : Prop where
  h : MtR X id r
namespace Z
section
variable {X : Cx} {pos p pos' apos cpos : Pos} {x name : Str} {a b c e o : Expr} {es rest : List Expr} {ta tb tc te to : TE} {t : TA} {r r' : R2} {tA tB' : TT} {id T : String}
theorem vl (i : Nat) (hN : X.N[i]? = some x := by kernel_rfl) (hv : X.env.scope.names.lookup x = some .local := by kernel_rfl) (hd : (x == ("__debug__" : Str)) = false := by kernel_rfl) (hcd : (x == ("__classdict__" : Str)) = false := by kernel_rfl) : ZE X (.Name x pos) (tVar i) := ⟨L2.vl i hN hv hd hcd⟩
theorem vc (i : Nat) (hN : X.N[i]? = some x := by kernel_rfl) (hv : X.env.scope.names.lookup x = some .cell := by kernel_rfl) (hd : (x == ("__debug__" : Str)) = false := by kernel_rfl) (hcd : (x == ("__classdict__" : Str)) = false := by kernel_rfl) : ZE X (.Name x pos) (tVar i) := ⟨L2.vc i hN hv hd hcd⟩
theorem vf (i : Nat) (hN : X.N[i]? = some x := by kernel_rfl) (hv : X.env.scope.names.lookup x = some .free := by kernel_rfl) (hd : (x == ("__debug__" : Str)) = false := by kernel_rfl) (hcd : (x == ("__classdict__" : Str)) = false := by kernel_rfl) : ZE X (.Name x pos) (tVar i) := ⟨L2.vf i hN hv hd hcd⟩
theorem int {i : Int} {j : Nat} : ZE X (.Constant (.int i) j pos) (tC (.int i)) := ⟨pe_int⟩
theorem bl {i : Bool} {j : Nat} : ZE X (.Constant (.bool i) j pos) (tC (.bl i)) := ⟨pe_bl⟩
theorem non {j : Nat} : ZE X (.Constant .none j pos) (tC .non) := ⟨pe_non⟩
theorem str {y : Str} {j : Nat} : ZE X (.Constant (.str y) j pos) (tC (.str y)) := ⟨pe_str⟩
theorem glob (v : V) {u : Value} (hm : X.mg x = some u) (rl : RelV v u) (hg : X.env.kindOf x = some .globalImplicit := by kernel_rfl) (hd : (x == ("__debug__" : Str)) = false := by kernel_rfl) : ZE X (.Name x pos) (tC v) := ⟨pe_glob hg hm rl hd⟩
theorem ty (T : String) (hm : X.mg x = none) (hv : bootBuiltins x = some (.type T) := by kernel_rfl) (hg : X.env.kindOf x = some .globalImplicit := by kernel_rfl) (hn : (x == ("__name__" : Str)) = false := by kernel_rfl) (hdb : (x == ("__debug__" : Str)) = false := by kernel_rfl) : ZE X (.Name x pos) (tC (.ty T)) := ⟨L2.ty T hm hv hg hn hdb⟩
theorem op {f : Operator} (ho : ZOp X (binaryOp f) r) (ha : ZE X a ta) (hb : ZE X b tb) : ZE X (.BinOp a f b pos) (tOp r ta tb) := ⟨pe_op ho.h ha.h hb.h⟩
theorem neg (ha : ZE X a ta) : ZE X (.UnaryOp .USub a pos) (tUn (rU fun i => .int (-i)) ta) := ⟨pe_un un_neg ha.h⟩
theorem not (ha : ZE X a ta) : ZE X (.UnaryOp .Not a pos) (tNotV ta) := ⟨pe_not ha.h⟩
theorem one {f : BoolOp} (ha : ZE X a ta) : ZE X (.BoolOp f [a] pos) ta := ⟨pe_one ha.h⟩
theorem and (ha : ZE X a ta) (hb : ZE X (.BoolOp .And (b :: rest) pos) tb) : ZE X (.BoolOp .And (a :: b :: rest) pos) (tAndV ta tb) := ⟨pe_and ha.h hb.h⟩
theorem or (ha : ZE X a ta) (hb : ZE X (.BoolOp .Or (b :: rest) pos) tb) : ZE X (.BoolOp .Or (a :: b :: rest) pos) (tOrV ta tb) := ⟨pe_or ha.h hb.h⟩
theorem cmp {f : CmpOp} (ho : ZOp X (compareOp f) r) (ha : ZE X a ta) (hb : ZE X b tb) (hm : behindInMarks f b = false := by kernel_rfl) : ZE X (.Compare a [f] [b] pos) (tOp r ta tb) := ⟨pe_cmpR ho.h ha.h hb.h hm⟩
theorem tcmp {f : CmpOp} (ho : ZOp X (compareOp f) r) (ha : ZE X a ta) (hb : ZE X b tb) (hm : behindInMarks f b = false := by kernel_rfl) : ZT X (.Compare a [f] [b] pos) (tTest (tOp r ta tb)) := ⟨pt_cmpR ho.h ha.h hb.h hm⟩
theorem chain {f f' : CmpOp} (ho : ZOp X (compareOp f) r) (ho' : ZOp X (compareOp f') r') (ha : ZE X a ta) (hb : ZE X b tb) (hc : ZE X c tc) (hm : lastMarks [f, f'] [b, c] = false := by kernel_rfl) : ZE X (.Compare a [f, f'] [b, c] pos) (tChain r r' ta tb tc) := ⟨pe_chain ho.h ho'.h ha.h hb.h hc.h hm⟩
theorem tchain {f f' : CmpOp} (ho : ZOp X (compareOp f) r) (ho' : ZOp X (compareOp f') r') (ha : ZE X a ta) (hb : ZE X b tb) (hc : ZE X c tc) (hm : lastMarks [f, f'] [b, c] = false := by kernel_rfl) : ZT X (.Compare a [f, f'] [b, c] pos) (tTest (tChain r r' ta tb tc)) := ⟨pt_chain ho.h ho'.h ha.h hb.h hc.h hm⟩
theorem isN {j : Nat} (ha : ZE X a ta) : ZE X (.Compare a [.Is] [.Constant .none j pos'] pos) (tIsN ta) := ⟨pe_cmp (pc_isN ha.h) rfl⟩
theorem notN {j : Nat} (ha : ZE X a ta) : ZE X (.Compare a [.IsNot] [.Constant .none j pos'] pos) (tNotN ta) := ⟨pe_cmp (pc_notN ha.h) rfl⟩
theorem val (ha : ZE X a ta) (he : ∀ whole, isTrue a X.env whole = (do let v ← whole; standAt a.pos; holding [v] (truthy v)) := by intro _; kernel_rfl) : ZT X a (tB ta) := ⟨pt_val ha.h he⟩
theorem tnot (ha : ZT X a tA) : ZT X (.UnaryOp .Not a pos) (tNot tA) := ⟨pt_not ha.h⟩
theorem pw (h : ZW X a tA) : ZT X a tA := ⟨h.h.pt⟩
theorem and1 (ha : ZT X a tA) : ZW X (.BoolOp .And [a] pos) tA := ⟨pw_and1 ha.h⟩
theorem or1 (ha : ZT X a tA) : ZW X (.BoolOp .Or [a] pos) tA := ⟨pw_or1 ha.h⟩
theorem tand (ha : ZT X a tA) (hb : ZW X (.BoolOp .And (b :: rest) pos) tB') : ZW X (.BoolOp .And (a :: b :: rest) pos) (tAnd tA tB') := ⟨pw_and ha.h hb.h⟩
theorem tor (ha : ZT X a tA) (hb : ZW X (.BoolOp .Or (b :: rest) pos) tB') : ZW X (.BoolOp .Or (a :: b :: rest) pos) (tOr tA tB') := ⟨pw_or ha.h hb.h⟩
theorem ifx (hc : ZT X c tA) (ha : ZE X a ta) (hb : ZE X b tb) : ZE X (.IfExp c a b pos) (tIf tA ta tb) := ⟨pe_ifExp hc.h ha.h hb.h⟩
theorem nil : ZA X [] tNil := ⟨pa_nil⟩
theorem cons (ha : ZE X e te) (hr : ZA X es t) (hs : starEach (e :: es) X.env = (false, eval e X.env) :: starEach es X.env := by kernel_rfl) : ZA X (e :: es) (tCons te t) := ⟨pa_cons ha.h hr.h hs⟩
theorem consts {vs : List V} (h : Cs es vs) : ZA X es (fun _ H Q => Q vs H) := ⟨pa_consts h⟩
theorem lst (h : ZA X es t) : ZE X (.List es pos) (tLst t) := ⟨pe_lst h.h⟩
theorem tup {k : Nat} (h : ZA X es t) : ZE X (.Tuple es k pos) (tTup t) := ⟨pe_tup h.h⟩
theorem ix (hr : ZIx X r) (ha : ZE X a ta) (hb : ZE X b tb) (hs : PlainIx b := by intro _ _; kernel_rfl) : ZE X (.Subscript a b pos) (tOp r ta tb) := ⟨pe_ix hr.h ha.h hb.h hs⟩
theorem onone : ZO X none tNoPart := ⟨po_none⟩
theorem osome (h : ZE X e te) : ZO X (some e) (tPart te) := ⟨po_some h.h⟩
theorem slice {rs : V → Option Int → Option Int → Hp → VK → Prop} {lo hi : Option Expr} {tl th : TO} {p2 : Pos} (hr : ZSl X rs) (he : ZE X e te) (hl : ZO X lo tl) (hu : ZO X hi th) : ZE X (.Subscript e (.Slice lo hi none p2) pos) (tSl rs te tl th) := ⟨pe_slice hr.h he.h hl.h hu.h⟩
theorem cf {CX : CXT} {k : Nat} {f : Addr} {fd : FuncData} {ps : List Str} {sp : Sp} {E : XK} (F : FnOk X.prog X.w X.K X.mg X.base CX k f fd ps sp) (hr : Room k X.A) (hm : X.mg x = some (.ref f)) (hk : PySem.W.keepIn X.K (.ref f) = true) (hb : Binds X.K fd ps [])
    (hx : Passes CX X E) (ha : ZA X (e :: es) t) (hg : X.env.kindOf x = some .globalImplicit := by kernel_rfl) (hdb : (x == ("__debug__" : Str)) = false := by kernel_rfl)
    (he : starEach (e :: es) X.env = (false, eval e X.env) :: starEach es X.env := by kernel_rfl) (hpl : (backTo pos (starEach es X.env)).any (·.1) = false := by kernel_rfl) : ZE X (.Call (.Name x p) (e :: es) [] pos) (tCall sp [] E t) := ⟨L2.cf F hr hm hk hb hx ha.h hg hdb he hpl⟩
theorem cf0 {CX : CXT} {k : Nat} {f : Addr} {fd : FuncData} {ps : List Str} {sp : Sp} {E : XK} (F : FnOk X.prog X.w X.K X.mg X.base CX k f fd ps sp) (hr : Room k X.A) (hm : X.mg x = some (.ref f)) (hk : PySem.W.keepIn X.K (.ref f) = true) (hb : Binds X.K fd ps [])
    (hx : Passes CX X E) (hg : X.env.kindOf x = some .globalImplicit := by kernel_rfl) (hdb : (x == ("__debug__" : Str)) = false := by kernel_rfl) : ZE X (.Call (.Name x p) [] [] pos) (tCall sp [] E tNil) := ⟨pe_call0 F hr hg hm hk hb .nil hx hdb⟩
theorem cb {rc : List V → Hp → VK → Prop} (hc : ZCall X (.builtin id) rc) (hm : X.mg x = none) (ha : ZA X (e :: es) t) (hv : bootBuiltins x = some (.builtin id) := by kernel_rfl) (hg : X.env.kindOf x = some .globalImplicit := by kernel_rfl)
    (hn : (x == ("__name__" : Str)) = false := by kernel_rfl) (hdb : (x == ("__debug__" : Str)) = false := by kernel_rfl)
    (he : starEach (e :: es) X.env = (false, eval e X.env) :: starEach es X.env := by kernel_rfl) (hpl : (backTo pos (starEach es X.env)).any (·.1) = false := by kernel_rfl) : ZE X (.Call (.Name x p) (e :: es) [] pos) (tCB rc t) := ⟨L2.cb hc.h hm ha.h hv hg hn hdb he hpl⟩
theorem ct {rc : List V → Hp → VK → Prop} (hc : ZCall X (.type T) rc) (hm : X.mg x = none) (ha : ZA X (e :: es) t) (hv : bootBuiltins x = some (.type T) := by kernel_rfl) (hg : X.env.kindOf x = some .globalImplicit := by kernel_rfl)
    (hn : (x == ("__name__" : Str)) = false := by kernel_rfl) (hdb : (x == ("__debug__" : Str)) = false := by kernel_rfl)
    (he : starEach (e :: es) X.env = (false, eval e X.env) :: starEach es X.env := by kernel_rfl) (hpl : (backTo pos (starEach es X.env)).any (·.1) = false := by kernel_rfl) : ZE X (.Call (.Name x p) (e :: es) [] pos) (tCB rc t) := ⟨L2.ct hc.h hm ha.h hv hg hn hdb he hpl⟩
theorem m0 {rm : V → List V → Hp → VK → Prop} (slot : Slot "str" name id) (hty : typeOf (.builtin id) = pure (.type "method_descriptor")) (rule : ZM X id rm) (ho : ZE X o to) (hbase : attributeBase o name X.env (eval o X.env) = eval o X.env := by kernel_rfl) (hline : (apos.endLine == pos.line) = true := by kernel_rfl) :
    ZE X (.Call (.Attribute o name apos) [] [] pos) (tM0 rm to) := ⟨pe_m0 slot hty rule.h ho.h hbase hline⟩
theorem split (ho : ZE X o to) (he : ZE X e te) (hs : starEach [e] X.env = [(false, eval e X.env)] := by kernel_rfl) (hbase : attributeBase o "split" X.env (eval o X.env) = eval o X.env := by kernel_rfl) (hline : (apos.endLine == pos.line) = true := by kernel_rfl) :
    ZE X (.Call (.Attribute o "split" apos) [e] [] pos) (tM1 (fun x xs H Q => ∃ a b, x = .str a ∧ xs = [.str b] ∧ (b.length == 0) = false ∧ a.length + 2 ≤ sizeLine ∧ rNewStrs (Txt.split a b) H Q) to te) := ⟨pe_split ho.h he.h hs hbase hline⟩
theorem join (ho : ZE X o to) (he : ZE X e te) (hs : starEach [e] X.env = [(false, eval e X.env)] := by kernel_rfl) (hbase : attributeBase o "join" X.env (eval o X.env) = eval o X.env := by kernel_rfl) (hline : (apos.endLine == pos.line) = true := by kernel_rfl) :
    ZE X (.Call (.Attribute o "join" apos) [e] [] pos) (tM1 (fun x xs H Q => ∃ a p, ∃ ys : List Str, x = .str a ∧ xs = [.ref p] ∧ (SqL X.K H p (ys.map V.str) ∨ SqT X.K H p (ys.map V.str)) ∧
      (ys.map (·.length)).sum + ys.length * a.length ≤ 16777216 ∧ Q (.str (Txt.join a ys)) H) to te) := ⟨pe_join ho.h he.h hs hbase hline⟩
theorem bm {rm : V → List V → Hp → VK → Prop} (pl : PlainAttrs T) (slot : Slot T name id) (hty : typeOf (.builtin id) = pure (.type "method_descriptor")) (hm : ZM X id rm) (ho : ZE X o to) (ha : ZA X (e :: es) t)
    (hbase : attributeBase o name X.env (eval o X.env) = eval o X.env := by kernel_rfl)
    (hfew : ((backTo cpos (starEach (e :: es) X.env)).all (fun x => !x.1) && (backToKw cpos (keywordEach [] X.env)).all (fun x => x.1.isSome)
      && decide ((e :: es).length + ([] : List Keyword).length + (if ([] : List Keyword).isEmpty then 0 else 1) < 30)) = true := by kernel_rfl)
    (hline : (apos.endLine == cpos.line) = true := by kernel_rfl) (hs : starEach (e :: es) X.env = (false, eval e X.env) :: starEach es X.env := by kernel_rfl) (hplain : (backTo cpos (starEach es X.env)).any (·.1) = false := by kernel_rfl) :
    ZE X (.Call (.Attribute o name apos) (e :: es) [] cpos) (tBM X.K T rm to t) := ⟨pe_bm pl slot hty hm.h ho.h ha.h hbase hfew hline hs hplain⟩
theorem gl (i : Nat) (nd : X.N.Nodup) (hi : X.N[i]? = some x := by kernel_rfl) (hx : X.env.scope.names.lookup x = some .local := by kernel_rfl) : ZG X (.Name x pos) (gName i) := ⟨L2.gl i nd hi hx⟩
theorem gc (i : Nat) (nd : X.N.Nodup) (hi : X.N[i]? = some x := by kernel_rfl) (hx : X.env.scope.names.lookup x = some .cell := by kernel_rfl) (hf : X.fn x = true := by kernel_rfl) : ZG X (.Name x pos) (gName i) := ⟨L2.gc i nd hi hx hf⟩
theorem gnil : ZGs X [] gNil := ⟨pgs_nil⟩
theorem gcons {g : TG} {u : TGs} (h1 : ZG X e g) (h2 : ZGs X es u) (hs : (assignEach (e :: es) X.env).map (·.2) = assign e X.env :: (assignEach es X.env).map (·.2) := by kernel_rfl) : ZGs X (e :: es) (gCons g u) := ⟨pgs_cons h1.h h2.h hs⟩
theorem gtup {k n : Nat} {u : TGs} (hc : X.calm = true) (h : ZGs X es u) (hn : (assignEach es X.env).length = n) (hst : (assignEach es X.env).findIdx? (·.1) = none := by kernel_rfl) : ZG X (.Tuple es k pos) (gTup X.K n u) := ⟨pg_tup hc h.h hn hst⟩
theorem gsub {ti : TE} {ts : TSet} (ho : ZE X o to) (hi : ZE X e ti) (hs : PSet X ts)
    (ha : ∀ v, assign (.Subscript o e pos) X.env v = (do
      let ov ← holding [v] (eval o X.env)
      let iv ← holding [v, ov] (eval e X.env)
      standAt pos
      holding [v, ov, iv] (setItem ov iv v)
      release [v, ov, iv] []) := by intro _; kernel_rfl) : ZG X (.Subscript o e pos) (gSub to ti ts) := ⟨pg_sub ho.h hi.h hs ha⟩
variable {tg iter : Expr} {wi : TI} {g : TG} {tt : TT} {tb1 tu : TS} {st : Stmt} {sts : List Stmt}
theorem il (h : ZE X e te) : ZI X tg e (iList X.K te) := ⟨pi_list h.h⟩
theorem it (h : ZE X e te) : ZI X tg e (iTup X.K te) := ⟨pi_tup h.h⟩
theorem rg1 {ta' : TA} (hm : X.mg "range" = none) (ha : ZA X [a] ta') (hg : X.env.kindOf "range" = some .globalImplicit := by kernel_rfl) (hs : starEach [a] X.env = [(false, eval a X.env)] := by kernel_rfl) : ZI X tg (.Call (.Name "range" p) [a] [] pos) (iRng1 ta') := ⟨L2.rg1 hm ha.h hg hs⟩
theorem tsnil : ZTs X [] tYes := ⟨pts_nil⟩
theorem tsone (h : ZT X c tA) : ZTs X [c] tA := ⟨pts_one h.h⟩
theorem lc {elt : Expr} {ifs : List Expr} {scope : Scope} {own : List (Str × Nat)} (hc : X.calm = true) (nd : X.N.Nodup) (hi : ZI X tg iter wi) (ok : BlkOk X.N X.env.scope scope own)
    (hg : ∀ (s : Shared) (H : Hp) (C : Addr) (cl : List (Str × Addr)) (fp : List Addr), ZG (X.blk s H scope (compEnvC scope cl C X.env) fp) tg g) (ht : ∀ (s : Shared) (H : Hp) (C : Addr) (cl : List (Str × Addr)) (fp : List Addr), ZTs (X.blk s H scope (compEnvC scope cl C X.env) fp) ifs tt)
    (he : ∀ (s : Shared) (H : Hp) (C : Addr) (cl : List (Str × Addr)) (fp : List Addr), ZE (X.blk s H scope (compEnvC scope cl C X.env) fp) elt te) (hs : ∀ x, foldedSetIterable iter X.env x = pure x := by intro _; kernel_rfl) :
    ZE X (.ListComp elt [⟨tg, iter, ifs, 0⟩] scope pos) (tLc wi g tt te (own.map (·.2))) := ⟨pe_lc hc nd hi.h ok (fun s H C cl fp => (hg s H C cl fp).h) (fun s H C cl fp => (ht s H C cl fp).h) (fun s H C cl fp => (he s H C cl fp).h) hs⟩
theorem ret (he : ZE X e te) : ZS X (.Return (some e) pos) (tRet te) := ⟨ps_ret he.h⟩
theorem expr (he : ZE X e te) (hs : swapsWith e none pos.line X.env = pure false := by kernel_rfl) : ZS X (.Expr e pos) (tDrop te) := ⟨ps_expr he.h hs⟩
theorem cond {sa sb : List Stmt} (hc : ZT X c tA) (ha : ZSs X sa tb1) (hb : ZSs X sb tu) : ZS X (.If c sa sb pos) (tIfS tA tb1 tu) := ⟨ps_if hc.h ha.h hb.h⟩
theorem stl (i : Nat) (nd : X.N.Nodup) (he : ZE X e te) (hi : X.N[i]? = some x := by kernel_rfl) (hx : X.env.scope.names.lookup x = some .local := by kernel_rfl) (hs : swapsWith e (some (.Name x pos')) pos.line X.env = pure false := by kernel_rfl) :
    ZS X (.Assign [.Name x pos'] e pos) (tAsg te (gName i)) := ⟨L2.stl i nd he.h hi hx hs⟩
theorem stc (i : Nat) (nd : X.N.Nodup) (he : ZE X e te) (hi : X.N[i]? = some x := by kernel_rfl) (hx : X.env.scope.names.lookup x = some .cell := by kernel_rfl) (hf : X.fn x = true := by kernel_rfl) (hs : swapsWith e (some (.Name x pos')) pos.line X.env = pure false := by kernel_rfl) :
    ZS X (.Assign [.Name x pos'] e pos) (tAsg te (gName i)) := ⟨L2.stc i nd he.h hi hx hf hs⟩
theorem setLc (i : Nat) {y : Str} {py spos : Pos} {elt : Expr} {ifs : List Expr} {scope : Scope} {own : List (Str × Nat)} (hc : X.calm = true) (nd : X.N.Nodup) (hi : ZI X tg iter wi) (ok : BlkOk X.N X.env.scope scope own)
    (hg : ∀ (s : Shared) (H : Hp) (C : Addr) (cl : List (Str × Addr)) (fp : List Addr), ZG (X.blk s H scope (compEnvC scope cl C X.env) fp) tg g) (ht : ∀ (s : Shared) (H : Hp) (C : Addr) (cl : List (Str × Addr)) (fp : List Addr), ZTs (X.blk s H scope (compEnvC scope cl C X.env) fp) ifs tt)
    (he : ∀ (s : Shared) (H : Hp) (C : Addr) (cl : List (Str × Addr)) (fp : List Addr), ZE (X.blk s H scope (compEnvC scope cl C X.env) fp) elt te) (hy : X.N[i]? = some y := by kernel_rfl) (hyl : X.env.scope.names.lookup y = some .local := by kernel_rfl)
    (hk : X.env.scope.kind = .function := by kernel_rfl) (hl : (py.line == pos.line) = true := by kernel_rfl) (ha : (scope.names.any fun (n, k) => n == y && (k == .local || k == .cell)) = false := by kernel_rfl) (hs : ∀ x, foldedSetIterable iter X.env x = pure x := by intro _; kernel_rfl) :
    ZS X (.Assign [.Name y py] (.ListComp elt [⟨tg, iter, ifs, 0⟩] scope pos) spos) (tAsg (tLc wi g tt te (own.map (·.2))) (gName i)) :=
  ⟨ps_setLc hc nd hy hyl (sw_true hk hyl hl ha) hi.h ok (fun s H C cl fp => (hg s H C cl fp).h) (fun s H C cl fp => (ht s H C cl fp).h) (fun s H C cl fp => (he s H C cl fp).h) hs⟩
theorem asg (he : ZE X e te) (hg : ZG X tg g) (hs : swapsWithSole [tg] e pos.line X.env = pure false := by kernel_rfl) (hw : swappedStores [tg] e X.env = pure none := by kernel_rfl)
    (h1 : (assignEach [tg] X.env).map (·.2) = [assign tg X.env] := by kernel_rfl) : ZS X (.Assign [tg] e pos) (tAsg te g) := ⟨ps_asg he.h hg.h hs hw h1⟩
theorem loop (hp : PassesOwn (model X.prog X.w) X.A X.env X.xe) (hc : X.calm = true) (hi : ZI X tg iter wi) (hg : ZG X tg g) (hb : ZSs X sts tb1) (hs : ∀ x, foldedSetIterable iter X.env x = pure x := by intro _; kernel_rfl) : ZS X (.For tg iter sts [] pos) (tFor wi g tb1) := ⟨ps_for hp hc hi.h hg.h hb.h hs⟩
theorem whl (hp : PassesOwn (model X.prog X.w) X.A X.env X.xe) (hc : ZT X c tA) (hb : ZSs X sts tb1) : ZS X (.While c sts [] pos) (tWhile tA tb1) := ⟨ps_while hp hc.h hb.h⟩
theorem snil : ZSs X [] tNext := ⟨pss_nil⟩
theorem seq (h1 : ZS X st tb1) (h2 : ZSs X sts tu) : ZSs X (st :: sts) (tSeq tb1 tu) := ⟨pss_cons h1.h h2.h⟩
theorem last (h1 : ZS X st tb1) : ZSs X [st] tb1 := ⟨pss_one h1.h⟩
theorem never : ZSs X sts tNever := ⟨pss_never⟩
theorem add : ZOp X (binaryOp .Add) (rI0 fun i j => .int (i + j)) := ⟨op_add⟩
theorem sub : ZOp X (binaryOp .Sub) (rI0 fun i j => .int (i - j)) := ⟨op_sub⟩
theorem mul : ZOp X (binaryOp .Mult) (rI CMul fun i j => .int (i * j)) := ⟨op_mul⟩
theorem mod : ZOp X (binaryOp .Mod) (rI (fun _ j => 0 < j) fun i j => .int (i % j)) := ⟨op_mod⟩
theorem fdiv : ZOp X (binaryOp .FloorDiv) (rI CDiv fun i j => .int (i / j)) := ⟨op_fdiv⟩
theorem pow : ZOp X (binaryOp .Pow) (rI CPow fun i j => .int (i ^ j.toNat)) := ⟨op_pow⟩
theorem adds : ZOp X (binaryOp .Add) (fun x y H Q => ∃ i j, x = .str i ∧ y = .str j ∧ i.length + j.length ≤ sizeLine ∧ Q (.str (i ++ j)) H) := ⟨op_add_str⟩
theorem catT : ZOp X (binaryOp .Add) (rCatT X.K) := ⟨op_catT⟩
theorem cat : ZOp X (binaryOp .Add) rCat := ⟨op_cat⟩
theorem eq : ZOp X (compareOp .Eq) rEq := ⟨op_eq⟩
theorem ne : ZOp X (compareOp .NotEq) rNe := ⟨op_ne⟩
theorem lt : ZOp X (compareOp .Lt) (rI0 fun i j => .bl (decide (i < j))) := ⟨op_lt⟩
theorem le : ZOp X (compareOp .LtE) (rI0 fun i j => .bl (decide (i ≤ j))) := ⟨op_le⟩
theorem gt : ZOp X (compareOp .Gt) (rI0 fun i j => .bl (decide (j < i))) := ⟨op_gt⟩
theorem ge : ZOp X (compareOp .GtE) (rI0 fun i j => .bl (decide (j ≤ i))) := ⟨op_ge⟩
theorem eqD (hu : X.A.units + 64 < cLine) : ZOp X (compareOp .Eq) (rEqD X.K) := ⟨op_eqD hu⟩
theorem neD (hu : X.A.units + 64 < cLine) : ZOp X (compareOp .NotEq) (rNeD X.K) := ⟨op_neD hu⟩
theorem ixL : ZIx X (rIxL X.K) := ⟨ix_list⟩
theorem ixT : ZIx X (rIxT X.K) := ⟨ix_tup⟩
theorem slL : ZSl X (rSlL X.K) := ⟨sl_list⟩
theorem isi : ZCall X (.builtin "isinstance") (rIsi X.K) := ⟨cr_isi⟩
theorem len : ZCall X (.builtin "len") (fun xs H Q => ∃ p ys, xs = [.ref p] ∧ (SqL X.K H p ys ∨ SqT X.K H p ys) ∧ Q (.int ys.length) H) := ⟨call_len_seq⟩
theorem tupO : ZCall X (.type "tuple") (fun xs H Q => ∃ p ys, xs = [.ref p] ∧ ((SqL X.K H p ys ∧ ∀ l, H l = none → Q (.ref l) (upd H l (.tup ys))) ∨ (SqT X.K H p ys ∧ Q (.ref p) H))) := ⟨call_tuple_of⟩
theorem all (hc : X.calm = true) : ZCall X (.builtin "all") (rAll X.K) := ⟨cr_all hc⟩
end
end Z
section
variable {P : Program} {w : World} {K : PySem.W.Frag} {mg : Str → Option Value} {base : Heap}
theorem Fun.okZ {x qual : Str} {st : Stmt} {f : Addr} {fd : FuncData} {N ps : List Str} {k : Nat} {sp : Sp} (F : Fun K x qual st f fd) (S : FnScope N ps (defScope st)) (len : ∀ vs H Q E, sp vs H Q E → vs.length = ps.length)
    (hbody : ∀ (cdv : Value) (A : Around) (outer : List Env) (s : Shared) (H : Hp) (vs : List V) (Q : VK) (E : XK), Room k (A.deeper (envOfC qual (defScope st) s.heap.objs.size f cdv)) → sp vs H Q E →
      ∃ t, ZSs (cxOf CX0 P w K mg base N qual (defScope st) f cdv A outer s H E).nox (defBody st) t ∧ t { nx := fun _ H' => Q .non H', rt := Q } (start N vs) H) : FnOk P w K mg base CX0 (k + 1) f fd ps sp :=
  F.ok S len fun cdv A outer s H vs Q E hr h => let ⟨t, z, q⟩ := hbody cdv A outer s H vs Q E hr h; ⟨t, z.h, q⟩
end
end L2
end
section
set_option Elab.async false
set_option linter.all false
set_option maxRecDepth 100000
set_option autoImplicit false
namespace L2
open PySem PySem.Spec PyProof.Rows
def Lies (B : Heap) (l : List Env) (e : Addr) (cls : Value) (d : Option Addr) (h : Heap) : Prop := B.StaysIn h ∧ B.get? e = none ∧ h.FunFrames B l ∧ (∃ o, h.get? e = some o ∧ o.dict = d) ∧ ∃ a0 fl, h.TracedAtW B e cls a0 fl
def CXE (P : Program) (w : World) : CXT := fun outer H s E e s' => ∃ (a : Addr) (cls : Value) (d : Option Addr) (H' : Hp) (B : Heap), e = .ref a ∧ s'.os = s.os ∧ AllBare s'.gens ∧ Un (frs outer) [] H H' s.heap s'.heap ∧ HOk P w H' s'.heap ∧
  s.heap.get? a = none ∧ H' a = none ∧ Lies B outer a cls d s'.heap ∧ (∀ b o, s'.heap.get? b = some o → ((∃ u, H' b = some u) ∨ (∃ u, s.heap.get? b = some u) ∧ b ∉ frs outer) → B.get? b = some o) ∧ E cls d H'
theorem HOk.same {P : Program} {w : World} {H : Hp} {h h' : Heap} (x : HOk P w H h) (k : ∀ b u o, H b = some u → h.get? b = some o → h'.get? b = some o) : HOk P w H h' := fun a o e =>
  (x a o e).stay (fun b u hb q => by
    rcases hb with rfl | hb
    · exact k _ _ u e q
    · exact k _ _ u hb q) (fun _ q => q) fun _ _ q => q
theorem HOk.has {P : Program} {w : World} {H : Hp} {h : Heap} (x : HOk P w H h) {a : Addr} {u : HO} (e : H a = some u) : ∃ o, h.get? a = some o := by
  have z := x a u e
  revert z
  cases u with
  | lst xs => rintro ⟨_, _, _, _, e⟩; exact ⟨_, e⟩
  | tup xs => rintro ⟨_, _, _, ob, e, _⟩; exact ⟨_, e⟩
  | dK kvs => rintro ⟨_, _, _, _, o, _, _, e, _⟩; exact ⟨_, e⟩
  | dT kvs => rintro ⟨_, _, _, _, o, _, _, e, _⟩; exact ⟨_, e⟩
  | set S n => rintro ⟨o, _, _, _, e, _⟩; exact ⟨_, e⟩
  | ins C dx fs => rintro ⟨_, _, _, e, _⟩; exact ⟨_, e⟩
  | own y => rintro ⟨_, e⟩; exact ⟨_, e⟩
  | xd fs => rintro ⟨_, ⟨_, _, _, e, _⟩, _⟩; exact ⟨_, e⟩
  | rng lo hi => rintro ⟨_, _, _, e⟩; exact ⟨_, e⟩
  | frz ob u => rintro ⟨e, _⟩; exact ⟨_, e⟩
  | tbl ps => intro z; exact ⟨_, (show h.get? a = some _ from z)⟩
  | met f y => intro z; exact ⟨_, (show h.get? a = some _ from z)⟩
  | ext φ => rintro ⟨_, z, _⟩; exact z
def XL (X : Cx) (E : XK) (pins : List (Addr × Obj)) (σ : St) (e : Value) (s' : Shared) : Prop := ∃ (a : Addr) (cls : Value) (d : Option Addr) (H' : Hp) (B : Heap), e = .ref a ∧ Inv X pins σ H' s' ∧ (a ∉ X.ex → X.s_0.heap.get? a = none) ∧ H' a = none ∧ Lies B X.stack a cls d s'.heap ∧
  (∀ b o, s'.heap.get? b = some o → ((∃ u, H' b = some u) ∨ ((∃ u, X.s_0.heap.get? b = some u) ∧ b ∉ X.fs ∧ b ∉ X.ex) ∨ ∃ p ∈ X.pn ++ pins, p.1 = b) → B.get? b = some o) ∧ E cls d H'
section
variable {X : Cx} {pins : List (Addr × Obj)} {σ : St} {H : Hp} {s s' : Shared} {E : XK} {e : Value} {E' : Value → Shared → Prop}
end
def RaiseOk (X : Cx) (E : XK) : Prop := ∀ (pins : List (Addr × Obj)) (σ : St) (H : Hp) (s : Shared) (a : Addr) (cls : Value) (vs : List Value) (h1 : Heap), Inv X pins σ H s → Heap.MadeExcOf s.heap h1 a cls vs → E cls none H → X.xe (.ref a) { s with heap := h1 }
section
variable {P : Program} {w : World} {K : PySem.W.Frag} {mg : Str → Option Value} {base : Heap} {N : List Str} {qual : Str} {scope : Scope} {f : Addr} {cd : Value} {A : Around} {outer : List Env} {s : Shared} {H : Hp} {E : XK}
end
structure ExcC (K : PySem.W.Frag) (C : Addr) (bmB : List Value) (newId : String) : Prop where
  is : PySem.W.excIn K C bmB newId = true
theorem ExcC.obj {K : PySem.W.Frag} {C : Addr} {bmB : List Value} {newId : String} {h : Heap} (c : ExcC K C bmB newId) (KX : K.In h) :
    ∃ bm N nm q bs hdct sn sub ab col dd k0 k1 k2 k3 k5 mN, h.get? C = some (excClassObj nm q C N bs bm hdct sn sub ab col dd k0 k1 k2 k3 k5 newId) ∧ h.Ns N mN ∧ mN "__init__" = none ∧ OwnTail h bmB bm := by
  have q := c.is
  unfold PySem.W.excIn at q
  split at q
  · rename_i dd cd sl ho
    split at q
    · rename_i C1 bm k0 k1 k2 k3 nw k5 hm hs
      simp only [beq_iff_eq, Bool.and_eq_true, Bool.not_eq_true'] at q
      obtain ⟨⟨⟨⟨⟨rfl, rfl⟩, nodel⟩, ht⟩, hok⟩, hni⟩ := q
      obtain ⟨nm, bs, mro, ns, qn, hd, sn, sub, ab, col, dl⟩ := cd
      dsimp only at hm nodel hok hni
      subst hm nodel
      obtain ⟨l⟩ := sl
      dsimp only at hs
      subst hs
      exact ⟨bm, ns, nm, qn, bs, hd, sn, sub, ab, col, dd, k0, k1, k2, k3, k5, _, KX _ _ ho, .of_isNs (PySem.W.isNs_of_in KX hok), PySem.W.nsMap_none_of_in KX hok hni, PySem.W.tail_of_in KX ht⟩
    · cases q
  · cases q
section
variable {X : Cx} {x : Str} {C : Addr} {E : XK} {e : Expr} {es : List Expr} {t : TA} {np cpos pos : Pos} {bmB : List Value} {newId initId B : String}
def tRaise (C : Addr) (E : XK) (t : TA) : TS := fun _ σ H => t σ H fun vs H1 => vs.length ≤ sizeLine ∧ E (.ref C) none H1
theorem ps_raise (FB : ExcBaseFacts B newId initId bmB) (c : ExcC X.K C bmB newId) (hr : RaiseOk X E) (hc : X.calm = true) (hg : Gl X x) (hm : X.mg x = some (.ref C)) (ha : PA X (e :: es) t) (hdb : (x == ("__debug__" : Str)) = false := by decide)
    (he : starEach (e :: es) X.env = (false, eval e X.env) :: starEach es X.env := by rfl) (hpl : (backTo cpos (starEach es X.env)).any (·.1) = false := by rfl) :
    PS X (.Raise (some (.Call (.Name x np) (e :: es) [] cpos)) none pos) (tRaise C E t) := by
  intro pins s σ H D I h
  obtain ⟨tl, N, nm, q, bs, hdct, sn, sub, ab, col, dd, k0, k1, k2, k3, k5, mN, hC, hN, hni, T⟩ := c.obj I.ok.mod.kin
  refine wpAny_Raise_call_subT (nm := nm) (C := C) (q := q) (N := N) (bs := bs) (bm := tl) (hdct := hdct) (sn := sn) (sub := sub) (ab := ab) (col := col) (dd := dd) (k0 := k0) (k1 := k1) (k2 := k2) (k3 := k3) (k5 := k5)
    FB (mN := mN) (T.hasType FB.hasBase) (I.ok.hd hc) (by rw [he]; show (false || (backTo cpos (starEach es X.env)).any (·.1)) = false; rw [hpl]; rfl) hni (ld_glob I hg hm ⟨rfl, ?_⟩ hdb)
  have hp := ha cpos pins s σ H _ I h
  rw [he] at hp ⊢
  exact Calls.evalArgs_plain (thn hp fun us s1 ⟨vs, H1, I1, r, z, y⟩ => ⟨rfl, by rw [← r.length]; exact z, I1.bk _ _ hC, hN.keeps I1.bk, T.keeps I1.bk, fun h' a mx => hr pins σ H1 s1 a _ _ h' I1 mx y⟩)
end
end L2
end
section
set_option Elab.async false
set_option linter.all false
set_option maxRecDepth 100000
namespace L2
open PySem PySem.Spec PyProof.Rows
section
variable {X : Cx}
end
end L2
end
section
set_option Elab.async false
set_option linter.all false
set_option maxRecDepth 100000
set_option autoImplicit false
namespace L2
open PySem PySem.Spec PyProof.Rows
abbrev exO (a : Addr) (cls : Value) (d : Option Addr) : HO := .ext fun h => ∃ o vs, h.get? a = some o ∧ o.cls = cls ∧ o.dict = d ∧ o.data = .fields vs
abbrev Cx.hnd (X : Cx) (e : Value) : Cx := { X with A := X.A.mark (some e), calm := false, xe := fun _ _ => False }
section
variable {X : Cx} {pins : List (Addr × Obj)} {σ : St} {H : Hp} {s s' : Shared} {E : XK} {e : Value} {E' : Value → Shared → Prop}
theorem Inv.hnd (I : Inv X pins σ H s) (e : Value) : Inv (X.hnd e) pins σ H s :=
  ⟨⟨I.ok.mod, I.ok.kind, I.ok.glob, I.ok.blt, I.ok.above, I.ok.inj, I.ok.has, I.ok.cab, (fun z => by cases z), I.ok.frames, I.ok.stk, I.ok.exf, I.ok.bs, I.ok.bsz, I.ok.noex, I.ok.exfs, I.ok.funs, I.ok.frf⟩, I.os, I.bare, I.base, I.loc, I.cell, I.free, I.freeC, I.pin, I.hok, I.len⟩
end
def PSX (X : Cx) (body : List Stmt) (tb : XK → TS) : Prop :=
  ∀ (E : XK) (pins : List (Addr × Obj)) (s : Shared) (σ : St) (H : Hp) (D : Ends), Inv X pins σ H s → tb E D σ H → wpAny (model X.prog X.w) X.A (execs body X.env) (SP X pins D) (XL X E pins σ) s
section
variable {X : Cx} {CX : CXT} {k : Nat} {f C D : Addr} {fd : FuncData} {ps : List Str} {sp : Sp} {dvs : List V} {ds : List Value} {x n cx : Str} {p pos cpos np hpos : Pos} {e : Expr} {es : List Expr} {t : TA} {i : Nat} {o2 : List Env} {L : Addr} {bmB : List Value} {newId : String} {b0 : Stmt} {suite body : List Stmt} {tb : XK → TS} {ts : TS}
end
end L2
end
section
set_option Elab.async false
set_option linter.all false
set_option maxRecDepth 100000
set_option autoImplicit false
namespace L2
open PySem PySem.Spec PyProof.Rows PySem.W
structure ExcK (K : Frag) (D : Addr) : Prop where
  ga : findIn K (.ref D) "__getattribute__" = some (some (.builtin "BaseException.__getattribute__"))
  gn : findIn K (.ref D) "__getattr__" = some none
  sb : subIn K (.ref D) (.type "BaseException") = some true
  cl : (clsIn K D).isSome = true
  ca : findIn K (.ref D) "__class__" = some (some (.builtin "object.__class__"))
  cg : specialIn K (.builtin "object.__class__") "__get__" = some (some (.builtin "getset_descriptor.__get__"))
  ct : takesIn K (.builtin "object.__class__") = some true
  ob : mroIn K D (.type "object") = some true
theorem find_none {K : Frag} {C : Addr} {name : Str} {a g : Value} (hc : (clsIn K C).isSome = true) (ha : findIn K (.ref C) name = some (some a)) (hg : specialIn K a "__get__" = some (some g)) (ht : takesIn K a = some true) : findObj K C none name = some (.bind g a) := by
  obtain ⟨cd, hcd⟩ := Option.isSome_iff_exists.mp hc
  unfold findObj; rw [hcd, ha]; simp [hg, ht]
section
variable {prog : Program} {w : World} {A : Around} {E : Value → Shared → Prop} {s : Shared} {K : Frag} {x D : Addr} {ox : Obj}
theorem exc_ga {tk : Tok} {Q : Fin → Shared → Prop} (c : ExcK K D) (KX : K.In s.heap) (I : InstAt s.heap x ox D none) (h : Q (.done (.ret (.ref D))) s) : wpAny (model prog w) A (Builtin.«object.__getattribute__» ⟨[.ref x, .str "__class__" tk], []⟩) Q E s := by
  have L0 : Looks (model prog w) s.heap (typeOf (.ref x)) (.ref D) := I.type
  have L4 := looks_find (M := model prog w) KX I (find_none c.cl c.ca c.cg c.ct)
  obtain ⟨hh, g, d, t, os⟩ := s
  repeat (any_goals (first | assumption | with_reducible refine L0.at ?_ | with_reducible refine L4.at ?_ | wp_step))
  exact class_get (s := ⟨hh, g, d, t, os⟩) KX I c.ob (wpAny_pure h)
theorem exc_check {M : Model} {nameV : Value} {Q : Unit → Shared → Prop} (c : ExcK K D) (KX : K.In s.heap) (I : InstAt s.heap x ox D none) (h : Q () s) : wpAny M A (checkBuiltinCall "BaseException.__getattribute__" ⟨[.ref x, nameV], []⟩) Q E s := by
  have kd : builtinKind "BaseException.__getattribute__" = some .slot := by decide +kernel
  have sp : splitId "BaseException.__getattribute__" = some ("BaseException", "__getattribute__") := by decide +kernel
  have ha := F.args_bexc_ga (.ref x) nameV
  have L0 := I.type (M := M)
  have L3 := looks_subIn (M := M) KX c.sb
  obtain ⟨hh, g, d, t, os⟩ := s
  simp only [checkBuiltinCall, kd, sp]
  refine wpAny_bind ?_
  unfold isInstance
  repeat (first | with_reducible refine L0.at ?_ | with_reducible refine L3.at ?_ | wp_step)
  exact h
theorem exc_class_attr {Q : Option Value → Shared → Prop} (c : ExcK K D) (KX : K.In s.heap) (I : InstAt s.heap x ox D none) (h : Q (some (.ref D)) { s with toks := s.toks + 1 }) : wpAny (model prog w) A (getAttr? (.ref x) "__class__") Q E s := by
  have L0 : Looks (model prog w) s.heap (typeOf (.ref x)) (.ref D) := I.type
  have L1 := looks_findIn (M := model prog w) KX c.ga
  have L2 := looks_findIn (M := model prog w) KX c.gn
  have L3 := looks_subIn (M := model prog w) KX c.sb
  obtain ⟨hh, g, d, t, os⟩ := s
  unfold getAttr? getAttrBy?; unfold getAttrBy; refine wpAny_bind (wpAny_mkText (wpAny_bind (wpAny_attempt (wpAny_holding (wpAny_bind (L0.at (wpAny_bind (L1.at ?_))))))))
  have ne : (Value.builtin "BaseException.__getattribute__" == Value.builtin "object.__getattribute__") = false := by decide +kernel
  dsimp only
  rw [ne, Bool.and_false, if_neg (by decide)]
  unfold getAttrByItsOwn hookBefore
  rw [if_pos (by rfl)]
  refine wpAny_bind (L2.at (wpAny_bind (wpAny_attempt (wpAny_holding ?_))))
  unfold callGetattribute boundAndCalled
  rw [if_neg (by decide)]
  refine wpAny_bind (wpAny_of_eq (F.attr_ValueError.ga.bind (.ref x)) ?_)
  refine wpAny_call (codeAny_call_builtin F.attr_ValueError.ga.plain F.entry_bexc_ga (exc_check c KX I (exc_ga c KX I ?_)))
  exact handed_on rfl (wpAny_pure h)
theorem exc_kit (c : ExcK K D) : KitX K (.ref x) (.ref D) (fun h => ∃ ox, InstAt h x ox D none) where
  ty := fun _ _ _ ⟨_, I⟩ => I.type
  it := fun _ _ KX _ => by
    obtain ⟨cd, hc⟩ := Option.isSome_iff_exists.mp c.cl
    unfold clsIn at hc
    split at hc
    · rename_i ho
      intro A' Q' E' s' k q
      unfold isType loadHead
      exact wpAny_bind (wpAny_loadPart (k _ _ (KX _ _ ho)) (wpAny_pure q))
    · cases hc
  ne := fun h tp dd its n sl KX htp => by
    obtain ⟨cd, hc⟩ := Option.isSome_iff_exists.mp c.cl
    refine Bool.eq_false_iff.mpr fun same => ?_
    obtain rfl : D = tp := Value.ref.inj (beq_iff_eq.mp same)
    unfold clsIn at hc
    split at hc
    · rename_i ho
      have z := (KX _ _ ho).symm.trans htp
      cases z
    · cases hc
  ca := fun KX ⟨_, I⟩ k => exc_class_attr c KX I k
end
section
variable {X : Cx} {a C : Addr} {pins : List (Addr × Obj)} {σ : St} {H : Hp} {s : Shared}
theorem Inv.exc (I : Inv X pins σ H s) (h : H a = some (exO a (.ref C) none)) : ∃ ox, InstAt s.heap a ox C none := by
  obtain ⟨⟨o, vs, ho, hc, hd, hv⟩, _⟩ := I.hok a _ h
  exact ⟨o, ho, hc, by unfold notCls; rw [hv], by rw [hd]; trivial⟩
def rIsT (K : Frag) : List V → Hp → VK → Prop := fun xs H Q => ∃ a C T b, xs = [.ref a, .ty T] ∧ H a = some (exO a (.ref C) none) ∧ ExcK K C ∧ kitOne K (.ref C) (.type T) = some b ∧ Q (.bl b) H
theorem cr_isT : CallR X (.builtin "isinstance") (rIsT X.K) := by
  rintro pins s σ H xs us Q I r ⟨a, C, T, b, rfl, ha, c, k, q⟩
  obtain ⟨u, v, rfl, r1, r2⟩ := r.two
  cases r1; cases r2
  exact kia_one (exc_kit c) I.kIn (I.exc ha) k (by intro z; cases z) fun tk => ⟨.bl b, H, I.tok _, rfl, q⟩
end
end L2
end
section
set_option Elab.async false
set_option linter.all false
set_option maxRecDepth 100000
set_option autoImplicit false
namespace L2
open PySem PySem.Spec PyProof.Rows
section
variable {P : Program} {w : World} {K : PySem.W.Frag} {mg : Str → Option Value} {base : Heap}
theorem Fun.okN {x qual : Str} {st : Stmt} {f : Addr} {fd : FuncData} {N ps : List Str} {k : Nat} {sp : Sp} (F : Fun K x qual st f fd) (S : FnScope N ps (defScope st)) (len : ∀ vs H Q E, sp vs H Q E → vs.length = ps.length)
    (hbody : ∀ (cdv : Value) (A : Around) (outer : List Env) (s : Shared) (H : Hp) (vs : List V) (Q : VK) (E : XK), Room k (A.deeper (envOfC qual (defScope st) s.heap.objs.size f cdv)) → sp vs H Q E →
      ∃ t, ZSs (cxOf (CXE P w) P w K mg base N qual (defScope st) f cdv A outer s H E).nox (defBody st) t ∧ t { nx := fun _ H' => Q .non H', rt := Q } (start N vs) H) : FnOk P w K mg base (CXE P w) (k + 1) f fd ps sp := by
  obtain ⟨oc, od, kV, doc, pm, an, cdv, ct, osl, rfl, lk, hcd⟩ := F.ex
  refine fn_of lk hcd S len fun A outer s H vs Q E hr h => ?_
  obtain ⟨t, z, q⟩ := hbody cdv A outer s H vs Q E hr h
  refine ⟨t, fun pins s1 σ H1 D I ht => ?_, q⟩
  exact wpAny_mono (z.h pins s1 σ H1 D (I.wish _) ht) (fun fl s2 h2 => by
    cases fl with
    | next => obtain ⟨σ2, H2, I2, r⟩ := h2; exact ⟨σ2, H2, I2.unwish, r⟩
    | brk => obtain ⟨σ2, H2, I2, r⟩ := h2; exact ⟨σ2, H2, I2.unwish, r⟩
    | cont => obtain ⟨σ2, H2, I2, r⟩ := h2; exact ⟨σ2, H2, I2.unwish, r⟩
    | ret u => obtain ⟨v, σ2, H2, I2, r⟩ := h2; exact ⟨v, σ2, H2, I2.unwish, r⟩) fun _ _ y => y.elim
end
namespace Z
section
variable {X : Cx} {x n cx : Str} {C D : Addr} {E : XK} {e : Expr} {es : List Expr} {t : TA} {np cpos pos hpos p : Pos} {bmB : List Value} {newId initId B : String} {tg iter elt : Expr} {wi : TI} {g : TG} {tt : TT} {te : TE}
theorem raise (FB : ExcBaseFacts B newId initId bmB) (c : ExcC X.K C bmB newId) (hr : RaiseOk X E) (hm : X.mg x = some (.ref C)) (ha : ZA X (e :: es) t) (hc : X.calm = true := by kernel_rfl) (hg : X.env.kindOf x = some .globalImplicit := by kernel_rfl) (hdb : (x == ("__debug__" : Str)) = false := by kernel_rfl)
    (he : starEach (e :: es) X.env = (false, eval e X.env) :: starEach es X.env := by kernel_rfl) (hpl : (backTo cpos (starEach es X.env)).any (·.1) = false := by kernel_rfl) :
    ZS X (.Raise (some (.Call (.Name x np) (e :: es) [] cpos)) none pos) (tRaise C E t) := ⟨ps_raise FB c hr hc hg hm ha.h hdb he hpl⟩
structure ZX (X : Cx) (body : List Stmt) (tb : XK → TS) : Prop where
  h : PSX X body tb
theorem isT : ZCall X (.builtin "isinstance") (rIsT X.K) := ⟨cr_isT⟩
end
end Z
end L2
end
section
set_option Elab.async false
set_option linter.all false
set_option maxRecDepth 100000
set_option autoImplicit false
namespace L2
open PySem PySem.Spec PyProof.Rows
theorem Vals.cut : ∀ {xs : List V} {us : List Value} (k : Nat), Vals xs us → Vals (xs.take k) (us.take k) ∧ Vals (xs.drop k) (us.drop k)
  | _, _, 0, h => ⟨by rw [List.take_zero, List.take_zero]; exact .nil, by rw [List.drop_zero, List.drop_zero]; exact h⟩
  | _, _, k + 1, .nil => ⟨.nil, .nil⟩
  | _, _, k + 1, .cons r t => ⟨.cons r (Vals.cut k t).1, (Vals.cut k t).2⟩
section
variable {X : Cx}
end
namespace Z
section
variable {X : Cx} {pos p tpos : Pos} {tg e a b : Expr} {elts : List Expr} {kk : Nat}
end
end Z
end L2
end
section
set_option Elab.async false
set_option linter.all false
set_option maxRecDepth 100000
set_option autoImplicit false
namespace L2
open PySem PySem.Spec PyProof.Rows
def PX1 (X : Cx) (st : Stmt) (tb : XK → TS) : Prop :=
  ∀ (E : XK) (pins : List (Addr × Obj)) (s : Shared) (σ : St) (H : Hp) (D : Ends), Inv X pins σ H s → tb E D σ H → wpAny (model X.prog X.w) X.A (exec st X.env) (SP X pins D) (XL X E pins σ) s
section
variable {X : Cx} {CX : CXT} {k : Nat} {f C D : Addr} {fd : FuncData} {ps : List Str} {sp : Sp} {dvs : List V} {ds : List Value} {x m n cx : Str} {p pos cpos apos np hpos : Pos} {e o c : Expr} {es : List Expr} {t : TA} {to : TE} {tc : TT} {o2 : List Env} {L : Addr} {bmB : List Value} {newId : String} {b0 st : Stmt} {suite body a b : List Stmt} {tb tb1 tb2 : XK → TS} {ts : TS}
end
namespace Z
section
variable {X : Cx} {CX : CXT} {k : Nat} {f C D : Addr} {fd : FuncData} {ps : List Str} {sp : Sp} {E : XK} {x m n cx fl : Str} {p pos pos' cpos apos np hpos : Pos} {e o c value : Expr} {es : List Expr} {t : TA} {to te tv : TE} {tc : TT} {o2 : List Env} {L : Addr} {bmB : List Value} {newId : String} {b0 st : Stmt} {suite body a b : List Stmt} {tb tb1 tb2 : XK → TS} {ts : TS}
theorem fld (he : ZE X o to) (hb : attributeBase o fl X.env (eval o X.env) = eval o X.env := by kernel_rfl) : ZE X (.Attribute o fl pos) (tFld X.K to fl) := ⟨pe_fld he.h hb⟩
theorem make (M : Mk X.K C f) (F : FnOk X.prog X.w X.K X.mg X.base CX k f fd ps sp) (hr : Room (k + 1) X.A) (hm : X.mg x = some (.ref C)) (hb : Binds X.K fd ps []) (hx : Passes CX X E) (ha : ZA X (e :: es) t) (hg : X.env.kindOf x = some .globalImplicit := by kernel_rfl) (hdb : (x == ("__debug__" : Str)) = false := by kernel_rfl)
    (he : starEach (e :: es) X.env = (false, eval e X.env) :: starEach es X.env := by kernel_rfl) (hpl : (backTo pos (starEach es X.env)).any (·.1) = false := by kernel_rfl) : ZE X (.Call (.Name x p) (e :: es) [] pos) (tMake C sp [] E t) := ⟨pe_make M F hr hg hm hb .nil hx ha.h hdb he hpl⟩
structure ZX1 (X : Cx) (st : Stmt) (tb : XK → TS) : Prop where
  h : PX1 X st tb
end
end Z
end L2
end
section
set_option Elab.async false
set_option linter.all false
set_option maxRecDepth 100000
set_option autoImplicit false
namespace L2
open PySem PySem.Spec PyProof.Rows
section
variable {X : Cx} {o i : Expr} {td ty : TE} {tpos pos : Pos}
end
namespace Z
end Z
end L2
end
section
set_option Elab.async false
set_option linter.all false
set_option maxRecDepth 100000
namespace KB
open PySem L2
set_option autoImplicit false
theorem sqT_same {K : PySem.W.Frag} {H H' : Hp} {a : Addr} {xs : List V} (e : Same H H') (h : SqT K H a xs) : SqT K H' a xs := by
  rcases h with (h | ⟨o, h⟩) | h
  · exact .inl (.inl (e _ _ h))
  · exact .inl (.inr ⟨o, e _ _ h⟩)
  · exact .inr h
theorem same_upd {H : Hp} {p : Addr} {o : HO} (h : H p = none) : Same H (upd H p o) := fun b u e => by rw [upd_ne (ne_of_none e h)]; exact e
theorem get_map {α β : Type} {l : List α} {g : α → β} {i : Nat} {y : β} (h : (l.map g)[i]? = some y) : ∃ x, l[i]? = some x ∧ y = g x := by
  rw [List.getElem?_map] at h
  cases e : l[i]? with
  | none => rw [e] at h; cases h
  | some x => rw [e] at h; exact ⟨x, rfl, (Option.some.inj h).symm⟩
theorem small {n : Nat} (h : n ≤ 1000) : n ≤ sizeLine := Nat.le_trans h (by decide)
theorem sqT_put {K : PySem.W.Frag} {H : Hp} {D a : Addr} {l xs : List V} {o : HO} (h : H D = some (.lst l)) (t : SqT K H a xs) : SqT K (upd H D o) a xs := by
  rcases t with (t | ⟨u, t⟩) | t
  · exact .inl (.inl (by rw [upd_ne (ne_of t h (by intro z; cases z))]; exact t))
  · exact .inl (.inr ⟨u, by rw [upd_ne (ne_of t h (by intro z; cases z))]; exact t⟩)
  · exact .inr t
def But (p : Addr) (H H' : Hp) : Prop := ∀ b o, b ≠ p → H b = some o → H' b = some o
theorem But.refl (p : Addr) (H : Hp) : But p H H := fun _ _ _ h => h
theorem But.trans {p : Addr} {H H1 H2 : Hp} (x : But p H H1) (y : But p H1 H2) : But p H H2 := fun b o n h => y b o n (x b o n h)
theorem But.of {p : Addr} {H H' : Hp} (x : Same H H') : But p H H' := fun b o _ h => x b o h
theorem But.upd {p : Addr} {H : Hp} {o : HO} : But p H (upd H p o) := fun b u n h => by rw [upd_ne n]; exact h
theorem But.seq {K : PySem.W.Frag} {p : Addr} {H H' : Hp} {a : Addr} {xs : List V} (e : But p H H') (n : a ≠ p ∨ ∀ H0 : Hp, SqL K H0 a xs) (h : SqL K H a xs) : SqL K H' a xs := by
  rcases n with n | n
  case inr => exact n H'
  rcases h with (h | ⟨o, h⟩) | h
  · exact .inl (.inl (e _ _ n h))
  · exact .inl (.inr ⟨o, e _ _ n h⟩)
  · exact .inr h
theorem But.tup {K : PySem.W.Frag} {p : Addr} {H H' : Hp} {a : Addr} {xs l : List V} (e : But p H H') (hp : H p = some (.lst l)) (h : SqT K H a xs) : SqT K H' a xs := by
  rcases h with (h | ⟨o, h⟩) | h
  · exact .inl (.inl (e _ _ (ne_of h hp (by intro z; cases z)) h))
  · exact .inl (.inr ⟨o, e _ _ (ne_of h hp (by intro z; cases z)) h⟩)
  · exact .inr h
structure Dn (K : PySem.W.Frag) (mg : Str → Option Value) (x : Str) (st : Stmt) (ps : List Str) (f : Addr) (fd : FuncData) : Prop where
  F : Fun K x x st f fd
  b : Binds K fd ps []
  m : mg x = some (.ref f)
structure Fx (K : PySem.W.Frag) (x : Str) (st : Stmt) (f : Addr) (fd : FuncData) : Prop where
  ns : PySem.W.nsIn K mainGlobals x = some (some (.ref f))
  F : Fun K x x st f fd
theorem fx_mk {K : PySem.W.Frag} {x : Str} {st : Stmt} {f : Addr} {oc : Value} {od an : Option Addr} {osl : Array (Option Value)} {kV doc pm cdv ct : Value} (a : PySem.W.nsIn K mainGlobals x = some (some (.ref f)))
    (l : K.lookup f = some ⟨oc, od, .func (PySem.W.fnOf x x (defArgs st) (defBody st) (defScope st) .none kV doc pm an cdv ct), osl⟩) (c : PySem.W.codeIn K cdv x = true) (k : PySem.W.keepIn K (.ref f) = true) :
    Fx K x st f (PySem.W.fnOf x x (defArgs st) (defBody st) (defScope st) .none kV doc pm an cdv ct) := ⟨a, fun_mk l c k⟩
theorem ns_mk {K : PySem.W.Frag} {x : Str} {z : Int} {t : Nat} (e : PySem.W.nsIn K mainGlobals x = some (some (.int z t))) : ∃ t, PySem.W.nsIn K mainGlobals x = some (some (.int z t)) := ⟨t, e⟩
theorem fxx_mk {K : PySem.W.Frag} {x : Str} {st : Stmt} {f : Addr} {oc : Value} {od an : Option Addr} {osl : Array (Option Value)} {kV doc pm cdv ct : Value} (a : PySem.W.nsIn K mainGlobals x = some (some (.ref f)))
    (l : K.lookup f = some ⟨oc, od, .func (PySem.W.fnOf x x (defArgs st) (defBody st) (defScope st) .none kV doc pm an cdv ct), osl⟩) (c : PySem.W.codeIn K cdv x = true) (k : PySem.W.keepIn K (.ref f) = true) : ∃ f fd, Fx K x st f fd := ⟨_, _, fx_mk a l c k⟩
theorem Fx.dn {K : PySem.W.Frag} {h : Heap} {mg : Str → Option Value} {x : Str} {st : Stmt} {f : Addr} {fd : FuncData} (X : Fx K x st f fd) (KX : K.In h) (G : h.Ns mainGlobals mg) (ps : List Str)
    (hb : ∀ (kV doc pm : Value) (an : Option Addr) (cdv ct : Value) (us : List Value), us.length = ps.length → bindArgs (PySem.W.fnOf x x (defArgs st) (defBody st) (defScope st) .none kV doc pm an cdv ct) ⟨us, []⟩ = pure (ps.zip us)) : Dn K mg x st ps f fd :=
  ⟨X.F, X.F.binds hb, PySem.W.mg_of KX G X.ns⟩
theorem layAll : ∀ {ds : List PyData}, (∀ d ∈ ds, d.canLay0 = true) → PyData.canLayAll0 ds = true
  | [], _ => rfl
  | d :: ds, h => by rw [PyData.canLayAll0, h d List.mem_cons_self, layAll fun z hz => h z (List.mem_cons_of_mem _ hz)]; rfl
theorem depthAll_le {n : Nat} : ∀ {ds : List PyData}, (∀ d ∈ ds, d.depth ≤ n) → PyData.depthAll ds ≤ n
  | [], _ => by rw [PyData.depthAll]; omega
  | d :: ds, h => by
    rw [PyData.depthAll]
    have h1 := h d List.mem_cons_self
    have h2 := depthAll_le fun z hz => h z (List.mem_cons_of_mem d hz)
    omega
end KB
namespace L2
open PySem KB
theorem DpAll.get {K : PySem.W.Frag} {H : Hp} : ∀ {xs : List V} {ds : List PyData}, DpAll K H xs ds → xs.length = ds.length ∧ ∀ (i : Nat) (x : V), xs[i]? = some x → ∃ d, ds[i]? = some d ∧ Dp K H x d
  | _, _, .nil => ⟨rfl, fun i x e => by simp at e⟩
  | _, _, .cons h t => by
    obtain ⟨hl, ha⟩ := DpAll.get t
    refine ⟨by simp [hl], fun i x e => ?_⟩
    cases i with
    | zero => simp at e; subst e; exact ⟨_, rfl, h⟩
    | succ i => exact ha i x (by simpa using e)
theorem DpAll.take {K : PySem.W.Frag} {H : Hp} : ∀ {xs : List V} {ds : List PyData} (n : Nat), DpAll K H xs ds → DpAll K H (xs.take n) (ds.take n)
  | _, _, 0, _ => by rw [List.take_zero, List.take_zero]; exact .nil
  | _, _, _ + 1, .nil => .nil
  | _, _, n + 1, .cons h t => .cons h (DpAll.take n t)
mutual
theorem Dp.same {K : PySem.W.Frag} {H H' : Hp} (e : Same H H') : ∀ {v : V} {d : PyData}, Dp K H v d → Dp K H' v d
  | _, _, .non => .non
  | _, _, .bl b => .bl b
  | _, _, .int i => .int i
  | _, _, .str x => .str x
  | _, _, .lst h t => .lst (e.seq h) (DpAll.same e t)
  | _, _, .tup h t => .tup (sqT_same e h) (DpAll.same e t)
theorem DpAll.same {K : PySem.W.Frag} {H H' : Hp} (e : Same H H') : ∀ {v : List V} {d : List PyData}, DpAll K H v d → DpAll K H' v d
  | _, _, .nil => .nil
  | _, _, .cons h t => .cons (Dp.same e h) (DpAll.same e t)
end
end L2
end
section
set_option Elab.async false
set_option linter.all false
set_option maxRecDepth 100000
set_option autoImplicit false
namespace L2
open PySem PySem.Spec PyProof.Rows
section
variable {X : Cx}
end
namespace Z
end Z
end L2
namespace KB
open PySem L2
def NotNum (v : V) : Prop := v = .non ∨ (∃ b, v = .bl b) ∨ ∃ x, v = .str x
def spIsNum : Sp := fun vs H Q _ => ∃ v : V, vs = [v] ∧ ((∃ i : Int, v = .int i ∧ Q (.bl true) H) ∨ (NotNum v ∧ Q (.bl false) H))
structure Mn (K : PySem.W.Frag) (C : Addr) (c m : Str) (st : Stmt) (ps : List Str) (f : Addr) (fd : FuncData) : Prop where
  F : Fun K m c st f fd
  b : Binds K fd ps []
  m : Meth K C m f
structure Ex (K : PySem.W.Frag) (mg : Str → Option Value) (x : Str) (C : Addr) : Prop where
  c : ExcC K C [.type "ValueError", .type "Exception", .type "BaseException", .type "object"] "ValueError.__new__"
  m : mg x = some (.ref C)
  s : PySem.W.subIn K (.ref C) (.ref C) = some true
def FlatAll (vs : List V) (ds : List PyData) : Prop := (∀ (K : PySem.W.Frag) (H : Hp), DpAll K H vs ds) ∧ ∀ d ∈ ds, d.canLay0 = true ∧ d.depth = 0
theorem FlatAll.nil : FlatAll [] [] := ⟨fun _ _ => .nil, fun d h => by cases h⟩
theorem FlatAll.int {vs : List V} {ds : List PyData} (i : Int) (h : FlatAll vs ds) : FlatAll (.int i :: vs) (.int i :: ds) := ⟨fun K H => .cons (.int i) (h.1 K H), fun d hd => by
  rcases List.mem_cons.mp hd with rfl | hd
  · exact ⟨by rw [PyData.canLay0], by rw [PyData.depth] <;> intros <;> simp⟩
  · exact h.2 d hd⟩
theorem FlatAll.non {vs : List V} {ds : List PyData} (h : FlatAll vs ds) : FlatAll (.non :: vs) (.none :: ds) := ⟨fun K H => .cons .non (h.1 K H), fun d hd => by
  rcases List.mem_cons.mp hd with rfl | hd
  · exact ⟨by rw [PyData.canLay0], by rw [PyData.depth] <;> intros <;> simp⟩
  · exact h.2 d hd⟩
theorem FlatAll.str {vs : List V} {ds : List PyData} {x : Str} (hx : PyData.strOk x = true) (h : FlatAll vs ds) : FlatAll (.str x :: vs) (.str x :: ds) := ⟨fun K H => .cons (.str x) (h.1 K H), fun d hd => by
  rcases List.mem_cons.mp hd with rfl | hd
  · exact ⟨by rw [PyData.canLay0]; exact hx, by rw [PyData.depth] <;> intros <;> simp⟩
  · exact h.2 d hd⟩
def PkV (K : PySem.W.Frag) (H : Hp) (v : V) : Prop := ∃ (q : Addr) (vs : List V) (ds : List PyData), v = .ref q ∧ SqT K H q vs ∧ FlatAll vs ds
def Pks (K : PySem.W.Frag) (H : Hp) (xs : List V) : Prop := ∀ v ∈ xs, PkV K H v
theorem PkV.same {K : PySem.W.Frag} {H H' : Hp} {v : V} (e : Same H H') : PkV K H v → PkV K H' v := fun ⟨q, a, c, h1, h2, h3⟩ => ⟨q, a, c, h1, sqT_same e h2, h3⟩
theorem PkV.put {K : PySem.W.Frag} {H : Hp} {D : Addr} {l : List V} {o : HO} {v : V} (h : H D = some (.lst l)) : PkV K H v → PkV K (upd H D o) v := fun ⟨q, a, c, h1, h2, h3⟩ => ⟨q, a, c, h1, sqT_put h h2, h3⟩
theorem Pks.same {K : PySem.W.Frag} {H H' : Hp} {xs : List V} (e : Same H H') (h : Pks K H xs) : Pks K H' xs := fun v hv => (h v hv).same e
theorem Pks.put {K : PySem.W.Frag} {H : Hp} {D : Addr} {l xs : List V} {o : HO} (e : H D = some (.lst l)) (h : Pks K H xs) : Pks K (upd H D o) xs := fun v hv => (h v hv).put e
theorem Pks.app {K : PySem.W.Frag} {H : Hp} {xs ys : List V} (h : Pks K H xs) (h2 : Pks K H ys) : Pks K H (xs ++ ys) := fun v hv => (List.mem_append.mp hv).elim (h v) (h2 v)
theorem Pks.one {K : PySem.W.Frag} {H : Hp} {x : V} (h : PkV K H x) : Pks K H [x] := fun v hv => by cases List.mem_singleton.mp hv; exact h
theorem Pks.but {K : PySem.W.Frag} {H H' : Hp} {D : Addr} {l xs : List V} (e : H D = some (.lst l)) (b : But D H H') (h : Pks K H xs) : Pks K H' xs := fun v hv => let ⟨q, a, c, h1, h2, h3⟩ := h v hv; ⟨q, a, c, h1, b.tup e h2, h3⟩
theorem neB {a b : Bool} (h : a = b) : V.bl (!decide (V.bl a = V.bl b)) = V.bl false := by subst h; simp
theorem PkV.data {K : PySem.W.Frag} {H : Hp} {v : V} (h : PkV K H v) : ∃ d, Dp K H v d ∧ d.canLay0 = true ∧ d.depth ≤ 1 := by
  obtain ⟨q, vs, ds, rfl, hq, h1, h2⟩ := h
  refine ⟨.tuple ds, .tup hq (h1 K H), ?_, ?_⟩
  · rw [PyData.canLay0]; exact layAll fun d hd => (h2 d hd).1
  · rw [PyData.depth]; have := depthAll_le (n := 0) fun d hd => Nat.le_of_eq (h2 d hd).2; omega
theorem Pks.data {K : PySem.W.Frag} {H : Hp} : ∀ {xs : List V}, Pks K H xs → ∃ ds : List PyData, DpAll K H xs ds ∧ ∀ d ∈ ds, d.canLay0 = true ∧ d.depth ≤ 1
  | [], _ => ⟨[], .nil, fun d hd => by cases hd⟩
  | v :: xs, h => by
    obtain ⟨ds, h1, h2⟩ := Pks.data fun z hz => h z (List.mem_cons_of_mem v hz)
    obtain ⟨d, hd, e1, e2⟩ := (h v List.mem_cons_self).data
    exact ⟨d :: ds, .cons hd h1, fun z hz => by
      rcases List.mem_cons.mp hz with rfl | hz
      · exact ⟨e1, e2⟩
      · exact h2 z hz⟩
theorem shaped_of {d : PyData} (h : d.canLay0 = true) (h2 : d.depth ≤ 64) : SeqAt.shaped d = true := by
  unfold SeqAt.shaped
  rw [h, decide_eq_true h2]
  rfl
theorem lay_list {n : Nat} {ds : List PyData} (h : ∀ d ∈ ds, d.canLay0 = true ∧ d.depth ≤ n) : (PyData.list ds).canLay0 = true ∧ (PyData.list ds).depth ≤ n + 1 := by
  refine ⟨?_, ?_⟩
  · rw [PyData.canLay0]; exact layAll fun d hd => (h d hd).1
  · rw [PyData.depth]; have := depthAll_le fun d hd => (h d hd).2; omega
theorem Pks.ne {K : PySem.W.Frag} {H : Hp} {a b : Addr} {xs : List V} {Q : VK} (h : Pks K H xs) (ha : SqL K H a xs) (hb : SqL K H b xs) (q : Q (.bl false) H) : rNeD K (.ref a) (.ref b) H Q := by
  obtain ⟨ds, dx, lx⟩ := h.data
  have ll := lay_list lx
  have sh : SeqAt.shaped (.list ds) = true := shaped_of ll.1 (by omega)
  refine ⟨.list ds, .list ds, .lst ha dx, .lst hb dx, sh, sh, ?_⟩
  rw [SeqAt.eqv_refl _ ll.1]
  exact q
theorem Pks.eq {K : PySem.W.Frag} {H : Hp} {a b : Addr} {xs : List V} {Q : VK} (h : Pks K H xs) (ha : SqL K H a xs) (hb : SqL K H b xs) (q : Q (.bl true) H) : rEqD K (.ref a) (.ref b) H Q := by
  obtain ⟨ds, dx, lx⟩ := h.data
  have ll := lay_list lx
  have sh : SeqAt.shaped (.list ds) = true := shaped_of ll.1 (by omega)
  refine ⟨.list ds, .list ds, .lst ha dx, .lst hb dx, sh, sh, ?_⟩
  rw [SeqAt.eqv_refl _ ll.1]
  exact q
theorem PkV.ne {K : PySem.W.Frag} {H : Hp} {x : V} {Q : VK} (h : PkV K H x) (q : Q (.bl false) H) : rNeD K x x H Q := by
  obtain ⟨d, hd, e1, e2⟩ := h.data
  have sh : SeqAt.shaped d = true := shaped_of e1 (by omega)
  refine ⟨d, d, hd, hd, sh, sh, ?_⟩
  rw [SeqAt.eqv_refl _ e1]
  exact q
theorem PkV.eq {K : PySem.W.Frag} {H : Hp} {x : V} {Q : VK} (h : PkV K H x) (q : Q (.bl true) H) : rEqD K x x H Q := by
  obtain ⟨d, hd, e1, e2⟩ := h.data
  have sh : SeqAt.shaped d = true := shaped_of e1 (by omega)
  refine ⟨d, d, hd, hd, sh, sh, ?_⟩
  rw [SeqAt.eqv_refl _ e1]
  exact q
end KB
end
section
set_option Elab.async false
set_option linter.all false
set_option maxRecDepth 100000
set_option autoImplicit false
namespace L2.Z
open PySem PySem.Spec PyProof.Rows
section
variable {X : Cx} {K : PySem.W.Frag} {tg e o : Expr} {es : List Expr} {te to : TE} {t : TA} {pos apos cpos : Pos} {fl name : Str} {id T : String}
theorem ixLK (h : X.K = K) : ZIx X (rIxL K) := h ▸ ixL
theorem ixTK (h : X.K = K) : ZIx X (rIxT K) := h ▸ ixT
def rLenK (K : PySem.W.Frag) : List V → Hp → VK → Prop := fun xs H Q => ∃ p ys, xs = [.ref p] ∧ (SqL K H p ys ∨ SqT K H p ys) ∧ Q (.int ys.length) H
theorem lenK (h : X.K = K) : ZCall X (.builtin "len") (rLenK K) := by subst h; exact len
def rTupK (K : PySem.W.Frag) : List V → Hp → VK → Prop := fun xs H Q => ∃ p ys, xs = [.ref p] ∧ ((SqL K H p ys ∧ ∀ l, H l = none → Q (.ref l) (upd H l (.tup ys))) ∨ (SqT K H p ys ∧ Q (.ref p) H))
theorem itK (h : X.K = K) (he : ZE X e te) : ZI X tg e (iTup K te) := by subst h; exact it he
theorem tnotN {j : Nat} {a : Expr} {ta : TE} {pos' : Pos} (ha : ZE X a ta) : ZT X (.Compare a [.IsNot] [.Constant .none j pos'] pos) (tB (tNotN ta)) := ⟨pt_cmp (pc_notN ha.h) rfl⟩
end
end L2.Z
end
section
set_option Elab.async false
set_option linter.all false
set_option maxRecDepth 100000
set_option autoImplicit false
namespace L2
open PySem PySem.Spec PyProof.Rows
section
variable {X : Cx} {pins : List (Addr × Obj)} {σ : St} {H : Hp} {s : Shared} {a : Addr} {y v : V} {u r : Value} {A : Around} {E : Value → Shared → Prop}
theorem d_dictSet {H' : Hp} {Q : Unit → Shared → Prop} (hu : A.units + 1 < cLine) (I : Inv X pins σ H s) (g : DPut H a y v H') (ry : RelV y u) (rv : RelV v r) (h : ∀ s', Inv X pins σ H' s' → Q () s') :
    wpAny (model X.prog X.w) A (dictSet a u r) Q E s := by
  rcases g with ⟨kvs, k, e, ey, l, eH⟩ | ⟨kvs, k, b, e, ey, eb, l, eH⟩
  · subst ey eH
    obtain ⟨z, hd, vs, rel, dd⟩ := dk_of I.hok e
    have hz : vs.length ≤ sizeLine := by rw [← rel.length]; exact z
    have hl : (putK kvs k v).length ≤ sizeLine := by have := length_putK kvs k v; omega
    refine wpAny_dictSet_pairs (hsz := hz) (kV_is ry) dd fun h' dd' hs => h _ ?_
    have he : ∃ q, h'.get? a = some q := let ⟨q, _, _, hq, _⟩ := dd'; ⟨q, hq⟩
    exact d_write I (by rw [e]; exact True.intro) hs he (dk_new hl hd (rel.put k rv) dd')
  · subst ey eH
    cases (show u = Value.ref b from ry)
    obtain ⟨z, hd, xs, rel, dd⟩ := dt_of I.hok e
    have hz : xs.length ≤ sizeLine := by rw [← Paired.length rel]; exact z
    have hl : (putK kvs k v).length ≤ sizeLine := by have := length_putK kvs k v; omega
    refine wpAny_dictSet_heap (hsz := hz) (show (tupleKind (mixKind X.prog X.w)).room A from Nat.lt_of_succ_lt hu) (key_of I.hok eb) dd fun h' dd' hs => h _ ?_
    obtain ⟨q, es, ep, hq, h2, h3, h4, _, h5⟩ := dd'
    refine d_write I (by rw [e]; exact True.intro) hs ⟨q, hq⟩ ⟨hl, hd, _, (rel.put k eb rv).keeps fun c ys ec => ?_, q, es, ep, hq, h2, h3, h4, h5⟩
    rw [upd_ne (ne_of ec e (fun z => nomatch z))]
    exact ec
end
abbrev lostBy (P : Program) (w : World) (A : Around) (env : Env) (R : Result → Shared → Prop) : Value → Shared → Prop := notedBy (model P w) A env fun e s' => R (.error e) s'
def storesD (P : Program) (w : World) (A : Around) (env : Env) (R : Result → Shared → Prop) (kx vx : Expr) (D : Addr) (Z : Shared → Prop) : Shared → Prop := fun s =>
  wpAny (model P w) A (eval kx env) (fun k s1 => wpAny (model P w) A (eval vx env) (fun v s2 => wpAny (model P w) A (dictSet D k v) (fun _ s3 => Z s3) (lostBy P w A env R) s2) (lostBy P w A env R) s1) (lostBy P w A env R) s
theorem compLoop_anyD {P : Program} {w : World} {A : Around} {R : Result → Shared → Prop} {s : Shared} {kx vx tg iter : Expr} {ifs : List Expr} {scope : Scope} {pos : Pos} {it : Value} {D : Addr} {env : Env} (J : Nat → Shared → Prop)
    (turn : ∀ n s, J n s → wpAny (model P w) A (pyNext it) (fun r s1 => match r with
      | none => R (.ok .next) s1
      | some v => wpAny (model P w) A (letOwnedTupleGo tg it v) (fun _ s2 => wpAny (model P w) A (assign tg env v) (fun _ s3 =>
          wpAny (model P w) A (forIn ifs true fun c r => if r = true then do let ok ← isTrue c env (eval c env); pure (ForInStep.yield ok) else pure (ForInStep.yield r))
            (fun ok s4 => if ok = true then storesD P w A env R kx vx D (fun s' => ∃ m, m < n ∧ J m s') s4 else ∃ m, m < n ∧ J m s4) (lostBy P w A env R) s3) (lostBy P w A env R) s2) (lostBy P w A env R) s1) (lostBy P w A env R) s)
    (n : Nat) (h : J n s) : codeAny (model P w) A (.compLoop (.DictComp kx vx [⟨tg, iter, ifs, 0⟩] scope pos) 0 it (.ref D) env) R s := by
  refine codeAny_loop rfl J (fun n s hJ => ?_) n h
  refine wpAny_noted (m := compTurn (.DictComp kx vx [⟨tg, iter, ifs, 0⟩] scope pos) 0 it (.ref D) env) ?_
  rw [compTurn_dict]
  refine wpAny_bind (wpAny_standAt (wpAny_bind (thn (turn n s hJ) fun r s1 h1 => ?_)))
  cases r with
  | none => exact wpAny_pure h1
  | some v =>
    refine wpAny_bind (thn h1 fun _ s2 h2 => wpAny_bind (thn h2 fun _ s3 h3 => wpAny_bind (thn h3 fun ok s4 h4 => ?_)))
    cases ok with
    | false => exact wpAny_pure ⟨rfl, h4⟩
    | true => exact wpAny_bind (wpAny_bind (thn h4 fun k s5 h5 => wpAny_bind (wpAny_holding (thn h5 fun z s6 h6 => wpAny_bind (wpAny_standAt (wpAny_holding (thn h6 fun _ s7 h7 => wpAny_pure ⟨rfl, h7⟩)))))))
def tDc (new : HO) (wi : TI) (g : TG) (tt : TT) (tk tv : TE) (vs : List Nat) : TE := fun σ H Q => wi σ H fun J H1 => ∀ D, H1 D = none → ∃ W : Nat → Nat → Hp → Prop, (∃ m, W 0 m (upd H1 D new)) ∧ ∀ i m H, W i m H →
  (J.stop i H ∧ Q (.ref D) H) ∨ (J.go i H ∧ ∃ Nx : Hp → Prop, (∀ H', Nx H' → ∃ m', m' < m ∧ W (i + 1) m' H') ∧ ∀ x H', J.yld i H x H' → g x (wipe σ vs) H' fun σ2 H2 => wipe σ2 vs = wipe σ vs ∧ tt σ2 H2 fun b H3 =>
    if b = true then tk σ2 H3 fun y H4 => tv σ2 H4 fun z H5 => ∃ H6, DPut H5 D y z H6 ∧ Nx H6 else Nx H3)
section
variable {X : Cx}
theorem dc_core {pins : List (Addr × Obj)} {s : Shared} {σ : St} {H : Hp} {Q : VK} {kx vx tg iter : Expr} {ifs : List Expr} {scope : Scope} {own : List (Str × Nat)} {pos pos' : Pos} {wi : TI} {g : TG} {tt : TT} {tk tv : TE} {new : HO} {use : Option (Value → Sem Unit)} {Qf : Value → Shared → Prop}
    (hc : X.calm = true) (hN : X.N.Nodup) (I : Inv X pins σ H s) (hi : PI X tg iter wi) (ok : BlkOk X.N X.env.scope scope own)
    (hg : ∀ (s : Shared) (H : Hp) (C : Addr) (cl : List (Str × Addr)) (fp : List Addr), PG (X.blk s H scope (compEnvC scope cl C X.env) fp) tg g) (ht : ∀ (s : Shared) (H : Hp) (C : Addr) (cl : List (Str × Addr)) (fp : List Addr), PTs (X.blk s H scope (compEnvC scope cl C X.env) fp) ifs tt)
    (he : ∀ (s : Shared) (H : Hp) (C : Addr) (cl : List (Str × Addr)) (fp : List Addr), PE (X.blk s H scope (compEnvC scope cl C X.env) fp) kx tk) (hv : ∀ (s : Shared) (H : Hp) (C : Addr) (cl : List (Str × Addr)) (fp : List Addr), PE (X.blk s H scope (compEnvC scope cl C X.env) fp) vx tv) (hu : X.A.units + 1 < cLine) (hnew : new = .dK [] ∨ new = .dT []) (hs : ∀ x, foldedSetIterable iter X.env x = pure x)
    (h : tDc new wi g tt tk tv (own.map (·.2)) σ H Q)
    (hRR : ∀ D C s' m H', Inv X pins σ H' s' → Q (.ref D) H' → s'.heap.Ns C m → FpOk X pins H' C → compPost (model X.prog X.w) X.A X.xe use Qf (.ref D) C (.ok .next) s') :
    wpAny (model X.prog X.w) X.A (comprehension (.DictComp kx vx [⟨tg, iter, ifs, 0⟩] scope pos) scope X.env pos' newDict false (eval iter X.env) use) Qf X.xe s := by
  have hfree : ∀ y ∈ scope.names, y.2 = .free → ∃ c, X.env.cells.lookup y.1 = some c := fun y hy e => by
    rcases ok.free y hy e with k | k
    · exact I.ok.has _ (.inl k)
    · exact I.ok.has _ (.inr k)
  refine wpAny_comprehension_free (use := use) rfl hs (closure_ok hfree) ok.kind (fun y hy e => by rw [ok.uniq y hy, e])
    (thn (hi pins s σ H _ I h) fun xv s1 hx => thn hx fun itv s2 h2 => ?_)
  obtain ⟨it, fp, tn, J, H2, e, I2, T, st2, f2, q⟩ := h2
  subst e
  refine wpAny_newObj_type (newEnv_comp ?_) (by size_fits)
  generalize hD : s2.heap.objs.size = D
  have hDn : H2 D = none := I2.hok.fresh (Nat.le_of_eq hD)
  obtain ⟨W, ⟨m0, w0⟩, turn⟩ := q D hDn
  generalize hs3 : ({ s2 with heap := s2.heap.push { cls := .type "dict", data := .dict #[] } } : Shared) = s3
  have I3 : Inv X pins σ (upd H2 D new) s3 := by
    rw [← hs3]
    refine I2.laid (t' := s2.toks) (fun b o e => Heap.get?_push_of_some _ e) (Nat.le_of_eq hD) ?_
    rw [← hD]
    rcases hnew with rfl | rfl
    · exact dk_empty s2.heap I2.big
    · exact dt_empty s2.heap I2.big
  have h3 : s3.heap = s2.heap.push { cls := .type "dict", data := .dict #[] } := by rw [← hs3]
  have sz : ∀ b ∈ fp, b < s2.heap.objs.size := fun b hb => by
    obtain ⟨o, e, _⟩ := T.obj _ _ st2 b hb
    exact Heap.lt_size e
  have f3 : ∀ b ∈ fp, FpOk X pins (upd H2 D new) b ∧ b < s3.heap.objs.size := fun b hb => by
    have hlt := sz b hb
    refine ⟨⟨?_, (f2 b hb).2⟩, by rw [h3, Heap.size_push]; exact Nat.lt_succ_of_lt hlt⟩
    rw [upd_ne (by rw [← hD]; exact Nat.ne_of_lt hlt)]
    exact (f2 b hb).1
  have st3 : tn 0 s3.heap := T.keep _ _ _ st2 fun b _ o e => by rw [h3]; exact Heap.get?_push_of_some _ e
  have I4 := block_start I3 ok hN f3
  have pg := hg s3 (upd H2 D new) s3.heap.objs.size (cellsFrom (s3.heap.objs.size + 1) scope.names (cloFrom X.env.cells scope.names [])) fp
  have pt := ht s3 (upd H2 D new) s3.heap.objs.size (cellsFrom (s3.heap.objs.size + 1) scope.names (cloFrom X.env.cells scope.names [])) fp
  have pe := he s3 (upd H2 D new) s3.heap.objs.size (cellsFrom (s3.heap.objs.size + 1) scope.names (cloFrom X.env.cells scope.names [])) fp
  have pv := hv s3 (upd H2 D new) s3.heap.objs.size (cellsFrom (s3.heap.objs.size + 1) scope.names (cloFrom X.env.cells scope.names [])) fp
  show codeAny _ _ (.compStart (.DictComp kx vx [⟨tg, iter, ifs, 0⟩] scope pos) 0 (.ref it) (.ref D) (compEnvC scope (cellsFrom (s3.heap.objs.size + 1) scope.names (cloFrom X.env.cells scope.names [])) s3.heap.objs.size X.env)) (compPost (model X.prog X.w) X.A X.xe use Qf (.ref D) s3.heap.objs.size) { s3 with heap := pushCells (s3.heap.push { cls := .type "dict", data := .dict #[] }) scope.names }
  have nfp : ∀ b ∈ fp, (upd H2 D new) b = none := fun b hb => (f3 b hb).1.1
  generalize hce : compEnvC scope (cellsFrom (s3.heap.objs.size + 1) scope.names (cloFrom X.env.cells scope.names [])) s3.heap.objs.size X.env = ce at I4 pg pt pe pv ⊢
  have cL : ce.locals = s3.heap.objs.size := by subst hce; rfl
  generalize hH3 : upd H2 D new = H3 at I3 I4 pg pt pe pv w0 nfp f3
  generalize hs4 : ({ s3 with heap := pushCells (s3.heap.push { cls := .type "dict", data := .dict #[] }) scope.names } : Shared) = s4 at I4 ⊢
  have st4 : tn 0 s4.heap := T.keep _ _ _ st3 fun b _ o e => by rw [← hs4]; exact pushCells_keeps _ _ _ _ (Heap.get?_push_of_some _ e)
  have stat : ∀ {σ' : St} {H' : Hp} {s' : Shared}, Inv (X.blk s3 H3 scope ce fp) [] σ' H' s' → (∀ b ∈ fp, H' b = none) → ∀ b ∈ fp, FpOk (X.blk s3 H3 scope ce fp) [] H' b := fun {σ' H' s'} I' hn b hb =>
    ⟨hn b hb, (I'.ok.exf b hb).1, I'.ok.exfs b hb, .inl hb, fun x c e => (I'.ok.exf b hb).2 x c e, fun p hp => absurd (show p ∈ ([] : List (Addr × Obj)) ++ [] from hp) (by simp)⟩
  have loop : codeAny (model X.prog X.w) X.A (.compLoop (.DictComp kx vx [⟨tg, iter, ifs, 0⟩] scope pos) 0 (.ref it) (.ref D) ce) (compPost (model X.prog X.w) X.A X.xe use Qf (.ref D) s3.heap.objs.size) s4 := by
    refine compLoop_anyD (fun n s' => ∃ i H', Inv (X.blk s3 H3 scope ce fp) [] (wipe σ (own.map (·.2))) H' s' ∧ tn i s'.heap ∧ (∀ b ∈ fp, H' b = none) ∧ W i n H') ?_ m0 ⟨0, H3, I4, st4, nfp, w0⟩
    rintro n s5 ⟨i, H5, I5, st5, n5, w5⟩
    rcases turn i n H5 w5 with ⟨stop, qq⟩ | ⟨go, Nx, hNx, step⟩
    · have td := T.done (X.blk s3 H3 scope ce fp) rfl rfl rfl hc i [] s5 _ H5 (fun _ _ => False) I5 (stat I5 n5) st5 stop
      refine thnF td fun r s6 ⟨hr, I6⟩ => ?_
      subst hr
      have I7 : Inv X pins σ H5 s6 := I3.call' (ch := fp) I6.os I6.base I6.hok I6.bare fun b hb => ⟨(f3 b hb).1.2.2.2.1, (f3 b hb).1.2.1, (f3 b hb).1.2.2.2.2.1, (f3 b hb).1.2.2.2.2.2⟩
      have nC : H5 s3.heap.objs.size = none := by
        have z : H5 ce.locals = none := I6.free
        rw [cL] at z
        exact z
      obtain ⟨m, hn, _⟩ := I6.loc
      have hn : s6.heap.Ns ce.locals m := hn
      rw [cL] at hn
      exact hRR D s3.heap.objs.size s6 m H5 I7 qq hn (I3.fpOk (Nat.le_refl _) nC)
    · have ti := T.item (X.blk s3 H3 scope ce fp) rfl rfl rfl hc i [] s5 _ H5 (fun _ _ => False) I5 (stat I5 n5) st5 go
      refine thnF ti fun r s6 ⟨u, hr, h6⟩ => ?_
      subst hr
      refine thnF h6 fun _ s7 ⟨x, H7, I7, r7, y7, st7, n7⟩ => ?_
      have I7' := I7.pinned (stat I7 n7) (T.obj _ _ st7)
      refine thnF (pg _ s7 _ H7 x u _ I7' r7 (step x H7 y7)) fun _ s8 ⟨σ8, H8, I8, hw8, q8⟩ => ?_
      refine thnF (pt _ s8 σ8 H8 _ I8 q8) fun b s9 ⟨H9, I9, q9⟩ => ?_
      have fin : ∀ {s' : Shared} {H' : Hp}, Inv (X.blk s3 H3 scope ce fp) ([] ++ pinsAt fp s7.heap) σ8 H' s' → Nx H' → ∃ m, m < n ∧ ∃ i H', Inv (X.blk s3 H3 scope ce fp) [] (wipe σ (own.map (·.2))) H' s' ∧ tn i s'.heap ∧ (∀ b ∈ fp, H' b = none) ∧ W i m H' := fun {s' H'} I' nx => by
        obtain ⟨m', hm, w'⟩ := hNx H' nx
        have pin' : ∀ b ∈ fp, ∀ o, s7.heap.get? b = some o → s'.heap.get? b = some o ∧ H' b = none := fun b hb o e =>
          let z := I'.pin (b, o) (List.mem_append_right _ (List.mem_append_right _ (mem_pinsAt hb e)))
          ⟨z.1, z.2.1⟩
        have hl : (wipe σ (own.map (·.2))).length = σ8.length := by rw [← hw8, wipe_length]
        refine ⟨m', hm, i + 1, H', (I'.unpinned (pins := [])).weak hl (fun j v e => ?_), T.keep _ _ _ st7 fun b hb o e => (pin' b hb o e).1, fun b hb => ?_, w'⟩
        · rw [← hw8] at e
          exact (wipe_some e).1
        · obtain ⟨o, e, _⟩ := T.obj _ _ st7 b hb
          exact (pin' b hb o e).2
      cases b with
      | false =>
        simp only [Bool.false_eq_true, if_false] at q9 ⊢
        exact fin I9 q9
      | true =>
        simp only [if_true] at q9 ⊢
        refine thnF (pe _ s9 σ8 H9 _ I9 q9) fun z s10 ⟨yv, H10, I10, r10, q10⟩ => ?_
        refine thnF (pv _ s10 σ8 H10 _ I10 q10) fun z2 s11 ⟨zv, H11, I11, r11, H12, g12, nx⟩ => ?_
        exact d_dictSet (X := X.blk s3 H3 scope ce fp) hu I11 g12 r10 r11 fun s12 I12 => fin I12 nx
  exact codeAny_compStart_dict loop (T.self X.A 0 _ _ _ st4 loop)
theorem pe_dc {kx vx tg iter : Expr} {ifs : List Expr} {scope : Scope} {own : List (Str × Nat)} {pos : Pos} {wi : TI} {g : TG} {tt : TT} {tk tv : TE} {new : HO} (hc : X.calm = true) (hN : X.N.Nodup) (hu : X.A.units + 1 < cLine) (hnew : new = .dK [] ∨ new = .dT []) (hi : PI X tg iter wi) (ok : BlkOk X.N X.env.scope scope own)
    (hg : ∀ (s : Shared) (H : Hp) (C : Addr) (cl : List (Str × Addr)) (fp : List Addr), PG (X.blk s H scope (compEnvC scope cl C X.env) fp) tg g) (ht : ∀ (s : Shared) (H : Hp) (C : Addr) (cl : List (Str × Addr)) (fp : List Addr), PTs (X.blk s H scope (compEnvC scope cl C X.env) fp) ifs tt)
    (he : ∀ (s : Shared) (H : Hp) (C : Addr) (cl : List (Str × Addr)) (fp : List Addr), PE (X.blk s H scope (compEnvC scope cl C X.env) fp) kx tk) (hv : ∀ (s : Shared) (H : Hp) (C : Addr) (cl : List (Str × Addr)) (fp : List Addr), PE (X.blk s H scope (compEnvC scope cl C X.env) fp) vx tv) (hs : ∀ x, foldedSetIterable iter X.env x = pure x) :
    PE X (.DictComp kx vx [⟨tg, iter, ifs, 0⟩] scope pos) (tDc new wi g tt tk tv (own.map (·.2))) := by
  intro pins s σ H Q I h
  rw [arm_eval_DictComp]
  refine dc_core hc hN I hi ok hg ht he hv hu hnew hs h fun D C s' m H' I' q hn f => ⟨m, hn, fun h'' sb => ?_⟩
  obtain ⟨f0, f1, f2, f3, f4, f5⟩ := f
  exact ⟨.ref D, H', I'.turned (t' := s'.toks) (fun b o hb e => (sb.2 b hb).trans e) f0 f1 f3 f4 f5, rfl, q⟩
end
end L2
end
section
set_option Elab.async false
set_option linter.all false
set_option maxRecDepth 100000
set_option autoImplicit false
namespace L2
open PySem PySem.Spec PyProof.Rows
open AutoSeq1 (wpAny_loadPart')
section
variable {prog : Program} {w : World} {A : Around} {E : Value → Shared → Prop} {s : Shared}
end
section
variable {prog : Program} {w : World} {A : Around} {E : Value → Shared → Prop} {s : Shared}
end
end L2
end
section
set_option Elab.async false
set_option linter.all false
set_option maxRecDepth 100000
set_option autoImplicit false
namespace L2
open PySem PySem.Spec PyProof.Rows
structure ZK (X : Cx) (kws : List Keyword) (t : TA) : Prop where
  h : PK X kws t
section
variable {X : Cx}
end
namespace Z
section
variable {X : Cx} {pos p pos' apos cpos kpos tpos : Pos} {x name : Str} {a b c e o k v value i tg iter : Expr} {es elts : List Expr} {ta tb tc te to td ty tk tv tx : TE} {t ts : TA} {wi : TI} {g : TG} {tt : TT} {kk : Nat}
theorem dget (hu : X.A.units + 64 < cLine) (ho : ZE X o td) (hi : ZE X i ty) (hs : NoSl i := by intro _ _; kernel_rfl) : ZE X (.Subscript o i pos) (tDGet td ty) := ⟨pe_dget (Nat.lt_of_le_of_lt (by omega) hu) ho.h hi.h hs⟩
theorem tdnotin (hu : X.A.units + 64 < cLine) (hi : ZE X i ty) (ho : ZE X o td) (hm : behindInMarks .NotIn o = false := by kernel_rfl) : ZT X (.Compare i [.NotIn] [o] pos) (tB (tDNotIn ty td)) := ⟨pt_cmp (pc_dnotin (Nat.lt_of_le_of_lt (by omega) hu) hi.h ho.h) hm⟩
theorem din (hu : X.A.units + 64 < cLine) (hi : ZE X i ty) (ho : ZE X o td) (hm : behindInMarks .In o = false := by kernel_rfl) : ZE X (.Compare i [.In] [o] pos) (tDIn ty td) := ⟨pe_cmp (pc_din (Nat.lt_of_le_of_lt (by omega) hu) hi.h ho.h) hm⟩
theorem dput (hu : X.A.units + 64 < cLine) (ho : ZE X o td) (hi : ZE X i ty) (hv : ZE X value tv) (hs : swapsWith value (some (.Subscript o i pos')) pos.line X.env = pure false := by kernel_rfl) : ZS X (.Assign [.Subscript o i pos'] value pos) (sDPut td ty tv) := ⟨ps_dput (Nat.lt_of_le_of_lt (by omega) hu) ho.h hi.h hv.h hs⟩
theorem keys (h : ZE X e te) : ZI X tg e (iKeys te) := ⟨pi_keys h.h⟩
theorem dc (new : HO) {kx vx : Expr} {ifs : List Expr} {scope : Scope} {own : List (Str × Nat)} (hu : X.A.units + 64 < cLine) (hnew : new = .dK [] ∨ new = .dT []) (hc : X.calm = true) (nd : X.N.Nodup) (hi : ZI X tg iter wi) (ok : BlkOk X.N X.env.scope scope own)
    (hg : ∀ (s : Shared) (H : Hp) (C : Addr) (cl : List (Str × Addr)) (fp : List Addr), ZG (X.blk s H scope (compEnvC scope cl C X.env) fp) tg g) (ht : ∀ (s : Shared) (H : Hp) (C : Addr) (cl : List (Str × Addr)) (fp : List Addr), ZTs (X.blk s H scope (compEnvC scope cl C X.env) fp) ifs tt)
    (he : ∀ (s : Shared) (H : Hp) (C : Addr) (cl : List (Str × Addr)) (fp : List Addr), ZE (X.blk s H scope (compEnvC scope cl C X.env) fp) kx tk) (hv : ∀ (s : Shared) (H : Hp) (C : Addr) (cl : List (Str × Addr)) (fp : List Addr), ZE (X.blk s H scope (compEnvC scope cl C X.env) fp) vx tv) (hs : ∀ x, foldedSetIterable iter X.env x = pure x := by intro _; kernel_rfl) :
    ZE X (.DictComp kx vx [⟨tg, iter, ifs, 0⟩] scope pos) (tDc new wi g tt tk tv (own.map (·.2))) := ⟨pe_dc hc nd (Nat.lt_of_le_of_lt (by omega) hu) hnew hi.h ok (fun s H C cl fp => (hg s H C cl fp).h) (fun s H C cl fp => (ht s H C cl fp).h) (fun s H C cl fp => (he s H C cl fp).h) (fun s H C cl fp => (hv s H C cl fp).h) hs⟩
end
end Z
end L2
end
section
set_option Elab.async false
set_option linter.all false
set_option maxRecDepth 100000
set_option autoImplicit false
namespace KB
open PySem L2
mutual
inductive Td (K : PySem.W.Frag) (H : Hp) : V → PyData → Prop
  | non : Td K H .non .none
  | bl (b : Bool) : Td K H (.bl b) (.bool b)
  | int (i : Int) : Td K H (.int i) (.int i)
  | str {x : Str} : PyData.strOk x = true → Td K H (.str x) (.str x)
  | tup {a : Addr} {xs : List V} {ds : List PyData} : SqT K H a xs → TdAll K H xs ds → Td K H (.ref a) (.tuple ds)
inductive TdAll (K : PySem.W.Frag) (H : Hp) : List V → List PyData → Prop
  | nil : TdAll K H [] []
  | cons {v : V} {d : PyData} {vs : List V} {ds : List PyData} : Td K H v d → TdAll K H vs ds → TdAll K H (v :: vs) (d :: ds)
end
variable {K : PySem.W.Frag} {H H' : Hp}
mutual
theorem Td.dp : ∀ {v : V} {d : PyData}, Td K H v d → Dp K H v d
  | _, _, .non => .non
  | _, _, .bl b => .bl b
  | _, _, .int i => .int i
  | _, _, .str h => .str _
  | _, _, .tup h t => .tup h (TdAll.dp t)
theorem TdAll.dp : ∀ {v : List V} {d : List PyData}, TdAll K H v d → DpAll K H v d
  | _, _, .nil => .nil
  | _, _, .cons h t => .cons (Td.dp h) (TdAll.dp t)
end
mutual
theorem Td.keep (e : ∀ a xs, SqT K H a xs → SqT K H' a xs) : ∀ {v : V} {d : PyData}, Td K H v d → Td K H' v d
  | _, _, .non => .non
  | _, _, .bl b => .bl b
  | _, _, .int i => .int i
  | _, _, .str h => .str h
  | _, _, .tup h t => .tup (e _ _ h) (TdAll.keep e t)
theorem TdAll.keep (e : ∀ a xs, SqT K H a xs → SqT K H' a xs) : ∀ {v : List V} {d : List PyData}, TdAll K H v d → TdAll K H' v d
  | _, _, .nil => .nil
  | _, _, .cons h t => .cons (Td.keep e h) (TdAll.keep e t)
end
mutual
theorem Td.lay : ∀ {v : V} {d : PyData}, Td K H v d → d.canLay0 = true
  | _, _, .non => by rw [PyData.canLay0]
  | _, _, .bl b => by rw [PyData.canLay0]
  | _, _, .int i => by rw [PyData.canLay0]
  | _, _, .str h => by rw [PyData.canLay0]; exact h
  | _, _, .tup h t => by rw [PyData.canLay0]; exact TdAll.lay t
theorem TdAll.lay : ∀ {v : List V} {d : List PyData}, TdAll K H v d → PyData.canLayAll0 d = true
  | _, _, .nil => rfl
  | _, _, .cons h t => by rw [PyData.canLayAll0, Td.lay h, TdAll.lay t]; rfl
end
theorem Td.same {v : V} {d : PyData} (h : Td K H v d) (e : Same H H') : Td K H' v d := h.keep fun _ _ => sqT_same e
theorem TdAll.same {v : List V} {d : List PyData} (h : TdAll K H v d) (e : Same H H') : TdAll K H' v d := h.keep fun _ _ => sqT_same e
theorem Td.put {v : V} {d : PyData} {D : Addr} {l : List V} {o : HO} (h : Td K H v d) (e : H D = some (.lst l)) : Td K (upd H D o) v d := h.keep fun _ _ => sqT_put e
theorem TdAll.put {v : List V} {d : List PyData} {D : Addr} {l : List V} {o : HO} (h : TdAll K H v d) (e : H D = some (.lst l)) : TdAll K (upd H D o) v d := h.keep fun _ _ => sqT_put e
theorem TdAll.but {v : List V} {d : List PyData} {D : Addr} {l : List V} (h : TdAll K H v d) (e : H D = some (.lst l)) (b : But D H H') : TdAll K H' v d := h.keep fun _ _ => b.tup e
theorem Td.but {v : V} {d : PyData} {D : Addr} {l : List V} (h : Td K H v d) (e : H D = some (.lst l)) (b : But D H H') : Td K H' v d := h.keep fun _ _ => b.tup e
theorem TdAll.app : ∀ {xs ys : List V} {ds es : List PyData}, TdAll K H xs ds → TdAll K H ys es → TdAll K H (xs ++ ys) (ds ++ es)
  | _, _, _, _, .nil, h => h
  | _, _, _, _, .cons h t, h2 => .cons h (TdAll.app t h2)
theorem TdAll.len : ∀ {xs : List V} {ds : List PyData}, TdAll K H xs ds → xs.length = ds.length
  | _, _, .nil => rfl
  | _, _, .cons _ t => by rw [List.length_cons, List.length_cons, TdAll.len t]
theorem TdAll.get : ∀ {xs : List V} {ds : List PyData} {i : Nat} {x : V}, TdAll K H xs ds → xs[i]? = some x → ∃ d, ds[i]? = some d ∧ Td K H x d
  | _, _, 0, _, .cons h _, e => by simp at e; subst e; exact ⟨_, rfl, h⟩
  | _, _, i + 1, _, .cons _ t, e => TdAll.get (i := i) t (by simpa using e)
  | _, _, _, _, .nil, e => by simp at e
end KB
end
section
set_option Elab.async false
set_option linter.all false
set_option maxRecDepth 100000
set_option autoImplicit false
namespace L2
open PySem PySem.Spec PyProof.Rows
section
variable {g : TG} {tt : TT} {tk tv : TE} {vs : List Nat} {σ : St} {H1 : Hp} {D : Addr} {Qd : Hp → Prop} {new : HO}
end
section
variable {κ : Type} [DecidableEq κ]
end
end L2
end
section
set_option Elab.async false
set_option linter.all false
set_option maxRecDepth 100000
set_option autoImplicit false
namespace L2
open PySem PySem.Spec PyProof.Rows
structure FnScopeS (N ps : List Str) (sc : Scope) : Prop where
  kind : sc.kind = .function
  co : sc.isCoroutine = false
  gen : sc.isGenerator = false
  nd : N.Nodup
  pre : N.take ps.length = ps
  par : ∀ x ∈ ps, sc.names.lookup x = some .local
  nocell : ∀ y ∈ sc.names, y.2 ≠ .cell
  free : ∀ y ∈ sc.names, y.2 = .free → y.1 = Str.ofString "__class__"
  sup : sc.names.lookup (Str.ofString "super") = some .globalImplicit
  cls : sc.names.lookup (Str.ofString "__class__") = some .free
structure SFun (P : Program) (K : PySem.W.Frag) (x qual : Str) (st : Stmt) (f : Addr) (fd : FuncData) (cda cc D : Addr) : Prop where
  ex : ∃ (oc : Value) (od : Option Addr) (kV doc pm : Value) (an : Option Addr) (ct : Value) (osl : Array (Option Value)), fd = PySem.W.ksFn x qual (defArgs st) (defBody st) (defScope st) .none kV doc pm an (.ref cda) ct cc ∧ K.lookup f = some ⟨oc, od, .func fd, osl⟩
  code : PySem.W.codeIn K (.ref cda) qual = true
  file : ∃ (ccl : Value) (cdd : Option Addr) (vs : Array Value) (ccs : Array (Option Value)) (fl : Str) (tf : Tok), K.lookup cda = some ⟨ccl, cdd, .fields vs, ccs⟩ ∧ vs[2]? = some (.str fl tf) ∧ ((P.main.file : Str) == fl) = true
  cell : ∃ (cl : Value) (cld : Option Addr) (csl : Array (Option Value)), K.lookup cc = some ⟨cl, cld, .cell (some (.ref D)), csl⟩
  cls : ∃ cd, PySem.W.clsIn K D = some cd
  top : (P.main.scope.names.lookup (Str.ofString "super")).isSome = false
  kp : PySem.W.keepIn K (.ref f) = true
section
variable {CX : CXT} {P : Program} {w : World} {K : PySem.W.Frag} {mg : Str → Option Value} {base : Heap} {N ps : List Str} {x qual : Str} {sc : Scope} {f cda cc D : Addr} {fd : FuncData} {A : Around} {outer : List Env} {s s1 : Shared} {H : Hp} {E : XK} {us : List Value} {vs : List V}
end
section
variable {X : Cx} {pins : List (Addr × Obj)} {σ : St} {H : Hp} {s : Shared}
structure SupOk (X : Cx) (st : Stmt) (f cda cc D : Addr) (ar : Arg) : Prop where
  fu : X.env.func = some f
  co : X.env.code = .ref cda
  ks : X.env.kindOf (Str.ofString "super") = some .globalImplicit
  kc : X.env.kindOf (Str.ofString "__class__") = some .free
  ce : X.env.cells.lookup (Str.ofString "__class__") = some cc
  fn : ∃ (x qual : Str) (fd : FuncData), SFun X.prog X.K x qual st f fd cda cc D
  mg : X.mg (Str.ofString "super") = none
  hr : ((defArgs st).posonlyargs ++ (defArgs st).args).head? = some ar
  n0 : X.N[0]? = some ar.arg
  kl : X.env.kindOf ar.arg = some .local
section
variable {CX : CXT} {n : Nat} {st : Stmt} {f cda cc D C f2 : Addr} {fd2 : FuncData} {ps2 : List Str} {sp : Sp} {E : XK} {ar : Arg} {body : List Stmt} {p0 p1 apos cpos : Pos} {m : Str} {e : Expr} {es : List Expr} {t : TA}
end
end
end L2
end
section
set_option Elab.async false
set_option linter.all false
set_option maxRecDepth 100000
set_option autoImplicit false
namespace L2
open PySem PySem.Spec PyProof.Rows
section
variable {P : Program} {w : World} {K : PySem.W.Frag} {mg : Str → Option Value} {base : Heap} {x qual : Str} {st : Stmt} {f cda cc D C : Addr} {fd : FuncData} {N ps : List Str} {k : Nat} {sp : Sp}
structure SupM (K : PySem.W.Frag) (C D : Addr) (m : Str) (f2 : Addr) (fd2 : FuncData) (ps2 : List Str) : Prop where
  sub : PySem.W.mroIn K C (.ref D) = some true
  no : PySem.W.nsIn K cStatics "thirdparty.any" = some none
  me : PySem.W.ks_superIn K C D m = some (some (.ref f2))
  fn : PySem.W.isFn K (.ref f2) = true
  lk : ∃ oc od osl, K.lookup f2 = some ⟨oc, od, .func fd2, osl⟩
  b : Binds K fd2 ps2 []
end
end L2
end
section
set_option Elab.async false
set_option linter.all false
set_option maxRecDepth 100000
set_option autoImplicit false
namespace L2
open PySem PySem.Spec PyProof.Rows
section
variable {prog : Program} {w : World} {κ : Type} [DecidableEq κ] {knd : HeapKind prog w κ} {A : Around} {E : Value → Shared → Prop} {s : Shared} {d a : Addr} {k : κ} {xs : List (κ × Addr × Value)}
end
section
variable {κ : Type} [DecidableEq κ]
end
theorem KT.keys {H : Hp} {kvs : List (List Key × V)} {xs : List (List Key × Addr × Value)} (r : KT H kvs xs) : kvs.map (·.1) = xs.map (·.1) := by
  induction r with
  | nil => rfl
  | cons h t ih => rw [List.map_cons, List.map_cons, ih, h.1]
theorem KT.get {H : Hp} {kvs : List (List Key × V)} {xs : List (List Key × Addr × Value)} (r : KT H kvs xs) : ∀ {j : Nat} {k : List Key} {p : Addr × Value}, xs[j]? = some (k, p) → ∃ v, kvs[j]? = some (k, v) := by
  induction r with
  | nil => intro j k p e; simp at e
  | @cons p q ps qs h t ih =>
    intro j k p' e
    cases j with
    | zero => simp at e; subst e; exact ⟨p.2, congrArg some (Prod.ext h.1 rfl)⟩
    | succ j => exact ih (by simpa using e)
section
variable {X : Cx} {pins : List (Addr × Obj)} {σ : St} {H : Hp} {s : Shared} {a b : Addr} {kvs : List (List Key × V)} {k : List Key} {A : Around} {E : Value → Shared → Prop}
end
end L2
end
section
set_option Elab.async false
set_option linter.all false
set_option maxRecDepth 100000
set_option autoImplicit false
namespace L2
open PySem PySem.Spec PyProof.Rows PyProof.Rows.G
def ptV (q : Int × Int) : List V := [.int q.1, .int q.2]
def kN (q : Int × Int) : List Key := [.inl q.1, .inl q.2]
theorem kN_V (q : Int × Int) : (kN q).map kV = ptV q := rfl
theorem kN_inj {p q : Int × Int} (h : kN p = kN q) : p = q := by
  unfold kN at h
  have h1 := List.cons.inj h
  have h2 := List.cons.inj h1.2
  exact Prod.ext (Sum.inl.inj h1.1) (Sum.inl.inj h2.1)
def NmLe (a b : Int × Int) : Prop := a.1 < b.1 ∨ (a.1 = b.1 ∧ a.2 ≤ b.2)
def PairAt (h : Heap) (a : Addr) (q : Int × Int) : Prop := ∃ t u, IsTup h a #[.int q.1 t, .int q.2 u]
abbrev noStr : Nat → Bool := fun _ => false
theorem pairAt_key {h : Heap} {a : Addr} {q : Int × Int} (p : PairAt h a q) : tupKeyC h noStr (.ref a) = some [.inl q.1, .inl q.2] := by
  obtain ⟨t, u, o, ho, hc, n, hd⟩ := p
  simp [tupKeyC, isTupObj, ho, hc, tupKey, hd, tupItems]
theorem pairAt_tup {h : Heap} {a : Addr} {q : Int × Int} (p : PairAt h a q) : ∃ f, TupOf h noStr (.ref a) f := by
  obtain ⟨t, u, o, ho, hc, n, hd⟩ := p
  exact ⟨.int q.1 t, a, o, _, n, rfl, ho, hc, hd, rfl, fun _ => ⟨_, _, rfl⟩, fun z => nomatch z⟩
theorem pairsAt_tups {h : Heap} : ∀ {rs : List (Addr × (Int × Int))}, (∀ r ∈ rs, PairAt h r.1 r.2) → ∃ fs, TupsOf h noStr (rs.map fun r => Value.ref r.1) fs
  | [], _ => ⟨[], .nil⟩
  | r :: l, hp => by
    obtain ⟨f, hf⟩ := pairAt_tup (hp r List.mem_cons_self)
    obtain ⟨fs, hfs⟩ := pairsAt_tups (rs := l) fun x hx => hp x (List.mem_cons_of_mem _ hx)
    exact ⟨f :: fs, .cons hf hfs⟩
theorem pairsAt_keys {h : Heap} {rs : List (Addr × (Int × Int))} (hp : ∀ r ∈ rs, PairAt h r.1 r.2) : ∀ v, v ∈ (rs.map fun r => Value.ref r.1) → ∃ l, tupKeyC h noStr v = some l := by
  intro v hv
  obtain ⟨r, hr, rfl⟩ := List.mem_map.mp hv
  exact ⟨_, pairAt_key (hp r hr)⟩
def decodeN : List (Int ⊕ List Nat) → Int × Int
  | [.inl a, .inl b] => (a, b)
  | _ => (0, 0)
def rowOf (h : Heap) (v : Value) : Addr × (Int × Int) := ((match v with | .ref a => a | _ => 0), decodeN ((tupKeyC h noStr v).getD []))
theorem rowOf_eq {h : Heap} {r : Addr × (Int × Int)} (p : PairAt h r.1 r.2) : rowOf h (.ref r.1) = r := by
  unfold rowOf
  rw [pairAt_key p]
  rfl
theorem lex2 {a b c d : Int} (h : PyProof.Rows.lexLt itemOrd [.inl a, .inl b] [.inl c, .inl d] = false) : NmLe (c, d) (a, b) := by
  simp [PyProof.Rows.lexLt, itemLt] at h
  unfold NmLe
  simp only
  by_cases e : c < a
  · exact .inl e
  · have := h.2 (by omega)
    exact .inr ⟨by omega, this⟩
theorem sort_res {h : Heap} {rs : List (Addr × (Int × Int))} {st : SortSt} (hp : ∀ r ∈ rs, PairAt h r.1 r.2) (p : (arrOf st).Perm (pairsOf (rs.map fun r => Value.ref r.1)))
    (so : SortedToK (tupKindC h noStr) (arrOf st) (pairsOf (rs.map fun r => Value.ref r.1)).size) :
    ∃ rs' : List (Addr × (Int × Int)), rs'.Perm rs ∧ rs'.Pairwise (fun a b => NmLe a.2 b.2) ∧ ((arrOf st).map (·.2)).toList = rs'.map fun r => Value.ref r.1 := by
  have pl : (arrOf st).toList.Perm ((rs.map fun r => Value.ref r.1).zip (rs.map fun r => Value.ref r.1)) := by rw [← pairsOf_toList]; exact p.toList
  have mem : ∀ x ∈ (arrOf st).toList, ∃ r ∈ rs, x = (Value.ref r.1, Value.ref r.1) := fun x hx => by
    obtain ⟨e, hm⟩ := mem_zip_self (pl.mem_iff.mp hx)
    obtain ⟨r, hr, hv⟩ := List.mem_map.mp hm
    refine ⟨r, hr, ?_⟩
    obtain ⟨x1, x2⟩ := x
    simp only at e hv
    rw [← hv] at e ⊢
    first | rw [← e] | rw [e]
  refine ⟨(arrOf st).toList.map fun x => rowOf h x.2, ?_, ?_, ?_⟩
  · refine (pl.map _).trans (List.Perm.of_eq ?_)
    have e1 : ((rs.map fun r => Value.ref r.1).zip (rs.map fun r => Value.ref r.1)).map (fun x => rowOf h x.2) = (((rs.map fun r => Value.ref r.1).zip (rs.map fun r => Value.ref r.1)).map (·.2)).map (rowOf h) := by rw [List.map_map]; rfl
    rw [e1, List.map_snd_zip (Nat.le_refl _), List.map_map]
    conv => rhs; rw [← List.map_id rs]
    exact List.map_congr_left fun r hr => rowOf_eq (hp r hr)
  · rw [List.pairwise_iff_getElem]
    intro i j hi hj hij
    have hi' : i < (arrOf st).size := by simpa using hi
    have hj' : j < (arrOf st).size := by simpa using hj
    have key : ∀ k (hk : k < (arrOf st).size), ∃ r : Addr × (Int × Int), PairAt h r.1 r.2 ∧ (arrOf st)[k] = (Value.ref r.1, Value.ref r.1) ∧ KK (tupKindC h noStr) (arrOf st) k = [.inl r.2.1, .inl r.2.2] := fun k hk => by
      obtain ⟨r, hr, e⟩ := mem ((arrOf st)[k]) (by simp)
      refine ⟨r, hp r hr, e, ?_⟩
      unfold KK
      rw [Array.getElem?_eq_getElem hk, e]
      show (tupKeyC h noStr (Value.ref r.1)).getD _ = _
      rw [pairAt_key (hp r hr)]
      rfl
    obtain ⟨ri, pi, ei, ki⟩ := key i hi'
    obtain ⟨rj, pj, ej, kj⟩ := key j hj'
    have le := so i j (Nat.le_of_lt hij) (by rw [← p.size_eq]; exact hj')
    rw [ki, kj] at le
    have le2 := lex2 le
    have gi : ((arrOf st).toList.map fun x => rowOf h x.2)[i] = ri := by simp [ei, rowOf_eq pi]
    have gj : ((arrOf st).toList.map fun x => rowOf h x.2)[j] = rj := by simp [ej, rowOf_eq pj]
    rw [gi, gj]
    exact le2
  · rw [List.map_map, Array.toList_map]
    refine List.map_congr_left fun x hx => ?_
    obtain ⟨r, hr, rfl⟩ := mem x hx
    show Value.ref r.1 = Value.ref (rowOf h (Value.ref r.1)).1
    rw [rowOf_eq (hp r hr)]
section
variable {X : Cx} {pins : List (Addr × Obj)} {σ : St} {H : Hp} {s : Shared}
theorem pair_of {P : Program} {w : World} {h : Heap} {a : Addr} {q : Int × Int} (ok : HOk P w H h) (e : H a = some (.tup (ptV q))) : PairAt h a q := by
  obtain ⟨_, its, r, T⟩ := (show ObjOk P w H h a (.tup (ptV q)) from ok a _ e)
  cases r with
  | cons r1 r2 =>
    cases r2 with
    | cons r2 r3 =>
      cases r3
      obtain ⟨t, rfl⟩ := r1
      obtain ⟨u, rfl⟩ := r2
      exact ⟨t, u, T⟩
theorem Inv.pair {a : Addr} {q : Int × Int} (I : Inv X pins σ H s) (e : SqT X.K H a (ptV q)) : PairAt s.heap a q := by
  obtain ⟨its, r, T, _⟩ := I.tuple e
  cases r with
  | cons r1 r2 =>
    cases r2 with
    | cons r2 r3 =>
      cases r3
      obtain ⟨t, rfl⟩ := r1
      obtain ⟨u, rfl⟩ := r2
      exact ⟨t, u, T⟩
theorem vals_rows : ∀ (rs : List (Addr × (Int × Int))), Vals (rs.map fun r => V.ref r.1) (rs.map fun r => Value.ref r.1)
  | [] => .nil
  | _ :: l => .cons rfl (vals_rows l)
theorem rows_vals : ∀ {rs : List (Addr × (Int × Int))} {us : List Value}, Vals (rs.map fun r => V.ref r.1) us → us = rs.map fun r => Value.ref r.1
  | [], _, .nil => rfl
  | _ :: l, _, .cons r t => by rw [List.map_cons, ← rows_vals t, (show _ = Value.ref _ from r)]
def rSortL (K : PySem.W.Frag) : List V → Hp → VK → Prop := fun vs H Q => ∃ (a : Addr) (rs : List (Addr × (Int × Int))), vs = [V.ref a] ∧ SqL K H a (rs.map fun r => V.ref r.1) ∧ (∀ r ∈ rs, SqT K H r.1 (ptV r.2)) ∧
  ∀ (rs' : List (Addr × (Int × Int))) (p : Addr), rs'.Perm rs → rs'.Pairwise (fun a b => NmLe a.2 b.2) → H p = none → Q (.ref p) (upd H p (.lst (rs'.map fun r => V.ref r.1)))
theorem cr_sortL : CallR X (.builtin "sorted") (rSortL X.K) := by
  intro pins s σ H vs us Q I r h
  obtain ⟨a, rs, rfl, hs, ht, q⟩ := h
  obtain ⟨its, rv, hl, hz⟩ := I.list hs
  rw [Vals.ref1 r]
  cases rows_vals rv
  have hp : ∀ r ∈ rs, PairAt s.heap r.1 r.2 := fun r hr => I.pair (ht r hr)
  obtain ⟨fs, hfs⟩ := pairsAt_tups hp
  refine sorted_tups hl.isList hfs (pairsAt_keys hp) (by rw [List.length_map] at hz ⊢; exact hz) fun st p so _ => ?_
  obtain ⟨rs', h1, h2, h3⟩ := sort_res hp p so
  obtain ⟨ep, he'⟩ := PyProof.Rows.sortedAll_at s.heap (rs.map fun r => Value.ref r.1) ((arrOf st).map (·.2))
  have hlen : (rs'.map fun r => V.ref r.1).length ≤ sizeLine := by rw [List.length_map, h1.length_eq, ← List.length_map (f := fun r : Addr × (Int × Int) => V.ref r.1)]; exact hz
  exact ⟨.ref _, upd H (s.heap.objs.size + 1) (.lst (rs'.map fun r => V.ref r.1)), I.laid (t' := s.toks) (fun _ _ => PyProof.Rows.sortedAll_old) (Nat.le_succ _) ⟨hlen, ((arrOf st).map (·.2)).toList, ep, by rw [h3]; exact vals_rows rs', he'⟩, rfl, q rs' _ h1 h2 (I.hok.fresh (Nat.le_succ _))⟩
theorem kdl_raw {prog : Program} {w : World} {d : Addr} {o : Obj} {es : Array DictEntry} {ep : Nat} (lo : (d == sysModules) = false) (hx : o.ExactDict) (hdt : o.data = .dict es ep) :
    PySem.W.KdlSrc prog w "dict" d d es.size (fun i v => ∃ en, es[i]? = some en ∧ v = en.key) (fun h => h.get? d = some o) where
  type := fun s ho => ⟨o, ho, hx.1⟩
  there := fun h ho => ⟨Heap.lt_size ho, Heap.lt_size ho⟩
  keep := fun h h' ho hk => hk d (.inl rfl) o ho
  notList := by decide
  notTuple := by decide
  hint := fun _ _ s _ ho hq => PySem.W.kdl_hint_dict ⟨o, ho, hx.1⟩ hq
  iter := fun A s hh ho => ⟨_, fun i h => h.IsKeyIter s.heap.objs.size d i es.size ep ∧ h.get? d = some o, (fun _ _ hq => iter_keys lo ho hx hdt hq), {
      sub := fun b hb => by simp at hb; simp [hb]
      frame := fun _ _ _ st hk => ⟨st.1.at fun o e => hk _ (by simp) o e, hk d (by simp) o st.2⟩
      item := fun i s1 Q E hi st hQ => by
        refine next_key_item st.1 st.2 hdt rfl (Array.getElem?_eq_getElem hi) fun h' st' sb => ?_
        refine hQ _ h' s1.toks ⟨_, Array.getElem?_eq_getElem hi, rfl⟩ ⟨st', (sb.2 d (Nat.ne_of_lt (Heap.lt_size ho))).trans st.2⟩ fun b o hb e => (sb.2 b (fun h => hb (by simp [h]))).trans e
      done := fun s1 Q E st hQ => next_key_end hh st.1 st.2 hdt rfl (Nat.le_refl _) fun h' he' => hQ h' s1.toks fun b o hb e => he' b o (fun h => hb (by simp [h])) e
      self := fun _ _ _ _ st hQ => wpAny_pyIter_keyiter st.1 hQ }, ⟨⟨_, Heap.get?_push_size _ rfl, rfl, rfl⟩, Heap.get?_push_of_some _ ho⟩⟩
def rSortD : List V → Hp → VK → Prop := fun vs H Q => ∃ (a : Addr) (kvs : List (List Key × V)) (qs : List (Int × Int)), vs = [V.ref a] ∧ Rd H a (.dT kvs) ∧ kvs.map (·.1) = qs.map kN ∧
  ∀ (rs : List (Addr × (Int × Int))) (p : Addr), (rs.map (·.2)).Perm qs → rs.Pairwise (fun a b => NmLe a.2 b.2) → (∀ r ∈ rs, H r.1 = some (.tup (ptV r.2))) → H p = none → Q (.ref p) (upd H p (.lst (rs.map fun r => V.ref r.1)))
theorem dt_rows {kvs : List (List Key × V)} {xs : List (List Key × Addr × Value)} (r : KT H kvs xs) : ∀ {qs : List (Int × Int)}, kvs.map (·.1) = qs.map kN →
    ∃ rs : List (Addr × (Int × Int)), rs.map (·.2) = qs ∧ (∀ r ∈ rs, H r.1 = some (.tup (ptV r.2))) ∧ (rs.map fun r => r.1) = xs.map fun x => x.2.1 := by
  induction r with
  | nil =>
    intro qs e
    cases qs with
    | nil => exact ⟨[], rfl, (fun _ h => by simp at h), rfl⟩
    | cons _ _ => cases e
  | @cons p x ps xs h t ih =>
    intro qs e
    cases qs with
    | nil => cases e
    | cons q qs =>
      have e1 := List.cons.inj e
      obtain ⟨rs, h1, h2, h3⟩ := ih e1.2
      refine ⟨(x.2.1, q) :: rs, by rw [List.map_cons, h1], fun r hr => ?_, by rw [List.map_cons, List.map_cons, h3]⟩
      rcases List.mem_cons.mp hr with rfl | hr
      · have e2 : p.1 = kN q := e1.1
        have := h.2.1
        rw [e2, kN_V] at this
        exact this
      · exact h2 r hr
theorem entries_keys {P : Program} {w : World} : ∀ {xs : List (List Key × Addr × Value)} {i : Nat} {en : DictEntry}, (xs.map (entryOfKey (tupleKind (mixKind P w))))[i]? = some en → ∃ x, xs[i]? = some x ∧ en.key = .ref x.2.1 := fun {xs i en} h => by
  rw [List.getElem?_map] at h
  cases e : xs[i]? with
  | none => rw [e] at h; cases h
  | some x => rw [e] at h; cases h; exact ⟨x, rfl, rfl⟩
theorem cr_sortD (hc : X.calm = true) : CallR X (.builtin "sorted") rSortD := by
  intro pins s σ H vs us Q I r h
  obtain ⟨a, kvs, qs, rfl, hr, hk, q⟩ := h
  rw [Vals.ref1 r]
  obtain ⟨z, lo, xs, rel, o, es, ep, ho, hx, hdt, he, _, _⟩ := dt_rd I.hok hr
  obtain ⟨rs, e1, e2, e3⟩ := dt_rows rel hk
  have hsz : es.size = xs.length := size_of_entries he
  have hzx : xs.length ≤ sizeLine := by rw [← Paired.length rel]; exact z
  have hrl : rs.length = xs.length := by have := congrArg List.length e3; simpa using this
  refine Calls.call_function_entry kind_sorted plain_sorted entry_sorted (args_sorted1 _) ?_
  unfold Builtin.«sorted»
  refine wpAny_bind (m := checkCount "sorted" 1 1 _) (wpAny_pure ?_)
  refine wpAny_bind (PySem.W.kdu_collect (kdl_raw lo hx hdt) (I.ok.hd hc) ho (by rw [hsz]; exact hzx) fun h' tk acc hkp hacc => ?_)
  have hal : acc.toList = rs.map fun r => Value.ref r.1 := by
    refine List.ext_getElem? fun i => ?_
    rw [List.getElem?_map, Array.getElem?_toList]
    cases e : acc[i]? with
    | none =>
      have : rs.length ≤ i := by rw [hrl, ← hsz, ← hacc.1]; exact Array.getElem?_eq_none_iff.mp e
      rw [List.getElem?_eq_none this]
      rfl
    | some v =>
      obtain ⟨en, h1, rfl⟩ := hacc.2 i v e
      rw [← Array.getElem?_toList, he] at h1
      obtain ⟨x, hx1, hx2⟩ := entries_keys h1
      have e4 : (rs.map fun r => r.1)[i]? = some x.2.1 := by rw [e3, List.getElem?_map, hx1]; rfl
      rw [List.getElem?_map] at e4
      cases e5 : rs[i]? with
      | none => rw [e5] at e4; cases e4
      | some r0 =>
        rw [e5] at e4
        have e6 : r0.1 = x.2.1 := Option.some.inj e4
        show some en.key = some (Value.ref r0.1)
        rw [hx2, e6]
  have hl : acc.toList.length = rs.length := by rw [hal, List.length_map]
  refine wpAny_bind (wpAny_newList ?_ (by rw [hl, hrl]; exact hzx))
  rw [hal]
  have I1 : Inv X pins σ H { s with heap := h', toks := tk } := I.kept hkp
  have hp : ∀ r ∈ rs, PairAt (h'.push (seqObj "list" (rs.map fun r => Value.ref r.1).toArray 0)) r.1 r.2 := fun r hr => by
    obtain ⟨t, u, o, ho, z⟩ := pair_of I1.hok (e2 r hr)
    exact ⟨t, u, o, Heap.get?_push_of_some _ ho, z⟩
  obtain ⟨fs, hfs⟩ := pairsAt_tups hp
  have hoL : (h'.push (seqObj "list" (rs.map fun r => Value.ref r.1).toArray 0)).get? h'.objs.size = some (seqObj "list" (rs.map fun r => Value.ref r.1).toArray 0) := Heap.get?_push_size _ rfl
  show wpAny _ _ _ _ _ { s with heap := h'.push (seqObj "list" (rs.map fun r => Value.ref r.1).toArray 0), toks := tk }
  refine wpAny_bind (wpAny_holding (wpAny_call_entry PyProof.Rows.slot_list_sort ⟨_, hoL, rfl⟩ PyProof.Rows.entry_list_sort (list_sort_tups hoL hfs (pairsAt_keys hp) (by rw [List.length_map, hrl]; exact hzx) fun st p so _ => ⟨_, rfl, ?_⟩) (PyProof.Rows.args_list_sort _)))
  obtain ⟨rs', h1, h2, h3⟩ := sort_res hp p so
  obtain ⟨en, he'⟩ := PyProof.Rows.sortedHeap_at (vs := rs.map fun r => Value.ref r.1) (out := (arrOf st).map (·.2)) hoL
  have hlen : (rs'.map fun r => V.ref r.1).length ≤ sizeLine := by rw [List.length_map, h1.length_eq, hrl]; exact hzx
  refine wpAny_pure ⟨_, rfl, .ref _, upd H h'.objs.size (.lst (rs'.map fun r => V.ref r.1)), ?_, rfl, q rs' _ ((h1.map _).trans (List.Perm.of_eq e1)) h2 (fun r hr => e2 r (h1.mem_iff.mp hr)) (I1.hok.fresh (Nat.le_refl _))⟩
  refine I1.laid (t' := tk) (fun b ob e => ?_) (Nat.le_refl _) ⟨hlen, ((arrOf st).map (·.2)).toList, en, by rw [h3]; exact vals_rows rs', he'⟩
  have hlt := Heap.lt_size e
  rw [PyProof.Rows.sortedHeap_old (Nat.ne_of_lt hlt) (by rw [Heap.size_push]; exact Nat.lt_succ_of_lt hlt)]
  exact Heap.get?_push_of_some _ e
end
end L2
end
section
set_option Elab.async false
set_option linter.all false
set_option maxRecDepth 100000
set_option autoImplicit false
namespace L2
open PySem PySem.Spec PyProof.Rows
section
variable {X : Cx} {o i : Expr} {pos tpos : Pos} {td ty : TE}
end
namespace Z
section
variable {X : Cx} {pos p pos' apos cpos tpos : Pos} {o e f i a b : Expr} {es : List Expr} {td ty tx : TE} {ta : TA}
theorem dget2 (hu : X.A.units + 64 < cLine) (ho : ZE X o td) (he : ZE X e ty) (hf : ZE X f tx) (hbase : attributeBase o "get" X.env (eval o X.env) = eval o X.env := by kernel_rfl)
    (hfew : ((backTo cpos (starEach [e, f] X.env)).all (fun x => !x.1) && (backToKw cpos (keywordEach [] X.env)).all (fun x => x.1.isSome)
      && decide (([e, f] : List Expr).length + ([] : List Keyword).length + (if ([] : List Keyword).isEmpty then 0 else 1) < 30)) = true := by kernel_rfl)
    (hline : (apos.endLine == cpos.line) = true := by kernel_rfl) (htr : backTo cpos (starEach [e, f] X.env) = [(false, eval e X.env), (false, eval f X.env)] := by kernel_rfl) :
    ZE X (.Call (.Attribute o "get" apos) [e, f] [] cpos) (tDGet2 td ty tx) := ⟨pe_dget2 (Nat.lt_of_le_of_lt (by omega) hu) ho.h he.h hf.h ⟨hbase, hfew, hline, htr⟩⟩
theorem par (i j : Nat) {x y : Str} {px py pt pt2 : Pos} {kt k2 : Nat} (hc : X.calm = true) (hN : X.N.Nodup) (hij : i ≠ j) (ha : ZA X [a, b] ta) (hi : X.N[i]? = some x := by kernel_rfl) (hj : X.N[j]? = some y := by kernel_rfl)
    (hx : X.env.scope.names.lookup x = some .local := by kernel_rfl) (hy : X.env.scope.names.lookup y = some .local := by kernel_rfl)
    (hw : swappedStores [.Tuple [.Name x px, .Name y py] kt pt] (.Tuple [a, b] k2 pt2) X.env = pure (some [x, y]) := by kernel_rfl)
    (hs : swapsWithSole [.Tuple [.Name x px, .Name y py] kt pt] (.Tuple [a, b] k2 pt2) pos.line X.env = pure false := by kernel_rfl) :
    ZS X (.Assign [.Tuple [.Name x px, .Name y py] kt pt] (.Tuple [a, b] k2 pt2) pos) (tPar i j ta) := ⟨ps_par hc hN hi hj hij hx hy ha.h hw hs⟩
theorem sortL : ZCall X (.builtin "sorted") (rSortL X.K) := ⟨cr_sortL⟩
theorem sortD (hc : X.calm = true) : ZCall X (.builtin "sorted") rSortD := ⟨cr_sortD hc⟩
end
end Z
end L2
end
section
set_option Elab.async false
set_option linter.all false
set_option maxRecDepth 100000
set_option autoImplicit false
namespace KB
open PySem L2
abbrev Nm := Int × Int
abbrev Am := List (Nm × Int)
def getN (m : Am) (q : Nm) : Option Int := (m.find? fun x => decide (x.1 = q)).map (·.2)
def putN (m : Am) (q : Nm) (v : Int) : Am := if (m.any fun x => decide (x.1 = q)) = true then m.map (fun x => if x.1 = q then (x.1, v) else x) else m ++ [(q, v)]
def dropN (m : Am) (q : Nm) : Am := m.filter fun x => decide (x.1 ≠ q)
theorem getN_any (q : Nm) : ∀ m : Am, (m.any fun x => decide (x.1 = q)) = (getN m q).isSome
  | [] => rfl
  | x :: r => by
    unfold getN
    by_cases e : x.1 = q
    · rw [List.find?_cons_of_pos (by simpa using e)]; simp [e]
    · rw [List.find?_cons_of_neg (by simpa using e)]; simp [e]
      have h := getN_any q r
      unfold getN at h
      rw [Option.isSome_map] at h
      exact h
def NdN (m : Am) : Prop := (m.map (·.1)).Nodup
theorem getN_none {m : Am} {q : Nm} : getN m q = none ↔ ¬ q ∈ m.map (·.1) := by
  unfold getN
  rw [Option.map_eq_none_iff, List.find?_eq_none]
  constructor
  · intro h hq
    obtain ⟨x, hx, e⟩ := List.mem_map.mp hq
    exact h x hx (by simpa using e)
  · intro h x hx
    simp only [decide_eq_true_eq]
    exact fun e => h (List.mem_map.mpr ⟨x, hx, e⟩)
theorem NdN.put {m : Am} (h : NdN m) (q : Nm) (v : Int) : NdN (putN m q v) := by
  unfold putN NdN at *
  split
  · rw [List.map_map]
    have : (m.map ((fun x => x.1) ∘ fun x : Nm × Int => if x.1 = q then (x.1, v) else x)) = m.map (·.1) := List.map_congr_left fun x _ => by
      show (if x.1 = q then (x.1, v) else x).1 = x.1
      split <;> rfl
    rw [this]
    exact h
  · rename_i hn
    rw [getN_any] at hn
    have hg : getN m q = none := by cases g : getN m q with | none => rfl | some _ => rw [g] at hn; exact absurd rfl hn
    rw [List.map_append, List.nodup_append]
    refine ⟨h, by simp, fun a ha b hb => ?_⟩
    simp at hb
    subst hb
    rintro rfl
    exact getN_none.mp hg ha
theorem NdN.filter {m : Am} (h : NdN m) (f : Nm × Int → Bool) : NdN (m.filter f) := h.sublist (List.Sublist.map _ List.filter_sublist)
theorem NdN.drop {m : Am} (h : NdN m) (q : Nm) : NdN (dropN m q) := h.filter _
theorem NdN.nil : NdN [] := List.nodup_nil
end KB
end
section
set_option Elab.async false
set_option linter.all false
set_option maxRecDepth 100000
set_option autoImplicit false
namespace L2
open PySem PySem.Spec PyProof.Rows
section
variable {X : Cx}
theorem eqv_pair (p q : Int × Int) : PyData.eqv (.tuple [.int p.1, .int p.2]) (.tuple [.int q.1, .int q.2]) = decide (p = q) := by
  have h : PyData.eqv (.tuple [.int p.1, .int p.2]) (.tuple [.int q.1, .int q.2]) = (p.1 == q.1 && (p.2 == q.2 && true)) := by
    simp [PyData.eqv, PyData.eqvAll]
  rw [h]
  by_cases e : p = q
  · subst e; simp
  · rw [decide_eq_false e]
    by_cases e1 : p.1 = q.1
    · have e2 : p.2 ≠ q.2 := fun z => e (Prod.ext e1 z)
      simp [e1, e2]
    · simp [e1]
def rInN (K : PySem.W.Frag) (neg : Bool) : R2 := fun x y H Q => ∃ (a p : Addr) (q : Int × Int) (rs : List (Addr × (Int × Int))), x = .ref a ∧ y = .ref p ∧ SqT K H a (ptV q) ∧ (SqL K H p (rs.map fun r => V.ref r.1) ∨ SqT K H p (rs.map fun r => V.ref r.1)) ∧
  (∀ r ∈ rs, SqT K H r.1 (ptV r.2)) ∧ Q (.bl (if neg then !(rs.any fun r => decide (r.2 = q)) else rs.any fun r => decide (r.2 = q))) H
theorem nm_eqAt {pins : List (Addr × Obj)} {σ : St} {H : Hp} {s : Shared} {a b : Addr} {p q : Int × Int} (hu : X.A.units + 64 < cLine) (I : Inv X pins σ H s) (ha : SqT X.K H a (ptV p)) (hb : SqT X.K H b (ptV q)) : SeqAt.EqAt X.A.in1 s (.ref a) (.ref b) (decide (p = q)) := by
  obtain ⟨as, ra⟩ := Dp.reads I (.tuple [.int p.1, .int p.2]) (.ref a) (.ref a) (.tup ha (.cons (.int _) (.cons (.int _) .nil))) rfl
  obtain ⟨bs, rb⟩ := Dp.reads I (.tuple [.int q.1, .int q.2]) (.ref b) (.ref b) (.tup hb (.cons (.int _) (.cons (.int _) .nil))) rfl
  rw [← eqv_pair]
  refine SeqAt.eqAt_reads _ _ _ s _ _ as bs ra rb (by simp [PyData.canLay0, PyData.canLayAll0]) (by simp [PyData.canLay0, PyData.canLayAll0]) ?_
  have h1 : (PyData.tuple [.int p.1, .int p.2]).depth = 1 := by simp [PyData.depth, PyData.depthAll]
  rw [h1]
  have h2 : X.A.in1.units = X.A.units + 1 := rfl
  have h3 := Nat.min_le_left 1 (PyData.tuple [.int q.1, .int q.2]).depth
  omega
theorem any_rows {h : Heap} {q : Int × Int} : ∀ {rs : List (Addr × (Int × Int))}, (∀ r ∈ rs, PairAt h r.1 r.2) → ((rs.map fun r => Value.ref r.1).any fun v => decide ((rowOf h v).2 = q)) = rs.any fun r => decide (r.2 = q)
  | [], _ => rfl
  | r :: l, hp => by
    rw [List.map_cons, List.any_cons, List.any_cons, any_rows fun x hx => hp x (List.mem_cons_of_mem _ hx), rowOf_eq (hp r List.mem_cons_self)]
theorem op_inN (hu : X.A.units + 64 < cLine) : OpR X (compareOp .In) (rInN X.K false) := by
  intro pins s σ H x y v u Q I rx ry h
  obtain ⟨a, p, q, rs, rfl, rfl, ha, hq, ht, qq⟩ := h
  cases ry
  cases rx
  have hp : ∀ r ∈ rs, PairAt s.heap r.1 r.2 := fun r hr => I.pair (ht r hr)
  have me : ∀ w ∈ (rs.map fun r => Value.ref r.1), SeqAt.EqAt X.A.in1 s w (.ref a) (decide ((rowOf s.heap w).2 = q)) := fun w hw => by
    obtain ⟨r, hr, rfl⟩ := List.mem_map.mp hw
    rw [rowOf_eq (hp r hr)]
    exact nm_eqAt hu I (ht r hr) ha
  rcases hq with hq | hq
  · obtain ⟨its, r, pl, hz⟩ := I.list hq
    cases rows_vals r
    refine SeqAt.in_listAt (fun v => decide ((rowOf s.heap v).2 = q)) pl.isList (fun w hw => me w (by simpa using hw)) ⟨.bl _, H, I, rfl, ?_⟩
    rw [List.any_toArray, any_rows hp]
    exact qq
  · obtain ⟨its, r, pl, hz⟩ := I.tuple hq
    cases rows_vals r
    refine SeqAt.in_tupleAt (fun v => decide ((rowOf s.heap v).2 = q)) pl (fun w hw => me w (by simpa using hw)) ⟨.bl _, H, I, rfl, ?_⟩
    rw [List.any_toArray, any_rows hp]
    exact qq
section
variable {prog : Program} {w : World} {κ : Type} [DecidableEq κ] {knd : HeapKind prog w κ} {A : Around} {E : Value → Shared → Prop} {s : Shared} {d a : Addr} {k : κ} {xs : List (κ × Addr × Value)}
end
structure Above (K : PySem.W.Frag) (D C : Addr) : Prop where
  ty : PySem.W.typeIn K (.ref C) = some (.type "type")
  cl : ∃ cd, PySem.W.clsIn K C = some cd
  sub : PySem.W.subIn K (.ref D) (.ref C) = some true
def rIsO (K : PySem.W.Frag) : List V → Hp → VK → Prop := fun xs H Q => ∃ (a C D dx : Addr) (fs : List (Str × V)), xs = [.ref a, .ref C] ∧ H a = some (.ins D dx fs) ∧ Above K D C ∧ Q (.bl true) H
theorem cr_isO : CallR X (.builtin "isinstance") (rIsO X.K) := by
  intro pins s σ H xs us Q I r h
  obtain ⟨a, C, D, dx, fs, rfl, ha, ab, q⟩ := h
  obtain ⟨u, v, rfl, ru, rv⟩ := vals2 r
  cases (show u = Value.ref a from ru)
  cases (show v = Value.ref C from rv)
  obtain ⟨mA, O, _⟩ := ins_get I.hok ha
  obtain ⟨cd, hcd⟩ := ab.cl
  have KX := I.kIn
  have fin : EP X pins σ Q (.bool true) s := ⟨.bl true, H, I, rfl, q⟩
  have hcl : ∃ oc oD osl, X.K.lookup C = some ⟨oc, oD, .cls cd, osl⟩ := by
    unfold PySem.W.clsIn at hcd
    split at hcd
    · rename_i ho
      cases hcd
      exact ⟨_, _, _, ho⟩
    · cases hcd
  obtain ⟨oc, oD, osl, hC⟩ := hcl
  obtain ⟨h0, g0, d0, tt0, os0⟩ := s
  obtain ⟨od, IA, _⟩ := O.look
  have L0 := IA.type (M := model X.prog X.w)
  have hty := PySem.W.looks_typeIn (M := model X.prog X.w) KX ab.ty
  have LI : PySem.W.Looks (model X.prog X.w) h0 (isInstance (.ref a) (.ref C)) true := L0.andThen (PySem.W.looks_subIn KX ab.sub)
  have hisC : PySem.W.Looks (model X.prog X.w) h0 (isType (.ref C)) true := by
    intro A' Q' E' s' k q
    unfold isType loadHead
    exact wpAny_bind (wpAny_loadPart (k _ _ (KX _ _ hC)) (wpAny_pure q))
  refine call_isinstance_of ?_ (fun z => nomatch z)
  unfold Builtin.«isinstance.nested»
  refine wpAny_bind (L0.at ?_)
  by_cases he : (Value.ref D == Value.ref C) = true
  · rw [if_pos he]
    repeat (first | refine wpAny_pure ?_ | refine wpAny_rule ?_ | refine wpAny_bind ?_)
    exact fin
  · rw [if_neg he]
    refine wpAny_bind (hty.at ?_)
    rw [if_pos (by decide)]
    refine wpAny_bind (wpAny_bind (hisC.at ?_))
    refine wpAny_bind (LI.at ?_)
    exact wpAny_pure (a := true) (wpAny_pure fin)
end
namespace Z
section
variable {X : Cx} {K : PySem.W.Frag} {pos apos cpos : Pos} {o e : Expr} {td ty : TE}
theorem inN (hu : X.A.units + 64 < cLine) : ZOp X (compareOp .In) (rInN X.K false) := ⟨op_inN hu⟩
theorem isO : ZCall X (.builtin "isinstance") (rIsO X.K) := ⟨cr_isO⟩
end
end Z
end L2
end
section
set_option Elab.async false
set_option linter.all false
set_option maxRecDepth 100000
set_option autoImplicit false
namespace L2
open PySem PySem.Spec PyProof.Rows
section
variable {prog : Program} {w : World} {κ : Type} [DecidableEq κ] {knd : HeapKind prog w κ} {A : Around} {E : Value → Shared → Prop} {s : Shared} {d a : Addr} {k : κ} {xs : List (κ × Addr × Value)}
end
section
variable {X : Cx}
end
end L2
namespace L2.Z
open PySem
end L2.Z
end
section
set_option Elab.async false
set_option linter.all false
set_option maxRecDepth 100000
set_option autoImplicit false
namespace L2
open PySem PySem.Spec PyProof.Rows PyProof.Rows.G
section
variable {X : Cx} {pins : List (Addr × Obj)} {σ : St} {H : Hp} {s : Shared} {h' : Heap}
def over (H : Hp) (rs : List (Addr × (Int × Int))) : Hp := fun b => match rs.find? (fun r => decide (r.1 = b)) with
  | some r => some (.tup (ptV r.2))
  | none => H b
end
end L2
namespace L2.Z
open PySem
end L2.Z
end
section
set_option Elab.async false
set_option linter.all false
set_option maxRecDepth 100000
set_option autoImplicit false
namespace L2
open PySem PySem.Spec PyProof.Rows PyProof.Rows.G
section
variable {X : Cx} {pins : List (Addr × Obj)} {σ : St} {H : Hp} {s : Shared} {h' : Heap}
end
end L2
namespace L2.Z
open PySem
end L2.Z
end
section
set_option Elab.async false
set_option linter.all false
set_option maxRecDepth 100000
set_option autoImplicit false
namespace L2
open PySem PySem.Spec PyProof.Rows
section
variable {X : Cx} {K : PySem.W.Frag} {e st : Expr} {te : TE} {ts : TO} {pos p2 : Pos} {j : Nat}
namespace Z
end Z
end
end L2
end
section
set_option Elab.async false
set_option linter.all false
set_option maxRecDepth 100000
set_option autoImplicit false
namespace L2
open PySem PySem.Spec PyProof.Rows
theorem setGen_size (s : Shared) (g : Nat) (x : GenState) : (s.setGen g x).gens.size = s.gens.size := by simp [Shared.setGen]
theorem runs_gens {M : Model} {Γ : PySem.Ctx} {p : Pos} {t : Sem Fin} {fs : List Frame} {s s' : Shared} {e : End} (h : Runs M Γ p t fs s e s') : s.gens.size ≤ s'.gens.size := by
  induction h
  all_goals (try simp only [setGen_size, Array.size_push] at *)
  all_goals omega
theorem wakes_gens {M : Model} {Γ : PySem.Ctx} {p : Pos} {g : Nat} {r : Resume} {s s' : Shared} {res : GenResult} (h : Wakes M Γ p g r s res s') : s.gens.size ≤ s'.gens.size := by
  unfold Wakes at h
  have of : ∀ {Γ' p' t fs e₁ s₁}, Runs M Γ' p' t fs (s.setGen g .running) e₁ s₁ → s.gens.size ≤ (s₁.setGen g e₁.genState).gens.size := fun {Γ' p' t fs e₁ s₁} hr => by
    have := runs_gens hr
    rw [setGen_size] at this ⊢
    exact this
  split at h
  · exact h.elim
  · split at h
    · obtain ⟨e₁, s₁, hr, _, _, e⟩ := h
      rw [e]; exact of hr
    · rw [h.2]; omega
    · rw [h.2, setGen_size]; omega
  · obtain ⟨e₁, s₁, hr, _, _, e⟩ := h
    rw [e]; exact of hr
  · rw [h.2]; omega
  · rw [h.2]; omega
theorem wp_besides {α : Type} {M : Model} (J : Shared → Prop) (heap : ∀ s h, J s → J { s with heap := h }) (toks : ∀ s, J s → J { s with toks := s.toks + 1 }) (drawn : ∀ s d, J s → J { s with drawn := d }) (os : ∀ s o, J s → J { s with os := o })
    (newg : ∀ s x, J s → J { s with gens := s.gens.push x }) (ret : ∀ {Γ p s r s'}, Returns M Γ p s r s' → J s → J s') (wak : ∀ {Γ p g r s x s'}, Wakes M Γ p g r s x s' → J s → J s') (Γ : PySem.Ctx) (t : Sem α) :
    ∀ {Q : α → Pos → Shared → Prop} {E : Value → Pos → Shared → Prop} {p : Pos} {s : Shared}, J s → Sem.wp M Γ t Q E p s → Sem.wp M Γ t (fun a p s => J s ∧ Q a p s) (fun a p s => J s ∧ E a p s) p s := by
  induction t with
  | pure _ => exact fun j h => ⟨j, h⟩
  | raise _ => exact fun j h => ⟨j, h⟩
  | unsupported _ => exact fun _ h => h
  | finish _ => exact fun _ h => h
  | register _ _ => exact fun _ h => h
  | yield _ _ _ _ => exact fun _ h => h
  | fork _ _ => exact fun _ h => h
  | await _ _ _ _ _ => exact fun _ h => h
  | rule _ _ ih => exact fun j h => ih () j h
  | «at» _ _ ih => exact fun j h => ih () j h
  | point _ _ ih => exact fun j h => ih () j h
  | loadIfAlive _ _ ih => exact fun j h => ih _ j h
  | ask _ ih => exact fun j h => ih _ j h
  | handled _ _ ih => exact fun j h => ih _ j h
  | stack _ ih => exact fun j h => ih _ j h
  | thread _ ih => exact fun j h => ih _ j h
  | load _ _ _ ih => exact fun j ⟨o, e, h⟩ => ⟨o, e, ih o j h⟩
  | genState _ _ ih => exact fun j ⟨o, e, h⟩ => ⟨o, e, ih _ j h⟩
  | update _ _ _ _ ih => exact fun j ⟨e, h⟩ => ⟨e, ih () (heap _ _ j) h⟩
  | alloc _ _ ih => exact fun j h => ih _ (heap _ _ j) h
  | fresh _ ih => exact fun j h => ih _ (toks _ j) h
  | choose _ _ _ ih => exact fun j ⟨e, h⟩ => ⟨e, ih _ (drawn _ _ j) h⟩
  | os _ _ _ ih => exact fun j h => ih _ (os _ _ j) h
  | newGen _ _ ih => exact fun j h => ih _ (newg _ _ j) h
  | call _ _ _ _ _ ih => exact fun j ⟨r, s', e, h⟩ => ⟨r, s', e, ih r (ret e j) h⟩
  | resume _ _ _ _ ih => exact fun j ⟨r, s', e, h⟩ => ⟨r, s', e, ih r (wak e j) h⟩
theorem wpAny_gens {α : Type} {M : Model} {A : Around} {t : Sem α} {Q : α → Shared → Prop} {E : Value → Shared → Prop} {s : Shared} {n : Nat} (hn : n ≤ s.gens.size)
    (h : wpAny M A t (fun a s' => n ≤ s'.gens.size → Q a s') (fun a s' => n ≤ s'.gens.size → E a s') s) : wpAny M A t Q E s := by
  refine wpAny_mono (Q := fun a s' => n ≤ s'.gens.size ∧ (n ≤ s'.gens.size → Q a s')) (E := fun a s' => n ≤ s'.gens.size ∧ (n ≤ s'.gens.size → E a s')) ?_ (fun _ _ z => z.2 z.1) fun _ _ z => z.2 z.1
  intro Γ p hΓ
  refine wp_besides (fun s => n ≤ s.gens.size) (fun _ _ j => j) (fun _ j => j) (fun _ _ j => j) (fun _ _ j => j) (fun s x j => by show n ≤ (s.gens.push x).size; rw [Array.size_push]; omega) (fun e j => Nat.le_trans j (runs_gens e)) (fun e j => Nat.le_trans j (wakes_gens e)) Γ t hn (h Γ p hΓ)
end L2
end
section
set_option Elab.async false
set_option linter.all false
set_option maxRecDepth 100000
set_option autoImplicit false
namespace L2
open PySem PySem.Spec PyProof.Rows
section
variable {prog : Program} {w : World} {A : Around} {E : Value → Shared → Prop} {s : Shared}
theorem all_by {x : Value} {Q : Value → Shared → Prop} {a : Addr} (I : Nat → Shared → Prop) (n : Nat)
    (start : wpAny (model prog w) A.in1 (pyIter x) (fun it s₂ => it = .ref a ∧ I n s₂) E s)
    (turn : ∀ n s, I n s → wpAny (model prog w) A.in1 (pyNext (.ref a)) (fun r s₁ => match r with
      | none => Q (.bool true) s₁
      | some v => ∃ b, v = .bool b ∧ (b = true → ∃ m, m < n ∧ I m s₁) ∧ (b = false → Q (.bool false) s₁)) E s) :
    wpAny (model prog w) A (call (.builtin "all") [x]) Q E s := by
  refine call_function_tree F.kind_all F.plain_all F.entry_all (F.args_all1 _) ?_
  unfold Builtin.«all»
  refine wpAny_bind (m := oneArg "all" _) (wpAny_pure ?_)
  refine wpAny_bind (wpAny_mono start (fun it s₂ h₂ => ?_) fun _ _ e => e)
  obtain ⟨rfl, hI⟩ := h₂
  refine wpAny_pure ⟨plainId_quiet F.plain_all_loop _, ?_⟩
  have key : ∀ n s, I n s → codeAny (model prog w) A (.builtin "all.loop" ⟨[.ref a], []⟩) (fun r s' => match r with | .ok (.ret v) => Q v s' | .ok _ => False | .error e => E e s') s := by
    intro n
    induction n using Nat.strongRecOn with
    | ind n ih =>
      intro s h
      refine codeAny_builtin F.entry_all_loop ?_
      rw [Around.under_plainId F.plain_all_loop _]
      show wpAny _ A.in1 (pyNext (.ref a) >>= _) _ _ s
      refine wpAny_bind (wpAny_mono (turn n s h) (fun r s₁ h₁ => ?_) fun _ _ e => e)
      cases r with
      | none => exact wpAny_bind (wpAny_rule (wpAny_pure h₁))
      | some v =>
        obtain ⟨b, rfl, ht, hf⟩ := h₁
        refine wpAny_bind (wpAny_holding (wpAny_truthy_bool ?_))
        refine wpAny_bind (wpAny_letGo ?_)
        cases b with
        | true =>
          simp only [if_true]
          obtain ⟨m, hm, hi⟩ := ht rfl
          exact wpAny_pure ⟨plainId_quiet F.plain_all_loop _, ih m hm s₁ hi⟩
        | false =>
          simp only [Bool.false_eq_true, if_false]
          exact wpAny_bind (wpAny_rule (wpAny_pure (hf rfl)))
  exact key n s₂ hI
end
abbrev Cx.gblk (X : Cx) (s : Shared) (H : Hp) (ge : Env) (fp : List Addr) : Cx := { X with A := X.A.in1.in1.deeper ge, s_0 := s, H_0 := H, env := ge, outer := X.stack, stack := ge :: X.stack, ex := fp, fn := fun _ => false, pn := [], xe := fun _ _ => False }
abbrev genE (X : Cx) (scope : Scope) (C : Addr) (code : Value) : Env := genEnv scope (cloFrom X.env.cells scope.names []) C code builtinsNs X.env
theorem room_gen {k : Nat} {A : Around} (r : Room (k + 1) A) (env : Env) : Room k (A.in1.in1.deeper env) :=
  ⟨r.hd, by have := r.dp; show A.depth + 1 + 3 * k + 5 < _; omega, by have := r.un; show A.units + 1 + 1 + 3 + 16 * k + 200 < _; omega⟩
theorem over_gen (A : Around) (elt tg iter : Expr) (ifs : List Expr) (scope : Scope) (pos : Pos) (it acc : Value) (ge : Env) : A.over (.compLoop (.GeneratorExp elt [⟨tg, iter, ifs, 0⟩] scope pos) 0 it acc ge) [] = A.deeper ge := by
  first | rfl | (simp [Around.over, Around.deeper, marksOver, envsOf, guardsOf, unitsOf, frameCount, pushEnvs, pushGuards, Code.envs, Code.guards, Code.weight, Code.frames, Code.isFrame, Code.cUnits]; done)
section
variable {X : Cx} {pins : List (Addr × Obj)} {σ : St} {H : Hp} {s : Shared}
theorem Inv.of_same {s' : Shared} (I : Inv X pins σ H s) (hh : s'.heap = s.heap) (ho : s'.os = s.os) (hb : AllBare s'.gens) : Inv X pins σ H s' :=
  ⟨I.ok, ho.trans I.os, hb, by rw [hh]; exact I.base, by rw [hh]; exact I.loc, by rw [hh]; exact I.cell, I.free, I.freeC, by rw [hh]; exact I.pin, by rw [hh]; exact I.hok, I.len⟩
theorem gen_start {scope : Scope} {own : List (Str × Nat)} {fp : List Addr} {it : Addr} {h' : Heap} {code : Value} {g' : Array GenState} {tk : Nat} {go : Obj} (I : Inv X pins σ H s) (ok : BlkOk X.N X.env.scope scope own) (hcell : ∀ y ∈ scope.names, y.2 ≠ .cell) (hN : X.N.Nodup)
    (hfp : ∀ b ∈ fp, FpOk X pins H b ∧ b < s.heap.objs.size) (hn : h'.Ns s.heap.objs.size (fun y => if y = ".0" then some (.ref it) else none)) (hs : Heap.SameBut s.heap.objs.size (s.heap.push { cls := .type "frame", data := .dict #[] }) h')
    (hg : AllBare g') (hgo : ∀ v, go.data ≠ .cell v) (hfr : (h'.push go).get? h'.objs.size = some go) :
    Inv (X.gblk s H (genE X scope s.heap.objs.size code) fp) [(h'.objs.size, go)] (wipe σ (own.map (·.2))) H { s with heap := h'.push go, gens := g', toks := tk } := by
  have hfree : ∀ y ∈ scope.names, y.2 = .free → ∃ c, X.env.cells.lookup y.1 = some c := fun y hy e => by
    rcases ok.free y hy e with k | k
    · exact I.ok.has _ (.inl k)
    · exact I.ok.has _ (.inr k)
  have hsz : h'.objs.size = s.heap.objs.size + 1 := by rw [hs.1, Heap.size_push]
  have kp' : ∀ b o, s.heap.get? b = some o → h'.get? b = some o := fun b o e => hs.extBut b o (Nat.ne_of_lt (Heap.lt_size e)) (Heap.get?_push_of_some _ e)
  have kp : ∀ b o, s.heap.get? b = some o → (h'.push go).get? b = some o := fun b o e => Heap.get?_push_of_some _ (kp' b o e)
  have cm : ∀ {y c}, (y, c) ∈ cloFrom X.env.cells scope.names [] → X.env.cells.lookup y = some c ∧ c < s.heap.objs.size ∧ (y, NameKind.free) ∈ scope.names := fun {y c} hm => by
    rcases cloFrom_mem hm with hm | ⟨h1, rfl⟩
    · cases hm
    · obtain ⟨c, hc⟩ := hfree _ h1 rfl
      rw [hc]
      obtain ⟨w, z⟩ := I.cell _ _ hc
      exact ⟨rfl, z.lt, h1⟩
  have mem : ∀ {y c}, (cloFrom X.env.cells scope.names []).lookup y = some c → X.env.cells.lookup y = some c ∧ c < s.heap.objs.size ∧ (y, NameKind.free) ∈ scope.names := fun {y c} e => cm (PySem.mem_of_lookup e)
  have look : ∀ {y}, scope.names.lookup y = some .free → ∃ c, (cloFrom X.env.cells scope.names []).lookup y = some c ∧ X.env.cells.lookup y = some c := fun {y} hl => by
    obtain ⟨c', e'⟩ := mem_lookup (cloFrom_has (cells := X.env.cells) (acc := []) (PySem.mem_of_lookup hl))
    exact ⟨c', e', (mem e').1⟩
  generalize hge : genE X scope s.heap.objs.size code = ge
  have hL : ge.locals = s.heap.objs.size := by rw [← hge]; rfl
  have hcl : ge.cells = cloFrom X.env.cells scope.names [] := by rw [← hge]; rfl
  have hsc : ge.scope = scope := by rw [← hge]; rfl
  have nocell : ∀ y, ¬ scope.names.lookup y = some .cell := fun y e => hcell _ (PySem.mem_of_lookup e) rfl
  have okB : (X.gblk s H ge fp).Ok := by
    refine ⟨I.ok.mod, by show ge.scope.kind = _; rw [hsc]; exact ok.kind, by show ge.globals = _; rw [← hge]; exact I.ok.glob, by show ge.builtins = _; rw [← hge]; rfl, by show s.heap.objs.size ≤ ge.locals; rw [hL]; exact Nat.le_refl _,
      fun y z c e1 e2 => ?_, fun y hy => ?_, (fun y c z e => nomatch z), I.ok.hd, ?_, .inr ⟨rfl, by show ge.frame = some ge.locals; rw [← hge]; rfl⟩, fun b hb => ⟨?_, fun y c e z => ?_⟩, I.bs, Nat.le_trans I.ok.bsz I.sz, fun b o e hb => ?_, fun b hb z => ?_, I.stack, I.stkFree⟩
    · have e1 : ge.cells.lookup y = some c := e1
      have e2 : ge.cells.lookup z = some c := e2
      rw [hcl] at e1 e2
      exact I.ok.inj y z c (mem e1).1 (mem e2).1
    · show ∃ c, ge.cells.lookup y = some c
      rw [hcl]
      have key : ge.scope.names.lookup y = some .cell ∨ ge.scope.names.lookup y = some .free := hy
      rw [hsc] at key
      rcases key with k | k
      · exact absurd k (nocell y)
      · exact let ⟨c, h, _⟩ := look k; ⟨c, h⟩
    · show (X.A.in1.in1.frames.map (ge :: ·)) = some (ge :: X.stack)
      show (X.A.frames.map (ge :: ·)) = some (ge :: X.stack)
      rw [I.ok.frames]; rfl
    · show b ≠ ge.locals
      rw [hL]; exact Nat.ne_of_lt (hfp b hb).2
    · have e : ge.cells.lookup y = some c := e
      rw [hcl] at e
      exact (hfp b hb).1.2.2.2.2.1 y c (mem e).1 z
    · rcases (hfp b hb).1.2.2.2.1 with z | z
      · exact I.ok.noex b o e z
      · exact absurd (Nat.lt_of_lt_of_le (Heap.lt_size e) (Nat.le_trans I.ok.bsz z)) (Nat.lt_irrefl _)
    · rcases List.mem_cons.mp (I.stkSub b z) with z | z
      · exact (hfp b hb).1.2.1 z
      · exact (hfp b hb).1.2.2.1 z
  refine ⟨okB, rfl, hg, Un.kept kp, ⟨fun y => if y = ".0" then some (.ref it) else none, ?_, fun i y av e1 e2 e3 => ?_⟩, fun y c e => ?_, ?_, fun y c e => ?_, fun p hp => ?_, I.hok.kept kp, by rw [wipe_length]; exact I.len⟩
  · show Heap.Ns _ ge.locals _
    rw [hL]
    exact hn.push _
  · obtain ⟨e2, hne⟩ := wipe_some e2
    have e3 : Vis ge.scope y := e3
    have key : ∀ k, scope.names.lookup y = some k → k = .local ∨ k = .cell → False := fun k hk hk' => by
      rcases ok.own _ (PySem.mem_of_lookup hk) hk' with e' | e'
      · obtain ⟨p, hp, hpy⟩ := List.mem_map.mp e'
        have e3 := ok.ix p hp
        have : p.1 = y := hpy
        rw [this] at e3
        exact hne (List.mem_map.mpr ⟨p, hp, nodup_ix hN e3 e1⟩)
      · exact e' (List.mem_of_getElem? e1)
    rw [hsc] at e3
    have hfr : scope.names.lookup y = some .free := by
      rcases e3 with e3 | e3 | e3
      · exact (key _ e3 (.inl rfl)).elim
      · exact (key _ e3 (.inr rfl)).elim
      · exact e3
    obtain ⟨m, hn', hl⟩ := I.loc
    have hvis : Vis X.env.scope y := (ok.free _ (PySem.mem_of_lookup hfr) rfl).elim (fun k => .inr (.inl k)) (fun k => .inr (.inr k))
    obtain ⟨w, r, q⟩ := hl i y av e1 e2 hvis
    have kg : ge.kindOf y = some .free := by
      show ge.scope.names.lookup y = _
      rw [hsc]; exact hfr
    refine ⟨w, r, .inr ⟨.inr kg, ?_⟩⟩
    obtain ⟨c, h1, h2⟩ := look hfr
    rcases q with ⟨k, _⟩ | ⟨_, c', e', z⟩
    · have k : X.env.scope.names.lookup y = some .local := k
      rcases ok.free _ (PySem.mem_of_lookup hfr) rfl with k' | k' <;> rw [show X.env.scope.names.lookup y = _ from k'] at k <;> cases k
    · rw [h2] at e'; cases e'
      exact ⟨c, by show ge.cells.lookup y = _; rw [hcl]; exact h1, z.keeps kp⟩
  · have e : ge.cells.lookup y = some c := e
    rw [hcl] at e
    obtain ⟨w, z⟩ := I.cell y c (mem e).1
    exact ⟨w, z.keeps kp⟩
  · show H ge.locals = none
    rw [hL]; exact I.hok.fresh (Nat.le_refl _)
  · have e : ge.cells.lookup y = some c := e
    rw [hcl] at e
    exact I.freeC y c (mem e).1
  · have hp : p ∈ ([] : List (Addr × Obj)) ++ [(h'.objs.size, go)] := hp
    rw [List.nil_append] at hp
    rw [List.mem_singleton.mp hp]
    refine ⟨hfr, I.hok.fresh (by show s.heap.objs.size ≤ h'.objs.size; omega), ?_, fun hb => ?_, hgo⟩
    · show h'.objs.size ≠ ge.locals
      rw [hL, hsz]; omega
    · have hb : h'.objs.size ∈ frs X.stack := hb
      rcases List.mem_cons.mp (I.stkSub _ hb) with z | z
      · have := I.lt
        rw [← z, hsz] at this
        exact absurd this (Nat.not_lt.mpr (Nat.le_succ _))
      · obtain ⟨_, o, ho, _⟩ := I.ok.funs.mem z
        have h1 := Heap.lt_size ho
        have h2 := I.sz
        rw [hsz] at h1
        exact absurd (Nat.lt_of_lt_of_le h1 h2) (Nat.not_lt.mpr (Nat.le_succ _))
end
end L2
end
section
set_option Elab.async false
set_option linter.all false
set_option maxRecDepth 100000
set_option autoImplicit false
namespace L2
open PySem PySem.Spec PyProof.Rows
structure SameG (g : Nat) (s s' : Shared) : Prop where
  h : s'.heap = s.heap
  o : s'.os = s.os
  b : AllBare s'.gens
  n : g < s'.gens.size
def genR (Y : Cx) (pins : List (Addr × Obj)) (Qt : Hp → Prop) : GenEnd := fun _ _ r s => r = .ok .next ∧ (∃ σ H', Inv Y pins σ H' s ∧ Qt H')
section
variable {X : Cx}
end
end L2
end
section
set_option Elab.async false
set_option linter.all false
set_option maxRecDepth 100000
set_option autoImplicit false
namespace L2
open PySem PySem.Spec PyProof.Rows
section
variable {X : Cx} {pins : List (Addr × Obj)} {σ : St} {H : Hp} {s : Shared} {h' : Heap} {P : Addr} {ps more : Array Value}
theorem Inv.tblMore {t' : Nat} (I : Inv X pins σ H s) (hP : H P = some (.tbl ps)) (hx : ∀ b o, b ≠ P → s.heap.get? b = some o → h'.get? b = some o) (e : h'.get? P = some { cls := .none, data := .fields (ps ++ more) }) :
    Inv X pins σ (upd H P (.tbl (ps ++ more))) { s with heap := h', toks := t' } := by
  have nn : ∀ b, H b = none → b ≠ P := fun b n z => by rw [z, hP] at n; cases n
  have no : ∀ b u, H b = some u → (∀ qs, u ≠ .tbl qs) → b ≠ P := fun b u q d z => by rw [z, hP] at q; exact d _ (Option.some.inj q).symm
  refine I.un (t' := t') ⟨fun b o q n _ _ => hx b o (nn b n) q, fun b o q n _ _ => ⟨o.slots, hx b o (nn b n) q⟩, fun b o q n _ => by rw [upd_ne (nn b n)]; exact n, fun b o q _ => ?_, fun b xs q => ?_, fun b o u q => ?_, fun b qs q => ?_⟩ fun b u q => ?_
  · by_cases hb : b = P
    · rw [hb]; exact ⟨_, e⟩
    · exact ⟨o, hx b o hb q⟩
  · rw [upd_ne (no b _ q fun _ z => nomatch z)]; exact q
  · rw [upd_ne (no b _ q fun _ z => nomatch z)]; exact q
  · by_cases hb : b = P
    · rw [hb] at q ⊢
      rw [hP] at q; cases q
      exact ⟨more, upd_same⟩
    · exact ⟨#[], by rw [upd_ne hb, q]; simp⟩
  · by_cases hb : b = P
    · rw [hb, upd_same] at q; cases q
      rw [hb]; exact e
    · rw [upd_ne hb] at q
      refine (I.hok b u q).stay (fun c v hc r => hx c v ?_ r) (fun c r => by rw [upd_ne (no c _ r fun _ z => nomatch z)]; exact r) fun c xs r => by rw [upd_ne (no c _ r fun _ z => nomatch z)]; exact r
      rcases hc with rfl | hc
      · exact hb
      · exact no c _ hc fun _ z => nomatch z
end
theorem bare_set {s : Shared} {g : Nat} {x : GenState} (h : AllBare s.gens) (hx : x.bare = true) : AllBare (s.setGen g x).gens := fun y hy => by
  simp only [Shared.setGen] at hy
  obtain ⟨i, hi, rfl⟩ := Array.mem_iff_getElem.mp hy
  rw [Array.getElem_setIfInBounds (by simpa using hi)]
  split
  · exact hx
  · exact h _ (Array.getElem_mem _)
theorem get_set {s : Shared} {g : Nat} {x : GenState} (h : g < s.gens.size) : (s.setGen g x).gens[g]? = some x := by simp [Shared.setGen, h]
theorem genCode_by {M : Model} {A : Around} {E : Value → Shared → Prop} {s : Shared} {env : Env} {c P : Addr} {ps : Array Value} {pos : Pos} {qn : Str} {scope : Scope} {Q : Value → Shared → Prop} (hc : env.code = .ref c) (hd : PySem.W.CodeHd s.heap c P) (hP : s.heap.get? P = some (PySem.W.tabObj ps)) (ht : TriplesOk ps.toList)
    (hQ : ∀ code more h' tk, (∀ b o, b ≠ P → s.heap.get? b = some o → h'.get? b = some o) → h'.get? P = some (PySem.W.tabObj (ps ++ more)) → TriplesOk (ps ++ more).toList → s.heap.objs.size ≤ h'.objs.size → Q code { s with heap := h', toks := tk }) : wpAny M A (genexprCode env pos qn scope) Q E s := by
  have ic := hd.code hP ht
  cases e : codeAmong pos ps.toList with
  | none =>
    refine wpAny_genexprCodeX hc ic (hd.tab hP) e fun c' h' tk hx hge hlt ic' _ tb _ => hQ _ _ h' tk hx tb.2 ?_ (Nat.le_trans hge (Nat.le_of_lt hlt))
    obtain ⟨_, _, _, _, _, _, _, _, _, op, _, _, _, _, _, _, _, e1, e2, tr, _⟩ := ic'
    exact tr
  | some cv =>
    obtain ⟨o, vs, _, _, _, _, _, _, _, op, ho, hdd, h11, _, _, _, _, hop, hpd, _, _⟩ := ic
    unfold genexprCode codeAt
    rw [hc, if_neg (show ¬ ((Value.ref c == Value.none) = true) from Bool.false_ne_true)]
    refine wpAny_bind (wpAny_fieldsOf ho hdd ?_)
    rw [h11]
    refine wpAny_bind (wpAny_fieldsOf hop hpd ?_)
    rw [e]
    have q := hQ cv #[] s.heap s.toks (fun b o _ r => r) (by rw [Array.append_empty]; exact hP) (by rw [Array.append_empty]; exact ht) (Nat.le_refl _)
    exact wpAny_pure q
end L2
end
section
set_option Elab.async false
set_option linter.all false
set_option maxRecDepth 100000
set_option autoImplicit false
namespace L2
open PySem PySem.Spec PyProof.Rows
section
variable {X : Cx} {P c : Addr}
end
end L2
end
section
set_option Elab.async false
set_option linter.all false
set_option maxRecDepth 100000
set_option autoImplicit false
namespace L2
open PySem PySem.Spec PyProof.Rows
namespace Z
end Z
structure GTab (base : Heap) (mg : Str → Option Value) (fd : FuncData) (tb : Addr) : Prop where
  hd : ∃ c, fd.code = .ref c ∧ PySem.W.CodeHd base c tb
  bm : BMain base mg
section
variable {P : Program} {w : World} {K : PySem.W.Frag} {mg : Str → Option Value} {base : Heap}
theorem Fun.okG {x qual : Str} {st : Stmt} {f tb : Addr} {fd : FuncData} {N ps : List Str} {k : Nat} {sp : Sp} (F : Fun K x qual st f fd) (T : GTab base mg fd tb) (S : FnScope N ps (defScope st)) (len : ∀ vs H Q E, sp vs H Q E → vs.length = ps.length)
    (hbody : ∀ (c : Addr), PySem.W.CodeHd base c tb → ∀ (A : Around) (outer : List Env) (s : Shared) (H : Hp) (vs : List V) (Q : VK) (E : XK), Room k (A.deeper (envOfC qual (defScope st) s.heap.objs.size f (.ref c))) → sp vs H Q E →
      ∃ t, ZSs (cxOf CX0 P w K mg base N qual (defScope st) f (.ref c) A outer s H E).nox (defBody st) t ∧ t { nx := fun _ H' => Q .non H', rt := Q } (start N vs) H) : FnOk P w K mg base CX0 (k + 1) f fd ps sp := by
  obtain ⟨c, e, hd⟩ := T.hd
  obtain ⟨oc, od, kV, doc, pm, an, cdv, ct, osl, rfl, lk, hcd⟩ := F.ex
  have e : cdv = .ref c := e
  subst e
  refine fn_of lk hcd S len fun A outer s H vs Q E hr hsp => ?_
  obtain ⟨t, h, q⟩ := hbody c hd A outer s H vs Q E hr hsp
  exact ⟨t, h.h.nox, q⟩
theorem tab_code {x : Str} {c tb f : Addr} {oc : Value} {od : Option Addr} {fd : FuncData} {osl : Array (Option Value)} (ht : PySem.W.tabIn K x = some (c, tb)) (hn : PySem.W.nsIn K mainGlobals x = some (some (.ref f))) (hl : K.lookup f = some ⟨oc, od, .func fd, osl⟩) : fd.code = .ref c := by
  unfold PySem.W.tabIn at ht
  rw [hn] at ht
  simp only [hl] at ht
  split at ht
  · rename_i c2 hc
    split at ht
    · split at ht
      · cases ht; exact hc
      · cases ht
    · cases ht
  · cases ht
end
theorem law_callG {P : Program} {w : World} {K : PySem.W.Frag} {mg mb : Str → Option Value} {k : Nat} {fa a : Addr} {fd : FuncData} {x : Str} {sp : Sp} {s₁ : Shared} {vs : List Value} {ns : List Int} {tabs : List (Addr × Addr)}
    (KX : K.In s₁.heap) (hns : s₁.heap.Ns mainGlobals mg) (hb : s₁.heap.Ns builtinsNs mb) (hbb : ∀ x : Str, x ≠ "__name__" → mb x = bootBuiltins x) (hlim : s₁.heap.NoLimit) (hg : s₁.gens = #[]) (hT : PySem.W.TabsAt tabs s₁.heap) (hK : PySem.W.noTabs K = true) (hbm : BMain s₁.heap mg)
    (ha : s₁.heap.get? a = some { cls := .type "list", data := .seq vs.toArray }) (hi : IntsAre vs ns) (hl : ns.length ≤ sizeLine) (hr : Room k callerA)
    (F : ∀ base : Heap, K.In base → base.Ns mainGlobals mg → BMain base mg → (∀ q ∈ tabs, PySem.W.CodeHd base q.1 q.2) → FnOk P w K mg base CX0 k fa fd [x] sp) (hbind : ∀ (s : Shared) (u : Value), BindsTo s fd ⟨[u], []⟩ [(x, u)])
    (hsp : ∀ H : Hp, (∀ q ∈ tabs, H q.2 = some (.tbl #[])) → SqL K H a (ns.map V.int) → sp [.ref a] H (fun v _ => v = .bl true) fun _ _ _ => False) :
    codeAny (model P w) callerA (.call (.ref fa) ⟨[.ref a], []⟩) (fun r s' => r = .ok (.ret (.bool true)) ∧ OldK s₁.heap s'.heap ∧ s'.os = s₁.os ∧ AllBare s'.gens) s₁ := by
  have rv := vals_ints hi
  have lenV := hi.length
  have tabO : ∀ b ∈ tabs.map (·.2), s₁.heap.get? b = some (PySem.W.tabObj #[]) := fun b hb => by
    obtain ⟨q, hq, rfl⟩ := List.mem_map.mp hb
    exact (hT q hq).2
  have nota : ∀ b ∈ tabs.map (·.2), b ≠ a := fun b hb z => by
    have := tabO b hb
    rw [z, ha] at this; cases this
  have core : ∀ H : Hp, (∀ b ∈ tabs.map (·.2), H b = some (.tbl #[])) → (∀ b, b ∉ tabs.map (·.2) → H b = none ∨ (b = a ∧ ∃ o xs, H b = some (.frz o (.lst xs)))) → SqL K H a (ns.map V.int) → HOk P w H s₁.heap → (H a ≠ none → K.lookup a = none) →
      codeAny (model P w) callerA (.call (.ref fa) ⟨[.ref a], []⟩) (fun r s' => r = .ok (.ret (.bool true)) ∧ OldK s₁.heap s'.heap ∧ s'.os = s₁.os ∧ AllBare s'.gens) s₁ := by
    intro H hTb hO hS hok hKa
    have base_of : ∀ {b : Addr} {o : Obj}, s₁.heap.get? b = some o → H b = none → (hidT s₁.heap H).get? b = some o := fun e n => hidT_get e n
    have notr : ∀ {b : Addr} {o : Obj}, s₁.heap.get? b = some o → o ≠ PySem.W.tabObj #[] → (b = a → False) → H b = none := fun {b o} e d1 d2 => by
      by_cases hb : b ∈ tabs.map (·.2)
      · have := tabO b hb
        rw [e] at this
        exact absurd (Option.some.inj this) d1
      · rcases hO b hb with z | ⟨z, _⟩
        · exact z
        · exact (d2 z).elim
    have seqa : ∀ {b : Addr} {o : Obj}, s₁.heap.get? b = some o → (∀ v n, o.data ≠ .seq v n) → b = a → False := fun {b o} e d z => by
      rw [z, ha] at e
      cases e
      exact d _ _ rfl
    have nsK : ∀ {b : Addr} {m : Str → Option Value}, s₁.heap.Ns b m → (hidT s₁.heap H).Ns b m := fun {b m} ⟨o, es, ep, e, d, r⟩ => ⟨o, es, ep, base_of e (notr e (fun z => by rw [z] at d; cases d) (seqa e fun v n z => by rw [d] at z; cases z)), d, r⟩
    have hKb : K.In (hidT s₁.heap H) := fun b o e => by
      have e1 := KX b o e
      refine base_of e1 ?_
      by_cases hb : b ∈ tabs.map (·.2)
      · have := tabO b hb
        rw [e1] at this
        cases this
        have h2 := List.all_eq_true.mp hK (b, PySem.W.tabObj #[]) (PySem.W.mem_of_lookupK e)
        exact absurd (show false = true from h2) Bool.false_ne_true
      · rcases hO b hb with z | ⟨z, o', xs, z2⟩
        · exact z
        · rw [z] at e z2
          have := hKa (by rw [z2]; simp)
          rw [e] at this; cases this
    have hBb : BMain (hidT s₁.heap H) mg := by
      obtain ⟨bm, ob, b1, b2, b3, b4, b5, b6⟩ := hbm
      exact ⟨bm, ob, b1, b2, base_of b3 (notr b3 (fun z => by rw [z] at b6; cases b6) (seqa b3 fun v n z => by rw [b6] at z; cases z)), b4, b5, b6⟩
    have hCb : ∀ q ∈ tabs, PySem.W.CodeHd (hidT s₁.heap H) q.1 q.2 := fun q hq => by
      obtain ⟨o, vs', file, tf, flags, tg, inF, text, tt, e1, r1, r2, r⟩ := (hT q hq).1
      exact ⟨o, vs', file, tf, flags, tg, inF, text, tt, base_of e1 (notr e1 (fun z => by rw [z] at r1; cases r1) (seqa e1 fun v n z => by rw [r2] at z; cases z)), r1, r2, r⟩
    have hM : Mod K mg (hidT s₁.heap H) := ⟨hKb, nsK hns, ⟨mb, nsK hb, hbb⟩, let ⟨mc, h1, h2⟩ := hlim; ⟨mc, nsK h1, h2⟩⟩
    have e0 : Env0 P w K mg (hidT s₁.heap H) callerA [] s₁ H := ⟨rfl, hM, fun b o e => of_hidT e, Nat.le_of_eq (hidT_size _ _), trivial, fun b hb => absurd (show b ∈ ([] : List Addr) from hb) (by simp), hok, .of_eq hg⟩
    refine codeAny_mono ((F _ hKb (nsK hns) hBb hCb).run callerA [] s₁ H ⟨[.ref a], []⟩ [.ref a] [.ref a] _ _ hr e0 (hbind s₁ (.ref a)) (.cons rfl .nil) (hsp H (fun q hq => hTb _ (List.mem_map.mpr ⟨q, hq, rfl⟩)) hS)) fun r s' h => ?_
    cases r with
    | error e => exact (show False from h).elim
    | ok fl =>
      cases fl with
      | next => exact False.elim h
      | brk => exact False.elim h
      | cont => exact False.elim h
      | ret u =>
        obtain ⟨v, H', os, bare, un, hok', r', q⟩ := h
        have q' : v = .bl true := q
        subst q'
        obtain rfl : u = Value.bool true := r'
        have grown : ∀ b ∈ tabs.map (·.2), ∃ more, s'.heap.get? b = some (PySem.W.tabObj (#[] ++ more)) := fun b hb => by
          obtain ⟨more, e⟩ := un.tbls b _ (hTb b hb)
          exact ⟨more, hok' b _ e⟩
        have keep : ∀ b o, b ∉ tabs.map (·.2) → s₁.heap.get? b = some o → s'.heap.get? b = some o := fun b o hb e => by
          rcases hO b hb with z | ⟨rfl, ob, xs, z⟩
          · exact un.keep b o e z (by intro z; exact absurd (show b ∈ ([] : List Addr) from z) (by simp)) (by simp)
          · obtain ⟨e1, _⟩ := hok b _ z
            obtain ⟨e2, _⟩ := hok' b _ (un.frzs b ob _ z)
            rw [e] at e1; cases e1
            exact e2
        refine ⟨rfl, ⟨fun b o e => ?_, fun b o e => ?_⟩, os, bare⟩
        · by_cases hb : b ∈ tabs.map (·.2)
          · obtain ⟨more, e2⟩ := grown b hb
            have e3 := tabO b hb
            rw [e] at e3; cases e3
            obtain ⟨t, ht, rfl⟩ := List.mem_map.mp hb
            exact .inr (.inl ⟨((hT t ht).1.tab (hT t ht).2).isCodeTable, rfl, #[], more, rfl, e2⟩)
          · exact .inl (keep b o hb e)
        · by_cases hb : b ∈ tabs.map (·.2)
          · obtain ⟨more, e2⟩ := grown b hb
            exact ⟨_, e2⟩
          · exact ⟨o, keep b o hb e⟩
  have tOk : ∀ {H : Hp} b, b ∈ tabs.map (·.2) → ObjOk P w H s₁.heap b (.tbl #[]) := fun b hb => tabO b hb
  cases hk : K.lookup a with
  | some o =>
    have e := KX a o hk
    rw [ha] at e
    cases e
    refine core (fun b => if b ∈ tabs.map (·.2) then some (.tbl #[]) else none) (fun b hb => if_pos hb) (fun b hb => .inl (if_neg hb)) (.inr ⟨_, vs.toArray, _, hk, rfl, rfl, rfl, by rw [List.size_toArray, lenV]; exact hl, by simpa using rv⟩) (fun b u z => ?_) fun z => ?_
    · have z : (if b ∈ tabs.map (·.2) then some (HO.tbl #[]) else none) = some u := z
      by_cases hb : b ∈ tabs.map (·.2)
      · rw [if_pos hb] at z; cases z
        exact tOk b hb
      · rw [if_neg hb] at z; cases z
    · exact absurd (if_neg fun hb => nota a hb rfl) z
  | none =>
    refine core (fun b => if b ∈ tabs.map (·.2) then some (.tbl #[]) else if b = a then some (.frz { cls := .type "list", data := .seq vs.toArray } (.lst (ns.map V.int))) else none) (fun b hb => if_pos hb) (fun b hb => ?_) (.inl (.inr ⟨{ cls := .type "list", data := .seq vs.toArray }, ?_⟩)) (fun b u z => ?_) fun _ => hk
    · show (if b ∈ tabs.map (·.2) then some (HO.tbl #[]) else if b = a then some (.frz { cls := .type "list", data := .seq vs.toArray } (.lst (ns.map V.int))) else none) = none ∨ _
      rw [if_neg hb]
      by_cases hba : b = a
      · exact .inr ⟨hba, { cls := .type "list", data := .seq vs.toArray }, ns.map V.int, if_pos hba⟩
      · exact .inl (if_neg hba)
    · show (if a ∈ tabs.map (·.2) then some (HO.tbl #[]) else if a = a then some (.frz { cls := .type "list", data := .seq vs.toArray } (.lst (ns.map V.int))) else none) = _
      rw [if_neg (fun hb => nota a hb rfl), if_pos rfl]
    · have z : (if b ∈ tabs.map (·.2) then some (HO.tbl #[]) else if b = a then some (.frz { cls := .type "list", data := .seq vs.toArray } (.lst (ns.map V.int))) else none) = some u := z
      by_cases hb : b ∈ tabs.map (·.2)
      · rw [if_pos hb] at z; cases z
        exact tOk b hb
      · rw [if_neg hb] at z
        by_cases hba : b = a
        · rw [if_pos hba] at z; cases z
          subst hba
          exact ⟨ha, by rw [List.length_map]; exact hl, vs, _, rv, ha⟩
        · rw [if_neg hba] at z; cases z
theorem walk_ofG {l : PySem.W.OpenLaw} {n k : Nat} {q : Program} {loose : List Str} {XP : (Str → Option Value) → Heap → Prop} {YP : World → Heap → Prop} {d : DefRec} {K : Params → PySem.W.Frag} {x : Str} {xs : List Str}
    (hn : l.most = some n) (hn2 : n ≤ sizeLine) (hdf : d.params.defaults = []) (hr : Room k callerA)
    (hY : ∀ (w : World) (h : Heap), YP w h → (K w.params).In h) (hrec : ∀ x ∈ xs, ((recsOf q).find? (fun e => e.name == x)).isSome = true)
    (F : ∀ (w : World) (mg : Str → Option Value) (fa : Addr) (h : Heap), (K w.params).In h → h.Ns mainGlobals mg → mg d.name = some (.ref fa) →
      ∃ (fd : FuncData) (tabs : List (Addr × Addr)) (sp : Sp), (∀ t ∈ tabs, ∃ x ∈ xs, PySem.W.tabIn (K w.params) x = some t) ∧ PySem.W.noTabs (K w.params) = true ∧ (∀ (s : Shared) (u : Value), BindsTo s fd ⟨[u], []⟩ [(x, u)]) ∧
        (∀ (H : Hp) (a : Addr) (ns : List Int), ns.length ≤ n → (∀ t ∈ tabs, H t.2 = some (.tbl #[])) → SqL (K w.params) H a (ns.map V.int) → sp [.ref a] H (fun v _ => v = .bl true) fun _ _ _ => False) ∧
        ∀ base : Heap, (K w.params).In base → base.Ns mainGlobals mg → BMain base mg → (∀ t ∈ tabs, PySem.W.CodeHd base t.1 t.2) → FnOk l.prog w (K w.params) mg base CX0 k fa fd [x] sp) :
    PySem.W.WalkO q loose XP YP l.row.toRowW d [] (fun f vs => PySem.call f vs) := by
  refine Att.attach_call hn hdf fun w s₀ s₁ mg mb fa o pm cd doc a vs ns G Y ho hd hcd hmg hobj hints hlen hg => ?_
  have KX := hY w _ Y
  obtain ⟨fd, tabs, sp, ht, hnt, hb, hsp, hF⟩ := F w mg fa _ KX G.T.g hmg
  refine law_callG KX G.T.g G.T.b G.T.builtins G.T.nolimit hg (fun t hq => ?_) hnt G.T.bmain hobj hints (Nat.le_trans hlen hn2) hr hF hb fun H hT hS => hsp H a ns hlen hT hS
  obtain ⟨x, hx, e⟩ := ht t hq
  obtain ⟨dr, hdr⟩ := Option.isSome_iff_exists.mp (hrec x hx)
  exact PySem.W.tab_of G.T KX hdr e
end L2
end
section
set_option Elab.async false
set_option linter.all false
set_option autoImplicit false
namespace KB
open PySem L2
theorem gt_mk {K : PySem.W.Frag} {x : Str} (e : (PySem.W.tabIn K x).isSome = true) : ∃ c tb, PySem.W.tabIn K x = some (c, tb) := by
  obtain ⟨⟨c, tb⟩, h⟩ := Option.isSome_iff_exists.mp e
  exact ⟨c, tb, h⟩
end KB
end
section
set_option Elab.async false
set_option linter.all false
set_option maxRecDepth 100000
set_option autoImplicit false
namespace L2
open PySem PySem.Spec PyProof.Rows
namespace Z
section
variable {X : Cx} {K : PySem.W.Frag} {pos apos cpos tpos : Pos} {o i e : Expr} {to ti te td ty : TE}
end
end Z
end L2
end
section
set_option Elab.async false
set_option linter.all false
set_option maxRecDepth 100000
set_option autoImplicit false
namespace TV
open PySem L2 KB
abbrev Sets := Addr → Prop
inductive All2 {A B : Type} (p : A → B → Prop) : List A → List B → Prop
  | nil : All2 p [] []
  | cons {a : A} {b : B} {as : List A} {bs : List B} : p a b → All2 p as bs → All2 p (a :: as) (b :: bs)
namespace All2
variable {A B C : Type} {p q : A → B → Prop} {as : List A} {bs : List B}
theorem length (h : All2 p as bs) : as.length = bs.length := by
  induction h with
  | nil => rfl
  | cons _ _ ih => simp [ih]
theorem imp (h : All2 p as bs) (f : ∀ a b, p a b → q a b) : All2 q as bs := by
  induction h with
  | nil => exact .nil
  | cons x _ ih => exact .cons (f _ _ x) ih
theorem get (h : All2 p as bs) : ∀ {i : Nat} {a : A}, as[i]? = some a → ∃ b, bs[i]? = some b ∧ p a b := by
  induction h with
  | nil => intro i a e; simp at e
  | cons x _ ih =>
    intro i a e
    cases i with
    | zero => simp at e; subst e; exact ⟨_, rfl, x⟩
    | succ i => simpa using ih (by simpa using e)
theorem got (h : All2 p as bs) : ∀ {i : Nat} {b : B}, bs[i]? = some b → ∃ a, as[i]? = some a ∧ p a b := by
  induction h with
  | nil => intro i a e; simp at e
  | cons x _ ih =>
    intro i a e
    cases i with
    | zero => simp at e; subst e; exact ⟨_, rfl, x⟩
    | succ i => simpa using ih (by simpa using e)
theorem append {as' : List A} {bs' : List B} (h : All2 p as bs) (h' : All2 p as' bs') : All2 p (as ++ as') (bs ++ bs') := by
  induction h with
  | nil => exact h'
  | cons x _ ih => exact .cons x ih
theorem one {a : A} {b : B} (h : p a b) : All2 p [a] [b] := .cons h .nil
theorem snoc {a : A} {b : B} (h : All2 p as bs) (x : p a b) : All2 p (as ++ [a]) (bs ++ [b]) := h.append (one x)
theorem take (h : All2 p as bs) : ∀ n : Nat, All2 p (as.take n) (bs.take n) := by
  induction h with
  | nil => intro n; simp; exact .nil
  | cons x _ ih =>
    intro n
    cases n with
    | zero => exact .nil
    | succ n => exact .cons x (ih n)
theorem drop (h : All2 p as bs) : ∀ n : Nat, All2 p (as.drop n) (bs.drop n) := by
  induction h with
  | nil => intro n; simp; exact .nil
  | cons x t ih =>
    intro n
    cases n with
    | zero => exact .cons x t
    | succ n => exact ih n
theorem reverse (h : All2 p as bs) : All2 p as.reverse bs.reverse := by
  induction h with
  | nil => exact .nil
  | cons x _ ih => simpa using ih.snoc x
theorem dropLast (h : All2 p as bs) : All2 p as.dropLast bs.dropLast := by
  rw [List.dropLast_eq_take, List.dropLast_eq_take, h.length]
  exact h.take _
theorem set (h : All2 p as bs) {i : Nat} {a : A} {b : B} (x : p a b) : All2 p (as.set i a) (bs.set i b) := by
  induction h generalizing i with
  | nil => simp; exact .nil
  | cons y t ih =>
    cases i with
    | zero => exact .cons x t
    | succ i => exact .cons y ih
theorem mapL {f : A → C} {p : C → B → Prop} (h : All2 (fun a b => p (f a) b) as bs) : All2 p (as.map f) bs := by
  induction h with
  | nil => exact .nil
  | cons x _ ih => exact .cons x ih
theorem nil_iff (h : All2 p as bs) : bs = [] ↔ as = [] := by
  cases h with
  | nil => simp
  | cons _ _ => simp
end All2
def TbO (o : HO) : Prop := (∃ ps, o = .tbl ps) ∧ False
theorem noTb {o : HO} : ¬ TbO o := fun z => z.2
def Sm (H H' : Hp) : Prop := ∀ b o, H b = some o → H' b = some o ∨ (TbO o ∧ ∃ o', TbO o' ∧ H' b = some o')
theorem Sm.refl (H : Hp) : Sm H H := fun _ _ e => .inl e
theorem Sm.trans {H H1 H2 : Hp} (a : Sm H H1) (b : Sm H1 H2) : Sm H H2 := fun c o e => by
  rcases a c o e with h | ⟨t, o', t', h⟩
  · exact b c o h
  · rcases b c o' h with h2 | ⟨_, o2, t2, h2⟩
    · exact .inr ⟨t, o', t', h2⟩
    · exact .inr ⟨t, o2, t2, h2⟩
theorem Sm.of {H H' : Hp} (s : Same H H') : Sm H H' := fun b o e => .inl (s b o e)
theorem Sm.new {H : Hp} {p : Addr} {o : HO} (h : H p = none) : Sm H (upd H p o) := .of (same_upd h)
theorem Sm.dom {H H' : Hp} (s : Sm H H') {b : Addr} (h : H' b = none) : H b = none := by
  cases e : H b with
  | none => rfl
  | some o => rcases s b o e with h1 | ⟨_, _, _, h1⟩ <;> (rw [h] at h1; cases h1)
theorem Sm.get {H H' : Hp} (s : Sm H H') {b : Addr} {o : HO} (n : ¬ TbO o) (h : H b = some o) : H' b = some o := (s b o h).elim id fun z => absurd z.1 n
theorem noTb_tup {xs : List V} : ¬ TbO (.tup xs) := fun ⟨_, z⟩ => nomatch z
theorem noTb_lst {xs : List V} : ¬ TbO (.lst xs) := fun ⟨_, z⟩ => nomatch z
theorem noTb_dT {xs : List (List Key × V)} : ¬ TbO (.dT xs) := fun ⟨_, z⟩ => nomatch z
theorem noTb_dK {xs : List (Key × V)} : ¬ TbO (.dK xs) := fun ⟨_, z⟩ => nomatch z
theorem noTb_ins {C d : Addr} {xs : List (Str × V)} : ¬ TbO (.ins C d xs) := fun ⟨_, z⟩ => nomatch z
theorem noTb_frz {o : Obj} {u : HO} : ¬ TbO (.frz o u) := fun ⟨_, z⟩ => nomatch z
theorem Sm.tup {H H' : Hp} (s : Sm H H') {b : Addr} {xs : List V} (h : H b = some (.tup xs)) : H' b = some (.tup xs) := s.get noTb_tup h
theorem Sm.lst {H H' : Hp} (s : Sm H H') {b : Addr} {xs : List V} (h : H b = some (.lst xs)) : H' b = some (.lst xs) := s.get noTb_lst h
theorem Sm.dT {H H' : Hp} (s : Sm H H') {b : Addr} {xs : List (List Key × V)} (h : H b = some (.dT xs)) : H' b = some (.dT xs) := s.get noTb_dT h
theorem Sm.dK {H H' : Hp} (s : Sm H H') {b : Addr} {xs : List (Key × V)} (h : H b = some (.dK xs)) : H' b = some (.dK xs) := s.get noTb_dK h
theorem Sm.ins {H H' : Hp} (s : Sm H H') {b C d : Addr} {xs : List (Str × V)} (h : H b = some (.ins C d xs)) : H' b = some (.ins C d xs) := s.get noTb_ins h
theorem Sm.rd {H H' : Hp} (s : Sm H H') {b : Addr} {u : HO} (n : ¬ TbO u) (h : Rd H b u) : Rd H' b u := h.elim (fun e => .inl (s.get n e)) fun ⟨o, e⟩ => .inr ⟨o, s.get noTb_frz e⟩
def Pl (u : HO) : Prop := (∀ ps, u ≠ .tbl ps) ∧ ∀ o w, u ≠ .frz o w
theorem pl_dT {xs : List (List Key × V)} : Pl (.dT xs) := ⟨(fun _ z => nomatch z), fun _ _ z => nomatch z⟩
structure Kp (N : Sets) (H H' : Hp) : Prop where
  t : ∀ b xs, ¬ N b → H b = some (.tup xs) → H' b = some (.tup xs)
  r : ∀ b u, ¬ N b → Pl u → Rd H b u → Rd H' b u
  l : ∀ b xs, ¬ N b → H b = some (.lst xs) → H' b = some (.lst xs)
theorem Kp.of {N : Sets} {H H' : Hp} (s : Sm H H') : Kp N H H' := ⟨fun _ _ _ e => s.tup e, fun _ _ _ n h => s.rd noTb h, fun _ _ _ e => s.lst e⟩
theorem Kp.upd {N : Sets} {H : Hp} {a : Addr} {o : HO} (h : N a) : Kp N H (upd H a o) :=
  ⟨fun b xs n e => by rw [upd_ne (fun z => n (by rw [z]; exact h))]; exact e, fun b u n _ e => by
    unfold Rd
    rw [upd_ne (fun z => n (by rw [z]; exact h))]
    exact e, fun b xs n e => by rw [upd_ne (fun z => n (by rw [z]; exact h))]; exact e⟩
theorem Kp.trans {N : Sets} {H H1 H2 : Hp} (a : Kp N H H1) (b : Kp N H1 H2) : Kp N H H2 := ⟨fun c xs n e => b.t c xs n (a.t c xs n e), fun c u n k e => b.r c u n k (a.r c u n k e), fun c xs n e => b.l c xs n (a.l c xs n e)⟩
theorem Kp.lock {N : Sets} {H : Hp} {d : Addr} {u : HO} {od : Obj} (h : H d = some u) (m : ∀ xs, u ≠ .tup xs) (f : ∀ o w, u ≠ .frz o w) (ml : ∀ xs, u ≠ .lst xs) : Kp N H (L2.upd H d (.frz od u)) := by
  refine ⟨fun b xs _ e => ?_, fun b w _ _ e => ?_, fun b xs _ e => ?_⟩
  · by_cases z : b = d
    · rw [z, h] at e
      exact absurd (Option.some.inj e) (m xs)
    · rw [upd_ne z]; exact e
  · by_cases z : b = d
    · subst z
      rcases e with e | ⟨o, e⟩
      · rw [h] at e
        cases Option.some.inj e
        exact .inr ⟨od, upd_same⟩
      · rw [h] at e
        exact absurd (Option.some.inj e) (f o w)
    · unfold Rd
      rw [upd_ne z]
      exact e
  · by_cases z : b = d
    · rw [z, h] at e
      exact absurd (Option.some.inj e) (ml xs)
    · rw [upd_ne z]; exact e
theorem Kp.unlock {N : Sets} {H : Hp} {d : Addr} {u : HO} {od : Obj} (h : H d = some (.frz od u)) : Kp N H (L2.upd H d u) := by
  refine ⟨fun b xs _ e => ?_, fun b w _ _ e => ?_, fun b xs _ e => ?_⟩
  · by_cases z : b = d
    · rw [z, h] at e
      cases e
    · rw [upd_ne z]; exact e
  · rename_i k
    by_cases z : b = d
    · subst z
      rcases e with e | ⟨o, e⟩
      · rw [h] at e
        exact absurd (Option.some.inj e).symm (k.2 _ _)
      · rw [h] at e
        cases Option.some.inj e
        exact .inl upd_same
    · unfold Rd
      rw [upd_ne z]
      exact e
  · by_cases z : b = d
    · rw [z, h] at e
      cases e
    · rw [upd_ne z]; exact e
end TV
end
section
set_option Elab.async false
set_option linter.all false
set_option maxRecDepth 100000
set_option autoImplicit false
namespace TV
open PySem L2 KB
structure Rep (T : Type) where
  r : Sets → T → V → Hp → Prop
  mv : ∀ {N N' : Sets} {x : T} {v : V} {H H' : Hp}, (∀ a, N' a → N a ∨ H a = none) → Kp N H H' → r N x v H → r N' x v H'
structure Row (T : Type) where
  r : Sets → T → List V → Hp → Prop
  mv : ∀ {N N' : Sets} {x : T} {v : List V} {H H' : Hp}, (∀ a, N' a → N a ∨ H a = none) → Kp N H H' → r N x v H → r N' x v H'
  n : Nat
  len : ∀ {N : Sets} {x : T} {v : List V} {H : Hp}, r N x v H → v.length = n
section
variable {T : Type} {R : Rep T} {N : Sets} {x : T} {v : V} {H H' : Hp}
theorem Rep.sm (R : Rep T) (s : Sm H H') (f : R.r N x v H) : R.r N x v H' := R.mv (fun _ h => .inl h) (.of s) f
theorem Rep.kp (R : Rep T) (s : Kp N H H') (f : R.r N x v H) : R.r N x v H' := R.mv (fun _ h => .inl h) s f
theorem Rep.up (R : Rep T) {a : Addr} {o : HO} (h : N a) (f : R.r N x v H) : R.r N x v (upd H a o) := R.kp (.upd h) f
end
def aI : Rep Int := ⟨fun _ i v _ => v = .int i, fun _ _ h => h⟩
def aB : Rep Bool := ⟨fun _ i v _ => v = .bl i, fun _ _ h => h⟩
def aS : Rep Str := ⟨fun _ i v _ => v = .str i, fun _ _ h => h⟩
def aO {T : Type} (R : Rep T) : Rep (Option T) := ⟨fun N x v H => match x with | none => v = .non | some y => v ≠ .non ∧ R.r N y v H, fun {N N' x v H H'} a b h => by
  cases x with
  | none => exact h
  | some y => exact ⟨h.1, R.mv a b h.2⟩⟩
def Row.one {T : Type} (R : Rep T) : Row T := ⟨fun N x vs H => ∃ v, vs = [v] ∧ R.r N x v H, fun a b ⟨v, e, h⟩ => ⟨v, e, R.mv a b h⟩, 1, fun ⟨_, e, _⟩ => by rw [e]; rfl⟩
def Row.cons {A B : Type} (R : Rep A) (S : Row B) : Row (A × B) := ⟨fun N x vs H => ∃ v r, vs = v :: r ∧ R.r N x.1 v H ∧ S.r N x.2 r H, fun a b ⟨v, r, e, h, t⟩ => ⟨v, r, e, R.mv a b h, S.mv a b t⟩, S.n + 1, fun ⟨_, _, e, _, h⟩ => by rw [e, List.length_cons, S.len h]⟩
def aT {T : Type} (S : Row T) : Rep T := ⟨fun N x v H => ∃ a vs, v = .ref a ∧ ¬ N a ∧ H a = some (.tup vs) ∧ S.r N x vs H, fun {N N' x v H H'} f g ⟨a, vs, e, n, h, t⟩ =>
  ⟨a, vs, e, fun z => (f a z).elim n fun y => (by rw [h] at y; cases y), g.t a vs n h, S.mv f g t⟩⟩
abbrev aP {A B : Type} (R : Rep A) (S : Rep B) : Rep (A × B) := aT (.cons R (.one S))
abbrev aP3 {A B C : Type} (R : Rep A) (S : Rep B) (U : Rep C) : Rep (A × B × C) := aT (.cons R (.cons S (.one U)))
abbrev aN : Rep Nm := aP aI aI
def aV {T : Type} (R : Rep T) : Rep (List T) := ⟨fun N xs v H => ∃ a vs, v = .ref a ∧ ¬ N a ∧ H a = some (.tup vs) ∧ All2 (fun x v => R.r N x v H) xs vs, fun {N N' x v H H'} f g ⟨a, vs, e, n, h, t⟩ =>
  ⟨a, vs, e, fun z => (f a z).elim n fun y => (by rw [h] at y; cases y), g.t a vs n h, t.imp fun _ _ h => R.mv f g h⟩⟩
def aL {T : Type} (R : Rep T) : Rep (List T) := ⟨fun N xs v H => ∃ a vs, v = .ref a ∧ ¬ N a ∧ H a = some (.lst vs) ∧ All2 (fun x v => R.r N x v H) xs vs, fun {N N' x v H H'} f g ⟨a, vs, e, n, h, t⟩ =>
  ⟨a, vs, e, fun z => (f a z).elim n fun y => (by rw [h] at y; cases y), g.l a vs n h, t.imp fun _ _ h => R.mv f g h⟩⟩
theorem aN_out {N : Sets} {q : Nm} {v : V} {H : Hp} (h : aN.r N q v H) : ∃ a, v = .ref a ∧ ¬ N a ∧ H a = some (.tup (ptV q)) := by
  obtain ⟨a, vs, e, n, h, u, r, e1, h1, w, e2, h2⟩ := h
  cases (show u = .int q.1 from h1)
  cases (show w = .int q.2 from h2)
  subst e2
  subst e1
  exact ⟨a, e, n, h⟩
theorem aN_in {N : Sets} {q : Nm} {a : Addr} {H : Hp} (n : ¬ N a) (h : H a = some (.tup (ptV q))) : aN.r N q (.ref a) H := ⟨a, _, rfl, n, h, .int q.1, _, rfl, rfl, _, rfl, rfl⟩
structure Ke (K : Type) where
  e : K → List Key
  inj : ∀ {a b : K}, e a = e b → a = b
  R : Rep K
  out : ∀ {N : Sets} {k : K} {v : V} {H : Hp}, R.r N k v H → ∃ b, v = .ref b ∧ ¬ N b ∧ H b = some (.tup ((e k).map kV))
  back : ∀ {N : Sets} {k : K} {b : Addr} {H : Hp}, ¬ N b → H b = some (.tup ((e k).map kV)) → R.r N k (.ref b) H
def kNm : Ke Nm := ⟨kN, kN_inj, aN, fun h => aN_out h, fun n h => aN_in n h⟩
section
variable {K A : Type}
def look [DecidableEq K] (m : List (K × A)) (k : K) : Option A := (m.find? fun x => decide (x.1 = k)).map (·.2)
def store [DecidableEq K] (m : List (K × A)) (k : K) (y : A) : List (K × A) := if (m.any fun x => decide (x.1 = k)) = true then m.map (fun x => if x.1 = k then (x.1, y) else x) else m ++ [(k, y)]
def drop [DecidableEq K] (m : List (K × A)) (k : K) : List (K × A) := m.filter fun x => decide (x.1 ≠ k)
end
abbrev RowsT {K A : Type} (k : Ke K) (R : Rep A) (N : Sets) (H : Hp) : List (K × A) → List (List Key × V) → Prop := All2 fun p q => q.1 = k.e p.1 ∧ R.r N p.2 q.2 H
def aD {K A : Type} (k : Ke K) (R : Rep A) : Rep (List (K × A)) := ⟨fun N m v H => ∃ a kvs, v = .ref a ∧ ¬ N a ∧ Rd H a (.dT kvs) ∧ RowsT k R N H m kvs, fun {N N' x v H H'} f g ⟨a, vs, e, n, h, t⟩ =>
  ⟨a, vs, e, fun z => (f a z).elim n fun y => (by rcases h with h | ⟨_, h⟩ <;> (rw [h] at y; cases y)), g.r a _ n pl_dT h, t.imp fun _ _ h => ⟨h.1, R.mv f g h.2⟩⟩⟩
section
variable {K A : Type} [DecidableEq K] {k : Ke K} {R : Rep A} {N : Sets} {H : Hp} {m : List (K × A)} {kvs : List (List Key × V)}
theorem rows_look (t : RowsT k R N H m kvs) (q : K) : (look m q = none ∧ valV kvs (k.e q) = none) ∨ ∃ y v, look m q = some y ∧ valV kvs (k.e q) = some v ∧ R.r N y v H := by
  induction t with
  | nil => exact .inl ⟨rfl, rfl⟩
  | @cons p r ps rs h _ ih =>
    by_cases e : p.1 = q
    · refine .inr ⟨p.2, r.2, ?_, ?_, h.2⟩
      · unfold look; rw [List.find?_cons_of_pos (by simpa using e)]; rfl
      · unfold valV; rw [List.find?_cons_of_pos (by rw [h.1, e]; simp)]; rfl
    · have e1 : look (p :: ps) q = look ps q := by unfold look; rw [List.find?_cons_of_neg (by simpa using e)]
      have e2 : valV (r :: rs) (k.e q) = valV rs (k.e q) := by unfold valV; rw [List.find?_cons_of_neg (by rw [h.1]; simpa using fun z => e (k.inj z))]
      rw [e1, e2]
      exact ih
theorem rows_isSome (t : RowsT k R N H m kvs) (q : K) : (valV kvs (k.e q)).isSome = (look m q).isSome := by
  rcases rows_look t q with ⟨a, b⟩ | ⟨y, v, a, b, _⟩ <;> rw [a, b] <;> rfl
theorem rows_any (t : RowsT k R N H m kvs) (q : K) : (kvs.any fun kv => decide (kv.1 = k.e q)) = (m.any fun x => decide (x.1 = q)) := by
  induction t with
  | nil => rfl
  | @cons p r ps rs h _ ih =>
    rw [List.any_cons, List.any_cons, ih, h.1]
    congr 1
    exact decide_eq_decide.mpr ⟨fun z => k.inj z, fun z => by rw [z]⟩
theorem rows_put (t : RowsT k R N H m kvs) (q : K) {y : A} {v : V} (h : R.r N y v H) : RowsT k R N H (store m q y) (putK kvs (k.e q) v) := by
  unfold store putK
  rw [rows_any t q]
  by_cases c : (m.any fun x => decide (x.1 = q)) = true
  · rw [if_pos c, if_pos c]
    clear c
    induction t with
    | nil => exact .nil
    | @cons p r ps rs g _ ih =>
      refine .cons ?_ ih
      dsimp only
      by_cases e : p.1 = q
      · rw [if_pos e, if_pos (by rw [g.1, e])]; exact ⟨g.1, h⟩
      · rw [if_neg e, if_neg (by rw [g.1]; exact fun z => e (k.inj z))]; exact g
  · rw [if_neg c, if_neg c]
    exact t.snoc ⟨rfl, h⟩
theorem rows_keys (t : RowsT k R N H m kvs) : kvs.map (·.1) = m.map fun x => k.e x.1 := by
  induction t with
  | nil => rfl
  | cons g _ ih => rw [List.map_cons, List.map_cons, ih, g.1]
end
def LC {T : Type} (R : Rep T) (N : Sets) (xs : List T) (a : Addr) (H : Hp) : Prop := ∃ vs, H a = some (.lst vs) ∧ All2 (fun x v => R.r N x v H) xs vs
def DC {K A : Type} (k : Ke K) (R : Rep A) (N : Sets) (m : List (K × A)) (a : Addr) (H : Hp) : Prop := ∃ kvs, H a = some (.dT kvs) ∧ RowsT k R N H m kvs
section
variable {T K A : Type} {R : Rep T} {N N' : Sets} {xs : List T} {a b : Addr} {H H' : Hp} {o : HO}
theorem LC.sm (h : LC R N xs a H) (s : Sm H H') : LC R N xs a H' := let ⟨vs, e, t⟩ := h; ⟨vs, s.lst e, t.imp fun _ _ z => R.sm s z⟩
theorem LC.up (h : LC R N xs a H) (n : N b) (d : a ≠ b) : LC R N xs a (upd H b o) := let ⟨vs, e, t⟩ := h; ⟨vs, by rw [upd_ne d]; exact e, t.imp fun _ _ z => R.up n z⟩
theorem LC.gr (h : LC R N xs a H) (g : ∀ a, N' a → N a ∨ H a = none) : LC R N' xs a H := let ⟨vs, e, t⟩ := h; ⟨vs, e, t.imp fun _ _ z => R.mv g (.of (.refl H)) z⟩
theorem LC.rd (h : LC R N xs a H) (g : ∀ a, N' a → N a) (n : ¬ N' a) : (aL R).r N' xs (.ref a) H := let ⟨vs, e, t⟩ := h; ⟨a, vs, rfl, n, e, t.imp fun _ _ z => R.mv (fun a z => .inl (g a z)) (.of (.refl H)) z⟩
theorem LC.set (h : LC R N xs a H) {ys : List T} {vs : List V} (n : N a) (t : All2 (fun x v => R.r N x v H) ys vs) : LC R N ys a (upd H a (.lst vs)) := ⟨vs, upd_same, t.imp fun _ _ z => R.up n z⟩
theorem DC.sm {k : Ke K} {R : Rep A} {m : List (K × A)} (h : DC k R N m a H) (s : Sm H H') : DC k R N m a H' := let ⟨vs, e, t⟩ := h; ⟨vs, s.dT e, t.imp fun _ _ z => ⟨z.1, R.sm s z.2⟩⟩
theorem DC.up {k : Ke K} {R : Rep A} {m : List (K × A)} (h : DC k R N m a H) (n : N b) (d : a ≠ b) : DC k R N m a (upd H b o) := let ⟨vs, e, t⟩ := h; ⟨vs, by rw [upd_ne d]; exact e, t.imp fun _ _ z => ⟨z.1, R.up n z.2⟩⟩
theorem DC.gr {k : Ke K} {R : Rep A} {m : List (K × A)} (h : DC k R N m a H) (g : ∀ a, N' a → N a ∨ H a = none) : DC k R N' m a H := let ⟨vs, e, t⟩ := h; ⟨vs, e, t.imp fun _ _ z => ⟨z.1, R.mv g (.of (.refl H)) z.2⟩⟩
theorem DC.rd {k : Ke K} {R : Rep A} {m : List (K × A)} (h : DC k R N m a H) (g : ∀ a, N' a → N a) (n : ¬ N' a) : (aD k R).r N' m (.ref a) H := let ⟨vs, e, t⟩ := h; ⟨a, vs, rfl, n, .inl e, t.imp fun _ _ z => ⟨z.1, R.mv (fun a z => .inl (g a z)) (.of (.refl H)) z.2⟩⟩
theorem DC.set {k : Ke K} {R : Rep A} {m m' : List (K × A)} {kvs : List (List Key × V)} (h : DC k R N m a H) (n : N a) (t : RowsT k R N H m' kvs) : DC k R N m' a (upd H a (.dT kvs)) := ⟨kvs, upd_same, t.imp fun _ _ z => ⟨z.1, R.up n z.2⟩⟩
end
def NT (o : HO) : Prop := ∀ xs, o ≠ .tup xs
theorem nt_lst {xs : List V} : NT (.lst xs) := fun _ z => nomatch z
theorem nt_dT {xs : List (List Key × V)} : NT (.dT xs) := fun _ z => nomatch z
theorem nt_tbl {o : HO} (h : TbO o) : NT o := h.2.elim
def Trk (N : Sets) (H : Hp) : Prop := ∀ a, N a → ∃ o, H a = some o ∧ NT o
theorem Trk.sm {N : Sets} {H H' : Hp} (t : Trk N H) (s : Sm H H') : Trk N H' := fun a n => by
  obtain ⟨o, e, m⟩ := t a n
  rcases s a o e with h | ⟨_, o', t', h⟩
  · exact ⟨o, h, m⟩
  · exact ⟨o', h, nt_tbl t'⟩
theorem Trk.up {N : Sets} {H : Hp} {a : Addr} {o : HO} (t : Trk N H) (m : NT o) : Trk N (upd H a o) := fun b n => by
  by_cases e : b = a
  · exact ⟨o, by rw [e]; exact upd_same, m⟩
  · obtain ⟨u, h, k⟩ := t b n
    exact ⟨u, by rw [upd_ne e]; exact h, k⟩
theorem Trk.no {N : Sets} {H : Hp} {a : Addr} (t : Trk N H) (h : H a = none) : ¬ N a := fun z => by
  obtain ⟨o, e, _⟩ := t a z
  rw [h] at e; cases e
theorem Trk.tup {N : Sets} {H : Hp} {a : Addr} {xs : List V} (t : Trk N H) (h : H a = some (.tup xs)) : ¬ N a := fun z => by
  obtain ⟨o, e, m⟩ := t a z
  rw [h] at e
  exact m xs (Option.some.inj e).symm
theorem Trk.grow {N : Sets} {H : Hp} {a : Addr} {o : HO} (t : Trk N H) (m : NT o) : Trk (fun b => b = a ∨ N b) (upd H a o) := fun b n => by
  by_cases e : b = a
  · exact ⟨o, by rw [e]; exact upd_same, m⟩
  · obtain ⟨u, h, k⟩ := t b (n.resolve_left e)
    exact ⟨u, by rw [upd_ne e]; exact h, k⟩
section
variable {T K A : Type} {R : Rep T} {N N' : Sets} {x : T} {v : V} {H H' : Hp}
theorem Rep.to (R : Rep T) (f : R.r N x v H) (g : ∀ a, N' a → N a ∨ H a = none) (s : Sm H H') : R.r N' x v H' := R.mv g (.of s) f
end
end TV
end
section
set_option Elab.async false
set_option linter.all false
set_option maxRecDepth 100000
set_option autoImplicit false
namespace TV
open PySem L2 KB
def Ev (te : TE) (σ : St) (H : Hp) (P : V → Hp → Prop) : Prop := ∀ H1, Sm H H1 → ∀ Q : VK, (∀ v H2, Sm H1 H2 → P v H2 → Q v H2) → te σ H1 Q
def EvT (tt : TT) (σ : St) (H : Hp) (b : Bool) : Prop := ∀ H1, Sm H H1 → ∀ Q : Bool → Hp → Prop, (∀ H2, Sm H1 H2 → Q b H2) → tt σ H1 Q
def EvA (ta : TA) (σ : St) (H : Hp) (P : List V → Hp → Prop) : Prop := ∀ H1, Sm H H1 → ∀ Q : List V → Hp → Prop, (∀ v H2, Sm H1 H2 → P v H2 → Q v H2) → ta σ H1 Q
section
variable {te ta tb : TE} {tt : TT} {ts : TA} {σ : St} {H : Hp} {P P' : V → Hp → Prop} {Q : VK} {N : Sets} {A B T : Type} {R : Rep A} {S : Rep B} {x : A} {y : B} {i j : Int} {b c : Bool} {K : PySem.W.Frag}
theorem Ev.use (e : Ev te σ H P) (k : ∀ v H', Sm H H' → P v H' → Q v H') : te σ H Q := e H (.refl H) Q k
theorem EvT.use {Q : Bool → Hp → Prop} (e : EvT tt σ H b) (k : ∀ H', Sm H H' → Q b H') : tt σ H Q := e H (.refl H) Q k
theorem EvA.use {P Q : List V → Hp → Prop} (e : EvA ts σ H P) (k : ∀ v H', Sm H H' → P v H' → Q v H') : ts σ H Q := e H (.refl H) Q k
theorem Ev.sm {H' : Hp} (e : Ev te σ H P) (s : Sm H H') : Ev te σ H' P := fun H1 s1 Q k => e H1 (s.trans s1) Q k
theorem EvT.sm {H' : Hp} (e : EvT tt σ H b) (s : Sm H H') : EvT tt σ H' b := fun H1 s1 Q k => e H1 (s.trans s1) Q k
theorem EvA.sm {H' : Hp} {P : List V → Hp → Prop} (e : EvA ts σ H P) (s : Sm H H') : EvA ts σ H' P := fun H1 s1 Q k => e H1 (s.trans s1) Q k
theorem Ev.imp (e : Ev te σ H P) (f : ∀ v H', Sm H H' → P v H' → P' v H') : Ev te σ H P' := fun H1 s Q k => e H1 s Q fun v H2 s2 p => k v H2 s2 (f v H2 (s.trans s2) p)
theorem Ev.eq {x' : A} (e : Ev te σ H (R.r N x)) (h : x = x') : Ev te σ H (R.r N x') := h ▸ e
theorem EvT.eq {b' : Bool} (e : EvT tt σ H b) (h : b = b') : EvT tt σ H b' := h ▸ e
namespace ev
theorem var {n : Nat} {v : V} (h : σ[n]? = some (some v)) (f : R.r N x v H) : Ev (tVar n) σ H (R.r N x) := fun H1 s Q k => ⟨v, h, k v H1 (.refl H1) (R.sm s f)⟩
theorem raw {n : Nat} {v : V} (h : σ[n]? = some (some v)) : Ev (tVar n) σ H (fun w _ => w = v) := fun H1 s Q k => ⟨v, h, k v H1 (.refl H1) rfl⟩
theorem int : Ev (tC (.int i)) σ H (aI.r N i) := fun H1 s Q k => k _ H1 (.refl H1) rfl
theorem bl : Ev (tC (.bl b)) σ H (aB.r N b) := fun H1 s Q k => k _ H1 (.refl H1) rfl
theorem str {z : Str} : Ev (tC (.str z)) σ H (aS.r N z) := fun H1 s Q k => k _ H1 (.refl H1) rfl
theorem non : Ev (tC .non) σ H ((aO R).r N none) := fun H1 s Q k => k _ H1 (.refl H1) rfl
theorem two {P1 : V → Hp → Prop} {P2 : V → Hp → Prop} {P3 : V → Hp → Prop} {r : R2} (ha : Ev ta σ H P1) (hb : Ev tb σ H P2) (st : ∀ v H1 H2, Sm H1 H2 → P1 v H1 → P1 v H2)
    (h : ∀ v w H1, Sm H H1 → P1 v H1 → P2 w H1 → ∀ Q : VK, (∀ u H2, Sm H1 H2 → P3 u H2 → Q u H2) → r v w H1 Q) : Ev (tOp r ta tb) σ H P3 := fun H1 s Q k =>
  ha H1 s _ fun v H2 s2 p => hb H2 (s.trans s2) _ fun w H3 s3 q => h v w H3 ((s.trans s2).trans s3) (st v H2 H3 s3 p) q Q fun u H4 s4 p3 => k u H4 ((s2.trans s3).trans s4) p3
theorem opI {g : Int → Int → V} (ha : Ev ta σ H (aI.r N i)) (hb : Ev tb σ H (aI.r N j)) (hp : ∀ H', P (g i j) H') : Ev (tOp (rI0 g) ta tb) σ H P :=
  two (P1 := aI.r N i) (P2 := aI.r N j) ha hb (fun _ _ _ _ h => h) fun v w H1 _ e f Q k => ⟨i, j, e, f, k _ H1 (.refl H1) (hp _)⟩
theorem opC {C : Int → Int → Prop} {g : Int → Int → V} (ha : Ev ta σ H (aI.r N i)) (hb : Ev tb σ H (aI.r N j)) (hc : C i j) (hp : ∀ H', P (g i j) H') : Ev (tOp (rI C g) ta tb) σ H P :=
  two (P1 := aI.r N i) (P2 := aI.r N j) ha hb (fun _ _ _ _ h => h) fun v w H1 _ e f Q k => ⟨i, j, e, f, hc, k _ H1 (.refl H1) (hp _)⟩
theorem add (ha : Ev ta σ H (aI.r N i)) (hb : Ev tb σ H (aI.r N j)) : Ev (tOp (rI0 fun i j => .int (i + j)) ta tb) σ H (aI.r N (i + j)) := opI ha hb fun _ => rfl
theorem sub (ha : Ev ta σ H (aI.r N i)) (hb : Ev tb σ H (aI.r N j)) : Ev (tOp (rI0 fun i j => .int (i - j)) ta tb) σ H (aI.r N (i - j)) := opI ha hb fun _ => rfl
theorem mul {C : Int → Int → Prop} (ha : Ev ta σ H (aI.r N i)) (hb : Ev tb σ H (aI.r N j)) (hc : C i j) : Ev (tOp (rI C fun i j => .int (i * j)) ta tb) σ H (aI.r N (i * j)) := opC ha hb hc fun _ => rfl
theorem fdiv {C : Int → Int → Prop} (ha : Ev ta σ H (aI.r N i)) (hb : Ev tb σ H (aI.r N j)) (hc : C i j) : Ev (tOp (rI C fun i j => .int (i / j)) ta tb) σ H (aI.r N (i / j)) := opC ha hb hc fun _ => rfl
theorem mod {C : Int → Int → Prop} (ha : Ev ta σ H (aI.r N i)) (hb : Ev tb σ H (aI.r N j)) (hc : C i j) : Ev (tOp (rI C fun i j => .int (i % j)) ta tb) σ H (aI.r N (i % j)) := opC ha hb hc fun _ => rfl
theorem lt (ha : Ev ta σ H (aI.r N i)) (hb : Ev tb σ H (aI.r N j)) : Ev (tOp (rI0 fun i j => .bl (decide (i < j))) ta tb) σ H (aB.r N (decide (i < j))) := opI ha hb fun _ => rfl
theorem le (ha : Ev ta σ H (aI.r N i)) (hb : Ev tb σ H (aI.r N j)) : Ev (tOp (rI0 fun i j => .bl (decide (i ≤ j))) ta tb) σ H (aB.r N (decide (i ≤ j))) := opI ha hb fun _ => rfl
theorem gt (ha : Ev ta σ H (aI.r N i)) (hb : Ev tb σ H (aI.r N j)) : Ev (tOp (rI0 fun i j => .bl (decide (j < i))) ta tb) σ H (aB.r N (decide (j < i))) := opI ha hb fun _ => rfl
theorem ge (ha : Ev ta σ H (aI.r N i)) (hb : Ev tb σ H (aI.r N j)) : Ev (tOp (rI0 fun i j => .bl (decide (j ≤ i))) ta tb) σ H (aB.r N (decide (j ≤ i))) := opI ha hb fun _ => rfl
theorem eqI (ha : Ev ta σ H (aI.r N i)) (hb : Ev tb σ H (aI.r N j)) : Ev (tOp rEq ta tb) σ H (aB.r N (decide (i = j))) :=
  two (P1 := aI.r N i) (P2 := aI.r N j) ha hb (fun _ _ _ _ h => h) fun v w H1 _ e f Q k => by
    cases (show v = .int i from e)
    cases (show w = .int j from f)
    exact ⟨rfl, k _ H1 (.refl H1) (by show V.bl _ = V.bl _; congr 1; exact decide_eq_decide.mpr ⟨fun z => V.int.inj z, fun z => by rw [z]⟩)⟩
theorem neI (ha : Ev ta σ H (aI.r N i)) (hb : Ev tb σ H (aI.r N j)) : Ev (tOp rNe ta tb) σ H (aB.r N (!decide (i = j))) :=
  two (P1 := aI.r N i) (P2 := aI.r N j) ha hb (fun _ _ _ _ h => h) fun v w H1 _ e f Q k => by
    cases (show v = .int i from e)
    cases (show w = .int j from f)
    exact ⟨rfl, k _ H1 (.refl H1) (by show V.bl _ = V.bl _; congr 2; exact decide_eq_decide.mpr ⟨fun z => V.int.inj z, fun z => by rw [z]⟩)⟩
theorem eqS {y z : Str} (ha : Ev ta σ H (aS.r N y)) (hb : Ev tb σ H (aS.r N z)) : Ev (tOp rEq ta tb) σ H (aB.r N (decide (y = z))) :=
  two (P1 := aS.r N y) (P2 := aS.r N z) ha hb (fun _ _ _ _ h => h) fun v w H1 _ e f Q k => by
    cases (show v = .str y from e)
    cases (show w = .str z from f)
    exact ⟨rfl, k _ H1 (.refl H1) (by show V.bl _ = V.bl _; congr 1; exact decide_eq_decide.mpr ⟨fun z => V.str.inj z, fun z => by rw [z]⟩)⟩
theorem isN {x : Option A} (ha : Ev ta σ H ((aO R).r N x)) : Ev (tIsN ta) σ H (aB.r N x.isNone) := fun H1 s Q k => ha H1 s _ fun v H2 s2 p => by
  refine k _ H2 s2 ?_
  cases x with
  | none => cases (show v = .non from p); rfl
  | some y => show V.bl _ = V.bl _; rw [decide_eq_false p.1]; rfl
theorem notN {x : Option A} (ha : Ev ta σ H ((aO R).r N x)) : Ev (tNotN ta) σ H (aB.r N x.isSome) := fun H1 s Q k => ha H1 s _ fun v H2 s2 p => by
  refine k _ H2 s2 ?_
  cases x with
  | none => cases (show v = .non from p); rfl
  | some y => show V.bl _ = V.bl _; rw [decide_eq_false p.1]; rfl
theorem tB (ha : Ev ta σ H (aB.r N b)) : EvT (L2.tB ta) σ H b := fun H1 s Q k => ha H1 s _ fun v H2 s2 p => ⟨b, p, k H2 s2⟩
theorem tTest (ha : Ev ta σ H (aB.r N b)) : EvT (L2.tTest ta) σ H b := fun H1 s Q k => ha H1 s _ fun v H2 s2 p => ⟨b, p, k H2 s2⟩
theorem tAnd {t u : TT} (h : EvT t σ H b) (g : b = true → EvT u σ H c) : EvT (L2.tAnd t u) σ H (b && c) := fun H1 s Q k => h H1 s _ fun H2 s2 => by
  cases b with
  | true => exact iteT (g rfl H2 (s.trans s2) _ fun H3 s3 => k H3 (s2.trans s3))
  | false => exact iteF (k H2 s2)
theorem tOr {t u : TT} (h : EvT t σ H b) (g : b = false → EvT u σ H c) : EvT (L2.tOr t u) σ H (b || c) := fun H1 s Q k => h H1 s _ fun H2 s2 => by
  cases b with
  | true => exact iteT (k H2 s2)
  | false => exact iteF (g rfl H2 (s.trans s2) _ fun H3 s3 => k H3 (s2.trans s3))
theorem tNot {t : TT} (h : EvT t σ H b) : EvT (L2.tNot t) σ H (!b) := fun H1 s Q k => h H1 s _ fun H2 s2 => k H2 s2
theorem andV (ha : Ev ta σ H (aB.r N b)) (hb : b = true → Ev tb σ H (aB.r N c)) : Ev (tAndV ta tb) σ H (aB.r N (b && c)) := fun H1 s Q k => ha H1 s _ fun v H2 s2 p => ⟨b, p, by
  cases b with
  | true => exact iteT (hb rfl H2 (s.trans s2) _ fun w H3 s3 q => k w H3 (s2.trans s3) q)
  | false => exact iteF (k _ H2 s2 rfl)⟩
theorem orV (ha : Ev ta σ H (aB.r N b)) (hb : b = false → Ev tb σ H (aB.r N c)) : Ev (tOrV ta tb) σ H (aB.r N (b || c)) := fun H1 s Q k => ha H1 s _ fun v H2 s2 p => ⟨b, p, by
  cases b with
  | true => exact iteT (k _ H2 s2 rfl)
  | false => exact iteF (hb rfl H2 (s.trans s2) _ fun w H3 s3 q => k w H3 (s2.trans s3) q)⟩
theorem notV (ha : Ev ta σ H (aB.r N b)) : Ev (tNotV ta) σ H (aB.r N (!b)) := fun H1 s Q k => ha H1 s _ fun v H2 s2 p => ⟨b, p, k _ H2 s2 rfl⟩
theorem ifx {z : A} {t : TT} (h : EvT t σ H b) (f : b = true → Ev ta σ H (R.r N x)) (g : b = false → Ev tb σ H (R.r N z)) : Ev (tIf t ta tb) σ H (R.r N (if b = true then x else z)) := fun H1 s Q k => h H1 s _ fun H2 s2 => by
  cases b with
  | true => exact iteT (f rfl H2 (s.trans s2) _ fun w H3 s3 q => k w H3 (s2.trans s3) q)
  | false => exact iteF (g rfl H2 (s.trans s2) _ fun w H3 s3 q => k w H3 (s2.trans s3) q)
theorem nil {P : List V → Hp → Prop} (h : ∀ H', P [] H') : EvA tNil σ H P := fun H1 s Q k => k _ H1 (.refl H1) (h H1)
theorem consA {P1 : V → Hp → Prop} {P2 P3 : List V → Hp → Prop} (ha : Ev ta σ H P1) (hb : EvA ts σ H P2) (st : ∀ v H1 H2, Sm H1 H2 → P1 v H1 → P1 v H2) (h : ∀ v vs H1, P1 v H1 → P2 vs H1 → P3 (v :: vs) H1) : EvA (tCons ta ts) σ H P3 := fun H1 s Q k =>
  ha H1 s _ fun v H2 s2 p => hb H2 (s.trans s2) _ fun w H3 s3 q => k _ H3 (s2.trans s3) (h v w H3 (st v H2 H3 s3 p) q)
theorem one (ha : Ev ta σ H (R.r N x)) : EvA (tCons ta tNil) σ H ((Row.one R).r N x) := consA (P2 := fun vs _ => vs = []) ha (nil fun _ => rfl) (fun _ _ _ s p => R.sm s p) fun v vs H1 p e => ⟨v, by rw [e], p⟩
theorem cons {S : Row B} (ha : Ev ta σ H (R.r N x)) (hb : EvA ts σ H (S.r N y)) : EvA (tCons ta ts) σ H ((Row.cons R S).r N (x, y)) := consA ha hb (fun _ _ _ s p => R.sm s p) fun v vs H1 p q => ⟨v, vs, rfl, p, q⟩
theorem zero : EvA tNil σ H (fun vs H' => All2 (fun x v => R.r N x v H') [] vs) := nil fun _ => .nil
theorem more {xs : List A} (ha : Ev ta σ H (R.r N x)) (hb : EvA ts σ H (fun vs H' => All2 (fun x v => R.r N x v H') xs vs)) : EvA (tCons ta ts) σ H (fun vs H' => All2 (fun x v => R.r N x v H') (x :: xs) vs) :=
  consA ha hb (fun _ _ _ s p => R.sm s p) fun v vs H1 p q => .cons p q
theorem tup {S : Row A} (tk : Trk N H) (ha : EvA ts σ H (S.r N x)) (hn : S.n ≤ sizeLine := by decide) : Ev (tTup ts) σ H ((aT S).r N x) := fun H1 s Q k => ha H1 s _ fun vs H2 s2 p => ⟨by rw [S.len p]; exact hn, fun q hq =>
  k _ _ (s2.trans (.new hq)) ⟨q, vs, rfl, ((tk.sm s).sm s2).no hq, upd_same, S.mv (fun _ h => .inl h) (.of (.new hq)) p⟩⟩
theorem tupV {xs : List A} (tk : Trk N H) (ha : EvA ts σ H (fun vs H' => All2 (fun x v => R.r N x v H') xs vs)) (hn : xs.length ≤ sizeLine := by first | decide | exact Nat.le_of_ble_eq_true rfl) : Ev (tTup ts) σ H ((aV R).r N xs) := fun H1 s Q k => ha H1 s _ fun vs H2 s2 p => ⟨by rw [← p.length]; exact hn, fun q hq =>
  k _ _ (s2.trans (.new hq)) ⟨q, vs, rfl, ((tk.sm s).sm s2).no hq, upd_same, p.imp fun _ _ z => R.sm (.new hq) z⟩⟩
theorem lst {xs : List A} (tk : Trk N H) (ha : EvA ts σ H (fun vs H' => All2 (fun x v => R.r N x v H') xs vs)) (hn : xs.length ≤ sizeLine := by first | decide | exact Nat.le_of_ble_eq_true rfl) : Ev (tLst ts) σ H ((aL R).r N xs) := fun H1 s Q k => ha H1 s _ fun vs H2 s2 p => ⟨by rw [← p.length]; exact hn, fun q hq =>
  k _ _ (s2.trans (.new hq)) ⟨q, vs, rfl, ((tk.sm s).sm s2).no hq, upd_same, p.imp fun _ _ z => R.sm (.new hq) z⟩⟩
theorem rowGet0 {B : Type} {S : Row B} {z : A × B} {vs : List V} (h : (Row.cons R S).r N z vs H) : ∃ v, vs[0]? = some v ∧ R.r N z.1 v H := let ⟨v, r, e, p, _⟩ := h; ⟨v, by rw [e]; rfl, p⟩
theorem rowGet1 {z : A} {vs : List V} (h : (Row.one R).r N z vs H) : ∃ v, vs[0]? = some v ∧ R.r N z v H := let ⟨v, e, p⟩ := h; ⟨v, by rw [e]; rfl, p⟩
structure At {B : Type} (S : Row B) (i : Nat) (R : Rep A) (f : B → A) : Prop where
  h : ∀ {N : Sets} {z : B} {vs : List V} {H : Hp}, S.r N z vs H → ∃ v, vs[i]? = some v ∧ R.r N (f z) v H
theorem At.last : At (Row.one R) 0 R id := ⟨rowGet1⟩
theorem At.first {S : Row B} : At (Row.cons R S) 0 R Prod.fst := ⟨rowGet0⟩
theorem At.next {S : Row B} {n : Nat} {f : B → A} {C : Type} {U : Rep C} (h : At S n R f) : At (Row.cons U S) (n + 1) R (fun z => f z.2) := ⟨fun ⟨v, r, e, _, q⟩ => let ⟨w, g, p⟩ := h.h q; ⟨w, by rw [e]; simpa using g, p⟩⟩
theorem ix {S : Row B} {z : B} {n : Nat} {f : B → A} (a : At S n R f) (ha : Ev ta σ H ((aT S).r N z)) : Ev (tOp (rIxT K) ta (tC (.int (n : Int)))) σ H (R.r N (f z)) := fun H1 s Q k => ha H1 s _ fun v H2 s2 p => by
  obtain ⟨q, vs, rfl, _, h, t⟩ := p
  obtain ⟨w, e, g⟩ := a.h t
  exact ⟨q, vs, n, w, rfl, rfl, SqT.of h, atI_nat e, k _ _ s2 g⟩
theorem ixL {xs : List A} (ha : Ev ta σ H ((aL R).r N xs)) (hb : Ev tb σ H (aI.r N i)) (h : atI xs i = some x) : Ev (tOp (rIxL K) ta tb) σ H (R.r N x) :=
  two ha hb (fun _ _ _ s p => (aL R).sm s p) fun v w H1 _ p e Q k => by
    obtain ⟨q, vs, rfl, _, g, t⟩ := p
    obtain ⟨j, hj, hx⟩ := Option.bind_eq_some_iff.mp h
    obtain ⟨u, hu, r⟩ := t.get hx
    exact ⟨q, vs, i, u, rfl, e, SqL.of g, by unfold atI; rw [← t.length, hj]; exact hu, k _ _ (.refl _) r⟩
theorem cb {P : List V → Hp → Prop} {P' : V → Hp → Prop} {r : List V → Hp → VK → Prop} (ha : EvA ts σ H P) (h : ∀ vs H1, Sm H H1 → P vs H1 → ∀ Q : VK, (∀ u H2, Sm H1 H2 → P' u H2 → Q u H2) → r vs H1 Q) : Ev (tCB r ts) σ H P' := fun H1 s Q k =>
  ha H1 s _ fun vs H2 s2 p => h vs H2 (s.trans s2) p Q fun u H3 s3 q => k u H3 (s2.trans s3) q
theorem lenV {xs : List A} (ha : Ev ta σ H ((aV R).r N xs)) : Ev (tCB (Z.rLenK K) (tCons ta tNil)) σ H (aI.r N xs.length) := cb (one ha) fun vs H1 _ ⟨v, e, p⟩ Q k => by
  obtain ⟨q, us, rfl, _, g, t⟩ := p
  exact ⟨q, us, e, .inr (SqT.of g), k _ _ (.refl _) (by rw [t.length]; rfl)⟩
theorem lenL {xs : List A} (ha : Ev ta σ H ((aL R).r N xs)) : Ev (tCB (Z.rLenK K) (tCons ta tNil)) σ H (aI.r N xs.length) := cb (one ha) fun vs H1 _ ⟨v, e, p⟩ Q k => by
  obtain ⟨q, us, rfl, _, g, t⟩ := p
  exact ⟨q, us, e, .inl (SqL.of g), k _ _ (.refl _) (by rw [t.length]; rfl)⟩
theorem tupL {xs : List A} (tk : Trk N H) (ha : Ev ta σ H ((aL R).r N xs)) : Ev (tCB (Z.rTupK K) (tCons ta tNil)) σ H ((aV R).r N xs) := cb (one ha) fun vs H1 s1 ⟨v, e, p⟩ Q k => by
  obtain ⟨q, us, rfl, _, g, t⟩ := p
  exact ⟨q, us, e, .inl ⟨SqL.of g, fun l hl => k _ _ (.new hl) ⟨l, us, rfl, (tk.sm s1).no hl, upd_same, t.imp fun _ _ z => R.sm (.new hl) z⟩⟩⟩
end ev
end
end TV
end
section
set_option Elab.async false
set_option linter.all false
set_option maxRecDepth 100000
set_option autoImplicit false
namespace TV
open PySem L2 KB
structure Go (C : Sets) (H H' : Hp) : Prop where
  k : ∀ b o, ¬ C b → H b = some o → H' b = some o ∨ (TbO o ∧ ∃ o', TbO o' ∧ H' b = some o')
  d : ∀ b, H' b = none → H b = none
  m : ∀ b o, H b = some o → NT o → ∃ o', H' b = some o' ∧ NT o'
theorem Sm.m {H H' : Hp} (s : Sm H H') : ∀ b o, H b = some o → NT o → ∃ o', H' b = some o' ∧ NT o' := fun b o e n => (s b o e).elim (fun h => ⟨o, h, n⟩) fun ⟨_, o', t, h⟩ => ⟨o', h, nt_tbl t⟩
section
variable {C D N : Sets} {H H1 H2 H' : Hp} {a b : Addr} {o : HO}
theorem Go.of (s : Sm H H') : Go C H H' := ⟨fun b o _ e => s b o e, fun _ h => s.dom h, s.m⟩
theorem Go.refl (H : Hp) : Go C H H := .of (.refl H)
theorem Go.trans (x : Go C H H1) (y : Go C H1 H2) : Go C H H2 := ⟨fun b o n e => by
  rcases x.k b o n e with h | ⟨t, o', t', h⟩
  · exact y.k b o n h
  · rcases y.k b o' n h with h2 | ⟨_, o2, t2, h2⟩
    · exact .inr ⟨t, o', t', h2⟩
    · exact .inr ⟨t, o2, t2, h2⟩, fun b h => x.d b (y.d b h), fun b o e n => let ⟨o', e', n'⟩ := x.m b o e n; y.m b o' e' n'⟩
theorem Go.upd (h : C a) (m : NT o) : Go C H (upd H a o) := ⟨fun b u n e => .inl (by rw [upd_ne (fun z => n (by rw [z]; exact h))]; exact e), fun b h => by
  by_cases e : b = a
  · rw [e, upd_same] at h; cases h
  · rw [upd_ne e] at h; exact h, fun b u e n => by
  by_cases z : b = a
  · exact ⟨o, by rw [z]; exact upd_same, m⟩
  · exact ⟨u, by rw [upd_ne z]; exact e, n⟩⟩
theorem Go.sm (x : Go C H H1) (s : Sm H1 H2) : Go C H H2 := x.trans (.of s)
theorem Go.up (x : Go C H H1) (h : C a) (m : NT o) : Go C H (L2.upd H1 a o) := x.trans (.upd h m)
theorem Go.get (g : Go C H H') (n : ¬ C b) (t : ¬ TbO o) (h : H b = some o) : H' b = some o := (g.k b o n h).elim id fun z => absurd z.1 t
theorem Go.kp (g : Go C H H') (h : ∀ a, C a → N a) : Kp N H H' := ⟨fun b xs n e => g.get (fun z => n (h b z)) noTb_tup e, fun b u n p e => e.elim (fun e => .inl (g.get (fun z => n (h b z)) noTb e)) fun ⟨o, e⟩ => .inr ⟨o, g.get (fun z => n (h b z)) noTb_frz e⟩, fun b xs n e => g.get (fun z => n (h b z)) noTb_lst e⟩
theorem Go.new (g : Go C H H') (h : ∀ a, C a → H a = none) : Sm H H' := fun b o e => g.k b o (fun z => by rw [h b z] at e; cases e) e
theorem Go.to (g : Go C H1 H') (s : Sm H H1) (h : ∀ a, C a → D a ∨ H a = none) : Go D H H' := ⟨fun b o n e => by
  rcases s b o e with h1 | ⟨t, o', t', h1⟩
  · exact g.k b o (fun z => (h b z).elim n fun y => by rw [y] at e; cases e) h1
  · rcases g.k b o' (fun z => (h b z).elim n fun y => by rw [y] at e; cases e) h1 with h2 | ⟨_, o2, t2, h2⟩
    · exact .inr ⟨t, o', t', h2⟩
    · exact .inr ⟨t, o2, t2, h2⟩, fun b z => s.dom (g.d b z), fun b o e n => let ⟨o', e', n'⟩ := s.m b o e n; g.m b o' e' n'⟩
theorem Go.mono (g : Go C H H') (h : ∀ a, C a → D a) : Go D H H' := ⟨fun b o n e => g.k b o (fun z => n (h b z)) e, g.d, g.m⟩
theorem Trk.go (t : Trk N H) (g : Go C H H') : Trk N H' := fun a n => let ⟨o, e, m⟩ := t a n; g.m a o e m
theorem Go.unlock {u : HO} {d : Addr} {od : Obj} (h : H d = some u) (nt : NT u) (g : Go C (L2.upd H d (.frz od u)) H') : Go C H (L2.upd H' d u) := ⟨fun b o n e => by
  by_cases z : b = d
  · rw [z] at e ⊢
    rw [h] at e
    rw [upd_same]
    exact .inl e
  · rw [upd_ne z]
    exact g.k b o n (by rw [upd_ne z]; exact e), fun b z => by
  by_cases y : b = d
  · rw [y, upd_same] at z; cases z
  · rw [upd_ne y] at z
    have := g.d b z
    rwa [upd_ne y] at this, fun b o e n => by
  by_cases y : b = d
  · exact ⟨u, by rw [y]; exact upd_same, nt⟩
  · rw [upd_ne y]
    exact g.m b o (by rw [upd_ne y]; exact e) n⟩
end
section
variable {te ta tb : TE} {tt : TT} {ts : TA} {t u : TS} {σ : St} {H : Hp} {P P' : V → Hp → Prop} {Q : VK} {N C : Sets} {A B T : Type} {R : Rep A} {S : Rep B} {x : A} {y : B} {i j : Int} {b c : Bool} {K : PySem.W.Frag} {D : Ends} {n : Nat}
namespace st
theorem set (e : Ev te σ H P) (k : ∀ v H', Sm H H' → P v H' → u D (σ.set n (some v)) H') : tSeq (tAsg te (gName n)) u D σ H := e.use k
theorem expr (e : Ev te σ H P) (k : ∀ v H', Sm H H' → P v H' → u D σ H') : tSeq (tDrop te) u D σ H := e.use k
theorem ret (e : Ev te σ H P) (k : ∀ v H', Sm H H' → P v H' → D.rt v H') : tRet te D σ H := e.use k
theorem cond (e : EvT tt σ H b) (k1 : b = true → ∀ H', Sm H H' → t D σ H') (k2 : b = false → ∀ H', Sm H H' → u D σ H') : tIfS tt t u D σ H := e.use fun H' s => by
  cases b with
  | true => exact iteT (k1 rfl H' s)
  | false => exact iteF (k2 rfl H' s)
theorem cut (M : St → Hp → Prop) (h1 : ∀ k : St → Hp → Prop, (∀ σ H, M σ H → k σ H) → t { D with nx := k } σ H) (h2 : ∀ σ H, M σ H → u D σ H) : tSeq t u D σ H := h1 _ h2
theorem unpack {S : Row A} {x : A} {g : TGs} {v : V} {k : St → Hp → Prop} (f : (aT S).r N x v H) (h : ∀ vs, S.r N x vs H → g vs σ H k) (hn : S.n = n) : gTup K n g v σ H k := by
  obtain ⟨a, vs, e, _, p, t⟩ := f
  exact ⟨a, vs, e, SqT.of p, by rw [S.len t, hn], h vs t⟩
theorem gcons {S : Row B} {g : TG} {gs : TGs} {z : A × B} {vs : List V} {k : St → Hp → Prop} (f : (Row.cons R S).r N z vs H) (h : ∀ v r, R.r N z.1 v H → S.r N z.2 r H → g v σ H fun σ' H' => gs r σ' H' k) : gCons g gs vs σ H k := by
  obtain ⟨v, r, e, p, q⟩ := f
  exact ⟨v, r, e, h v r p q⟩
theorem glast {g : TG} {z : A} {vs : List V} {k : St → Hp → Prop} (f : (Row.one R).r N z vs H) (h : ∀ v, R.r N z v H → g v σ H fun σ' H' => gNil [] σ' H' k) : gCons g gNil vs σ H k := by
  obtain ⟨v, e, p⟩ := f
  exact ⟨v, [], e, h v p⟩
theorem gend {k : St → Hp → Prop} (h : k σ H) : gNil [] σ H k := ⟨rfl, h⟩
theorem forV {tl : TE} {g : TG} {tb : TS} {xs : List A} (e : Ev tl σ H ((aV R).r N xs)) (hC : ∀ a, C a → N a) (I : Nat → St → Hp → Prop) (h0 : ∀ H1, Sm H H1 → I 0 σ H1)
    (hs : ∀ i x v σ' H', xs[i]? = some x → Go C H H' → R.r N x v H' → I i σ' H' → g v σ' H' fun σ2 H2 => tb { D with nx := fun σ3 H3 => Go C H' H3 ∧ I (i + 1) σ3 H3, ct := fun σ3 H3 => Go C H' H3 ∧ I (i + 1) σ3 H3, bk := D.nx } σ2 H2)
    (hd : ∀ σ' H', Go C H H' → I xs.length σ' H' → D.nx σ' H') : tFor (iTup K tl) g tb D σ H := by
  refine e.use fun v H1 s p => ?_
  obtain ⟨a, vs, rfl, na, ha, al⟩ := p
  have go1 : ∀ {H2 : Hp}, Go C H1 H2 → H2 a = some (.tup vs) := fun g1 => g1.get (fun z => na (hC a z)) noTb_tup ha
  refine ⟨a, rfl, ⟨vs, SqT.of ha⟩, ⟨fun i m σ' H' => m = vs.length - i ∧ i ≤ vs.length ∧ Go C H1 H' ∧ I i σ' H', ⟨vs.length, by simp, Nat.zero_le _, .refl _, h0 H1 s⟩, ?_⟩⟩
  rintro i m σ' H' ⟨rfl, hi, g1, w⟩
  have q := go1 g1
  by_cases hlt : i < vs.length
  · refine .inr ⟨⟨vs, vs[i], SqT.of q, by simp [hlt]⟩, fun σ3 H3 => Go C H' H3 ∧ I (i + 1) σ3 H3, fun σ3 H3 ⟨g3, w3⟩ => ⟨vs.length - (i + 1), by omega, rfl, hlt, g1.trans g3, w3⟩, fun x H2 y => ?_⟩
    obtain ⟨e1, y⟩ := y
    subst e1
    have y := y vs (SqT.of q)
    obtain ⟨z, hz, r⟩ := al.got y
    exact hs i z x σ' _ hz (g1.to s fun a c => .inl c) (R.kp (g1.kp hC) r) w
  · have e : i = vs.length := by omega
    subst e
    exact .inl ⟨⟨vs, SqT.of q, Nat.le_refl _⟩, hd σ' H' (g1.to s fun a c => .inl c) (by rw [al.length]; exact w)⟩
theorem forL {tl : TE} {g : TG} {tb : TS} {xs : List A} (e : Ev tl σ H ((aL R).r N xs)) (hC : ∀ a, C a → N a) (I : Nat → St → Hp → Prop) (h0 : ∀ H1, Sm H H1 → I 0 σ H1)
    (hs : ∀ i x v σ' H', xs[i]? = some x → Go C H H' → R.r N x v H' → I i σ' H' → g v σ' H' fun σ2 H2 => tb { D with nx := fun σ3 H3 => Go C H' H3 ∧ I (i + 1) σ3 H3, ct := fun σ3 H3 => Go C H' H3 ∧ I (i + 1) σ3 H3, bk := D.nx } σ2 H2)
    (hd : ∀ σ' H', Go C H H' → I xs.length σ' H' → D.nx σ' H') : tFor (iList K tl) g tb D σ H := by
  refine e.use fun v H1 s p => ?_
  obtain ⟨a, vs, rfl, na, ha, al⟩ := p
  have go1 : ∀ {H2 : Hp}, Go C H1 H2 → SqL K H2 a vs := fun g1 => SqL.of ((g1.kp hC).l a _ na ha)
  refine ⟨a, rfl, ⟨vs, SqL.of ha⟩, ⟨fun i m σ' H' => m = vs.length - i ∧ i ≤ vs.length ∧ Go C H1 H' ∧ I i σ' H', ⟨vs.length, by simp, Nat.zero_le _, .refl _, h0 H1 s⟩, ?_⟩⟩
  rintro i m σ' H' ⟨rfl, hi, g1, w⟩
  have q := go1 g1
  by_cases hlt : i < vs.length
  · refine .inr ⟨⟨vs, vs[i], q, by simp [hlt]⟩, fun σ3 H3 => Go C H' H3 ∧ I (i + 1) σ3 H3, fun σ3 H3 ⟨g3, w3⟩ => ⟨vs.length - (i + 1), by omega, rfl, hlt, g1.trans g3, w3⟩, fun x H2 y => ?_⟩
    obtain ⟨e1, y⟩ := y
    subst e1
    have y := y vs q
    obtain ⟨z, hz, r⟩ := al.got y
    exact hs i z x σ' _ hz (g1.to s fun a c => .inl c) (R.kp (g1.kp hC) r) w
  · have e : i = vs.length := by omega
    subst e
    exact .inl ⟨⟨vs, q, Nat.le_refl _⟩, hd σ' H' (g1.to s fun a c => .inl c) (by rw [al.length]; exact w)⟩
theorem forR {ta : TA} {g : TG} {tb : TS} {n : Nat} (e : EvA ta σ H ((Row.one aI).r N (n : Int))) (hn : (n : Int) < 2 ^ 62) (I : Nat → St → Hp → Prop) (h0 : ∀ H1, Sm H H1 → I 0 σ H1)
    (hs : ∀ i σ' H', i < n → Go C H H' → I i σ' H' → g (.int i) σ' H' fun σ2 H2 => tb { D with nx := fun σ3 H3 => Go C H' H3 ∧ I (i + 1) σ3 H3, ct := fun σ3 H3 => Go C H' H3 ∧ I (i + 1) σ3 H3, bk := D.nx } σ2 H2)
    (hd : ∀ σ' H', Go C H H' → I n σ' H' → D.nx σ' H') : tFor (iRng1 ta) g tb D σ H := by
  refine e.use fun vs H1 s ⟨v, e1, p⟩ => ?_
  cases (show v = .int n from p)
  refine ⟨n, e1, by omega, hn, ⟨fun i m σ' H' => m = n - i ∧ i ≤ n ∧ Go C H1 H' ∧ I i σ' H', ⟨n, by simp, Nat.zero_le _, .refl _, h0 H1 s⟩, ?_⟩⟩
  rintro i m σ' H' ⟨rfl, hi, g1, w⟩
  have en : (n : Int).toNat = n := by simp
  by_cases hlt : i < n
  · refine .inr ⟨by rw [en]; exact hlt, fun σ3 H3 => Go C H' H3 ∧ I (i + 1) σ3 H3, fun σ3 H3 ⟨g3, w3⟩ => ⟨n - (i + 1), by omega, rfl, hlt, g1.trans g3, w3⟩, fun x H2 y => ?_⟩
    obtain ⟨e1, e2⟩ := y
    subst e1 e2
    rw [Int.zero_add]
    exact hs i σ' _ hlt (g1.to s fun a c => .inl c) w
  · have e : i = n := by omega
    subst e
    exact .inl ⟨by rw [en]; exact Nat.le_refl _, hd σ' H' (g1.to s fun a c => .inl c) w⟩
theorem lock {t : TS} {d : Addr} {kvs : List (List Key × V)} (h : H d = some (.dT kvs)) (k : ∀ od, t ⟨fun σ' H' => H' d = some (.frz od (.dT kvs)) ∧ D.nx σ' (upd H' d (.dT kvs)), fun v H' => H' d = some (.frz od (.dT kvs)) ∧ D.rt v (upd H' d (.dT kvs)), fun σ' H' => H' d = some (.frz od (.dT kvs)) ∧ D.bk σ' (upd H' d (.dT kvs)), fun σ' H' => H' d = some (.frz od (.dT kvs)) ∧ D.ct σ' (upd H' d (.dT kvs))⟩ σ (upd H d (.frz od (.dT kvs)))) : tLock t D σ H :=
  ⟨d, _, h, trivial, k⟩
end st
abbrev PL {A : Type} (R : Rep A) (N : Sets) (xs : List A) (v : V) (H : Hp) : Prop := (aL R).r N xs v H
theorem PL.rl {xs : List A} {v : V} (h : PL R N xs v H) : (aL R).r N xs v H := h
theorem PL.sm {xs : List A} {v : V} {H' : Hp} (h : PL R N xs v H) (s : Sm H H') : PL R N xs v H' := let ⟨a, vs, e, n, h, t⟩ := h; ⟨a, vs, e, n, s.lst h, t.imp fun _ _ z => R.sm s z⟩
theorem Ev.rl {xs : List A} (e : Ev te σ H (PL R N xs)) : Ev te σ H ((aL R).r N xs) := e.imp fun _ _ _ h => h.rl
namespace ev
def Turn {A B : Type} (R : Rep A) (S : Rep B) (g : TG) (tt : TT) (te : TE) (vs : List Nat) (σ : St) (H : Hp) (N : Sets) (p : A → Bool) (f : A → B) (x : A) : Prop :=
  ∀ (N' : Sets) (H1 : Hp), (∀ a, N' a → N a ∨ H a = none) → Sm H H1 → Trk N' H1 → ∀ v, R.r N' x v H1 → ∀ k : St → Hp → Prop, (∀ σ2, wipe σ2 vs = wipe σ vs → EvT tt σ2 H1 (p x) → (p x = true → Ev te σ2 H1 (S.r N' (f x))) → k σ2 H1) → g v (wipe σ vs) H1 k
section
variable {g : TG} {vs : List Nat} {p : A → Bool} {f : A → B}
theorem lcV {tl : TE} {xs : List A} (tk : Trk N H) (e : Ev tl σ H ((aV R).r N xs)) (hb : ∀ x ∈ xs, Turn R S g tt te vs σ H N p f x) (hl : xs.length < sizeLine) : Ev (tLc (iTup K tl) g tt te vs) σ H (PL S N ((xs.filter p).map f)) := by
  intro H1 s1 Q k
  refine e H1 s1 _ fun v H2 s2 q => ?_
  obtain ⟨a, us, rfl, na, ha, al⟩ := q
  refine ⟨a, rfl, ⟨us, SqT.of ha⟩, fun D hD => ?_⟩
  obtain ⟨N', hN⟩ : ∃ N' : Sets, N' = fun b => b = D ∨ N b := ⟨_, rfl⟩
  have s12 := s1.trans s2
  have gN : ∀ a, N' a → N a ∨ H2 a = none := fun b z => by rw [hN] at z; exact z.elim (fun y => .inr (y ▸ hD)) .inl
  have gN0 : ∀ a, N' a → N a ∨ H a = none := fun b z => (gN b z).imp id fun y => s12.dom y
  have tk2 : Trk N' (upd H2 D (.lst [])) := hN ▸ (tk.sm s12).grow nt_lst
  refine lc_tup (K := K) (a := a) (xs := us) (fun i H' => Sm H2 H' ∧ Trk N' H' ∧ ∃ acc, H' D = some (.lst acc) ∧ acc.length ≤ i ∧ All2 (fun x v => S.r N' x v H') (((xs.take i).filter p).map f) acc) ⟨.new hD, tk2, [], upd_same, Nat.le_refl _, .nil⟩ ?_ ?_ ?_
  · rintro i H' hi ⟨s, _⟩
    exact SqT.of (s.tup ha)
  · rintro i v H' hv ⟨s, tk', acc, hacc, la, al'⟩
    obtain ⟨x, hx, r⟩ := al.got hv
    have r' := R.mv gN (.of s) r
    have hi : i < xs.length := (List.getElem?_eq_some_iff.mp hx).1
    have tk1 : xs.take (i + 1) = xs.take i ++ [x] := by rw [← List.take_append_getElem hi, (List.getElem?_eq_some_iff.mp hx).2]
    refine hb x (List.mem_of_getElem? hx) N' H' gN0 (s12.trans s) tk' v r' _ fun σ2 ew et ee => ⟨ew, et H' (.refl _) _ fun H3 s3 => ?_⟩
    cases c : p x with
    | false =>
      refine iteF ⟨s.trans s3, tk'.sm s3, acc, s3.lst hacc, by omega, ?_⟩
      rw [tk1, List.filter_append, List.filter_cons_of_neg (by simp [c]), List.filter_nil, List.append_nil]
      exact al'.imp fun _ _ z => S.sm s3 z
    | true =>
      refine iteT (ee c H3 s3 _ fun y H4 s4 py => ?_)
      refine ⟨acc, s4.lst (s3.lst hacc), ?_, ?_⟩
      · have := List.getElem?_eq_some_iff.mp hv; omega
      · have hDN : N' D := by rw [hN]; exact .inl rfl
        refine ⟨fun b o z => ?_, (tk'.sm (s3.trans s4)).up nt_lst, _, upd_same, by rw [List.length_append]; show _ + 1 ≤ _; omega, ?_⟩
        · have nb : b ≠ D := fun y => by rw [y, hD] at z; cases z
          rw [upd_ne nb]
          exact (s.trans (s3.trans s4)) b o z
        · rw [tk1, List.filter_append, List.filter_cons_of_pos c, List.filter_nil, List.map_append]
          exact (al'.imp fun _ _ z => S.up hDN (S.sm (s3.trans s4) z)).snoc (S.up hDN py)
  · rintro H' ⟨s, tk', acc, hacc, _, al'⟩
    rw [← al.length, List.take_length] at al'
    exact k _ H' (s2.trans s) ⟨D, acc, rfl, (tk.sm s12).no hD, hacc, al'.imp fun _ _ z => S.mv (fun b y => .inl (by rw [hN]; exact .inr y)) (.of (.refl _)) z⟩
theorem lcL {tl : TE} {xs : List A} (tk : Trk N H) (e : Ev tl σ H ((aL R).r N xs)) (hb : ∀ x ∈ xs, Turn R S g tt te vs σ H N p f x) (hl : xs.length < sizeLine) : Ev (tLc (iList K tl) g tt te vs) σ H (PL S N ((xs.filter p).map f)) := by
  intro H1 s1 Q k
  refine e H1 s1 _ fun v H2 s2 q => ?_
  obtain ⟨a, us, rfl, na, ha, al⟩ := q
  refine ⟨a, rfl, ⟨us, SqL.of ha⟩, fun D hD => ?_⟩
  obtain ⟨N', hN⟩ : ∃ N' : Sets, N' = fun b => b = D ∨ N b := ⟨_, rfl⟩
  have s12 := s1.trans s2
  have gN : ∀ a, N' a → N a ∨ H2 a = none := fun b z => by rw [hN] at z; exact z.elim (fun y => .inr (y ▸ hD)) .inl
  have gN0 : ∀ a, N' a → N a ∨ H a = none := fun b z => (gN b z).imp id fun y => s12.dom y
  have tk2 : Trk N' (upd H2 D (.lst [])) := hN ▸ (tk.sm s12).grow nt_lst
  refine lc_list (K := K) (a := a) (xs := us) (fun i H' => Sm H2 H' ∧ Trk N' H' ∧ ∃ acc, H' D = some (.lst acc) ∧ acc.length ≤ i ∧ All2 (fun x v => S.r N' x v H') (((xs.take i).filter p).map f) acc) ⟨.new hD, tk2, [], upd_same, Nat.le_refl _, .nil⟩ ?_ ?_ ?_
  · rintro i H' hi ⟨s, _⟩
    exact SqL.of (s.lst ha)
  · rintro i v H' hv ⟨s, tk', acc, hacc, la, al'⟩
    obtain ⟨x, hx, r⟩ := al.got hv
    have r' := R.mv gN (.of s) r
    have hi : i < xs.length := (List.getElem?_eq_some_iff.mp hx).1
    have tk1 : xs.take (i + 1) = xs.take i ++ [x] := by rw [← List.take_append_getElem hi, (List.getElem?_eq_some_iff.mp hx).2]
    refine hb x (List.mem_of_getElem? hx) N' H' gN0 (s12.trans s) tk' v r' _ fun σ2 ew et ee => ⟨ew, et H' (.refl _) _ fun H3 s3 => ?_⟩
    cases c : p x with
    | false =>
      refine iteF ⟨s.trans s3, tk'.sm s3, acc, s3.lst hacc, by omega, ?_⟩
      rw [tk1, List.filter_append, List.filter_cons_of_neg (by simp [c]), List.filter_nil, List.append_nil]
      exact al'.imp fun _ _ z => S.sm s3 z
    | true =>
      refine iteT (ee c H3 s3 _ fun y H4 s4 py => ?_)
      refine ⟨acc, s4.lst (s3.lst hacc), ?_, ?_⟩
      · have := List.getElem?_eq_some_iff.mp hv; omega
      · have hDN : N' D := by rw [hN]; exact .inl rfl
        refine ⟨fun b o z => ?_, (tk'.sm (s3.trans s4)).up nt_lst, _, upd_same, by rw [List.length_append]; show _ + 1 ≤ _; omega, ?_⟩
        · have nb : b ≠ D := fun y => by rw [y, hD] at z; cases z
          rw [upd_ne nb]
          exact (s.trans (s3.trans s4)) b o z
        · rw [tk1, List.filter_append, List.filter_cons_of_pos c, List.filter_nil, List.map_append]
          exact (al'.imp fun _ _ z => S.up hDN (S.sm (s3.trans s4) z)).snoc (S.up hDN py)
  · rintro H' ⟨s, tk', acc, hacc, _, al'⟩
    rw [← al.length, List.take_length] at al'
    exact k _ H' (s2.trans s) ⟨D, acc, rfl, (tk.sm s12).no hD, hacc, al'.imp fun _ _ z => S.mv (fun b y => .inl (by rw [hN]; exact .inr y)) (.of (.refl _)) z⟩
end
end ev
end
end TV
end
section
set_option Elab.async false
set_option linter.all false
set_option maxRecDepth 100000
set_option autoImplicit false
namespace L2
open PySem PySem.Spec PyProof.Rows
theorem compTurn2d_out (kx vx t0 i0 t1 i1 : Expr) (ifs0 ifs1 : List Expr) (scope : Scope) (pos : Pos) (it acc : Value) (env : Env) :
    compTurn (.DictComp kx vx [⟨t0, i0, ifs0, 0⟩, ⟨t1, i1, ifs1, 0⟩] scope pos) 0 it acc env = (do
      standAt i0.pos
      match ← pyNext it with
      | none => pure (.done .next)
      | some v =>
        letOwnedTupleGo t0 it v
        assign t0 env v
        let mut ok := true
        for c in ifs0 do
          if ok then ok ← isTrue c env (eval c env)
        if ok then
          let x ← eval i1 env
          standAt i1.pos
          let x ← foldedSetIterable i1 env x
          let _ ← runOwn (.compStart (.DictComp kx vx [⟨t0, i0, ifs0, 0⟩, ⟨t1, i1, ifs1, 0⟩] scope pos) 1 (← holding [x] (pyIter x)) acc env) env
        again (.compLoop (.DictComp kx vx [⟨t0, i0, ifs0, 0⟩, ⟨t1, i1, ifs1, 0⟩] scope pos) 0 it acc env)) := by rfl
theorem compTurn2d_in (kx vx t0 i0 t1 i1 : Expr) (ifs0 ifs1 : List Expr) (scope : Scope) (pos : Pos) (it : Value) (D : Addr) (env : Env) :
    compTurn (.DictComp kx vx [⟨t0, i0, ifs0, 0⟩, ⟨t1, i1, ifs1, 0⟩] scope pos) 1 it (.ref D) env = (do
      standAt i1.pos
      match ← pyNext it with
      | none => pure (.done .next)
      | some v =>
        letOwnedTupleGo t1 it v
        assign t1 env v
        let mut ok := true
        for c in ifs1 do
          if ok then ok ← isTrue c env (eval c env)
        if ok then
          (do
            let kv ← eval kx env
            let vv ← holding [kv] (eval vx env)
            standAt { kx.pos with endLine := vx.pos.endLine, endCol := vx.pos.endCol }
            holding [kv, vv] (dictSet D kv vv))
        again (.compLoop (.DictComp kx vx [⟨t0, i0, ifs0, 0⟩, ⟨t1, i1, ifs1, 0⟩] scope pos) 1 it (.ref D) env)) := by rfl
section
variable {prog : Program} {w : World} {A : Around} {R : Result → Shared → Prop} {s : Shared} {kx vx t0 i0 t1 i1 : Expr} {ifs0 ifs1 : List Expr} {scope : Scope} {pos : Pos} {it acc : Value} {D : Addr} {env : Env}
theorem compLoop2d_out (hs : ∀ x, foldedSetIterable i1 env x = pure x) (I : Nat → Shared → Prop)
    (turn : ∀ n s, I n s → wpAny (model prog w) A (pyNext it) (fun r s₁ => match r with
      | none => R (.ok .next) s₁
      | some v => wpAny (model prog w) A (letOwnedTupleGo t0 it v) (fun _ s₁' => wpAny (model prog w) A (assign t0 env v) (fun _ s₂ =>
          wpAny (model prog w) A (forIn ifs0 true fun c r => if r = true then do let ok ← isTrue c env (eval c env); pure (ForInStep.yield ok) else pure (ForInStep.yield r)) (fun ok s₃ =>
            if ok = true then wpAny (model prog w) A (eval i1 env) (fun x s₄ => wpAny (model prog w) A (pyIter x) (fun it1 s₅ =>
              codeAny (model prog w) A (.compStart (.DictComp kx vx [⟨t0, i0, ifs0, 0⟩, ⟨t1, i1, ifs1, 0⟩] scope pos) 1 it1 acc env) (fun r s' => match r with
                | .ok _ => ∃ m, m < n ∧ I m s'
                | .error _ => False) s₅) (notedBy (model prog w) A env fun e s' => R (.error e) s') s₄) (notedBy (model prog w) A env fun e s' => R (.error e) s') s₃
            else ∃ m, m < n ∧ I m s₃) (notedBy (model prog w) A env fun e s' => R (.error e) s') s₂) (notedBy (model prog w) A env fun e s' => R (.error e) s') s₁') (notedBy (model prog w) A env fun e s' => R (.error e) s') s₁) (notedBy (model prog w) A env fun e s' => R (.error e) s') s)
    (n : Nat) (h : I n s) :
    codeAny (model prog w) A (.compLoop (.DictComp kx vx [⟨t0, i0, ifs0, 0⟩, ⟨t1, i1, ifs1, 0⟩] scope pos) 0 it acc env) R s := by
  refine codeAny_loop rfl I (fun n s hI => ?_) n h
  show wpAny _ A ((compTurn (.DictComp kx vx [⟨t0, i0, ifs0, 0⟩, ⟨t1, i1, ifs1, 0⟩] scope pos) 0 it acc env).onRaise (fun x => do noteFrame x env; theTreesLotGoes x)) _ _ s
  refine wpAny_noted ?_
  rw [compTurn2d_out]
  refine wpAny_bind (wpAny_standAt (wpAny_bind (wpAny_mono (turn n s hI) (fun r s₁ h₁ => ?_) fun _ _ h' => h')))
  cases r with
  | none => exact wpAny_pure h₁
  | some v =>
    refine wpAny_bind (wpAny_mono h₁ (fun _ s₁' h₁' => ?_) fun _ _ h' => h')
    refine wpAny_bind (wpAny_mono h₁' (fun _ s₂ h₂ => wpAny_bind (wpAny_mono h₂ (fun ok s₃ h₃ => ?_) fun _ _ h' => h')) fun _ _ h' => h')
    cases ok with
    | false => exact wpAny_pure ⟨rfl, h₃⟩
    | true =>
      refine wpAny_bind (wpAny_mono h₃ (fun x s₄ h₄ => ?_) fun _ _ h' => h')
      refine wpAny_bind (wpAny_standAt (wpAny_bind (wpAny_of_eq (hs x) (wpAny_bind (wpAny_holding (wpAny_mono h₄ (fun it1 s₅ h₅ => ?_) fun _ _ h' => h'))))))
      refine wpAny_bind (wpAny_runOwn ?_)
      rw [Around.mark_none]
      refine codeAny_mono h₅ fun r s' hr => ?_
      cases r with
      | ok f =>
        first
          | exact wpAny_pure ⟨rfl, hr⟩
          | exact wpAny_bind (wpAny_pure (wpAny_pure ⟨rfl, hr⟩))
      | error e => exact hr.elim
theorem compLoop2d_in (I : Nat → Shared → Prop)
    (turn : ∀ n s, I n s → wpAny (model prog w) A (pyNext it) (fun r s₁ => match r with
      | none => R (.ok .next) s₁
      | some v => wpAny (model prog w) A (letOwnedTupleGo t1 it v) (fun _ s₁' => wpAny (model prog w) A (assign t1 env v) (fun _ s₂ =>
          wpAny (model prog w) A (forIn ifs1 true fun c r => if r = true then do let ok ← isTrue c env (eval c env); pure (ForInStep.yield ok) else pure (ForInStep.yield r)) (fun ok s₃ =>
            if ok = true then storesD prog w A env R kx vx D (fun s' => ∃ m, m < n ∧ I m s') s₃
            else ∃ m, m < n ∧ I m s₃) (notedBy (model prog w) A env fun e s' => R (.error e) s') s₂) (notedBy (model prog w) A env fun e s' => R (.error e) s') s₁') (notedBy (model prog w) A env fun e s' => R (.error e) s') s₁) (notedBy (model prog w) A env fun e s' => R (.error e) s') s)
    (n : Nat) (h : I n s) :
    codeAny (model prog w) A (.compLoop (.DictComp kx vx [⟨t0, i0, ifs0, 0⟩, ⟨t1, i1, ifs1, 0⟩] scope pos) 1 it (.ref D) env) R s := by
  refine codeAny_loop rfl I (fun n s hI => ?_) n h
  show wpAny _ A ((compTurn (.DictComp kx vx [⟨t0, i0, ifs0, 0⟩, ⟨t1, i1, ifs1, 0⟩] scope pos) 1 it (.ref D) env).onRaise (fun x => do noteFrame x env; theTreesLotGoes x)) _ _ s
  refine wpAny_noted ?_
  rw [compTurn2d_in]
  refine wpAny_bind (wpAny_standAt (wpAny_bind (wpAny_mono (turn n s hI) (fun r s₁ h₁ => ?_) fun _ _ h' => h')))
  cases r with
  | none => exact wpAny_pure h₁
  | some v =>
    refine wpAny_bind (wpAny_mono h₁ (fun _ s₁' h₁' => ?_) fun _ _ h' => h')
    refine wpAny_bind (wpAny_mono h₁' (fun _ s₂ h₂ => wpAny_bind (wpAny_mono h₂ (fun ok s₃ h₃ => ?_) fun _ _ h' => h')) fun _ _ h' => h')
    cases ok with
    | false => exact wpAny_pure ⟨rfl, h₃⟩
    | true =>
      exact wpAny_bind (wpAny_bind (thn h₃ fun k s5 h5 => wpAny_bind (wpAny_holding (thn h5 fun z s6 h6 => wpAny_bind (wpAny_standAt (wpAny_holding (thn h6 fun _ s7 h7 => wpAny_pure ⟨rfl, h7⟩)))))))
theorem compStart1d_ok (h0 : codeAny (model prog w) A (.compLoop (.DictComp kx vx [⟨t0, i0, ifs0, 0⟩, ⟨t1, i1, ifs1, 0⟩] scope pos) 1 it acc env) R s)
    (h : wpAny (model prog w) A (pyIter it) (fun it' s' => codeAny (model prog w) A (.compLoop (.DictComp kx vx [⟨t0, i0, ifs0, 0⟩, ⟨t1, i1, ifs1, 0⟩] scope pos) 1 it' acc env) R s')
      (notedBy (model prog w) A env fun x s' => R (.error x) s') s) :
    codeAny (model prog w) A (.compStart (.DictComp kx vx [⟨t0, i0, ifs0, 0⟩, ⟨t1, i1, ifs1, 0⟩] scope pos) 1 it acc env) R s := by
  refine codeAny_of_tree ?_
  show wpAny _ _ ((compStart (.DictComp kx vx [⟨t0, i0, ifs0, 0⟩, ⟨t1, i1, ifs1, 0⟩] scope pos) 1 it acc env).onRaise (fun x => do noteFrame x env; standAt theWindowsPlace)) _ _ s
  refine wpAny_notedAt ?_
  unfold compStart
  show wpAny _ _ (ask >>= _) _ _ s
  refine wpAny_bind (wpAny_askSetting (wpAny_ite ?_))
  split
  · first
      | exact wpAny_bind (wpAny_pure (wpAny_pure (And.intro rfl h0)))
      | exact wpAny_pure (And.intro rfl h0)
  · first
      | exact wpAny_bind (wpAny_rule (wpAny_bind (wpAny_standAt (wpAny_bind (wpAny_mono h (fun it' s' h' => wpAny_pure (And.intro rfl h')) fun _ _ x => x)))))
      | (refine wpAny_bind (wpAny_rule ?_); show wpAny _ _ (standAt i1.pos >>= _) _ _ s; exact wpAny_bind (wpAny_standAt (wpAny_bind (wpAny_mono h (fun it' s' h' => wpAny_pure (And.intro rfl h')) fun _ _ x => x))))
end
section
variable {X : Cx}
def tDc2 (new : HO) (wi : TI) (g : TG) (tt : TT) (wi1 : TI) (g1 : TG) (tt1 : TT) (tk tv : TE) (vs vs1 : List Nat) : TE := fun σ H Q => wi σ H fun J H1 => ∀ D, H1 D = none → ∃ W : Nat → Nat → Hp → Prop, (∃ m, W 0 m (upd H1 D new)) ∧ ∀ i m H, W i m H →
  (J.stop i H ∧ Q (.ref D) H) ∨ (J.go i H ∧ ∃ Nx : Hp → Prop, (∀ H', Nx H' → ∃ m', m' < m ∧ W (i + 1) m' H') ∧ ∀ x H', J.yld i H x H' → g x (wipe σ vs) H' fun σ2 H2 => wipe σ2 vs = wipe σ vs ∧ tt σ2 H2 fun b H3 =>
    if b = true then wi1 σ2 H3 fun J1 H4 => ∃ W1 : Nat → Nat → Hp → Prop, (∃ m, W1 0 m H4) ∧ ∀ j k H, W1 j k H →
      (J1.stop j H ∧ Nx H) ∨ (J1.go j H ∧ ∃ Nx1 : Hp → Prop, (∀ H', Nx1 H' → ∃ k', k' < k ∧ W1 (j + 1) k' H') ∧ ∀ x H', J1.yld j H x H' → g1 x (wipe σ2 vs1) H' fun σ3 H5 => wipe σ3 vs1 = wipe σ2 vs1 ∧ tt1 σ3 H5 fun b H6 =>
        if b = true then tk σ3 H6 fun y H7 => tv σ3 H7 fun z H8 => ∃ H9, DPut H8 D y z H9 ∧ Nx1 H9 else Nx1 H6)
    else Nx H3)
theorem dc2_core {pins : List (Addr × Obj)} {s : Shared} {σ : St} {H : Hp} {Q : VK} {kx vx tg iter tg1 iter1 : Expr} {ifs ifs1 : List Expr} {scope : Scope} {own : List (Str × Nat)} {vs1 : List Nat} {pos pos' : Pos} {wi wi1 : TI} {g g1 : TG} {tt tt1 : TT} {tk tv : TE} {new : HO} {use : Option (Value → Sem Unit)} {Qf : Value → Shared → Prop}
    (hc : X.calm = true) (hN : X.N.Nodup) (I : Inv X pins σ H s) (hi : PI X tg iter wi) (ok : BlkOk X.N X.env.scope scope own) (hv : ∀ i ∈ vs1, i ∈ own.map (·.2))
    (hg : ∀ (s : Shared) (H : Hp) (C : Addr) (cl : List (Str × Addr)) (fp : List Addr), PG (X.blk s H scope (compEnvC scope cl C X.env) fp) tg g) (ht : ∀ (s : Shared) (H : Hp) (C : Addr) (cl : List (Str × Addr)) (fp : List Addr), PTs (X.blk s H scope (compEnvC scope cl C X.env) fp) ifs tt)
    (he : ∀ (s : Shared) (H : Hp) (C : Addr) (cl : List (Str × Addr)) (fp : List Addr), PE (X.blk s H scope (compEnvC scope cl C X.env) fp) kx tk) (hvx : ∀ (s : Shared) (H : Hp) (C : Addr) (cl : List (Str × Addr)) (fp : List Addr), PE (X.blk s H scope (compEnvC scope cl C X.env) fp) vx tv) (hu : X.A.units + 1 < cLine) (hnew : new = .dK [] ∨ new = .dT []) (hs : ∀ x, foldedSetIterable iter X.env x = pure x)
    (hi1 : ∀ (s : Shared) (H : Hp) (C : Addr) (cl : List (Str × Addr)) (fp : List Addr), PI (X.blk s H scope (compEnvC scope cl C X.env) fp) tg1 iter1 wi1)
    (hg1 : ∀ (s : Shared) (H : Hp) (C : Addr) (cl : List (Str × Addr)) (fp : List Addr), PG (X.blk s H scope (compEnvC scope cl C X.env) fp) tg1 g1)
    (ht1 : ∀ (s : Shared) (H : Hp) (C : Addr) (cl : List (Str × Addr)) (fp : List Addr), PTs (X.blk s H scope (compEnvC scope cl C X.env) fp) ifs1 tt1)
    (hs1 : ∀ env x, foldedSetIterable iter1 env x = pure x)
    (h : tDc2 new wi g tt wi1 g1 tt1 tk tv (own.map (·.2)) vs1 σ H Q)
    (hRR : ∀ D C s' m H', Inv X pins σ H' s' → Q (.ref D) H' → s'.heap.Ns C m → FpOk X pins H' C → compPost (model X.prog X.w) X.A X.xe use Qf (.ref D) C (.ok .next) s') :
    wpAny (model X.prog X.w) X.A (comprehension (.DictComp kx vx [⟨tg, iter, ifs, 0⟩, ⟨tg1, iter1, ifs1, 0⟩] scope pos) scope X.env pos' newDict false (eval iter X.env) use) Qf X.xe s := by
  have hfree : ∀ y ∈ scope.names, y.2 = .free → ∃ c, X.env.cells.lookup y.1 = some c := fun y hy e => by
    rcases ok.free y hy e with k | k
    · exact I.ok.has _ (.inl k)
    · exact I.ok.has _ (.inr k)
  refine wpAny_comprehension_free (use := use) rfl hs (closure_ok hfree) ok.kind (fun y hy e => by rw [ok.uniq y hy, e])
    (thn (hi pins s σ H _ I h) fun xv s1 hx => thn hx fun itv s2 h2 => ?_)
  obtain ⟨it, fp, tn, J, H2, e, I2, T, st2, f2, q⟩ := h2
  subst e
  refine wpAny_newObj_type (newEnv_comp ?_) (by size_fits)
  generalize hD : s2.heap.objs.size = D
  have hDn : H2 D = none := I2.hok.fresh (Nat.le_of_eq hD)
  obtain ⟨W, ⟨m0, w0⟩, turn⟩ := q D hDn
  generalize hs3 : ({ s2 with heap := s2.heap.push { cls := .type "dict", data := .dict #[] } } : Shared) = s3
  have I3 : Inv X pins σ (upd H2 D new) s3 := by
    rw [← hs3]
    refine I2.laid (t' := s2.toks) (fun b o e => Heap.get?_push_of_some _ e) (Nat.le_of_eq hD) ?_
    rw [← hD]
    rcases hnew with rfl | rfl
    · exact dk_empty s2.heap I2.big
    · exact dt_empty s2.heap I2.big
  have h3 : s3.heap = s2.heap.push { cls := .type "dict", data := .dict #[] } := by rw [← hs3]
  have sz : ∀ b ∈ fp, b < s2.heap.objs.size := fun b hb => by
    obtain ⟨o, e, _⟩ := T.obj _ _ st2 b hb
    exact Heap.lt_size e
  have f3 : ∀ b ∈ fp, FpOk X pins (upd H2 D new) b ∧ b < s3.heap.objs.size := fun b hb => by
    have hlt := sz b hb
    refine ⟨⟨?_, (f2 b hb).2⟩, by rw [h3, Heap.size_push]; exact Nat.lt_succ_of_lt hlt⟩
    rw [upd_ne (by rw [← hD]; exact Nat.ne_of_lt hlt)]
    exact (f2 b hb).1
  have st3 : tn 0 s3.heap := T.keep _ _ _ st2 fun b _ o e => by rw [h3]; exact Heap.get?_push_of_some _ e
  have I4 := block_start I3 ok hN f3
  have pg := hg s3 (upd H2 D new) s3.heap.objs.size (cellsFrom (s3.heap.objs.size + 1) scope.names (cloFrom X.env.cells scope.names [])) fp
  have pt := ht s3 (upd H2 D new) s3.heap.objs.size (cellsFrom (s3.heap.objs.size + 1) scope.names (cloFrom X.env.cells scope.names [])) fp
  have pe := he s3 (upd H2 D new) s3.heap.objs.size (cellsFrom (s3.heap.objs.size + 1) scope.names (cloFrom X.env.cells scope.names [])) fp
  have pv := hvx s3 (upd H2 D new) s3.heap.objs.size (cellsFrom (s3.heap.objs.size + 1) scope.names (cloFrom X.env.cells scope.names [])) fp
  have pi1 := hi1 s3 (upd H2 D new) s3.heap.objs.size (cellsFrom (s3.heap.objs.size + 1) scope.names (cloFrom X.env.cells scope.names [])) fp
  have pg1 := hg1 s3 (upd H2 D new) s3.heap.objs.size (cellsFrom (s3.heap.objs.size + 1) scope.names (cloFrom X.env.cells scope.names [])) fp
  have pt1 := ht1 s3 (upd H2 D new) s3.heap.objs.size (cellsFrom (s3.heap.objs.size + 1) scope.names (cloFrom X.env.cells scope.names [])) fp
  show codeAny _ _ (.compStart (.DictComp kx vx [⟨tg, iter, ifs, 0⟩, ⟨tg1, iter1, ifs1, 0⟩] scope pos) 0 (.ref it) (.ref D) (compEnvC scope (cellsFrom (s3.heap.objs.size + 1) scope.names (cloFrom X.env.cells scope.names [])) s3.heap.objs.size X.env)) (compPost (model X.prog X.w) X.A X.xe use Qf (.ref D) s3.heap.objs.size) { s3 with heap := pushCells (s3.heap.push { cls := .type "dict", data := .dict #[] }) scope.names }
  have nfp : ∀ b ∈ fp, (upd H2 D new) b = none := fun b hb => (f3 b hb).1.1
  generalize hce : compEnvC scope (cellsFrom (s3.heap.objs.size + 1) scope.names (cloFrom X.env.cells scope.names [])) s3.heap.objs.size X.env = ce at I4 pg pt pe pv pi1 pg1 pt1 ⊢
  have cL : ce.locals = s3.heap.objs.size := by subst hce; rfl
  generalize hH3 : upd H2 D new = H3 at I3 I4 pg pt pe pv pi1 pg1 pt1 w0 nfp f3
  generalize hs4 : ({ s3 with heap := pushCells (s3.heap.push { cls := .type "dict", data := .dict #[] }) scope.names } : Shared) = s4 at I4 ⊢
  have st4 : tn 0 s4.heap := T.keep _ _ _ st3 fun b _ o e => by rw [← hs4]; exact pushCells_keeps _ _ _ _ (Heap.get?_push_of_some _ e)
  have stat : ∀ {σ' : St} {H' : Hp} {s' : Shared}, Inv (X.blk s3 H3 scope ce fp) [] σ' H' s' → (∀ b ∈ fp, H' b = none) → ∀ b ∈ fp, FpOk (X.blk s3 H3 scope ce fp) [] H' b := fun {σ' H' s'} I' hn b hb =>
    ⟨hn b hb, (I'.ok.exf b hb).1, I'.ok.exfs b hb, .inl hb, fun x c e => (I'.ok.exf b hb).2 x c e, fun p hp => absurd (show p ∈ ([] : List (Addr × Obj)) ++ [] from hp) (by simp)⟩
  have loop : codeAny (model X.prog X.w) X.A (.compLoop (.DictComp kx vx [⟨tg, iter, ifs, 0⟩, ⟨tg1, iter1, ifs1, 0⟩] scope pos) 0 (.ref it) (.ref D) ce) (compPost (model X.prog X.w) X.A X.xe use Qf (.ref D) s3.heap.objs.size) s4 := by
    refine compLoop2d_out (hs1 ce) (fun n s' => ∃ i H', Inv (X.blk s3 H3 scope ce fp) [] (wipe σ (own.map (·.2))) H' s' ∧ tn i s'.heap ∧ (∀ b ∈ fp, H' b = none) ∧ W i n H') ?_ m0 ⟨0, H3, I4, st4, nfp, w0⟩
    rintro n s5 ⟨i, H5, I5, st5, n5, w5⟩
    rcases turn i n H5 w5 with ⟨stop, qq⟩ | ⟨go, Nx, hNx, step⟩
    · have td := T.done (X.blk s3 H3 scope ce fp) rfl rfl rfl hc i [] s5 _ H5 (fun _ _ => False) I5 (stat I5 n5) st5 stop
      refine thnF td fun r s6 ⟨hr, I6⟩ => ?_
      subst hr
      have I7 : Inv X pins σ H5 s6 := I3.call' (ch := fp) I6.os I6.base I6.hok I6.bare fun b hb => ⟨(f3 b hb).1.2.2.2.1, (f3 b hb).1.2.1, (f3 b hb).1.2.2.2.2.1, (f3 b hb).1.2.2.2.2.2⟩
      have nC : H5 s3.heap.objs.size = none := by
        have z : H5 ce.locals = none := I6.free
        rw [cL] at z
        exact z
      obtain ⟨m, hn, _⟩ := I6.loc
      have hn : s6.heap.Ns ce.locals m := hn
      rw [cL] at hn
      exact hRR D s3.heap.objs.size s6 m H5 I7 qq hn (I3.fpOk (Nat.le_refl _) nC)
    · have ti := T.item (X.blk s3 H3 scope ce fp) rfl rfl rfl hc i [] s5 _ H5 (fun _ _ => False) I5 (stat I5 n5) st5 go
      refine thnF ti fun r s6 ⟨u, hr, h6⟩ => ?_
      subst hr
      refine thnF h6 fun _ s7 ⟨x, H7, I7, r7, y7, st7, n7⟩ => ?_
      have I7' := I7.pinned (stat I7 n7) (T.obj _ _ st7)
      refine thnF (pg _ s7 _ H7 x u _ I7' r7 (step x H7 y7)) fun _ s8 ⟨σ8, H8, I8, hw8, q8⟩ => ?_
      refine thnF (pt _ s8 σ8 H8 _ I8 q8) fun b s9 ⟨H9, I9, q9⟩ => ?_
      have fin : ∀ {σ9 : St} {s' : Shared} {H' : Hp}, Inv (X.blk s3 H3 scope ce fp) ([] ++ pinsAt fp s7.heap) σ9 H' s' → (wipe σ (own.map (·.2))).length = σ9.length → (∀ (j : Nat) v, (wipe σ (own.map (·.2)))[j]? = some (some v) → σ9[j]? = some (some v)) → Nx H' →
          ∃ m, m < n ∧ ∃ i H', Inv (X.blk s3 H3 scope ce fp) [] (wipe σ (own.map (·.2))) H' s' ∧ tn i s'.heap ∧ (∀ b ∈ fp, H' b = none) ∧ W i m H' := fun {σ9 s' H'} I' hl hk nx => by
        obtain ⟨m', hm, w'⟩ := hNx H' nx
        have pin' : ∀ b ∈ fp, ∀ o, s7.heap.get? b = some o → s'.heap.get? b = some o ∧ H' b = none := fun b hb o e =>
          let z := I'.pin (b, o) (List.mem_append_right _ (List.mem_append_right _ (mem_pinsAt hb e)))
          ⟨z.1, z.2.1⟩
        refine ⟨m', hm, i + 1, H', (I'.unpinned (pins := [])).weak hl hk, T.keep _ _ _ st7 fun b hb o e => (pin' b hb o e).1, fun b hb => ?_, w'⟩
        obtain ⟨o, e, _⟩ := T.obj _ _ st7 b hb
        exact (pin' b hb o e).2
      have hl8 : (wipe σ (own.map (·.2))).length = σ8.length := by rw [← hw8, wipe_length]
      have hk8 : ∀ (j : Nat) v, (wipe σ (own.map (·.2)))[j]? = some (some v) → σ8[j]? = some (some v) := fun j v e => by
        rw [← hw8] at e
        exact (wipe_some e).1
      have hk9 : ∀ (j : Nat) v, (wipe σ (own.map (·.2)))[j]? = some (some v) → (wipe σ8 vs1)[j]? = some (some v) := fun j v e => by
        rw [← hw8] at e
        obtain ⟨e1, e2⟩ := wipe_some e
        rw [wipe_out fun z => e2 (hv j z)]
        exact e1
      cases b with
      | false =>
        simp only [Bool.false_eq_true, if_false] at q9 ⊢
        exact fin I9 hl8 hk8 q9
      | true =>
        simp only [if_true] at q9 ⊢
        refine thnF (pi1 _ s9 σ8 H9 _ I9 q9) fun xv s10 hx => thnF hx fun itv s11 h11 => ?_
        obtain ⟨it1, fp1, tn1, J1, H11, e1, I11, T1, st11, f11, W1, ⟨m1, w1⟩, turn1⟩ := h11
        subst e1
        have stat1 : ∀ {H' : Hp}, (∀ b ∈ fp1, H' b = none) → ∀ b ∈ fp1, FpOk (X.blk s3 H3 scope ce fp) ([] ++ pinsAt fp s7.heap) H' b := fun hn b hb => ⟨hn b hb, (f11 b hb).2⟩
        have loop1 : codeAny (model X.prog X.w) X.A (.compLoop (.DictComp kx vx [⟨tg, iter, ifs, 0⟩, ⟨tg1, iter1, ifs1, 0⟩] scope pos) 1 (.ref it1) (.ref D) ce)
            (fun r s' => match r with
              | .ok _ => ∃ m, m < n ∧ ∃ i H', Inv (X.blk s3 H3 scope ce fp) [] (wipe σ (own.map (·.2))) H' s' ∧ tn i s'.heap ∧ (∀ b ∈ fp, H' b = none) ∧ W i m H'
              | .error _ => False) s11 := by
          refine compLoop2d_in (fun k s' => ∃ j H', Inv (X.blk s3 H3 scope ce fp) ([] ++ pinsAt fp s7.heap) (wipe σ8 vs1) H' s' ∧ tn1 j s'.heap ∧ (∀ b ∈ fp1, H' b = none) ∧ W1 j k H') ?_ m1 ⟨0, H11, I11.weak (wipe_length _ _) (fun j v e => (wipe_some e).1), st11, fun b hb => (f11 b hb).1, w1⟩
          rintro k s12 ⟨j, H12, I12, st12, n12, w12⟩
          rcases turn1 j k H12 w12 with ⟨stop1, nx1⟩ | ⟨go1, Nx1, hNx1, step1⟩
          · refine thnF (T1.done (X.blk s3 H3 scope ce fp) rfl rfl rfl hc j _ s12 (wipe σ8 vs1) H12 (fun _ _ => False) I12 (stat1 n12) st12 stop1) fun r s13 ⟨hr, I13⟩ => ?_
            subst hr
            exact fin I13 (hl8.trans (wipe_length σ8 vs1).symm) hk9 nx1
          · refine thnF (T1.item (X.blk s3 H3 scope ce fp) rfl rfl rfl hc j _ s12 (wipe σ8 vs1) H12 (fun _ _ => False) I12 (stat1 n12) st12 go1) fun r s13 ⟨u1, hr, h13⟩ => ?_
            subst hr
            refine thnF h13 fun _ s14 ⟨x1, H14, I14, r14, y14, st14, n14⟩ => ?_
            have I14' := I14.pinned (stat1 n14) (T1.obj _ _ st14)
            refine thnF (pg1 _ s14 (wipe σ8 vs1) H14 x1 u1 _ I14' r14 (step1 x1 H14 y14)) fun _ s15 ⟨σ15, H15, I15, hw15, q15⟩ => ?_
            refine thnF (pt1 _ s15 σ15 H15 _ I15 q15) fun b1 s16 ⟨H16, I16, q16⟩ => ?_
            have fin1 : ∀ {s' : Shared} {H' : Hp}, Inv (X.blk s3 H3 scope ce fp) (([] ++ pinsAt fp s7.heap) ++ pinsAt fp1 s14.heap) σ15 H' s' → Nx1 H' → ∃ m, m < k ∧ ∃ j H', Inv (X.blk s3 H3 scope ce fp) ([] ++ pinsAt fp s7.heap) (wipe σ8 vs1) H' s' ∧ tn1 j s'.heap ∧ (∀ b ∈ fp1, H' b = none) ∧ W1 j m H' := fun {s' H'} I' nx => by
              obtain ⟨m', hm, w'⟩ := hNx1 H' nx
              have pin' : ∀ b ∈ fp1, ∀ o, s14.heap.get? b = some o → s'.heap.get? b = some o ∧ H' b = none := fun b hb o e =>
                let z := I'.pin (b, o) (List.mem_append_right _ (List.mem_append_right _ (mem_pinsAt hb e)))
                ⟨z.1, z.2.1⟩
              refine ⟨m', hm, j + 1, H', I'.unpinned.weak (by rw [← hw15, wipe_length]) (fun j v e => by rw [← hw15] at e; exact (wipe_some e).1), T1.keep _ _ _ st14 fun b hb o e => (pin' b hb o e).1, fun b hb => ?_, w'⟩
              obtain ⟨o, e, _⟩ := T1.obj _ _ st14 b hb
              exact (pin' b hb o e).2
            cases b1 with
            | false =>
              simp only [Bool.false_eq_true, if_false] at q16 ⊢
              exact fin1 I16 q16
            | true =>
              simp only [if_true] at q16 ⊢
              refine thnF (pe _ s16 σ15 H16 _ I16 q16) fun z s17 ⟨yv, H17, I17, r17, q17⟩ => ?_
              refine thnF (pv _ s17 σ15 H17 _ I17 q17) fun z2 s18 ⟨zv, H18, I18, r18, H19, g19, nx⟩ => ?_
              exact d_dictSet (X := X.blk s3 H3 scope ce fp) hu I18 g19 r17 r18 fun s20 I20 => fin1 I20 nx
        exact compStart1d_ok loop1 (T1.self X.A 0 _ _ _ st11 loop1)
  exact codeAny_compStart_dict loop (T.self X.A 0 _ _ _ st4 loop)
theorem pe_dc2 {kx vx tg iter tg1 iter1 : Expr} {ifs ifs1 : List Expr} {scope : Scope} {own : List (Str × Nat)} {vs1 : List Nat} {pos : Pos} {wi wi1 : TI} {g g1 : TG} {tt tt1 : TT} {tk tv : TE} {new : HO} (hc : X.calm = true) (hN : X.N.Nodup) (hi : PI X tg iter wi) (ok : BlkOk X.N X.env.scope scope own) (hv : ∀ i ∈ vs1, i ∈ own.map (·.2))
    (hg : ∀ (s : Shared) (H : Hp) (C : Addr) (cl : List (Str × Addr)) (fp : List Addr), PG (X.blk s H scope (compEnvC scope cl C X.env) fp) tg g) (ht : ∀ (s : Shared) (H : Hp) (C : Addr) (cl : List (Str × Addr)) (fp : List Addr), PTs (X.blk s H scope (compEnvC scope cl C X.env) fp) ifs tt)
    (hi1 : ∀ (s : Shared) (H : Hp) (C : Addr) (cl : List (Str × Addr)) (fp : List Addr), PI (X.blk s H scope (compEnvC scope cl C X.env) fp) tg1 iter1 wi1)
    (hg1 : ∀ (s : Shared) (H : Hp) (C : Addr) (cl : List (Str × Addr)) (fp : List Addr), PG (X.blk s H scope (compEnvC scope cl C X.env) fp) tg1 g1) (ht1 : ∀ (s : Shared) (H : Hp) (C : Addr) (cl : List (Str × Addr)) (fp : List Addr), PTs (X.blk s H scope (compEnvC scope cl C X.env) fp) ifs1 tt1)
    (he : ∀ (s : Shared) (H : Hp) (C : Addr) (cl : List (Str × Addr)) (fp : List Addr), PE (X.blk s H scope (compEnvC scope cl C X.env) fp) kx tk) (hvx : ∀ (s : Shared) (H : Hp) (C : Addr) (cl : List (Str × Addr)) (fp : List Addr), PE (X.blk s H scope (compEnvC scope cl C X.env) fp) vx tv) (hu : X.A.units + 1 < cLine) (hnew : new = .dK [] ∨ new = .dT []) (hs : ∀ x, foldedSetIterable iter X.env x = pure x := by intro _; rfl) (hs1 : ∀ env x, foldedSetIterable iter1 env x = pure x := by intro _ _; rfl) :
    PE X (.DictComp kx vx [⟨tg, iter, ifs, 0⟩, ⟨tg1, iter1, ifs1, 0⟩] scope pos) (tDc2 new wi g tt wi1 g1 tt1 tk tv (own.map (·.2)) vs1) := by
  intro pins s σ H Q I h
  rw [arm_eval_DictComp]
  refine dc2_core hc hN I hi ok hv hg ht he hvx hu hnew hs hi1 hg1 ht1 hs1 h fun D C s' m H' I' q hn f => ⟨m, hn, fun h'' sb => ?_⟩
  obtain ⟨f0, f1, f2, f3, f4, f5⟩ := f
  exact ⟨.ref D, H', I'.turned (t' := s'.toks) (fun b o hb e => (sb.2 b hb).trans e) f0 f1 f3 f4 f5, rfl, q⟩end
end L2
end
section
set_option Elab.async false
set_option linter.all false
set_option maxRecDepth 100000
set_option autoImplicit false
namespace L2
open PySem PySem.Spec PyProof.Rows
structure Drw (prog : Program) (w : World) (j l : Addr) (St : Nat → Heap → Prop) (item : Nat → Option Value) : Prop where
  stay : ∀ (k : Nat) (h h' : Heap), St k h → (∀ o, h.get? j = some o → h'.get? j = some o) → (∀ o, h.get? l = some o → h'.get? l = some o) → St k h'
  here : ∀ (k : Nat) (h : Heap), St k h → j < h.objs.size
  next : ∀ (A : Around) (E : Value → Shared → Prop) (s : Shared) (Q : Value → Shared → Prop) (k : Nat) (x : Value), St k s.heap → item k = some x → (∀ h', St (k + 1) h' → Heap.SameBut j s.heap h' → Q x { s with heap := h' }) →
    wpAny (model prog w) A (Builtin.SmallTypes.nextOf (.ref j)) Q E s
  stop : ∀ (A : Around) (E : Value → Shared → Prop) (s : Shared) (Q : Value → Shared → Prop) (k : Nat), A.handled = none → St k s.heap → item k = none →
    (∀ h' e, Heap.ExtBut j s.heap h' → (∃ o, h'.get? e = some o ∧ o.cls = .type "StopIteration") → E (.ref e) { s with heap := h' }) → wpAny (model prog w) A (Builtin.SmallTypes.nextOf (.ref j)) Q E s
theorem drw_tuple {prog : Program} {w : World} {j l : Addr} (ne : l ≠ j) (its : Array Value) : Drw prog w j l (fun k h => IsTupIter h j l k ∧ IsTup h l its) (fun k => its[k]?) where
  stay := fun k h h' ⟨⟨o, ho, r⟩, ⟨u, hu, r'⟩⟩ e1 e2 => ⟨⟨o, e1 o ho, r⟩, ⟨u, e2 u hu, r'⟩⟩
  here := fun k h ⟨⟨o, ho, _⟩, _⟩ => Heap.lt_size ho
  next := fun A E s Q k x ⟨hj, hl⟩ hx hq => by
    obtain ⟨o, ho, hc, hd⟩ := id hj
    obtain ⟨u, hu, hcu, n, hdu⟩ := id hl
    have go : wpAny (model prog w) A.in1 (Builtin.«tuple_iterator.__next__» ⟨[.ref j], []⟩) (fun fin s' => ∃ v, fin = .done (.ret v) ∧ Q v s') E s := by
      show wpAny _ _ (field (.ref j) 0 >>= _) _ _ s; refine wpAny_bind (wpAny_field ho hd (x := .ref l) rfl ?_)
      show wpAny _ _ (if (Value.ref l == Value.none) = true then _ else _) _ _ s; rw [if_neg (show ¬ (Value.ref l == Value.none) = true from Bool.false_ne_true)]
      show wpAny _ _ (field (.ref j) 1 >>= _) _ _ s; refine wpAny_bind (wpAny_field ho hd (x := .int k 0) rfl ?_)
      show wpAny _ _ (seqItems? (.ref l) >>= _) _ _ s; refine wpAny_bind (wpAny_seqItems hu hdu ?_)
      simp only [Int.toNat_natCast, hx]
      have sb : Heap.SameBut j s.heap (s.heap.update j (Obj.mapFields (·.setIfInBounds 1 (rawInt ((k : Int) + 1))))) := Heap.SameBut.update ..
      refine wpAny_bind (wpAny_setField ho hd (by simp) (wpAny_pure ⟨x, rfl, hq _ ⟨⟨_, Heap.get?_update_self _ ho (Obj.isFreed_of_fields (Obj.data_mapFields hd _)), ?_, ?_⟩, ⟨u, (sb.2 l ne).trans hu, hcu, n, hdu⟩⟩ sb⟩))
      · exact (Obj.cls_mapFields _ _).trans hc
      · rw [Obj.data_mapFields hd]; simp [rawInt]
    unfold Builtin.SmallTypes.nextOf
    refine wpAny_bind (wpAny_callSpecial?_slot (name := Str.ofString "__next__") hj.typeIs slot_tupleiter_next (wpAny_call_entry slot_tupleiter_next hj.typeIs entry_tupleiter_next ?_ (args_tupleiter_next _)))
    exact thn go fun fin s' ⟨v, e, q⟩ => ⟨v, e, wpAny_pure q⟩
  stop := fun A E s Q k hh ⟨hj, hl⟩ hx hE => by
    obtain ⟨o, ho, hc, hd⟩ := id hj
    obtain ⟨u, hu, hcu, n, hdu⟩ := id hl
    unfold Builtin.SmallTypes.nextOf
    refine wpAny_bind (wpAny_callSpecial?_slot (name := Str.ofString "__next__") hj.typeIs slot_tupleiter_next (wpAny_call_entry slot_tupleiter_next hj.typeIs entry_tupleiter_next ?_ (args_tupleiter_next _)))
    show wpAny _ _ (field (.ref j) 0 >>= _) _ _ s; refine wpAny_bind (wpAny_field ho hd (x := .ref l) rfl ?_)
    show wpAny _ _ (if (Value.ref l == Value.none) = true then _ else _) _ _ s; rw [if_neg (show ¬ (Value.ref l == Value.none) = true from Bool.false_ne_true)]
    show wpAny _ _ (field (.ref j) 1 >>= _) _ _ s; refine wpAny_bind (wpAny_field ho hd (x := .int k 0) rfl ?_)
    show wpAny _ _ (seqItems? (.ref l) >>= _) _ _ s; refine wpAny_bind (wpAny_seqItems hu hdu ?_)
    simp only [Int.toNat_natCast, hx]
    refine wpAny_bind (wpAny_rule (wpAny_bind (wpAny_setField ho hd (by simp) ?_)))
    show wpAny _ _ (newExc (.type "StopIteration") [] >>= _) _ _ _; refine wpAny_bind ?_; simp only [newExc, newTuple]
    refine wpAny_bind (wpAny_newObj_type ?_ (by size_fits)); refine wpAny_bind (m := firstArgMember _ _) (wpAny_of_eq (a := Value.none) (by first | rfl | (simp only [firstArgMember]; rfl)) ?_)
    refine wpAny_newObj_type ?_ (by size_fits); simp only [raiseNew]
    refine wpAny_bind (wpAny_handled ?_); first | rw [show A.in1.handled = none from hh] | rw [hh]
    refine wpAny_bind (wpAny_pure (wpAny_throw (hE _ _ (((Heap.SameBut.update ..).extBut.push _).push _) ⟨_, Heap.get?_push_size _ rfl, rfl⟩)))
section
variable {prog : Program} {w : World} {A : Around} {E : Value → Shared → Prop} {s : Shared} {z TI TO i1 i2 l1 l2 : Addr} {S1 S2 : Nat → Heap → Prop} {m1 m2 : Nat → Option Value} {k : Nat} {x y a b : Value}
end
end L2
end
section
set_option Elab.async false
set_option linter.all false
set_option maxRecDepth 100000
set_option autoImplicit false
namespace L2
open PySem PySem.Spec PyProof.Rows
abbrev zt1 (h : Heap) (l1 : Addr) : Heap := h.push { cls := .type "tuple_iterator", data := .fields #[.ref l1, .int 0 0] }
section
variable {prog : Program} {w : World} {A : Around} {E : Value → Shared → Prop} {s : Shared}
end
def Itzt (K : PySem.W.Frag) (a b : Addr) : It :=
  ⟨fun i H => ∃ (xs ys : List V) (x y : V), SqT K H a xs ∧ SqT K H b ys ∧ xs[i]? = some x ∧ ys[i]? = some y,
    fun i H v H' => ∃ T x y, v = .ref T ∧ H T = none ∧ H' = upd H T (.tup [x, y]) ∧ (∀ xs, SqT K H a xs → xs[i]? = some x) ∧ ∀ ys, SqT K H b ys → ys[i]? = some y,
    fun i H => ∃ xs ys : List V, SqT K H a xs ∧ SqT K H b ys ∧ (xs.length ≤ i ∨ ys.length ≤ i)⟩
def iZipT (K : PySem.W.Frag) (ta : TA) : TI := fun σ H R => ta σ H fun vs H1 => ∃ a b xs ys, vs = [.ref a, .ref b] ∧ SqT K H1 a xs ∧ SqT K H1 b ys ∧ R (Itzt K a b) H1
end L2
end
section
set_option Elab.async false
set_option linter.all false
set_option maxRecDepth 100000
set_option autoImplicit false
namespace L2
open PySem PySem.Spec PyProof.Rows
theorem drs_tuple {prog : Program} {w : World} {A : Around} (hh : A.handled = none) (it l : Addr) (ne : l ≠ it) (its : Array Value) :
    Draws prog w A it [it, l] its.size (fun i v => its[i]? = some v) (fun i h => IsTupIter h it l i ∧ IsTup h l its) where
  live := fun _ _ st => let ⟨⟨o, ho, _⟩, _⟩ := st; ⟨o, ho⟩
  frame := fun i h h' st hk => (drw_tuple (prog := prog) (w := w) ne its).stay i h h' st (fun o e => hk it (by simp) o e) (fun o e => hk l (by simp) o e)
  item := fun i s Q E hi st hQ => (drw_tuple ne its).next A E s Q i its[i] st (by simp [hi]) fun h' st' sb => hQ its[i] h' s.toks (by simp [hi]) st' sb
  done := fun s Q E st hE => (drw_tuple ne its).stop A E s Q its.size hh st (by simp) hE
theorem et_new (l : Addr) (xs : Array Value) :
    Meets (Builtin.«enumerate.__new__» ⟨[.type "enumerate", .ref l], []⟩) (fun _ R s => IsTup s.heap l xs ∧ R (.ok (.ret (.ref (zt1 s.heap l).objs.size)))
      { s with heap := (zt1 s.heap l).push { cls := .type "enumerate", data := .fields #[.none, .bool false, .ref s.heap.objs.size, rawInt 0, .none, .none] } }) :=
  .of_wp fun prog w A R s h => by
    obtain ⟨hp, g, d, tk, os⟩ := s; obtain ⟨q1, h⟩ := h
    have hsub := sub_enumerate
    have t1 : IsTup (Shared.heap ⟨hp, g, d, tk, os⟩) l xs := q1
    wp_walk
    refine wpAny_stack_any fun st => wpAny_pure ?_
    split
    · rename_i c _ _ _ _ _
      cases (c == Value.type "enumerate")
      · wp_walk using iter_tuple t1
        exact ⟨_, rfl, h⟩
      · wp_walk using iter_tuple t1
        exact ⟨_, rfl, h⟩
    · wp_walk using iter_tuple t1
      exact ⟨_, rfl, h⟩
section
variable {prog : Program} {w : World} {A : Around} {E : Value → Shared → Prop} {s : Shared}
theorem et_call {l : Addr} {xs : Array Value} {Q : Value → Shared → Prop} (q1 : IsTup s.heap l xs)
    (h : ∀ h', IsEnum h' (s.heap.objs.size + 1) s.heap.objs.size 0 .none → IsTupIter h' s.heap.objs.size l 0 → (∀ c o, s.heap.get? c = some o → h'.get? c = some o) → Q (.ref (s.heap.objs.size + 1)) { s with heap := h' }) :
    wpAny (model prog w) A (call (.type "enumerate") [.ref l]) Q E s := by
  refine callType_new F.called_enumerate (by decide) (F.typeCall_enumerate_1 _) (F.newCall_enumerate_1 _) (fun obj => F.args_object_init_2 obj _) F.entry_enumerate_new (et_new l xs) ⟨q1, ?_⟩
  have hz : (zt1 s.heap l).objs.size = s.heap.objs.size + 1 := Heap.size_push ..
  show _ ∧ _
  rw [hz]
  have he : IsEnum ((zt1 s.heap l).push { cls := .type "enumerate", data := .fields #[.none, .bool false, .ref s.heap.objs.size, rawInt 0, .none, .none] }) (s.heap.objs.size + 1) s.heap.objs.size 0 .none := by
    have := Heap.get?_push_size (zt1 s.heap l) (o := { cls := .type "enumerate", data := .fields #[.none, .bool false, .ref s.heap.objs.size, rawInt 0, .none, .none] }) rfl
    rw [hz] at this; exact this
  exact ⟨⟨_, he, rfl⟩, h _ he ⟨_, Heap.get?_push_of_some _ (Heap.get?_push_size _ rfl), rfl, rfl⟩ fun c o x => Heap.get?_push_of_some _ (Heap.get?_push_of_some _ x)⟩
end
def Itet (K : PySem.W.Frag) (a : Addr) : It :=
  ⟨fun i H => ∃ (xs : List V) (x : V), SqT K H a xs ∧ xs[i]? = some x, fun i H v H' => ∃ T x, v = .ref T ∧ H T = none ∧ H' = upd H T (.tup [.int (i : Nat), x]) ∧ ∀ xs, SqT K H a xs → xs[i]? = some x, fun i H => ∃ xs : List V, SqT K H a xs ∧ xs.length ≤ i⟩
theorem turn_et {P : Program} {w : World} {K : PySem.W.Frag} {elts : List Expr} {kk : Nat} {tpos : Pos} {a e it : Addr} (hne : e ≠ it) (hea : e ≠ a) (hia : a ≠ it) :
    Turn P w K (.Tuple elts kk tpos) (Itet K a) [e, it] e (fun i h => (∃ old, IsEnum h e it ((i : Nat) : Int) old) ∧ IsTupIter h it a i) where
  mem := by simp
  obj := fun i h st b hb => by
    obtain ⟨⟨old, he⟩, ⟨o, ho, hc, hd⟩⟩ := st
    have e' : b = e ∨ b = it := by simpa using hb
    rcases e' with z | z
    · rw [z]; exact ⟨_, he, fun v q => nomatch q⟩
    · rw [z]; exact ⟨o, ho, fun v q => by rw [hd] at q; cases q⟩
  keep := fun i h h' st k => let ⟨⟨old, he⟩, ⟨o, ho, r⟩⟩ := st; ⟨⟨old, k e (by simp) _ he⟩, ⟨o, k it (by simp) _ ho, r⟩⟩
  item := by
    intro X hP hw hK hc i pins s σ H E I hf st hg
    subst hP hw hK
    obtain ⟨⟨old, he⟩, hit⟩ := st
    obtain ⟨xs, x, hq, hx⟩ := hg
    obtain ⟨its, rv, p, hz⟩ := I.tuple hq
    obtain ⟨u, hu, ru⟩ := rv.get hx
    have hel : e < s.heap.objs.size := Heap.lt_size he
    have hil : it < s.heap.objs.size := by obtain ⟨_, q, _⟩ := hit; exact Heap.lt_size q
    refine wpAny_pyNext_enum_itemD (drs_tuple (A := X.A.in1) (show X.A.in1.handled = none from I.ok.hd hc) it a hia its.toArray) he ⟨hit, p⟩ (by have := List.getElem?_eq_some_iff.mp hu; simpa using this.1) hne (by simp; exact ⟨hne, hea⟩) fun y h' tk py ho hit' hT hsz hk => ?_
    obtain rfl : y = u := by
      have e1 : its.toArray[i]? = some u := by simpa using hu
      rw [e1] at py
      exact (Option.some.inj py).symm
    refine ⟨_, rfl, wpAny_letOwnedTupleGo_enum (s := { s with heap := h', toks := tk + 1 }) ho fun h'' he' sb => ?_⟩
    have hT2 : h''.get? s.heap.objs.size = some { cls := .type "tuple", data := .seq #[.int i tk, y] } := (sb.2 _ (Nat.ne_of_gt hel)).trans hT
    have new : ObjOk X.prog X.w (upd H s.heap.objs.size (.tup [.int (i : Nat), x])) h'' s.heap.objs.size (.tup [.int (i : Nat), x]) :=
      ⟨by show 2 ≤ sizeLine; decide, [.int i tk, y], .cons ⟨_, rfl⟩ (.cons ru .nil), ⟨_, hT2, rfl, _, rfl⟩⟩
    have I1 : Inv X pins σ (upd H s.heap.objs.size (.tup [.int (i : Nat), x])) { s with heap := h'', toks := tk + 1 } :=
      I.turnedNew (ch := [e, it]) (fun b ob hb q => (sb.2 b (fun z => hb (by simp [z]))).trans (hk b ob (fun z => hb (by simp [z])) (fun z => hb (by simp [z])) q)) hf (Nat.le_refl _) new
    refine ⟨.ref s.heap.objs.size, _, I1, rfl, ⟨_, x, rfl, I.hok.fresh (Nat.le_refl _), rfl, fun ys hy => by rw [I.tuple_inj hy hq]; exact hx⟩, ⟨⟨y, ?_⟩, ?_⟩, fun b hb => ?_⟩
    · have e1 : ((i + 1 : Nat) : Int) = (i : Int) + 1 := by omega
      rw [e1]; exact he'
    · obtain ⟨⟨o, q, r⟩, _⟩ := hit'
      exact ⟨o, (sb.2 it (Ne.symm hne)).trans q, r⟩
    · have hb' : b < s.heap.objs.size := by
        have e' : b = e ∨ b = it := by simpa using hb
        rcases e' with z | z
        · rw [z]; exact hel
        · rw [z]; exact hil
      rw [upd_ne (Nat.ne_of_lt hb')]
      exact (hf b hb).1
  done := by
    intro X hP hw hK hc i pins s σ H E I hf st hg
    subst hP hw hK
    obtain ⟨⟨old, he⟩, hit⟩ := st
    obtain ⟨xs, hq, hx⟩ := hg
    obtain ⟨its, rv, p, hz⟩ := I.tuple hq
    obtain ⟨f0, f1, f2, f3, f4, f5⟩ := hf it (by simp)
    have hl := rv.length
    have D := drw_tuple (prog := X.prog) (w := X.w) (j := it) (l := a) hia its.toArray
    have D2 : Draws X.prog X.w X.A.in1 it [it, a] i (fun i v => False) (fun k h => k = i ∧ IsTupIter h it a i ∧ IsTup h a its.toArray) := ⟨fun _ _ st => let ⟨_, ⟨o, ho, _⟩, _⟩ := st; ⟨o, ho⟩, fun k h h' st hk => ⟨st.1, D.stay i h h' st.2 (fun o e => hk it (by simp) o e) (fun o e => hk a (by simp) o e)⟩,
      fun k s Q E hk st _ => absurd st.1 (Nat.ne_of_lt hk), fun s Q E st hE => D.stop X.A.in1 E s Q i (I.ok.hd hc) st.2 (by simp; omega) hE⟩
    exact wpAny_pyNext_enum_endD D2 he ⟨rfl, hit, p⟩ fun h' eb => ⟨rfl, I.turned (t' := s.toks) (fun b o hb q => eb b o hb q) f0 f1 f3 f4 f5⟩
  self := fun A i s Q E st h => let ⟨⟨_, he⟩, _⟩ := st; wpAny_pyIter_enum he h
def iEnumT (K : PySem.W.Frag) (ta : TA) : TI := fun σ H R => ta σ H fun vs H1 => ∃ a xs, vs = [.ref a] ∧ SqT K H1 a xs ∧ R (Itet K a) H1
theorem pi_enumT {X : Cx} {e : Expr} {ta : TA} {p pos tpos : Pos} {elts : List Expr} {kk : Nat} (hg : Gl X "enumerate") (hm : X.mg "enumerate" = none) (ha : PA X [e] ta) (hs : starEach [e] X.env = [(false, eval e X.env)] := by rfl) :
    PI X (.Tuple elts kk tpos) (.Call (.Name "enumerate" p) [e] [] pos) (iEnumT X.K ta) := by
  intro pins s σ H R I h
  refine Call_ (ld_blt I hg hm boot_enumerate (PyProof.Rows.callWith_type1 (thn (ha pos pins s σ H _ I h) fun us s1 ⟨vs, H1, I1, r1, q1⟩ => ?_) hs rfl))
  obtain ⟨a, xs, ex, hq, q⟩ := q1
  subst ex
  cases r1 with
  | cons r rr =>
    cases rr
    cases r
    obtain ⟨its, rv, p', hz⟩ := I1.tuple hq
    have hal : a < s1.heap.objs.size := p'.lt
    refine et_call p' fun h' he hit hk => wpAny_pyIter_enum he ?_
    have I2 : Inv X pins σ H1 { s1 with heap := h' } := I1.kept (t' := s1.toks) hk
    refine ⟨s1.heap.objs.size + 1, [s1.heap.objs.size + 1, s1.heap.objs.size], _, _, H1, rfl, I2, turn_et (Nat.succ_ne_self _) (Nat.ne_of_gt (Nat.lt_succ_of_lt hal)) (Nat.ne_of_lt hal), ⟨⟨.none, he⟩, hit⟩, fun b hb => ?_, q⟩
    have e' : b = s1.heap.objs.size + 1 ∨ b = s1.heap.objs.size := by simpa using hb
    have hle : s1.heap.objs.size ≤ b := by
      rcases e' with z | z
      · rw [z]; exact Nat.le_succ _
      · rw [z]; exact Nat.le_refl _
    exact I1.fpOk hle (I1.hok.fresh hle)
theorem Z.enmT {X : Cx} {e : Expr} {ta : TA} {p pos tpos : Pos} {elts : List Expr} {kk : Nat} (hm : X.mg "enumerate" = none) (ha : ZA X [e] ta) (hg : X.env.kindOf "enumerate" = some .globalImplicit := by kernel_rfl) (hs : starEach [e] X.env = [(false, eval e X.env)] := by kernel_rfl) :
    ZI X (.Tuple elts kk tpos) (.Call (.Name "enumerate" p) [e] [] pos) (iEnumT X.K ta) := ⟨pi_enumT hg hm ha.h hs⟩
end L2
end
section
set_option Elab.async false
set_option linter.all false
set_option maxRecDepth 100000
set_option autoImplicit false
namespace L2.Z
open PySem PySem.Spec PyProof.Rows
theorem dc2 {X : Cx} {pos : Pos} {tg iter tg1 iter1 : Expr} {wi wi1 : TI} {g g1 : TG} {tt tt1 : TT} {tk tv : TE} (new : HO) {kx vx : Expr} {ifs ifs1 : List Expr} {scope : Scope} {own : List (Str × Nat)} {vs1 : List Nat} (hu : X.A.units + 64 < cLine) (hnew : new = .dK [] ∨ new = .dT []) (hc : X.calm = true) (nd : X.N.Nodup) (hi : ZI X tg iter wi) (ok : BlkOk X.N X.env.scope scope own) (hv : ∀ i ∈ vs1, i ∈ own.map (·.2))
    (hg : ∀ (s : Shared) (H : Hp) (C : Addr) (cl : List (Str × Addr)) (fp : List Addr), ZG (X.blk s H scope (compEnvC scope cl C X.env) fp) tg g) (ht : ∀ (s : Shared) (H : Hp) (C : Addr) (cl : List (Str × Addr)) (fp : List Addr), ZTs (X.blk s H scope (compEnvC scope cl C X.env) fp) ifs tt)
    (hi1 : ∀ (s : Shared) (H : Hp) (C : Addr) (cl : List (Str × Addr)) (fp : List Addr), ZI (X.blk s H scope (compEnvC scope cl C X.env) fp) tg1 iter1 wi1)
    (hg1 : ∀ (s : Shared) (H : Hp) (C : Addr) (cl : List (Str × Addr)) (fp : List Addr), ZG (X.blk s H scope (compEnvC scope cl C X.env) fp) tg1 g1) (ht1 : ∀ (s : Shared) (H : Hp) (C : Addr) (cl : List (Str × Addr)) (fp : List Addr), ZTs (X.blk s H scope (compEnvC scope cl C X.env) fp) ifs1 tt1)
    (he : ∀ (s : Shared) (H : Hp) (C : Addr) (cl : List (Str × Addr)) (fp : List Addr), ZE (X.blk s H scope (compEnvC scope cl C X.env) fp) kx tk) (hvx : ∀ (s : Shared) (H : Hp) (C : Addr) (cl : List (Str × Addr)) (fp : List Addr), ZE (X.blk s H scope (compEnvC scope cl C X.env) fp) vx tv)
    (hs : ∀ x, foldedSetIterable iter X.env x = pure x := by intro _; kernel_rfl) (hs1 : ∀ env x, foldedSetIterable iter1 env x = pure x := by intro _ _; kernel_rfl) :
    ZE X (.DictComp kx vx [⟨tg, iter, ifs, 0⟩, ⟨tg1, iter1, ifs1, 0⟩] scope pos) (tDc2 new wi g tt wi1 g1 tt1 tk tv (own.map (·.2)) vs1) :=
  ⟨pe_dc2 hc nd hi.h ok hv (fun s H C cl fp => (hg s H C cl fp).h) (fun s H C cl fp => (ht s H C cl fp).h) (fun s H C cl fp => (hi1 s H C cl fp).h) (fun s H C cl fp => (hg1 s H C cl fp).h) (fun s H C cl fp => (ht1 s H C cl fp).h) (fun s H C cl fp => (he s H C cl fp).h) (fun s H C cl fp => (hvx s H C cl fp).h) (Nat.lt_of_le_of_lt (by omega) hu) hnew hs hs1⟩
end L2.Z
namespace TV
open PySem L2 KB
section
variable {te ta tb tl tl1 : TE} {tt tt1 : TT} {ts : TA} {t u : TS} {σ : St} {H : Hp} {P P' : V → Hp → Prop} {Q : VK} {N C : Sets} {A B T : Type} {R : Rep A} {S : Rep B} {x : A} {y : B} {i j : Int} {b c : Bool} {K : PySem.W.Frag} {D : Ends} {n : Nat} {g g1 : TG} {vs vs1 : List Nat}
namespace ev
theorem dget {L : Type} [DecidableEq L] {k : Ke L} {td ty : TE} {m : List (L × A)} {q : L} (hd : Ev td σ H ((aD k R).r N m)) (hq : Ev ty σ H (k.R.r N q)) (h : look m q = some x) : Ev (tDGet td ty) σ H (R.r N x) := fun H1 s Q kk =>
  hd H1 s _ fun v H2 s2 p => hq H2 (s.trans s2) _ fun w H3 s3 p3 => by
    obtain ⟨a, kvs, rfl, _, h1, t⟩ := (aD k R).sm s3 p
    obtain ⟨b, rfl, _, h2⟩ := k.out p3
    rcases rows_look t q with ⟨e, _⟩ | ⟨y, v, e, e', f⟩
    · rw [h] at e; cases e
    · rw [h] at e; cases e
      exact ⟨a, v, rfl, .inr ⟨kvs, _, b, h1, rfl, h2, e'.symm⟩, kk v H3 (s2.trans s3) f⟩
theorem din {L : Type} [DecidableEq L] {k : Ke L} {td ty : TE} {m : List (L × A)} {q : L} (hd : Ev td σ H ((aD k R).r N m)) (hq : Ev ty σ H (k.R.r N q)) : Ev (tDIn ty td) σ H (aB.r N (look m q).isSome) := fun H1 s Q kk =>
  hq H1 s _ fun w H2 s2 p3 => hd H2 (s.trans s2) _ fun v H3 s3 p => by
    obtain ⟨a, kvs, rfl, _, h1, t⟩ := p
    obtain ⟨b, rfl, _, h2⟩ := k.out (k.R.sm s3 p3)
    exact ⟨a, _, rfl, .inr ⟨kvs, _, b, h1, rfl, h2, rfl⟩, kk _ H3 (s2.trans s3) (by rw [rows_isSome t q]; rfl)⟩
theorem dnotin {L : Type} [DecidableEq L] {k : Ke L} {td ty : TE} {m : List (L × A)} {q : L} (hd : Ev td σ H ((aD k R).r N m)) (hq : Ev ty σ H (k.R.r N q)) : Ev (tDNotIn ty td) σ H (aB.r N (look m q).isNone) := fun H1 s Q kk =>
  hq H1 s _ fun w H2 s2 p3 => hd H2 (s.trans s2) _ fun v H3 s3 p => by
    obtain ⟨a, kvs, rfl, _, h1, t⟩ := p
    obtain ⟨b, rfl, _, h2⟩ := k.out (k.R.sm s3 p3)
    exact ⟨a, _, rfl, .inr ⟨kvs, _, b, h1, rfl, h2, rfl⟩, kk _ H3 (s2.trans s3) (by rw [rows_isSome t q]; cases look m q <;> rfl)⟩
theorem dget2 {L : Type} [DecidableEq L] {k : Ke L} {td ty tx : TE} {m : List (L × A)} {q : L} (hd : Ev td σ H ((aD k R).r N m)) (hq : Ev ty σ H (k.R.r N q)) (hx : Ev tx σ H (R.r N x)) : Ev (tDGet2 td ty tx) σ H (R.r N ((look m q).getD x)) := fun H1 s Q kk =>
  hd H1 s _ fun v H2 s2 p => by
    obtain ⟨a, kvs, rfl, na, h1, t⟩ := p
    refine ⟨a, rfl, .inr ⟨kvs, h1⟩, hq H2 (s.trans s2) _ fun w H3 s3 p3 => hx H3 ((s.trans s2).trans s3) _ fun u H4 s4 p4 => ?_⟩
    obtain ⟨b, rfl, _, h2⟩ := k.out (k.R.sm s4 p3)
    have s34 := s3.trans s4
    have t4 : RowsT k R N H4 m kvs := t.imp fun _ _ z => ⟨z.1, R.sm s34 z.2⟩
    refine ⟨_, .inr ⟨kvs, _, b, s34.rd noTb_dT h1, rfl, h2, rfl⟩, ?_⟩
    rcases rows_look t4 q with ⟨e, e'⟩ | ⟨y, v, e, e', f⟩
    · rw [e']; exact kk _ H4 ((s2.trans s3).trans s4) (by rw [e]; exact p4)
    · rw [e']; exact kk _ H4 ((s2.trans s3).trans s4) (by rw [e]; exact f)
def Turn1 {A B L V' : Type} (R : Rep A) (k : Ke L) (S : Rep V') (g1 : TG) (tt1 : TT) (tk tv : TE) (vs1 : List Nat) (σ2 : St) (H H1 : Hp) (N' : Sets) (kf : A → L) (vf : A → V') (y : A) : Prop :=
  ∀ H2, Kp N' H1 H2 → Sm H H2 → Trk N' H2 → ∀ v, R.r N' y v H2 → ∀ kk : St → Hp → Prop, (∀ σ3, wipe σ3 vs1 = wipe σ2 vs1 → EvT tt1 σ3 H2 true → Ev tk σ3 H2 (k.R.r N' (kf y)) → Ev tv σ3 H2 (S.r N' (vf y)) → kk σ3 H2) → g1 v (wipe σ2 vs1) H2 kk
theorem dcVV {A B L V' : Type} [DecidableEq L] {R : Rep A} {R1 : Rep B} {k : Ke L} {S : Rep V'} {tk tv : TE} {xs : List A} {ys : A → List B} {kf : A → B → L} {vf : A → B → V'} (tk0 : Trk N H) (e : Ev tl σ H ((aV R).r N xs))
    (hb : ∀ x ∈ xs, ∀ (N' : Sets) (H1 : Hp), (∀ a, N' a → N a ∨ H a = none) → Sm H H1 → Trk N' H1 → ∀ v, R.r N' x v H1 → ∀ kk : St → Hp → Prop,
      (∀ σ2, wipe σ2 vs = wipe σ vs → EvT tt σ2 H1 true → Ev tl1 σ2 H1 ((aV R1).r N' (ys x)) → (∀ y ∈ ys x, Turn1 (A := B) (B := B) R1 k S g1 tt1 tk tv vs1 σ2 H H1 N' (kf x) (vf x) y) → kk σ2 H1) → g v (wipe σ vs) H1 kk)
    (hl : (xs.map fun x => (ys x).length).sum < 1000) :
    Ev (tDc2 (.dT []) (iTup K tl) g tt (iTup K tl1) g1 tt1 tk tv vs vs1) σ H (fun v H' => ∃ a, v = .ref a ∧ ¬ N a ∧ DC k S N ((xs.flatMap fun x => (ys x).map fun y => (kf x y, vf x y)).foldl (fun m p => store m p.1 p.2) []) a H') := by
  intro H1 s1 Q kk
  refine e H1 s1 _ fun v H2 s2 q => ?_
  obtain ⟨a, us, rfl, na, ha, al⟩ := q
  refine ⟨a, rfl, ⟨us, SqT.of ha⟩, fun D hD => ?_⟩
  obtain ⟨N', hN⟩ : ∃ N' : Sets, N' = fun b => b = D ∨ N b := ⟨_, rfl⟩
  have s12 := s1.trans s2
  have gN : ∀ a, N' a → N a ∨ H2 a = none := fun b z => by rw [hN] at z; exact z.elim (fun y => .inr (y ▸ hD)) .inl
  have gN0 : ∀ a, N' a → N a ∨ H a = none := fun b z => (gN b z).imp id fun y => s12.dom y
  have hDN : N' D := by rw [hN]; exact .inl rfl
  have tk2 : Trk N' (upd H2 D (.dT [])) := hN ▸ (tk0.sm s12).grow nt_dT
  obtain ⟨fl, hfl⟩ : ∃ fl : Nat → List (L × V'), fl = fun i => (xs.take i).flatMap fun x => (ys x).map fun y => (kf x y, vf x y) := ⟨_, rfl⟩
  have flen : ∀ i, (fl i).length ≤ (xs.map fun x => (ys x).length).sum := fun i => by
    rw [hfl]
    show ((xs.take i).flatMap _).length ≤ _
    rw [List.length_flatMap]
    simp only [List.length_map]
    have h1 := (List.take_append_drop i xs)
    have h2 : (xs.map fun x => (ys x).length).sum = ((xs.take i).map fun x => (ys x).length).sum + ((xs.drop i).map fun x => (ys x).length).sum := by rw [← List.sum_append, ← List.map_append, h1]
    omega
  have slen : ∀ (ps m : List (L × V')), (ps.foldl (fun m p => store m p.1 p.2) m).length ≤ m.length + ps.length := fun ps => by
    induction ps with
    | nil => intro m; simp
    | cons p r ih =>
      intro m
      rw [List.foldl_cons]
      have := ih (store m p.1 p.2)
      have h2 : (store m p.1 p.2).length ≤ m.length + 1 := by unfold store; split <;> simp
      rw [List.length_cons]
      omega
  have go1 : ∀ {H' : Hp}, Go (fun b => b = D) H2 H' → H' a = some (.tup us) := fun g1 => g1.get (fun z => by rw [z, hD] at ha; cases ha) noTb_tup ha
  have mono : ∀ a, (fun b => b = D) a → N' a := fun b z => by rw [z]; exact hDN
  refine ⟨fun i m H' => m = us.length - i ∧ i ≤ us.length ∧ Go (fun b => b = D) H2 H' ∧ Trk N' H' ∧ DC k S N' ((fl i).foldl (fun m p => store m p.1 p.2) []) D H', ⟨us.length, by simp, Nat.zero_le _, (Go.refl _).up rfl nt_dT, tk2, ⟨[], upd_same, by rw [hfl]; simp; exact .nil⟩⟩, ?_⟩
  rintro i m H' ⟨rfl, hi, g0, tk', dc'⟩
  have q := go1 g0
  by_cases hlt : i < us.length
  case neg =>
    have e : i = us.length := by omega
    subst e
    refine .inl ⟨⟨us, SqT.of q, Nat.le_refl _⟩, kk _ H' ((s2.trans (g0.new fun b z => by rw [z]; exact hD))) ⟨D, rfl, (tk0.sm s12).no hD, ?_⟩⟩
    have : fl us.length = xs.flatMap fun x => (ys x).map fun y => (kf x y, vf x y) := by
      rw [hfl, ← al.length]
      show List.flatMap _ (List.take xs.length xs) = _
      rw [List.take_length]
    rw [← this]
    exact dc'.gr fun b z => .inl (by rw [hN]; exact .inr z)
  refine .inr ⟨⟨us, us[i], SqT.of q, by simp [hlt]⟩, fun H3 => Go (fun b => b = D) H2 H3 ∧ Trk N' H3 ∧ DC k S N' ((fl (i + 1)).foldl (fun m p => store m p.1 p.2) []) D H3, fun H3 ⟨g3, t3, d3⟩ => ⟨us.length - (i + 1), by omega, rfl, hlt, g3, t3, d3⟩, fun w H3 y => ?_⟩
  obtain ⟨e1, y⟩ := y
  subst e1
  obtain ⟨x, hx, r⟩ := al.got (y us (SqT.of q))
  have hix : i < xs.length := (List.getElem?_eq_some_iff.mp hx).1
  have tk1 : xs.take (i + 1) = xs.take i ++ [x] := by rw [← List.take_append_getElem hix, (List.getElem?_eq_some_iff.mp hx).2]
  have sH : Sm H H3 := s12.trans (g0.new fun b z => by rw [z]; exact hD)
  have kp3 : Kp N' H2 H3 := g0.kp mono
  refine hb x (List.mem_of_getElem? hx) N' H3 gN0 sH tk' w (R.mv (fun b z => .inl z) kp3 (R.mv gN (.of (.refl H2)) r)) _ fun σ2 ew et el turn => ⟨ew, et.use fun H4 s4 => iteT (el H4 s4 _ fun v1 H5 s5 p5 => ?_)⟩
  obtain ⟨a1, us1, rfl, na1, ha1, al1⟩ := p5
  have s35 := s4.trans s5
  have fl1 : fl (i + 1) = fl i ++ (ys x).map fun y => (kf x y, vf x y) := by rw [hfl]; show (xs.take (i + 1)).flatMap _ = _; rw [tk1, List.flatMap_append]; simp
  refine ⟨a1, rfl, ⟨us1, SqT.of ha1⟩, fun j m H' => m = us1.length - j ∧ j ≤ us1.length ∧ Go (fun b => b = D) H5 H' ∧ Trk N' H' ∧ DC k S N' ((fl i ++ ((ys x).take j).map fun y => (kf x y, vf x y)).foldl (fun m p => store m p.1 p.2) []) D H', ⟨us1.length, by simp, Nat.zero_le _, .refl _, tk'.sm s35, by simpa using dc'.sm s35⟩, ?_⟩
  rintro j m H6 ⟨rfl, hj, g6, tk6, dc6⟩
  have q6 : H6 a1 = some (.tup us1) := g6.get (fun z => na1 (by rw [z]; exact hDN)) noTb_tup ha1
  by_cases hlt1 : j < us1.length
  case neg =>
    have e : j = us1.length := by omega
    subst e
    refine .inl ⟨⟨us1, SqT.of q6, Nat.le_refl _⟩, (g0.sm s35).trans g6, tk6, ?_⟩
    rw [fl1]
    rw [← al1.length, List.take_length] at dc6
    exact dc6
  refine .inr ⟨⟨us1, us1[j], SqT.of q6, by simp [hlt1]⟩, fun H7 => Go (fun b => b = D) H5 H7 ∧ Trk N' H7 ∧ DC k S N' ((fl i ++ ((ys x).take (j + 1)).map fun y => (kf x y, vf x y)).foldl (fun m p => store m p.1 p.2) []) D H7, fun H7 ⟨g7, t7, d7⟩ => ⟨us1.length - (j + 1), by omega, rfl, hlt1, g7, t7, d7⟩, fun w1 H7 y1 => ?_⟩
  obtain ⟨e1, y1⟩ := y1
  subst e1
  obtain ⟨z, hz, r1⟩ := al1.got (y1 us1 (SqT.of q6))
  have hjz : j < (ys x).length := (List.getElem?_eq_some_iff.mp hz).1
  have tkj : (ys x).take (j + 1) = (ys x).take j ++ [z] := by rw [← List.take_append_getElem hjz, (List.getElem?_eq_some_iff.mp hz).2]
  have sH7 : Sm H H7 := s12.trans (((g0.sm s35).trans g6).new fun b z => by rw [z]; exact hD)
  refine turn z (List.mem_of_getElem? hz) H7 ((Kp.of s35).trans (g6.kp mono)) sH7 tk6 w1 (R1.kp (g6.kp mono) r1) _ fun σ3 ew3 et3 ek ev3 => ⟨ew3, et3.use fun H8 s8 => iteT (ek H8 s8 _ fun yk H9 s9 p9 => ev3 H9 (s8.trans s9) _ fun yv H10 s10 p10 => ?_)⟩
  obtain ⟨kb, rfl, _, hkb⟩ := k.out (k.R.sm s10 p9)
  have s78 := (s8.trans s9).trans s10
  obtain ⟨kvs, hkv, rws⟩ := dc6.sm s78
  have hlen : kvs.length < 1000 := by
    rw [← rws.length]
    have h1 := slen (fl i ++ ((ys x).take j).map fun y => (kf x y, vf x y)) []
    have h2 := flen (i + 1)
    rw [fl1] at h2
    have h3 : (fl i ++ ((ys x).take j).map fun y => (kf x y, vf x y)).length ≤ (fl i ++ (ys x).map fun y => (kf x y, vf x y)).length := by simp; omega
    have h4 : ([] : List (L × V')).length = 0 := rfl
    omega
  refine ⟨_, .inr ⟨kvs, k.e (kf x z), kb, hkv, rfl, hkb, Nat.lt_of_lt_of_le hlen (by decide), rfl⟩, (g6.sm s78).up rfl nt_dT, (tk6.sm s78).up nt_dT, ?_⟩
  rw [tkj, List.map_append, ← List.append_assoc, List.foldl_append]
  exact ⟨_, upd_same, (rows_put rws (kf x z) p10).imp fun _ _ z => ⟨z.1, S.up hDN z.2⟩⟩
end ev
end
end TV
end
section
set_option Elab.async false
set_option linter.all false
set_option maxRecDepth 100000
set_option autoImplicit false
namespace L2
open PySem PySem.Spec PyProof.Rows
def iSeq (K : PySem.W.Frag) (tl : TE) : TI := fun σ H R => tl σ H fun x H1 => ∃ a, x = .ref a ∧ (((∃ xs, SqL K H1 a xs) ∧ R (Itl K a) H1) ∨ ((∃ xs, SqT K H1 a xs) ∧ R (Itt K a) H1))
theorem pi_seq {X : Cx} {tg l : Expr} {tl : TE} (hl : PE X l tl) : PI X tg l (iSeq X.K tl) := by
  intro pins s σ H R I h
  refine thn (hl pins s σ H _ I h) fun v s1 ⟨x, H1, I1, r1, q1⟩ => ?_
  obtain ⟨a, e, q⟩ := q1
  subst e
  cases r1
  rcases q with ⟨⟨xs, hq⟩, q⟩ | ⟨⟨xs, hq⟩, q⟩
  · obtain ⟨its, rv, p, hz⟩ := I1.list hq
    refine wpAny_pyIter_list p.isList ?_
    refine ⟨s1.heap.objs.size, [s1.heap.objs.size], _, _, H1, rfl, I1.kept (t' := s1.toks) fun b o e => Heap.get?_push_of_some _ e, turn_list a _, ⟨_, Heap.get?_push_size _ rfl, rfl, rfl⟩, fun b hb => ?_, q⟩
    have e : b = s1.heap.objs.size := by simpa using hb
    subst e
    exact I1.fpOk (Nat.le_refl _) (I1.hok.fresh (Nat.le_refl _))
  · obtain ⟨its, rv, p, hz⟩ := I1.tuple hq
    refine wpAny_pyIter_tuple (show s1.heap.IsTuple a its.toArray from p) ?_
    refine ⟨s1.heap.objs.size, [s1.heap.objs.size], _, _, H1, rfl, I1.kept (t' := s1.toks) fun b o e => Heap.get?_push_of_some _ e, turn_tuple a _, ⟨_, Heap.get?_push_size _ rfl, rfl, rfl⟩, fun b hb => ?_, q⟩
    have e : b = s1.heap.objs.size := by simpa using hb
    subst e
    exact I1.fpOk (Nat.le_refl _) (I1.hok.fresh (Nat.le_refl _))
theorem Z.is {X : Cx} {tg e : Expr} {te : TE} (h : ZE X e te) : ZI X tg e (iSeq X.K te) := ⟨pi_seq h.h⟩
end L2
end
section
set_option Elab.async false
set_option linter.all false
set_option maxRecDepth 100000
set_option autoImplicit false
namespace TV
open PySem L2 KB
section
variable {te ta tb tl tl1 : TE} {tt tt1 : TT} {ts : TA} {t u : TS} {σ : St} {H : Hp} {P P' : V → Hp → Prop} {Q : VK} {N C : Sets} {A B T : Type} {R : Rep A} {S : Rep B} {x : A} {y : B} {i j : Int} {b c : Bool} {K : PySem.W.Frag} {D : Ends} {n : Nat} {g g1 : TG} {vs vs1 : List Nat} {tb0 : TS}
namespace ev
section
variable {p : A → Bool} {f : A → B}
end
theorem tyes : EvT tYes σ H true := fun H1 s Q k => k H1 (.refl H1)
end ev
namespace st
theorem whl (I : Nat → St → Hp → Prop) (m : Nat) (h0 : I m σ H) (hs : ∀ m σ H, I m σ H → ∃ b, EvT tt σ H b ∧ (b = true → ∀ H1, Sm H H1 → tb0 { D with nx := fun σ' H' => ∃ m', m' < m ∧ I m' σ' H', ct := fun σ' H' => ∃ m', m' < m ∧ I m' σ' H', bk := D.nx } σ H1) ∧ (b = false → ∀ H1, Sm H H1 → D.nx σ H1)) : tWhile tt tb0 D σ H :=
  ⟨I, ⟨m, h0⟩, fun m σ H w => let ⟨b, e, k1, k2⟩ := hs m σ H w; e.use fun H1 s => by
    cases b with
    | true => exact iteT ⟨_, fun _ _ z => z, k1 rfl H1 s⟩
    | false => exact iteF (k2 rfl H1 s)⟩
theorem append {xs : List A} {a : Addr} {k : Nat} (c : LC R N xs a H) (na : N a) (hv : σ[k]? = some (some (.ref a))) (e : Ev te σ H (R.r N x)) (hl : xs.length < sizeLine) (h : ∀ H1 vs, Sm H H1 → LC R N (xs ++ [x]) a (upd H1 a (.lst vs)) → D.nx σ (upd H1 a (.lst vs))) :
    tDrop (tBM K "list" rAppend (tVar k) (tCons te tNil)) D σ H := by
  obtain ⟨vs, e1, t⟩ := c
  refine ⟨_, hv, .inl ⟨rfl, _, SqL.of e1⟩, e.use fun v H1 s p => ⟨a, vs, v, rfl, rfl, s.lst e1, by rw [← t.length]; exact hl, h H1 _ s ⟨_, upd_same, ?_⟩⟩⟩
  exact ((t.imp fun _ _ z => R.up na (R.sm s z)).snoc (R.up na p))
theorem extend {xs ys : List A} {a : Addr} {k : Nat} (c : LC R N xs a H) (na : N a) (hv : σ[k]? = some (some (.ref a))) (e : Ev te σ H (PL R N ys)) (hl : xs.length + ys.length ≤ sizeLine) (h : ∀ H1 vs, Sm H H1 → LC R N (xs ++ ys) a (upd H1 a (.lst vs)) → D.nx σ (upd H1 a (.lst vs))) :
    tDrop (tBM K "list" rExtend (tVar k) (tCons te tNil)) D σ H := by
  obtain ⟨vs, e1, t⟩ := c
  refine ⟨_, hv, .inl ⟨rfl, _, SqL.of e1⟩, e.use fun v H1 s p => ?_⟩
  obtain ⟨b, us, rfl, nb, hb, al⟩ := p
  refine ⟨a, b, vs, us, rfl, rfl, s.lst e1, hb, by rw [← t.length, ← al.length]; exact hl, h H1 _ s ⟨_, upd_same, ?_⟩⟩
  exact (t.imp fun _ _ z => R.up na (R.sm s z)).append (al.imp fun _ _ z => R.up na z)
theorem dput {L : Type} [DecidableEq L] {k : Ke L} {td ty : TE} {m : List (L × A)} {d : Addr} {q : L} (c : DC k R N m d H) (nd : N d) (e : Ev te σ H (R.r N x)) (hd : Ev td σ H (fun v _ => v = .ref d)) (hq : Ev ty σ H (k.R.r N q)) (hl : m.length < sizeLine) (h : ∀ H1 kvs, Sm H H1 → DC k R N (store m q x) d (upd H1 d (.dT kvs)) → D.nx σ (upd H1 d (.dT kvs))) :
    sDPut td ty te D σ H := by
  refine e.use fun v H1 s p => hd H1 s _ fun w H2 s2 ew => hq H2 (s.trans s2) _ fun z H3 s3 pz => ?_
  subst ew
  obtain ⟨kvs, e1, t⟩ := (c.sm s).sm (s2.trans s3)
  obtain ⟨b, rfl, _, hb⟩ := k.out pz
  exact ⟨d, _, rfl, .inr ⟨kvs, _, b, e1, rfl, hb, by rw [← t.length]; exact hl, rfl⟩, h H3 _ ((s.trans s2).trans s3) ⟨_, upd_same, (rows_put t q (R.sm (s2.trans s3) p)).imp fun _ _ z => ⟨z.1, R.up nd z.2⟩⟩⟩
theorem newL {T : Type} (R : Rep T) (h : ∀ p, H p = none → LC R (fun b => b = p ∨ N b) [] p (upd H p (.lst [])) → u D (σ.set n (some (.ref p))) (upd H p (.lst []))) : tSeq (tAsg (tLst tNil) (gName n)) u D σ H :=
  ⟨Nat.zero_le _, fun p hp => h p hp ⟨[], upd_same, .nil⟩⟩
end st
end
end TV
end
section
set_option Elab.async false
set_option linter.all false
set_option maxRecDepth 100000
namespace K02
open PySem L2 KB TV
set_option autoImplicit false
def top (i : Nat) : Stmt := PySem.Challenge.pw_heldafar_k02_pictures_let_by.main.body.getD i (.Pass ⟨0, 0, 0, 0⟩)
structure Bt (mg : Str → Option Value) : Prop where
  len : mg "len" = none
  range : mg "range" = none
  max : mg "max" = none
  min : mg "min" = none
  sorted : mg "sorted" = none
  tuple : mg "tuple" = none
  list : mg "list" = none
  isi : mg "isinstance" = none
  int : mg "int" = none
  bool : mg "bool" = none
  str : mg "str" = none
  enumerate : mg "enumerate" = none
  reversed : mg "reversed" = none
abbrev Flds := List (Option Nm)
abbrev Thing := Nm × Str × Flds
abbrev House := Flds × List Thing
abbrev Letr := Int × Int × List Nm
abbrev Pict := List House × List Letr
abbrev aF : Rep Flds := aV (aO aN)
abbrev aTh : Rep Thing := aP3 aN aS aF
abbrev aHo : Rep House := aP aF (aV aTh)
abbrev aLe : Rep Letr := aP3 aI aI (aV aN)
abbrev aPi : Rep Pict := aP (aV aHo) (aV aLe)
def rowsOf (p : Pict) : List (Nm × Flds) := p.1.flatMap fun h => h.2.map fun t => (t.1, t.2.2)
def fieldsOf (p : Pict) : List (Nm × Flds) := (rowsOf p).foldl (fun m p => store m p.1 p.2) []
def Small (p : Pict) : Prop := (p.1.map fun h => h.2.length).sum < 1000
section
variable {P : Program} {w : World} {K : PySem.W.Frag} {mg : Str → Option Value} {base : Heap} {C : Addr}
def spFields : Sp := fun vs H Q _ => ∃ (N : Sets) (p : Pict) (v : V), vs = [v] ∧ Trk N H ∧ aPi.r N p v H ∧ Small p ∧ ∀ a H', Sm H H' → ¬ N a → DC kNm aF N (fieldsOf p) a H' → Q (.ref a) H'
theorem scFields : FnScope ["picture", "hands", "things", "name", "sort", "fields"] ["picture"] (defScope (top 24)) := ⟨rfl, rfl, rfl, by decide +kernel, rfl, by decide +kernel, by decide +kernel⟩
theorem ok_fields {f : Addr} {fd : FuncData} (F : Fun K "fields_by_name" "fields_by_name" (top 24) f fd) : FnOk P w K mg base CX0 1 f fd ["picture"] spFields := by
  have S := scFields
  refine F.okZ scFields (fun vs H Q E h => ?_) (fun cdv A outer s H vs Q E hr h => ?_)
  · obtain ⟨N, p, v, rfl, _⟩ := h
    rfl
  · obtain ⟨N, p, v, rfl, tk, fp, sm, k⟩ := h
    refine ⟨_, (Z.last (Z.ret (Z.dc2 (.dT []) (own := [("hands", 1), ("things", 2), ("name", 3), ("sort", 4), ("fields", 5)]) (vs1 := [3, 4, 5]) (g := (gTup K 2 (gCons (gName 1) (gCons (gName 2) gNil)))) (g1 := (gTup K 3 (gCons (gName 3) (gCons (gName 4) (gCons (gName 5) gNil))))) hr.units (.inr rfl) rfl S.nd (Z.it (Z.ix Z.ixT (Z.vl 0) Z.int)) (blkOk_by (own := [("hands", 1), ("things", 2), ("name", 3), ("sort", 4), ("fields", 5)]) (N := ["picture", "hands", "things", "name", "sort", "fields"]) (sc := defScope (top 24)) (by decide +kernel)) (by decide) (fun _ _ _ _ _ => (Z.gtup (n := 2) rfl (Z.gcons (Z.gl 1 S.nd) (Z.gcons (Z.gl 2 S.nd) Z.gnil)) (by kernel_rfl))) (fun _ _ _ _ _ => Z.tsnil) (fun _ _ _ _ _ => (Z.itK (K := K) rfl (Z.vl 2))) (fun _ _ _ _ _ => (Z.gtup (n := 3) rfl (Z.gcons (Z.gl 3 S.nd) (Z.gcons (Z.gl 4 S.nd) (Z.gcons (Z.gl 5 S.nd) Z.gnil))) (by kernel_rfl))) (fun _ _ _ _ _ => Z.tsnil) (fun _ _ _ _ _ => (Z.vl 3)) (fun _ _ _ _ _ => (Z.vl 5))))), ?_⟩
    show tRet _ _ [some v, none, none, none, none, none] H
    refine st.ret (ev.dcVV (R := aHo) (R1 := aTh) (k := kNm) (S := aF) (ys := fun h => h.2) (kf := fun _ t => t.1) (vf := fun _ t => t.2.2) tk (ev.ix (n := 0) ev.At.first (ev.var rfl fp)) ?_ sm) fun v H' s ⟨a, e, na, d⟩ => e ▸ k a H' s na d
    intro x hx N' H1 gN s tk' v0 r kk h
    refine st.unpack r (fun vs t => st.gcons t fun v1 r1 p1 q1 => ?_) rfl
    refine st.glast q1 fun v2 p2 => st.gend (h [some v, some v1, some v2, none, none, none] rfl ev.tyes (ev.var rfl p2) fun y hy H2 kp s2 tk2 v3 r3 kk' h' => ?_)
    refine st.unpack r3 (fun vs t => st.gcons t fun v4 r4 p4 q4 => ?_) rfl
    refine st.gcons q4 fun v5 r5 p5 q5 => ?_
    refine st.glast q5 fun v6 p6 => st.gend (h' [some v, some v1, some v2, some v4, some v5, some v6] rfl ev.tyes (ev.var rfl p4) (ev.var rfl p6))
end
end K02
end
section
set_option Elab.async false
set_option linter.all false
set_option maxRecDepth 100000
set_option autoImplicit false
namespace TV
open PySem L2 KB
def nmLe (p q : Nm) : Bool := decide (p.1 < q.1 ∨ (p.1 = q.1 ∧ p.2 ≤ q.2))
theorem nmLe_iff {p q : Nm} : nmLe p q = true ↔ NmLe p q := by unfold nmLe NmLe; exact decide_eq_true_iff
theorem all_rs {N : Sets} {H : Hp} : ∀ {rs : List (Addr × Nm)}, (∀ r ∈ rs, ¬ N r.1 ∧ H r.1 = some (.tup (ptV r.2))) → All2 (fun x v => aN.r N x v H) (rs.map (·.2)) (rs.map fun r => V.ref r.1)
  | [], _ => .nil
  | r :: rs, h => .cons (aN_in (h r (by simp)).1 (h r (by simp)).2) (all_rs fun r' hr => h r' (by simp [hr]))
theorem nmLe_trans (a b c : Nm) (h1 : nmLe a b = true) (h2 : nmLe b c = true) : nmLe a c = true := by
  simp only [nmLe, decide_eq_true_eq] at *
  omega
theorem nmLe_total (a b : Nm) : (nmLe a b || nmLe b a) = true := by
  simp only [nmLe, Bool.or_eq_true, decide_eq_true_eq]
  omega
theorem nmLe_anti {a b : Nm} (h1 : NmLe a b) (h2 : NmLe b a) : a = b := by
  simp only [NmLe] at *
  exact Prod.ext (by omega) (by omega)
def sortN (l : List Nm) : List Nm := l.mergeSort nmLe
theorem sortN_perm (l : List Nm) : (sortN l).Perm l := List.mergeSort_perm _ _
theorem sortN_rise (l : List Nm) : (sortN l).Pairwise NmLe := by
  have h := List.pairwise_mergeSort (le := nmLe) nmLe_trans nmLe_total l
  exact h.imp fun z => nmLe_iff.mp z
theorem rise_eq {l m : List Nm} (p : l.Perm m) (h1 : l.Pairwise NmLe) (h2 : m.Pairwise NmLe) : l = m := List.Perm.eq_of_pairwise (fun _ _ _ _ => nmLe_anti) h1 h2 p
section
variable {te ta tb tl tl1 : TE} {tt tt1 : TT} {ts : TA} {t u : TS} {σ : St} {H : Hp} {P P' : V → Hp → Prop} {Q : VK} {N C : Sets} {A B T : Type} {R : Rep A} {S : Rep B} {x : A} {y : B} {i j : Int} {b c : Bool} {K : PySem.W.Frag} {D : Ends} {n : Nat} {g g1 : TG} {vs vs1 : List Nat} {tb0 : TS}
namespace ev
theorem ty {T : String} : Ev (tC (.ty T)) σ H (fun v _ => v = .ty T) := fun H1 s Q k => k _ H1 (.refl H1) rfl
theorem isi {T n : String} (ha : Ev ta σ H P) (st : ∀ v H1 H2, Sm H1 H2 → P v H1 → P v H2) (hty : ∀ v H', P v H' → TyV K H' v n) (hT : T ∈ ["int", "bool", "str", "tuple", "list"] := by simp) : Ev (tCB (rIsi K) (tCons ta (tCons (tC (.ty T)) tNil))) σ H (aB.r N (isiB n T)) :=
  cb (P := fun vs H' => ∃ v, vs = [v, .ty T] ∧ P v H') (consA (P2 := fun vs _ => vs = [.ty T]) ha (consA (P1 := fun v _ => v = .ty T) (P2 := fun vs _ => vs = []) ty (nil fun _ => rfl) (fun _ _ _ _ h => h) fun v vs _ e1 e2 => by rw [e1, e2]) st fun v vs _ p e => ⟨v, by rw [e], p⟩)
    fun vs H1 _ ⟨v, e, p⟩ Q k => ⟨v, n, T, _, e, hty v H1 p, hT, rfl, k _ _ (.refl _) rfl⟩
theorem call {sp : Sp} {E : XK} {P : List V → Hp → Prop} {P' : V → Hp → Prop} (ha : EvA ts σ H P) (h : ∀ vs H1, Sm H H1 → P vs H1 → ∀ Q : VK, (∀ v H2, Sm H1 H2 → P' v H2 → Q v H2) → sp (vs ++ []) H1 Q E) : Ev (tCall sp [] E ts) σ H P' := fun H1 s Q k =>
  ha H1 s _ fun vs H2 s2 p => h vs H2 (s.trans s2) p Q fun v H3 s3 p3 => k v H3 (s2.trans s3) p3
theorem arg1 (ha : Ev ta σ H P) : EvA (tCons ta tNil) σ H (fun vs H' => ∃ v, vs = [v] ∧ P v H') := fun H1 s Q k => ha H1 s _ fun v H2 s2 p => k _ H2 s2 ⟨v, rfl, p⟩
theorem arg2 {P1 P2 : V → Hp → Prop} (ha : Ev ta σ H P1) (hb : Ev tb σ H P2) (st : ∀ v H1 H2, Sm H1 H2 → P1 v H1 → P1 v H2) : EvA (tCons ta (tCons tb tNil)) σ H (fun vs H' => ∃ v w, vs = [v, w] ∧ P1 v H' ∧ P2 w H') :=
  consA ha (arg1 hb) st fun v vs H' p ⟨w, e, q⟩ => ⟨v, w, by rw [e], p, q⟩
theorem sortD {m : List (Nm × A)} (tk : Trk N H) (ha : Ev ta σ H (fun v H' => ∃ a, v = .ref a ∧ ¬ N a ∧ DC kNm R N m a H')) : Ev (tCB rSortD (tCons ta tNil)) σ H (PL aN N (sortN (m.map (·.1)))) :=
  cb (arg1 ha) fun vs H1 s1 ⟨v, e, a, ea, na, kvs, hk, t⟩ Q k => by
    subst ea
    refine ⟨a, kvs, m.map (·.1), e, .inl hk, by rw [rows_keys t, List.map_map]; rfl, fun rs p hp hr hn hpn => ?_⟩
    have e2 : rs.map (·.2) = sortN (m.map (·.1)) := rise_eq (hp.trans (sortN_perm _).symm) (List.pairwise_map.mpr hr) (sortN_rise _)
    refine k _ _ (.new hpn) ⟨p, _, rfl, (tk.sm s1).no hpn, upd_same, ?_⟩
    rw [← e2]
    exact all_rs fun r hr => ⟨(tk.sm s1).tup (hn r hr), (Sm.new hpn).tup (hn r hr)⟩
theorem sortL {xs : List Nm} (tk : Trk N H) (ha : Ev ta σ H ((aL aN).r N xs)) : Ev (tCB (rSortL K) (tCons ta tNil)) σ H (PL aN N (sortN xs)) :=
  cb (arg1 ha) fun vs H1 s1 ⟨v, e, p⟩ Q k => by
    obtain ⟨a, us, rfl, na, hu, al⟩ := p
    have hrs : ∀ (xs : List Nm) (us : List V), All2 (fun x v => aN.r N x v H1) xs us → ∃ rs : List (Addr × (Int × Int)), us = rs.map (fun r => V.ref r.1) ∧ rs.map (·.2) = xs ∧ ∀ r ∈ rs, ¬ N r.1 ∧ H1 r.1 = some (.tup (ptV r.2)) := by
      intro xs us al
      induction al with
      | nil => exact ⟨[], rfl, rfl, fun _ h => absurd h (by simp)⟩
      | @cons x v xs vs h _ ih =>
        obtain ⟨rs, e1, e2, e3⟩ := ih
        obtain ⟨b, eb, nb, hb⟩ := aN_out h
        refine ⟨(b, x) :: rs, by rw [eb, e1]; rfl, by rw [← e2]; rfl, fun r hr => ?_⟩
        rcases List.mem_cons.mp hr with rfl | hr
        · exact ⟨nb, hb⟩
        · exact e3 r hr
    obtain ⟨rs, e1, e2, e3⟩ := hrs xs us al
    subst e1
    refine ⟨a, rs, e, SqL.of hu, fun r hr => SqT.of (e3 r hr).2, fun rs' p' hp hr hpn => ?_⟩
    have e4 : rs'.map (·.2) = sortN xs := rise_eq (((hp.map _).trans (.of_eq e2)).trans (sortN_perm _).symm) (List.pairwise_map.mpr hr) (sortN_rise _)
    refine k _ _ (.new hpn) ⟨p', _, rfl, (tk.sm s1).no hpn, upd_same, ?_⟩
    rw [← e4]
    exact all_rs fun r hr => ⟨(e3 r (hp.mem_iff.mp hr)).1, (Sm.new hpn).tup (e3 r (hp.mem_iff.mp hr)).2⟩
end ev
end
end TV
namespace TV
open PySem L2 KB
abbrev none' : Sets := fun _ => False
section
variable {T A L : Type} {R : Rep T} {N C D : Sets} {x : T} {v : V} {H H1 H' : Hp} {a b c d : Addr}
theorem Rep.any (R : Rep T) (f : R.r N x v H) : R.r none' x v H := R.mv (fun _ z => z.elim) (.of (.refl H)) f
theorem Trk.none' : Trk none' H := fun _ z => z.elim
theorem Go.fresh (g : Go C H1 H') (s : Sm H H1) (h : ∀ a, C a → H a = none) : Sm H H' := (g.to (D := TV.none') s fun a z => .inr (h a z)).new fun _ z => z.elim
theorem grow1 (h : H d = none) : ∀ a, (a = d ∨ N a) → N a ∨ H a = none := fun _ z => z.elim (fun e => .inr (by rw [e]; exact h)) .inl
theorem LC.go {xs : List T} (h : LC R N xs a H) (g : Go C H H') (na : ¬ C a) (hC : ∀ a, C a → N a) : LC R N xs a H' := let ⟨vs, e, t⟩ := h; ⟨vs, g.get na noTb_lst e, t.imp fun _ _ z => R.kp (g.kp hC) z⟩
theorem DC.go {k : Ke L} {m : List (L × T)} (h : DC k R N m a H) (g : Go C H H') (na : ¬ C a) (hC : ∀ a, C a → N a) : DC k R N m a H' := let ⟨vs, e, t⟩ := h; ⟨vs, g.get na noTb_dT e, t.imp fun _ _ z => ⟨z.1, R.kp (g.kp hC) z.2⟩⟩
theorem LC.nn {xs : List T} (h : LC R N xs a H) (e : H b = none) : a ≠ b := fun z => by obtain ⟨vs, q, _⟩ := h; rw [z, e] at q; cases q
theorem DC.nn {k : Ke L} {m : List (L × T)} (h : DC k R N m a H) (e : H b = none) : a ≠ b := fun z => by obtain ⟨vs, q, _⟩ := h; rw [z, e] at q; cases q
end
end TV
namespace TV
open PySem L2 KB
theorem Go.join {C D : Sets} {H H1 H' : Hp} (x : Go D H H1) (g : Go C H1 H') (h : ∀ a, C a → D a ∨ H a = none) : Go D H H' := ⟨fun b o n e => by
  have nC : ¬ C b := fun z => (h b z).elim n fun y => by rw [y] at e; cases e
  rcases x.k b o n e with h1 | ⟨t, o', t', h1⟩
  · exact g.k b o nC h1
  · rcases g.k b o' nC h1 with h2 | ⟨_, o2, t2, h2⟩
    · exact .inr ⟨t, o', t', h2⟩
    · exact .inr ⟨t, o2, t2, h2⟩, fun b z => x.d b (g.d b z), fun b o e n => let ⟨o', e', n'⟩ := x.m b o e n; g.m b o' e' n'⟩
end TV
end
section
set_option Elab.async false
set_option linter.all false
set_option maxRecDepth 100000
set_option autoImplicit false
namespace TV
open PySem L2 KB
section
variable {K A : Type} [DecidableEq K]
theorem look_none {m : List (K × A)} {q : K} : look m q = none ↔ q ∉ m.map (·.1) := by
  unfold look
  rw [Option.map_eq_none_iff, List.find?_eq_none]
  constructor
  · intro h z
    obtain ⟨p, hp, e⟩ := List.mem_map.mp z
    exact h p hp (by simpa using e)
  · intro h p hp e
    exact h (List.mem_map.mpr ⟨p, hp, by simpa using e⟩)
theorem look_some {m : List (K × A)} {q : K} : (look m q).isSome = true ↔ q ∈ m.map (·.1) := by
  rw [← Option.ne_none_iff_isSome, ne_eq, look_none]
  exact Classical.not_not
theorem store_new {m : List (K × A)} {q : K} {y : A} (h : look m q = none) : store m q y = m ++ [(q, y)] := by
  unfold store
  rw [if_neg]
  rw [look_none] at h
  simp only [List.any_eq_true, decide_eq_true_eq, not_exists, not_and]
  exact fun p hp e => h (List.mem_map.mpr ⟨p, hp, e⟩)
theorem store_keys {m : List (K × A)} {q : K} {y : A} : (store m q y).map (·.1) = if (look m q).isSome then m.map (·.1) else m.map (·.1) ++ [q] := by
  by_cases h : look m q = none
  · rw [store_new h, h]; simp
  · have h1 : (look m q).isSome = true := Option.ne_none_iff_isSome.mp h
    rw [h1, if_pos rfl]
    unfold store
    rw [if_pos]
    · rw [List.map_map]
      refine List.map_congr_left fun p _ => ?_
      show (if p.1 = q then (p.1, y) else p).1 = p.1
      split <;> rfl
    · rw [look_some] at h1
      obtain ⟨p, hp, e⟩ := List.mem_map.mp h1
      exact List.any_eq_true.mpr ⟨p, hp, by simpa using e⟩
theorem store_nd {m : List (K × A)} {q : K} {y : A} (h : (m.map (·.1)).Nodup) : ((store m q y).map (·.1)).Nodup := by
  rw [store_keys]
  by_cases e : look m q = none
  · rw [e]
    simp only [Option.isSome_none, Bool.false_eq_true, if_false]
    exact List.nodup_append.mpr ⟨h, by simp, fun a ha b hb => by
      simp at hb
      rw [hb]
      exact fun z => look_none.mp e (z ▸ ha)⟩
  · rw [if_pos (Option.ne_none_iff_isSome.mp e)]
    exact h
end
inductive Reach (f : Nm → List Nm) (ns : List Nm) : Nm → Prop
  | here {q : Nm} : q ∈ ns → Reach f ns q
  | step {p q : Nm} : Reach f ns p → q ∈ f p → Reach f ns q
def stepC (f : Nm → List Nm) (many : Int) (s : List (Nm × Int) × List Nm) (q : Nm) : List (Nm × Int) × List Nm := if (look s.1 q).isNone = true then (store s.1 q many, s.2 ++ f q) else s
structure Univ (f : Nm → List Nm) (ns U : List Nm) (B : Nat) : Prop where
  n : ∀ q ∈ ns, q ∈ U
  c : ∀ q ∈ U, ∀ r ∈ f q, r ∈ U
  s : ∀ q ∈ U, (f q).length ≤ B
  b : U.length * B ≤ 1000000
  u : U.length ≤ 1000
structure Amid (f : Nm → List Nm) (U : List Nm) (B : Nat) (fd : List (Nm × Int)) (s : List (Nm × Int) × List Nm) : Prop where
  nd : (s.1.map (·.1)).Nodup
  su : ∀ q ∈ s.1.map (·.1), q ∈ U
  cu : ∀ q ∈ s.2, q ∈ U
  le : s.2.length + fd.length * B ≤ s.1.length * B
  gr : s.2 ≠ [] → fd.length < s.1.length
  ge : fd.length ≤ s.1.length
theorem Amid.step {f : Nm → List Nm} {U : List Nm} {B : Nat} {fd : List (Nm × Int)} {s : List (Nm × Int) × List Nm} (a : Amid f U B fd s) {ns : List Nm} (un : Univ f ns U B) {q : Nm} (hq : q ∈ U) (many : Int) : Amid f U B fd (stepC f many s q) := by
  unfold stepC
  split
  · rename_i h
    have h' : look s.1 q = none := by cases e : look s.1 q with | none => rfl | some _ => rw [e] at h; cases h
    rw [store_new h']
    refine ⟨?_, fun r hr => ?_, fun r hr => ?_, ?_, fun _ => ?_, ?_⟩
    · have := store_nd (q := q) (y := many) a.nd
      rwa [store_new h'] at this
    · rw [List.map_append] at hr
      rcases List.mem_append.mp hr with z | z
      · exact a.su r z
      · simp at z; rw [z]; exact hq
    · rcases List.mem_append.mp hr with z | z
      · exact a.cu r z
      · exact un.c q hq r z
    · have h1 := a.le
      have h2 := un.s q hq
      rw [List.length_append, List.length_append, Nat.add_mul]
      show _ ≤ s.1.length * B + 1 * B
      omega
    · have := a.ge; rw [List.length_append]; show _ < _ + 1; omega
    · have := a.ge; rw [List.length_append]; show _ ≤ _ + 1; omega
  · exact a
theorem Amid.start {f : Nm → List Nm} {U : List Nm} {B : Nat} {fd : List (Nm × Int)} (nd : (fd.map (·.1)).Nodup) (su : ∀ q ∈ fd.map (·.1), q ∈ U) : Amid f U B fd (fd, []) := ⟨nd, su, fun _ h => absurd h (by simp), by simp, fun h => absurd rfl h, Nat.le_refl _⟩
structure Way (f : Nm → List Nm) (ns : List Nm) (fd : List (Nm × Int)) (l : List Nm) : Prop where
  re : ∀ q, q ∈ fd.map (·.1) ∨ q ∈ l → Reach f ns q
  cl : ∀ p ∈ fd.map (·.1), ∀ q ∈ f p, q ∈ fd.map (·.1) ∨ q ∈ l
  st : ∀ q ∈ ns, q ∈ fd.map (·.1) ∨ q ∈ l
end TV
end
section
set_option Elab.async false
set_option linter.all false
set_option maxRecDepth 100000
namespace K02
open PySem L2 KB TV
set_option autoImplicit false
section
variable {P : Program} {w : World} {K : PySem.W.Frag} {mg : Str → Option Value} {base : Heap} {C : Addr}
end
end K02
end
section
set_option Elab.async false
set_option linter.all false
set_option maxRecDepth 100000
namespace K02
open PySem L2 KB TV
set_option autoImplicit false
def backs (es : List (Nm × Nm)) (q : Nm) : List Nm := (es.filter fun e => decide (e.2 = q)).map (·.1)
def encA (am : List (Nm × Addr)) : List (List Key × V) := am.map fun x => (kN x.1, .ref x.2)
structure DL (N : Sets) (am : List (Nm × Addr)) (d : Addr) (es : List (Nm × Nm)) (H : Hp) : Prop where
  h : H d = some (.dT (encA am))
  l : ∀ x ∈ am, LC aN N (backs es x.1) x.2 H
section
variable {P : Program} {w : World} {K : PySem.W.Frag} {mg : Str → Option Value} {base : Heap} {C : Addr}
theorem DL.sm {N : Sets} {am : List (Nm × Addr)} {d : Addr} {es : List (Nm × Nm)} {H H' : Hp} (h : DL N am d es H) (s : Sm H H') : DL N am d es H' := ⟨s.dT h.h, fun x hx => (h.l x hx).sm s⟩
end
end K02
end
section
set_option Elab.async false
set_option linter.all false
set_option maxRecDepth 100000
set_option autoImplicit false
namespace TV
open PySem L2 KB
structure Dat {T : Type} (R : Rep T) where
  d : T → PyData
  ok : T → Prop
  n : Nat
  dp : ∀ {K : PySem.W.Frag} {N : Sets} {x : T} {v : V} {H : Hp}, R.r N x v H → Dp K H v (d x)
  lay : ∀ {x : T}, ok x → (d x).canLay0 = true
  dep : ∀ x : T, (d x).depth ≤ n
  eq : ∀ x y : T, PyData.eqv (d x) (d y) = true ↔ x = y
def NoN {T : Type} {R : Rep T} (D : Dat R) : Prop := ∀ x : T, PyData.eqv .none (D.d x) = false ∧ PyData.eqv (D.d x) .none = false
structure DatR {T : Type} (R : Row T) where
  d : T → List PyData
  ok : T → Prop
  n : Nat
  dp : ∀ {K : PySem.W.Frag} {N : Sets} {x : T} {v : List V} {H : Hp}, R.r N x v H → DpAll K H v (d x)
  lay : ∀ {x : T}, ok x → PyData.canLayAll0 (d x) = true
  dep : ∀ x : T, PyData.depthAll (d x) ≤ n
  eq : ∀ x y : T, PyData.eqvAll (d x) (d y) = true ↔ x = y
def datI : Dat aI := ⟨.int, fun _ => True, 0, fun {K N x v H} h => by cases (show v = .int x from h); exact .int x, fun _ => rfl, fun _ => Nat.le_refl _, fun x y => by simp [PyData.eqv]⟩
def datS : Dat aS := ⟨.str, fun x => PyData.strOk x = true, 0, fun {K N x v H} h => by cases (show v = .str x from h); exact .str x, fun h => by simpa [PyData.canLay0] using h, fun _ => Nat.le_refl _, fun x y => by simp [PyData.eqv]⟩
def datO {T : Type} {R : Rep T} (D : Dat R) (nn : NoN D) : Dat (aO R) where
  d := fun x => match x with | none => .none | some y => D.d y
  ok := fun x => ∀ y, x = some y → D.ok y
  n := D.n
  dp := fun {K N x v H} h => by
    cases x with
    | none => cases (show v = .non from h); exact .non
    | some y => exact D.dp h.2
  lay := fun {x} h => by
    cases x with
    | none => rfl
    | some y => exact D.lay (h y rfl)
  dep := fun x => by
    cases x with
    | none => exact Nat.zero_le _
    | some y => exact D.dep y
  eq := fun x y => by
    cases x with
    | none => cases y with
      | none => simp [PyData.eqv]
      | some y => simp [(nn y).1]
    | some x => cases y with
      | none => simp [(nn x).2]
      | some y => simp [D.eq]
def DatR.one {T : Type} {R : Rep T} (D : Dat R) : DatR (.one R) := ⟨fun x => [D.d x], D.ok, D.n, fun ⟨v, e, h⟩ => by rw [e]; exact .cons (D.dp h) .nil, fun h => by simp [PyData.canLayAll0, D.lay h], fun x => by have := D.dep x; simp [PyData.depthAll]; omega, fun x y => by simp [PyData.eqvAll, D.eq]⟩
def DatR.cons {A B : Type} {R : Rep A} {S : Row B} (D : Dat R) (F : DatR S) : DatR (.cons R S) := ⟨fun x => D.d x.1 :: F.d x.2, fun x => D.ok x.1 ∧ F.ok x.2, max D.n F.n, fun ⟨v, r, e, h, t⟩ => by rw [e]; exact .cons (D.dp h) (F.dp t), fun h => by simp [PyData.canLayAll0, D.lay h.1, F.lay h.2],
  fun x => by have h1 := D.dep x.1; have h2 := F.dep x.2; simp only [PyData.depthAll]; omega, fun x y => by simp [PyData.eqvAll, D.eq, F.eq, Prod.ext_iff]⟩
def datT {T : Type} {S : Row T} (F : DatR S) : Dat (aT S) := ⟨fun x => .tuple (F.d x), F.ok, F.n + 1, fun ⟨a, vs, e, _, h, t⟩ => by rw [e]; exact .tup (SqT.of h) (F.dp t), fun h => by simp only [PyData.canLay0]; exact F.lay h, fun x => by have := F.dep x; simp only [PyData.depth]; omega, fun x y => by simp only [PyData.eqv]; exact F.eq x y⟩
theorem nnT {T : Type} {S : Row T} (F : DatR S) : NoN (datT F) := fun x => ⟨rfl, rfl⟩
section
variable {T : Type} {R : Rep T}
theorem dat_all (D : Dat R) {K : PySem.W.Frag} {N : Sets} {xs : List T} {vs : List V} {H : Hp} (h : All2 (fun x v => R.r N x v H) xs vs) : DpAll K H vs (xs.map D.d) := by
  induction h with
  | nil => exact .nil
  | cons x _ ih => exact .cons (D.dp x) ih
theorem dat_lay (D : Dat R) : ∀ {xs : List T}, (∀ x ∈ xs, D.ok x) → PyData.canLayAll0 (xs.map D.d) = true
  | [], _ => by simp [PyData.canLayAll0]
  | x :: xs, h => by
    have h2 : PyData.canLayAll0 (xs.map D.d) = true := dat_lay D fun y hy => h y (List.mem_cons_of_mem _ hy)
    simp [PyData.canLayAll0, D.lay (h x (by simp)), h2]
theorem dat_dep (D : Dat R) : ∀ xs : List T, PyData.depthAll (xs.map D.d) ≤ D.n
  | [] => by simp [PyData.depthAll]
  | x :: xs => by have h1 := D.dep x; have h2 := dat_dep D xs; simp only [List.map_cons, PyData.depthAll]; omega
theorem dat_eq (D : Dat R) : ∀ xs ys : List T, PyData.eqvAll (xs.map D.d) (ys.map D.d) = true ↔ xs = ys
  | [], [] => by simp [PyData.eqvAll]
  | [], _ :: _ => by simp [PyData.eqvAll]
  | _ :: _, [] => by simp [PyData.eqvAll]
  | x :: xs, y :: ys => by simp [PyData.eqvAll, D.eq, dat_eq D xs ys]
def datV (D : Dat R) : Dat (aV R) := ⟨fun xs => .tuple (xs.map D.d), fun xs => ∀ x ∈ xs, D.ok x, D.n + 1, fun ⟨a, vs, e, _, h, t⟩ => by rw [e]; exact .tup (SqT.of h) (dat_all D t), fun h => by simp only [PyData.canLay0]; exact dat_lay D h, fun x => by have := dat_dep D x; simp only [PyData.depth]; omega, fun x y => by simp only [PyData.eqv]; exact dat_eq D x y⟩
def datL (D : Dat R) : Dat (aL R) := ⟨fun xs => .list (xs.map D.d), fun xs => ∀ x ∈ xs, D.ok x, D.n + 1, fun ⟨a, vs, e, _, h, t⟩ => by rw [e]; exact .lst (SqL.of h) (dat_all D t), fun h => by simp only [PyData.canLay0]; exact dat_lay D h, fun x => by have := dat_dep D x; simp only [PyData.depth]; omega, fun x y => by simp only [PyData.eqv]; exact dat_eq D x y⟩
end
def datN : Dat aN := datT (.cons datI (.one datI))
theorem okN (q : Nm) : datN.ok q := ⟨trivial, trivial⟩
theorem nnN : NoN datN := nnT _
namespace ev
variable {ta tb : TE} {σ : St} {H : Hp} {N : Sets} {A : Type} {R : Rep A} {x y : A} {K : PySem.W.Frag}
theorem eqD (D : Dat R) [DecidableEq A] (ha : Ev ta σ H (R.r N x)) (hb : Ev tb σ H (R.r N y)) (ox : D.ok x) (oy : D.ok y) (hn : D.n ≤ 64 := by decide) : Ev (tOp (rEqD K) ta tb) σ H (aB.r N (decide (x = y))) :=
  two ha hb (fun _ _ _ s p => R.sm s p) fun v w H1 _ p q Q k => ⟨D.d x, D.d y, D.dp p, D.dp q, by unfold SeqAt.shaped; rw [D.lay ox, decide_eq_true (Nat.le_trans (D.dep x) hn)]; rfl, by unfold SeqAt.shaped; rw [D.lay oy, decide_eq_true (Nat.le_trans (D.dep y) hn)]; rfl,
    k _ H1 (.refl H1) (by show V.bl _ = V.bl _; congr 1; rw [Bool.eq_iff_iff, D.eq]; simp)⟩
theorem neD (D : Dat R) [DecidableEq A] (ha : Ev ta σ H (R.r N x)) (hb : Ev tb σ H (R.r N y)) (ox : D.ok x) (oy : D.ok y) (hn : D.n ≤ 64 := by decide) : Ev (tOp (rNeD K) ta tb) σ H (aB.r N (!decide (x = y))) :=
  two ha hb (fun _ _ _ s p => R.sm s p) fun v w H1 _ p q Q k => ⟨D.d x, D.d y, D.dp p, D.dp q, by unfold SeqAt.shaped; rw [D.lay ox, decide_eq_true (Nat.le_trans (D.dep x) hn)]; rfl, by unfold SeqAt.shaped; rw [D.lay oy, decide_eq_true (Nat.le_trans (D.dep y) hn)]; rfl,
    k _ H1 (.refl H1) (by show V.bl _ = V.bl _; congr 2; rw [Bool.eq_iff_iff, D.eq]; simp)⟩
end ev
end TV
end
section
set_option Elab.async false
set_option linter.all false
set_option maxRecDepth 100000
namespace K02
open PySem L2 KB TV
set_option autoImplicit false
section
variable {P : Program} {w : World} {K : PySem.W.Frag} {mg : Str → Option Value} {base : Heap} {C : Addr}
def spIsNum : Sp := fun vs H Q _ => ∃ i : Int, vs = [.int i] ∧ ∀ H', Sm H H' → Q (.bl true) H'
theorem scIsNum : FnScope ["value"] ["value"] (defScope (top 10)) := ⟨rfl, rfl, rfl, by decide +kernel, rfl, by decide +kernel, by decide +kernel⟩
theorem ok_isnum {f : Addr} {fd : FuncData} (F : Fun K "is_number" "is_number" (top 10) f fd) (B : Bt mg) : FnOk P w K mg base CX0 1 f fd ["value"] spIsNum := by
  have S := scIsNum
  refine F.okZ scIsNum (fun vs H Q E h => ?_) (fun cdv A outer s H vs Q E hr h => ?_)
  · obtain ⟨i, rfl, _⟩ := h
    rfl
  · obtain ⟨i, rfl, k⟩ := h
    refine ⟨_, (Z.last (Z.ret (Z.and (Z.cb Z.isi B.isi (Z.cons (Z.vl 0) (Z.cons (Z.ty "int" B.int) Z.nil))) (Z.one (Z.not (Z.cb Z.isi B.isi (Z.cons (Z.vl 0) (Z.cons (Z.ty "bool" B.bool) Z.nil)))))))), ?_⟩
    show tRet _ _ [some (.int i)] H
    have hi : ∀ (T : String) (hT : T ∈ ["int", "bool", "str", "tuple", "list"]), Ev (tCB (rIsi K) (tCons (tVar 0) (tCons (tC (.ty T)) tNil))) [some (.int i)] H (aB.r none' (isiB "int" T)) := fun T hT => ev.isi (P := fun v _ => v = .int i) (n := "int") (ev.raw rfl) (fun _ _ _ _ e => e) (fun v H' e => by rw [e]; exact .int i) hT
    exact st.ret (ev.andV (hi "int" (by simp)) fun _ => ev.notV (hi "bool" (by simp))) fun v H' s e => by
      cases (show v = .bl _ from e)
      exact k H' s
def spIsSized : Sp := fun vs H Q _ => ∃ (q : Nm) (v : V), vs = [v, .int 2] ∧ aN.r none' q v H ∧ ∀ H', Sm H H' → Q (.bl true) H'
theorem scIsSized : FnScope ["value", "size"] ["value", "size"] (defScope (top 11)) := ⟨rfl, rfl, rfl, by decide +kernel, rfl, by decide +kernel, by decide +kernel⟩
theorem ok_issized {f : Addr} {fd : FuncData} (F : Fun K "is_sized" "is_sized" (top 11) f fd) (B : Bt mg) : FnOk P w K mg base CX0 1 f fd ["value", "size"] spIsSized := by
  have S := scIsSized
  refine F.okZ scIsSized (fun vs H Q E h => ?_) (fun cdv A outer s H vs Q E hr h => ?_)
  · obtain ⟨q, v, rfl, _⟩ := h
    rfl
  · obtain ⟨q, v, rfl, fq, k⟩ := h
    refine ⟨_, (Z.last (Z.ret (Z.and (Z.cb Z.isi B.isi (Z.cons (Z.vl 0) (Z.cons (Z.ty "tuple" B.tuple) Z.nil))) (Z.one (Z.cmp Z.eq (Z.cb Z.len B.len (Z.cons (Z.vl 0) Z.nil)) (Z.vl 1)))))), ?_⟩
    show tRet _ _ [some v, some (.int 2)] H
    refine st.ret (ev.andV (N := none') (b := isiB "tuple" "tuple") (c := decide ((2 : Int) = 2)) (ev.isi (P := fun v H' => aN.r none' q v H') (ev.var rfl fq) (fun _ _ _ s e => aN.sm s e) (fun v H' e => by obtain ⟨a, rfl, _, h⟩ := aN_out e; exact .tup (SqT.of h))) fun _ => ev.eqI (N := none') ?_ (ev.var rfl rfl)) fun v H' s e => by
      cases (show v = .bl _ from e)
      exact k H' s
    exact ev.cb (ev.arg1 (ev.var rfl fq)) fun vs H1 _ ⟨v, e, p⟩ Q k => by
      obtain ⟨a, rfl, _, h⟩ := aN_out p
      exact ⟨a, _, e, .inr (SqT.of h), k _ _ (.refl _) rfl⟩
def spIsPair : Sp := fun vs H Q _ => ∃ (q : Nm) (v : V), vs = [v] ∧ aN.r none' q v H ∧ ∀ H', Sm H H' → Q (.bl true) H'
theorem scIsPair : FnScope ["value"] ["value"] (defScope (top 12)) := ⟨rfl, rfl, rfl, by decide +kernel, rfl, by decide +kernel, by decide +kernel⟩
theorem ok_ispair {f f1 f2 : Addr} {fd fd1 fd2 : FuncData} (F : Fun K "is_pair" "is_pair" (top 12) f fd) (B : Bt mg) (Dis_number : Dn K mg "is_number" (top 10) ["value"] f1 fd1) (Dis_sized : Dn K mg "is_sized" (top 11) ["value", "size"] f2 fd2) : FnOk P w K mg base CX0 2 f fd ["value"] spIsPair := by
  have S := scIsPair
  have Gis_number := ok_isnum (P := P) (w := w) (base := base) Dis_number.F B
  have Gis_sized := ok_issized (P := P) (w := w) (base := base) Dis_sized.F B
  refine F.okZ scIsPair (fun vs H Q E h => ?_) (fun cdv A outer s H vs Q E hr h => ?_)
  · obtain ⟨q, v, rfl, _⟩ := h
    rfl
  · obtain ⟨q, v, rfl, fq, k⟩ := h
    refine ⟨_, (Z.last (Z.ret (Z.and (Z.cf Gis_sized hr Dis_sized.m Dis_sized.F.kp Dis_sized.b pass0 (Z.cons (Z.vl 0) (Z.cons Z.int Z.nil))) (Z.and (Z.cf Gis_number hr Dis_number.m Dis_number.F.kp Dis_number.b pass0 (Z.cons (Z.ix Z.ixT (Z.vl 0) Z.int) Z.nil)) (Z.one (Z.cf Gis_number hr Dis_number.m Dis_number.F.kp Dis_number.b pass0 (Z.cons (Z.ix Z.ixT (Z.vl 0) Z.int) Z.nil))))))), ?_⟩
    show tRet _ _ [some v] H
    have fv := ev.var (σ := [some v]) (n := 0) rfl fq
    have num : ∀ {E : XK} {te : TE} {i : Int}, Ev te [some v] H (aI.r none' i) → Ev (tCall spIsNum [] E (tCons te tNil)) [some v] H (aB.r none' true) := fun {E te i} e => ev.call (ev.arg1 e) fun vs H1 _ ⟨v, ev, p⟩ Q k => ⟨i, by subst ev; cases (show v = .int i from p); rfl, fun H' s => k _ H' s rfl⟩
    refine st.ret (ev.andV (N := none') (b := true) (c := true && true) (ev.call (ev.arg2 (P1 := fun v H' => aN.r none' q v H') (P2 := fun v _ => v = .int 2) fv (fun H1 s Q k => k _ H1 (.refl _) rfl) fun _ _ _ s e => aN.sm s e) fun vs H1 _ ⟨v, w, e, p, ew⟩ Q k => ⟨q, v, by rw [e, ew]; rfl, p, fun H' s => k _ H' s rfl⟩) fun _ => ev.andV (N := none') (num (ev.ix (n := 0) ev.At.first fv)) fun _ => num (ev.ix (n := 1) (ev.At.next ev.At.last) fv)) fun v H' s e => by
      cases (show v = .bl _ from e)
      exact k H' s
end
end K02
end
section
set_option Elab.async false
set_option linter.all false
set_option maxRecDepth 100000
set_option autoImplicit false
namespace TV
open PySem L2 KB
def EX (C : Sets) (A : Hp → Prop) (te : TE) (σ : St) (H : Hp) (P : V → Hp → Prop) : Prop := ∀ H1, Go C H H1 → A H1 → ∀ Q : VK, (∀ v H2, Go C H1 H2 → A H2 → P v H2 → Q v H2) → te σ H1 Q
def EXT (C : Sets) (A : Hp → Prop) (tt : TT) (σ : St) (H : Hp) (P : Bool → Prop) : Prop := ∀ H1, Go C H H1 → A H1 → ∀ Q : Bool → Hp → Prop, (∀ b H2, Go C H1 H2 → A H2 → P b → Q b H2) → tt σ H1 Q
def So {T : Type} (R : Rep T) (N : Sets) (Φ : T → Prop) (v : V) (H : Hp) : Prop := ∃ x, Φ x ∧ R.r N x v H
section
variable {te ta tb tl tl1 : TE} {tt tu : TT} {ts : TA} {t u : TS} {σ : St} {H : Hp} {P P1 P2 P3 : V → Hp → Prop} {Q : VK} {N C : Sets} {A : Hp → Prop} {T B : Type} {R : Rep T} {S : Rep B} {K : PySem.W.Frag} {D : Ends} {n : Nat} {g : TG} {vs : List Nat} {Φ : T → Prop} {Ψ : B → Prop}
theorem EX.use (e : EX C A te σ H P) (a : A H) (k : ∀ v H', Go C H H' → A H' → P v H' → Q v H') : te σ H Q := e H (.refl H) a Q k
theorem EXT.use {P : Bool → Prop} {Q : Bool → Hp → Prop} (e : EXT C A tt σ H P) (a : A H) (k : ∀ b H', Go C H H' → A H' → P b → Q b H') : tt σ H Q := e H (.refl H) a Q k
theorem EX.go {H' : Hp} (e : EX C A te σ H P) (g : Go C H H') : EX C A te σ H' P := fun H1 g1 a Q k => e H1 (g.trans g1) a Q k
theorem EX.of (hA : ∀ {H H'}, Sm H H' → A H → A H') (e : ∀ H1, Go C H H1 → Ev te σ H1 P) : EX C A te σ H P := fun H1 g a Q k => (e H1 g).use fun v H2 s p => k v H2 (.of s) (hA s a) p
theorem EX.imp (e : EX C A te σ H P1) (h : ∀ v H', P1 v H' → P2 v H') : EX C A te σ H P2 := fun H1 g a Q k => e H1 g a Q fun v H2 g2 a2 p => k v H2 g2 a2 (h v H2 p)
theorem EX.two {r : R2} (ha : EX C A ta σ H P1) (hb : EX C A tb σ H P2) (st : ∀ v H1 H2, Go C H1 H2 → P1 v H1 → P1 v H2)
    (h : ∀ v w H1, A H1 → P1 v H1 → P2 w H1 → ∀ Q : VK, (∀ u H2, Go C H1 H2 → A H2 → P3 u H2 → Q u H2) → r v w H1 Q) : EX C A (tOp r ta tb) σ H P3 := fun H1 g a Q k =>
  ha H1 g a _ fun v H2 g2 a2 p => hb H2 (g.trans g2) a2 _ fun w H3 g3 a3 q => h v w H3 a3 (st v H2 H3 g3 p) q Q fun u H4 g4 a4 p3 => k u H4 ((g2.trans g3).trans g4) a4 p3
theorem So.go (hC : ∀ a, C a → N a) : ∀ (v : V) (H1 H2 : Hp), Go C H1 H2 → So R N Φ v H1 → So R N Φ v H2 := fun v H1 H2 g ⟨x, p, r⟩ => ⟨x, p, R.kp (g.kp hC) r⟩
theorem EX.opI {g : Int → Int → V} {Φ Ψ : Int → Prop} (ha : EX C A ta σ H (So aI N Φ)) (hb : EX C A tb σ H (So aI N Ψ)) (h : ∀ i j H', Φ i → Ψ j → P (g i j) H') : EX C A (tOp (rI0 g) ta tb) σ H P :=
  EX.two ha hb (fun v _ _ _ ⟨x, p, r⟩ => ⟨x, p, r⟩) fun v w H1 a ⟨i, p, e⟩ ⟨j, q, f⟩ Q k => ⟨i, j, e, f, k _ H1 (.refl H1) a (h i j H1 p q)⟩
theorem EX.opC {G : Int → Int → Prop} {g : Int → Int → V} {Φ Ψ : Int → Prop} (ha : EX C A ta σ H (So aI N Φ)) (hb : EX C A tb σ H (So aI N Ψ)) (hG : ∀ i j, Φ i → Ψ j → G i j) (h : ∀ i j H', Φ i → Ψ j → P (g i j) H') : EX C A (tOp (rI G g) ta tb) σ H P :=
  EX.two ha hb (fun v _ _ _ ⟨x, p, r⟩ => ⟨x, p, r⟩) fun v w H1 a ⟨i, p, e⟩ ⟨j, q, f⟩ Q k => ⟨i, j, e, f, hG i j p q, k _ H1 (.refl H1) a (h i j H1 p q)⟩
theorem EX.int {i : Int} (hA : ∀ {H H'}, Sm H H' → A H → A H') : EX C A (tC (.int i)) σ H (So aI N (fun j => j = i)) := .of hA fun H1 _ => ev.int.imp fun v _ _ e => ⟨i, rfl, e⟩
theorem EX.num {i : Int} {m : Nat} (hA : ∀ {H H'}, Sm H H' → A H → A H') (h : σ[m]? = some (some (.int i))) : EX C A (tVar m) σ H (So aI N (fun j => j = i)) := .of hA fun H1 _ => (ev.var (R := aI) (N := N) h rfl).imp fun v _ _ e => ⟨i, rfl, e⟩
theorem EX.pick {xs : List T} {Φ : Int → Prop} {Φ2 : T → Prop} (ha : EX C A ta σ H ((aL R).r N xs)) (hb : EX C A tb σ H (So aI N Φ)) (hC : ∀ a, C a → N a) (h : ∀ i, Φ i → 0 ≤ i ∧ i < xs.length) (hm : ∀ x ∈ xs, Φ2 x) : EX C A (tOp (rIxL K) ta tb) σ H (So R N Φ2) :=
  EX.two ha hb (fun v _ _ g p => (aL R).kp (g.kp hC) p) fun v w H1 a p ⟨i, q, f⟩ Q k => by
    obtain ⟨b, us, rfl, nb, hu, al⟩ := p
    obtain ⟨h1, h2⟩ := h i q
    obtain ⟨x, hx⟩ : ∃ x, xs[i.toNat]? = some x := ⟨_, List.getElem?_eq_getElem (by omega)⟩
    obtain ⟨u, hu2, r⟩ := al.get hx
    have ei : ((i.toNat : Nat) : Int) = i := by omega
    exact ⟨b, us, i, u, rfl, f, SqL.of hu, by rw [← ei]; exact atI_nat hu2, k _ _ (.refl _) a ⟨x, hm x (List.mem_of_getElem? hx), r⟩⟩
theorem EXT.test {Φ : Bool → Prop} (e : EX C A te σ H (So aB N Φ)) : EXT C A (tTest te) σ H Φ := fun H1 g a Q k => e H1 g a _ fun v H2 g2 a2 ⟨b, p, f⟩ => ⟨b, f, k b H2 g2 a2 p⟩
theorem EXT.val {Φ : Bool → Prop} (e : EX C A te σ H (So aB N Φ)) : EXT C A (tB te) σ H Φ := fun H1 g a Q k => e H1 g a _ fun v H2 g2 a2 ⟨b, p, f⟩ => ⟨b, f, k b H2 g2 a2 p⟩
theorem EXT.of {b : Bool} (hA : ∀ {H H'}, Sm H H' → A H → A H') (e : ∀ H1, Go C H H1 → EvT tt σ H1 b) : EXT C A tt σ H (fun c => c = b) := fun H1 g a Q k => (e H1 g).use fun H2 s => k b H2 (.of s) (hA s a) rfl
theorem EXT.or {Φ Ψ : Bool → Prop} (e : EXT C A tt σ H Φ) (f : EXT C A tu σ H Ψ) : EXT C A (tOr tt tu) σ H (fun c => (c = true ∧ Φ true) ∨ (Φ false ∧ Ψ c)) := fun H1 g a Q k => e H1 g a _ fun b H2 g2 a2 p => by
  cases b with
  | true => exact iteT (k true H2 g2 a2 (.inl ⟨rfl, p⟩))
  | false => exact iteF (f H2 (g.trans g2) a2 _ fun c H3 g3 a3 q => k c H3 (g2.trans g3) a3 (.inr ⟨p, q⟩))
theorem EXT.or' {Φ Ψ : Bool → Prop} (e : EXT C A tt σ H Φ) (f : Φ false → EXT C A tu σ H Ψ) : EXT C A (tOr tt tu) σ H (fun c => (c = true ∧ Φ true) ∨ (Φ false ∧ Ψ c)) := fun H1 g a Q k => e H1 g a _ fun b H2 g2 a2 p => by
  cases b with
  | true => exact iteT (k true H2 g2 a2 (.inl ⟨rfl, p⟩))
  | false => exact iteF (f p H2 (g.trans g2) a2 _ fun c H3 g3 a3 q => k c H3 (g2.trans g3) a3 (.inr ⟨p, q⟩))
theorem EX.lt {Φ Ψ : Int → Prop} (ha : EX C A ta σ H (So aI N Φ)) (hb : EX C A tb σ H (So aI N Ψ)) : EX C A (tOp (rI0 fun i j => .bl (decide (j < i))) ta tb) σ H (So aB N (fun b => ∃ i j, Φ i ∧ Ψ j ∧ b = decide (j < i))) := .opI ha hb fun i j _ p q => ⟨_, ⟨i, j, p, q, rfl⟩, rfl⟩
theorem EX.eqI {Φ Ψ : Int → Prop} (ha : EX C A ta σ H (So aI N Φ)) (hb : EX C A tb σ H (So aI N Ψ)) : EX C A (tOp rEq ta tb) σ H (So aB N (fun b => ∃ i j, Φ i ∧ Ψ j ∧ b = decide (i = j))) :=
  EX.two ha hb (fun v _ _ _ ⟨x, p, r⟩ => ⟨x, p, r⟩) fun v w H1 a ⟨i, p, e⟩ ⟨j, q, f⟩ Q k => by
    cases (show v = .int i from e)
    cases (show w = .int j from f)
    exact ⟨rfl, k _ H1 (.refl H1) a ⟨_, ⟨i, j, p, q, rfl⟩, by show V.bl _ = V.bl _; congr 1; exact decide_eq_decide.mpr ⟨fun z => V.int.inj z, fun z => by rw [z]⟩⟩⟩
end
theorem EX.lcR {C N : Sets} {A : Hp → Prop} {T : Type} {R : Rep T} {te : TE} {σ : St} {H : Hp} {Φ : T → Prop} {Ψ : Int → Prop} {i : Nat} {tr : TE} (hA : ∀ {H H'}, Sm H H' → A H → A H') (hU : ∀ {H : Hp} {D : Addr} {o : HO}, A H → H D = none → ∀ H', A H' → A (upd H' D o)) (tk : Trk N H) (hC : ∀ a, C a → N a)
    (ha : EX C A tr σ H (So aI N Ψ)) (hΨ : ∀ m, Ψ m → 0 ≤ m ∧ m < 1000)
    (he : ∀ (N' : Sets) (H1 : Hp), (∀ a, N' a → N a ∨ H a = none) → (∀ a, N a → N' a) → Trk N' H1 → Kp N H H1 → ∀ j : Nat, EX C A te ((wipe σ [i]).set i (some (.int j))) H1 (So R N' Φ)) (hw2 : ∀ v, wipe ((wipe σ [i]).set i (some v)) [i] = wipe σ [i]) :
    EX C A (tLc (iRng1 (tCons tr tNil)) (gName i) tYes te [i]) σ H (fun v H' => ∃ (n : Nat) (xs : List T), Ψ n ∧ xs.length = n ∧ (∀ x ∈ xs, Φ x) ∧ PL R N xs v H') := by
  intro H1 g1 a1 Q k
  refine ha H1 g1 a1 _ fun v H2 g12 a2 ⟨m0, pm, e1⟩ => ?_
  cases (show v = .int m0 from e1)
  obtain ⟨hm1, hm2⟩ := hΨ m0 pm
  obtain ⟨n, rfl⟩ : ∃ n : Nat, m0 = n := ⟨m0.toNat, by omega⟩
  refine ⟨n, rfl, by omega, by omega, fun D hD => ?_⟩
  have g2 := g1.trans g12
  obtain ⟨N', hN⟩ : ∃ N' : Sets, N' = fun b => b = D ∨ N b := ⟨_, rfl⟩
  have gN2 : ∀ a, N' a → N a ∨ H2 a = none := fun b z => by rw [hN] at z; exact z.elim (fun y => .inr (y ▸ hD)) .inl
  have gN : ∀ a, N' a → N a ∨ H a = none := fun b z => (gN2 b z).imp id (g2.d b)
  have gB : ∀ a, N a → N' a := fun b z => by rw [hN]; exact .inr z
  have hDN : N' D := by rw [hN]; exact .inl rfl
  have tk2 : Trk N' (upd H2 D (.lst [])) := hN ▸ (tk.go g2).grow nt_lst
  have nDC : ¬ C D := fun z => ((tk.go g2).no hD) (hC D z)
  refine lc_range (lo := 0) (n := (n : Int).toNat) (fun j H' => Go (fun b => b = D ∨ C b) H2 H' ∧ A H' ∧ Trk N' H' ∧ ∃ xs acc, H' D = some (.lst acc) ∧ acc.length = j ∧ (∀ x ∈ xs, Φ x) ∧ All2 (fun x v => R.r N' x v H') xs acc) ⟨(Go.refl _).up (.inl rfl) nt_lst, hU a2 hD _ a2, tk2, [], [], upd_same, rfl, fun _ h => absurd h (by simp), .nil⟩ ?_ ?_
  · rintro j H' hj ⟨g, a', tk', xs, acc, hacc, hl, hΦ, al⟩
    have hj' : j < n := by simpa using hj
    show _ ∧ _
    refine ⟨hw2 _, ?_⟩
    unfold tYes
    dsimp only
    rw [if_pos rfl]
    have kp : Kp N H H' := (g2.kp hC).trans ⟨fun b us nb e => g.get (fun z => z.elim (fun y => by rw [y, hD] at e; cases e) fun y => nb (hC b y)) noTb_tup e, fun b u nb pl e => by
      have nbD : b ≠ D := fun y => by rcases e with e | ⟨_, e⟩ <;> (rw [y, hD] at e; cases e)
      exact e.elim (fun e => .inl (g.get (fun z => z.elim nbD fun y => nb (hC b y)) noTb e)) fun ⟨o, e⟩ => .inr ⟨o, g.get (fun z => z.elim nbD fun y => nb (hC b y)) noTb_frz e⟩, fun b us nb e => g.get (fun z => z.elim (fun y => by rw [y, hD] at e; cases e) fun y => nb (hC b y)) noTb_lst e⟩
    have hcast : (V.int ((0 : Int) + (j : Int))) = V.int (j : Int) := by rw [Int.zero_add]
    rw [hcast]
    refine (he N' H' gN gB tk' kp j).use a' fun y H3 g3 a3 ⟨x, px, rx⟩ => ⟨acc, g3.get nDC noTb_lst hacc, Nat.lt_of_le_of_lt (by omega : acc.length ≤ 1000) (by decide), (g.trans (g3.mono fun b z => .inr z)).up (.inl rfl) nt_lst, hU a2 hD _ a3, (tk'.go g3).up nt_lst, xs ++ [x], _, upd_same, by rw [List.length_append, hl]; rfl, fun z hz => ?_, ?_⟩
    · rcases List.mem_append.mp hz with h | h
      · exact hΦ z h
      · simp at h; rw [h]; exact px
    · have hC' : ∀ a, C a → N' a := fun b z => gB b (hC b z)
      exact ((al.imp fun _ _ z => R.up hDN (R.kp (g3.kp hC') z)).snoc (R.up hDN rx))
  · rintro H' ⟨g, a', tk', xs, acc, hacc, hl, hΦ, al⟩
    have hnn : acc.length = n := by simpa using hl
    refine k _ H' (g12.join g fun b z => ?_) a' ⟨n, xs, pm, by rw [al.length]; exact hnn, hΦ, D, acc, rfl, (tk.go g2).no hD, hacc, al.imp fun _ _ z => R.mv (fun b y => .inl (gB b y)) (.of (.refl _)) z⟩
    rcases z with z | z
    · exact .inr (by rw [z]; exact g12.d D hD)
    · exact .inl z
end TV
end
section
set_option Elab.async false
set_option linter.all false
set_option maxRecDepth 100000
set_option autoImplicit false
namespace TV
open PySem L2 KB
section
variable {te ta tb tl tl1 : TE} {tt tu : TT} {ts : TA} {t u : TS} {σ : St} {H : Hp} {P P1 P2 P3 : V → Hp → Prop} {Q : VK} {N C : Sets} {A : Hp → Prop} {T B : Type} {R : Rep T} {S : Rep B} {K : PySem.W.Frag} {D : Ends} {n : Nat} {g : TG} {vs : List Nat} {Φ : T → Prop} {Ψ : B → Prop} {tb0 : TS}
theorem EX.lcL {Θ : T → B → Prop} {i : Nat} {p : T → Bool} {xs : List T} (hA : ∀ {H H'}, Sm H H' → A H → A H') (hU : ∀ {H : Hp} {D : Addr} {o : HO}, A H → H D = none → ∀ H', A H' → A (upd H' D o)) (tk : Trk N H) (hC : ∀ a, C a → N a)
    (e : EX C A tl σ H ((aL R).r N xs)) (hl : xs.length < 1000)
    (he : ∀ x ∈ xs, ∀ (N' : Sets) (H1 : Hp), (∀ a, N' a → N a ∨ H a = none) → (∀ a, N a → N' a) → Trk N' H1 → Kp N H H1 → ∀ v, R.r N' x v H1 → EvT tt ((wipe σ [i]).set i (some v)) H1 (p x) ∧ (p x = true → EX C A te ((wipe σ [i]).set i (some v)) H1 (So S N' (Θ x)))) (hw2 : ∀ v, wipe ((wipe σ [i]).set i (some v)) [i] = wipe σ [i]) :
    EX C A (tLc (iList K tl) (gName i) tt te [i]) σ H (fun v H' => ∃ ys : List B, All2 Θ (xs.filter p) ys ∧ PL S N ys v H') := by
  intro H1 g1 a1 Q k
  refine e H1 g1 a1 _ fun v H2 g2' a2 q => ?_
  obtain ⟨a, us, rfl, na, ha, al⟩ := q
  refine ⟨a, rfl, ⟨us, SqL.of ha⟩, fun D hD => ?_⟩
  have g2 := g1.trans g2'
  obtain ⟨N', hN⟩ : ∃ N' : Sets, N' = fun b => b = D ∨ N b := ⟨_, rfl⟩
  have gN2 : ∀ a, N' a → N a ∨ H2 a = none := fun b z => by rw [hN] at z; exact z.elim (fun y => .inr (y ▸ hD)) .inl
  have gN : ∀ a, N' a → N a ∨ H a = none := fun b z => (gN2 b z).imp id (g2.d b)
  have gB : ∀ a, N a → N' a := fun b z => by rw [hN]; exact .inr z
  have hDN : N' D := by rw [hN]; exact .inl rfl
  have tk2 : Trk N' (upd H2 D (.lst [])) := hN ▸ (tk.go g2).grow nt_lst
  have nDC : ¬ C D := fun z => ((tk.go g2).no hD) (hC D z)
  have hC' : ∀ a, C a → N' a := fun b z => gB b (hC b z)
  have kp2 : ∀ {H' : Hp}, Go (fun b => b = D ∨ C b) H2 H' → Kp N H2 H' := fun g => ⟨fun b us nb e => g.get (fun z => z.elim (fun y => by rw [y, hD] at e; cases e) fun y => nb (hC b y)) noTb_tup e, fun b u nb pl e => by
    have nbD : b ≠ D := fun y => by rcases e with e | ⟨_, e⟩ <;> (rw [y, hD] at e; cases e)
    exact e.elim (fun e => .inl (g.get (fun z => z.elim nbD fun y => nb (hC b y)) noTb e)) fun ⟨o, e⟩ => .inr ⟨o, g.get (fun z => z.elim nbD fun y => nb (hC b y)) noTb_frz e⟩, fun b us nb e => g.get (fun z => z.elim (fun y => by rw [y, hD] at e; cases e) fun y => nb (hC b y)) noTb_lst e⟩
  have kp2' : ∀ {H' : Hp}, Go (fun b => b = D ∨ C b) H2 H' → Kp N' H2 H' := fun g => g.kp fun b z => z.elim (fun y => by rw [y]; exact hDN) (hC' b)
  have al2 : All2 (fun x v => R.r N' x v H2) xs us := al.imp fun _ _ z => R.mv gN2 (.of (.refl _)) z
  refine lc_list (K := K) (a := a) (xs := us) (fun j H' => Go (fun b => b = D ∨ C b) H2 H' ∧ A H' ∧ Trk N' H' ∧ ∃ ys acc, H' D = some (.lst acc) ∧ acc.length ≤ j ∧ All2 Θ ((xs.take j).filter p) ys ∧ All2 (fun x v => S.r N' x v H') ys acc) ⟨(Go.refl _).up (.inl rfl) nt_lst, hU a2 hD _ a2, tk2, [], [], upd_same, Nat.le_refl _, by simpa using All2.nil, .nil⟩ ?_ ?_ ?_
  · rintro j H' hj ⟨g, _⟩
    exact SqL.of ((kp2 g).l a _ na ha)
  · rintro j w H' hw ⟨g, a', tk', ys, acc, hacc, hle, alΘ, al'⟩
    obtain ⟨x, hx, r0⟩ := al2.got hw
    have hj : j < xs.length := (List.getElem?_eq_some_iff.mp hx).1
    have tkj : xs.take (j + 1) = xs.take j ++ [x] := by rw [← List.take_append_getElem hj, (List.getElem?_eq_some_iff.mp hx).2]
    have r := R.kp (kp2' g) r0
    obtain ⟨et, ee⟩ := he x (List.mem_of_getElem? hx) N' H' gN gB tk' ((g2.kp hC).trans (kp2 g)) w r
    refine ⟨hw2 _, et.use fun H3 s3 => ?_⟩
    rw [tkj, List.filter_append]
    cases c : p x with
    | false =>
      refine iteF ⟨g.sm s3, hA s3 a', tk'.sm s3, ys, acc, s3.lst hacc, by omega, ?_, al'.imp fun _ _ z => S.sm s3 z⟩
      rw [List.filter_cons_of_neg (by simp [c]), List.filter_nil, List.append_nil]
      exact alΘ
    | true =>
      refine iteT ((ee c).go (Go.of s3) |>.use (hA s3 a') fun y H4 g4 a4 ⟨z, pz, rz⟩ => ⟨acc, g4.get nDC noTb_lst (s3.lst hacc), Nat.lt_of_le_of_lt (by omega : acc.length ≤ 1000) (by decide), ((g.sm s3).trans (g4.mono fun b z => .inr z)).up (.inl rfl) nt_lst, hU a2 hD _ a4, ((tk'.sm s3).go g4).up nt_lst, ys ++ [z], _, upd_same, by rw [List.length_append]; show _ + 1 ≤ _; omega, ?_, ?_⟩)
      · rw [List.filter_cons_of_pos c, List.filter_nil]
        exact alΘ.snoc pz
      · exact ((al'.imp fun _ _ z => S.up hDN (S.kp (g4.kp hC') (S.sm s3 z))).snoc (S.up hDN rz))
  · rintro H' ⟨g, a', tk', ys, acc, hacc, hle, alΘ, al'⟩
    rw [← al2.length, List.take_length] at alΘ
    refine k _ H' (g2'.join g fun b z => ?_) a' ⟨ys, alΘ, D, acc, rfl, (tk.go g2).no hD, hacc, al'.imp fun _ _ z => S.mv (fun b y => .inl (gB b y)) (.of (.refl _)) z⟩
    rcases z with z | z
    · exact .inr (by rw [z]; exact g2'.d D hD)
    · exact .inl z
namespace st
theorem forRX {Φ : Int → Prop} (e : EX C A te σ H (So aI N Φ)) (a : A H) (hΦ : ∀ i, Φ i → 0 ≤ i ∧ i < 1000) (I : Nat → Nat → St → Hp → Prop) (h0 : ∀ H1 (n : Nat), Go C H H1 → A H1 → Φ n → I n 0 σ H1)
    (hs : ∀ (n i : Nat) σ' H', Φ n → i < n → I n i σ' H' → g (.int i) σ' H' fun σ2 H2 => tb0 { D with nx := I n (i + 1), ct := I n (i + 1), bk := D.nx } σ2 H2)
    (hd : ∀ (n : Nat) σ' H', Φ n → I n n σ' H' → D.nx σ' H') : tFor (iRng1 (tCons te tNil)) g tb0 D σ H := by
  refine e.use a fun v H1 g1 a1 ⟨i0, p0, e1⟩ => ?_
  cases (show v = .int i0 from e1)
  obtain ⟨h1, h2⟩ := hΦ i0 p0
  obtain ⟨n, rfl⟩ : ∃ n : Nat, i0 = n := ⟨i0.toNat, by omega⟩
  refine ⟨n, rfl, by omega, by omega, ?_⟩
  have en : (n : Int).toNat = n := by simp
  rw [en]
  refine for_range (lo := 0) (n := n) (I n) (h0 H1 n g1 a1 p0) (fun i σ' H' hi w => ?_) fun σ' H' w => hd n σ' H' p0 w
  have hcast : (V.int ((0 : Int) + (i : Int))) = V.int (i : Int) := by rw [Int.zero_add]
  rw [hcast]
  exact hs n i σ' H' p0 hi w
theorem setX (e : EX C A te σ H P) (a : A H) (k : ∀ v H', Go C H H' → A H' → P v H' → u D (σ.set n (some v)) H') : tSeq (tAsg te (gName n)) u D σ H := e.use a k
theorem setX1 (e : EX C A te σ H P) (a : A H) (k : ∀ v H', Go C H H' → A H' → P v H' → D.nx (σ.set n (some v)) H') : tAsg te (gName n) D σ H := e.use a k
theorem retX (e : EX C A te σ H P) (a : A H) (k : ∀ v H', Go C H H' → A H' → P v H' → D.rt v H') : tRet te D σ H := e.use a k
theorem condX {P : Bool → Prop} (e : EXT C A tt σ H P) (a : A H) (k1 : P true → ∀ H', Go C H H' → A H' → t D σ H') (k2 : P false → ∀ H', Go C H H' → A H' → u D σ H') : tIfS tt t u D σ H := e.use a fun b H' g a' p => by
  cases b with
  | true => exact iteT (k1 p H' g a')
  | false => exact iteF (k2 p H' g a')
end st
end
end TV
namespace TV
open PySem L2 KB
namespace ev
section
variable {σ : St} {H : Hp} {N : Sets} {ta tb : TE} {i j : Int}
theorem all_nums : ∀ ns : List Int, All2 (fun x v => aI.r N x v H) ns (ns.map V.int)
  | [] => .nil
  | _ :: ns => .cons rfl (all_nums ns)
theorem nums (tk : Trk N H) (ns : List Int) (hn : ns.length ≤ sizeLine := by decide) : Ev (tLst fun _ H Q => Q (ns.map V.int) H) σ H (PL aI N ns) := fun H1 s Q k => ⟨by rw [List.length_map]; exact hn, fun q hq => k _ _ (.new hq) ⟨q, _, rfl, (tk.sm s).no hq, upd_same, all_nums ns⟩⟩
theorem min2 (ha : Ev ta σ H (aI.r N i)) (hb : Ev tb σ H (aI.r N j)) : Ev (tCB (fun xs H Q => ∃ i j : Int, xs = [.int i, .int j] ∧ Q (.int (if j < i then j else i)) H) (tCons ta (tCons tb tNil))) σ H (aI.r N (if j < i then j else i)) :=
  cb (arg2 (P1 := aI.r N i) (P2 := aI.r N j) ha hb fun _ _ _ _ h => h) fun vs H1 _ ⟨v, w, e, p, q⟩ Q k => ⟨i, j, by rw [e, show v = .int i from p, show w = .int j from q], k _ _ (.refl _) rfl⟩
end
end ev
end TV
namespace TV
open PySem L2 KB
section
variable {T : Type} {R : Rep T} {N C : Sets} {xs ys : List T} {v : V} {H H' : Hp} {A : Hp → Prop} {ta tb : TE} {σ : St}
theorem PL.go (h : PL R N xs v H) (g : Go C H H') (hC : ∀ a, C a → N a) : PL R N xs v H' := let ⟨a, vs, e, n, h, t⟩ := h; ⟨a, vs, e, n, g.get (fun z => n (hC a z)) noTb_lst h, t.imp fun _ _ z => R.kp (g.kp hC) z⟩
theorem PL.to {N' : Sets} (h : PL R N xs v H) (g : ∀ a, N' a → N a ∨ H a = none) (s : Sm H H') : PL R N' xs v H' := let ⟨a, vs, e, n, h, t⟩ := h; ⟨a, vs, e, fun z => (g a z).elim n fun y => (by rw [h] at y; cases y), s.lst h, t.imp fun _ _ z => R.to z g s⟩
theorem EX.cat {Φ : List T → Prop} (hA : ∀ {H H'}, Sm H H' → A H → A H') (tk : Trk N H) (hC : ∀ a, C a → N a) (ha : EX C A ta σ H (PL R N xs)) (hb : EX C A tb σ H (fun v H' => ∃ ys, Φ ys ∧ PL R N ys v H')) (hl : ∀ ys, Φ ys → xs.length + ys.length ≤ sizeLine) : EX C A (tOp rCat ta tb) σ H (fun v H' => ∃ ys, Φ ys ∧ PL R N (xs ++ ys) v H') := fun H1 g a Q k =>
  ha H1 g a _ fun v H2 g2 a2 p => hb H2 (g.trans g2) a2 _ fun w H3 g3 a3 ⟨ys, py, q⟩ => by
    obtain ⟨l, us, rfl, nl, hl1, al⟩ := p.go g3 hC
    obtain ⟨b, zs, rfl, nb, hb1, bl⟩ := q
    refine ⟨l, b, us, zs, rfl, rfl, hl1, hb1, by rw [← al.length, ← bl.length]; exact hl ys py, fun p hp => ?_⟩
    exact k _ _ ((g2.trans g3).sm (.new hp)) (hA (.new hp) a3) ⟨ys, py, p, _, rfl, ((tk.go g).go (g2.trans g3)).no hp, upd_same, (al.imp fun _ _ z => R.sm (.new hp) z).append (bl.imp fun _ _ z => R.sm (.new hp) z)⟩
end
end TV
namespace TV
open PySem L2 KB
theorem EX.tup2 {C N : Sets} {A : Hp → Prop} {T B : Type} {R : Rep T} {S : Rep B} {ta tb : TE} {σ : St} {H : Hp} {Φ : T → Prop} {Ψ : B → Prop} (hA : ∀ {H H'}, Sm H H' → A H → A H') (tk : Trk N H) (hC : ∀ a, C a → N a) (ha : EX C A ta σ H (So R N Φ)) (hb : EX C A tb σ H (So S N Ψ)) :
    EX C A (tTup (tCons ta (tCons tb tNil))) σ H (So (aP R S) N fun z => Φ z.1 ∧ Ψ z.2) := fun H1 g a Q k =>
  ha H1 g a _ fun v H2 g2 a2 ⟨x, px, rx⟩ => hb H2 (g.trans g2) a2 _ fun u H3 g3 a3 ⟨y, py, ry⟩ => ⟨Nat.le_of_ble_eq_true rfl, fun p hp =>
    k _ _ ((g2.trans g3).sm (.new hp)) (hA (.new hp) a3) ⟨(x, y), ⟨px, py⟩, p, _, rfl, ((tk.go g).go (g2.trans g3)).no hp, upd_same, v, _, rfl, R.sm (.new hp) (R.kp (g3.kp hC) rx), u, rfl, S.sm (.new hp) ry⟩⟩
end TV
end
section
set_option Elab.async false
set_option linter.all false
set_option maxRecDepth 100000
set_option autoImplicit false
namespace TV
open PySem L2 KB
theorem rs_of {N : Sets} {H : Hp} {xs : List Nm} {us : List V} (al : All2 (fun x v => aN.r N x v H) xs us) : ∃ rs : List (Addr × (Int × Int)), us = rs.map (fun r => V.ref r.1) ∧ rs.map (·.2) = xs ∧ ∀ r ∈ rs, ¬ N r.1 ∧ H r.1 = some (.tup (ptV r.2)) := by
  induction al with
  | nil => exact ⟨[], rfl, rfl, fun _ h => absurd h (by simp)⟩
  | @cons x v xs vs h _ ih =>
    obtain ⟨rs, e1, e2, e3⟩ := ih
    obtain ⟨b, eb, nb, hb⟩ := aN_out h
    refine ⟨(b, x) :: rs, by rw [eb, e1]; rfl, by rw [← e2]; rfl, fun r hr => ?_⟩
    rcases List.mem_cons.mp hr with rfl | hr
    · exact ⟨nb, hb⟩
    · exact e3 r hr
theorem any_rs (rs : List (Addr × (Int × Int))) (q : Nm) : (rs.any fun r => decide (r.2 = q)) = decide (q ∈ rs.map (·.2)) := by
  rw [Bool.eq_iff_iff]
  simp only [List.any_eq_true, decide_eq_true_eq, List.mem_map]
section
variable {te ta tb : TE} {σ : St} {H : Hp} {N : Sets} {K : PySem.W.Frag} {A : Type} {R : Rep A} {D : Ends} {u : TS} {n : Nat}
namespace ev
theorem inN {xs : List Nm} {q : Nm} {neg : Bool} (ha : Ev ta σ H (aN.r N q)) (hb : Ev tb σ H ((aL aN).r N xs)) : Ev (tOp (rInN K neg) ta tb) σ H (aB.r N (if neg then !decide (q ∈ xs) else decide (q ∈ xs))) :=
  two ha hb (fun _ _ _ s p => aN.sm s p) fun v w H1 _ p r Q k => by
    obtain ⟨a, rfl, _, h⟩ := aN_out p
    obtain ⟨b, us, rfl, _, hb, al⟩ := r
    obtain ⟨rs, e1, e2, e3⟩ := rs_of al
    subst e1
    exact ⟨a, b, q, rs, rfl, rfl, SqT.of h, .inl (SqL.of hb), fun r hr => SqT.of (e3 r hr).2, k _ _ (.refl _) (by rw [any_rs, e2]; rfl)⟩
theorem inV {xs : List Nm} {q : Nm} {neg : Bool} (ha : Ev ta σ H (aN.r N q)) (hb : Ev tb σ H ((aV aN).r N xs)) : Ev (tOp (rInN K neg) ta tb) σ H (aB.r N (if neg then !decide (q ∈ xs) else decide (q ∈ xs))) :=
  two ha hb (fun _ _ _ s p => aN.sm s p) fun v w H1 _ p r Q k => by
    obtain ⟨a, rfl, _, h⟩ := aN_out p
    obtain ⟨b, us, rfl, _, hb, al⟩ := r
    obtain ⟨rs, e1, e2, e3⟩ := rs_of al
    subst e1
    exact ⟨a, b, q, rs, rfl, rfl, SqT.of h, .inr (SqT.of hb), fun r hr => SqT.of (e3 r hr).2, k _ _ (.refl _) (by rw [any_rs, e2]; rfl)⟩
end ev
namespace st
theorem pop {xs : List A} {x : A} {a : Addr} {k : Nat} (c : LC R N (xs ++ [x]) a H) (na : N a) (hv : σ[k]? = some (some (.ref a))) (h : ∀ v vs, R.r N x v (upd H a (.lst vs)) → LC R N xs a (upd H a (.lst vs)) → u D (σ.set n (some v)) (upd H a (.lst vs))) :
    tSeq (tAsg (tBM0 K "list" rPop (tVar k)) (gName n)) u D σ H := by
  obtain ⟨vs, e1, t⟩ := c
  have hl := t.length
  have e2 : (xs ++ [x])[xs.length]? = some x := by simp
  obtain ⟨v, hv2, r⟩ := t.get e2
  have t2 := t.dropLast
  rw [List.dropLast_concat] at t2
  refine ⟨_, hv, .inl ⟨rfl, _, SqL.of e1⟩, a, vs, v, rfl, rfl, e1, ?_, h v _ (R.up na r) ⟨_, upd_same, t2.imp fun _ _ z => R.up na z⟩⟩
  rw [← hl, List.length_append]
  exact hv2
end st
end
structure WayL (f : Nm → List Nm) (ns fd l : List Nm) : Prop where
  re : ∀ q, q ∈ fd ∨ q ∈ l → Reach f ns q
  cl : ∀ p ∈ fd, ∀ q ∈ f p, q ∈ fd ∨ q ∈ l
  st : ∀ q ∈ ns, q ∈ fd ∨ q ∈ l
theorem WayL.start (f : Nm → List Nm) (ns : List Nm) : WayL f ns [] ns := ⟨fun q h => h.elim (fun z => absurd z (by simp)) .here, fun _ h => absurd h (by simp), fun _ h => .inr h⟩
theorem WayL.old {f : Nm → List Nm} {ns fd l : List Nm} {q : Nm} (w : WayL f ns fd (l ++ [q])) (h : q ∈ fd) : WayL f ns fd l := by
  have mv : ∀ r, r ∈ fd ∨ r ∈ l ++ [q] → r ∈ fd ∨ r ∈ l := fun r hr => hr.elim .inl fun z => by
    rcases List.mem_append.mp z with z | z
    · exact .inr z
    · simp at z; rw [z]; exact .inl h
  exact ⟨fun r hr => w.re r (hr.imp id fun z => by simp [z]), fun p hp r hr => mv r (w.cl p hp r hr), fun r hr => mv r (w.st r hr)⟩
theorem WayL.new {f : Nm → List Nm} {ns fd l : List Nm} {q : Nm} (w : WayL f ns fd (l ++ [q])) : WayL f ns (fd ++ [q]) (l ++ f q) := by
  have hq : Reach f ns q := w.re q (.inr (by simp))
  have mv : ∀ r, r ∈ fd ∨ r ∈ l ++ [q] → r ∈ fd ++ [q] ∨ r ∈ l ++ f q := fun r hr => hr.elim (fun z => .inl (by simp [z])) fun z => by
    rcases List.mem_append.mp z with z | z
    · exact .inr (by simp [z])
    · simp at z; rw [z]; exact .inl (by simp)
  refine ⟨fun r hr => ?_, fun p hp r hr => ?_, fun r hr => mv r (w.st r hr)⟩
  · rcases hr with hr | hr
    · rcases List.mem_append.mp hr with z | z
      · exact w.re r (.inl z)
      · simp at z; rw [z]; exact hq
    · rcases List.mem_append.mp hr with z | z
      · exact w.re r (.inr (by simp [z]))
      · exact .step hq z
  · rcases List.mem_append.mp hp with z | z
    · exact mv r (w.cl p z r hr)
    · simp at z; subst z; exact .inr (by simp [hr])
theorem WayL.done {f : Nm → List Nm} {ns fd : List Nm} (w : WayL f ns fd []) (q : Nm) : q ∈ fd ↔ Reach f ns q := by
  refine ⟨fun h => w.re q (.inl h), fun h => ?_⟩
  induction h with
  | here h => exact (w.st _ h).resolve_right (by simp)
  | step _ h ih => exact (w.cl _ ih _ h).resolve_right (by simp)
end TV
namespace TV
open PySem L2 KB
section
variable {te ta tb : TE} {tt : TT} {σ : St} {H : Hp} {N : Sets} {K : PySem.W.Frag} {A B : Type} {R : Rep A} {S : Rep B} {g : TG} {vs : List Nat} {D : Ends} {u : TS} {n : Nat}
abbrev FL (R : Rep A) (N : Sets) (H0 : Hp) (xs : List A) (v : V) (H : Hp) : Prop := ∃ l, v = .ref l ∧ H0 l = none ∧ (aL R).r N xs (.ref l) H
namespace ev
theorem fld {i : Nat} {a C dx : Addr} {fs : List (Str × V)} {fl : Str} {v : V} {P : V → Hp → Prop} (hi : σ[i]? = some (some (.ref a))) (ho : H a = some (.ins C dx fs)) (hc : Cls K C) (hn : NoAttr K C fl) (hl : fs.lookup fl = some v) (hp : ∀ H1, Sm H H1 → P v H1) : Ev (tFld K (tVar i) fl) σ H P := fun H1 s Q k =>
  ⟨_, hi, a, C, dx, fs, v, rfl, s.ins ho, hc, hn, hl, k v H1 (.refl _) (hp H1 s)⟩
end ev
end
end TV
end
section
set_option Elab.async false
set_option linter.all false
set_option maxRecDepth 100000
set_option autoImplicit false
namespace L2
open PySem PySem.Spec PyProof.Rows
section
variable {K : PySem.W.Frag} {a : Addr} {xs : List V} {g : TG} {te : TE} {vs : List Nat} {σ : St} {H1 : Hp} {Qt Qf : Hp → Prop}
end
end L2
end
section
set_option Elab.async false
set_option linter.all false
set_option maxRecDepth 100000
set_option autoImplicit false
namespace L2
open PySem PySem.Spec PyProof.Rows
abbrev Cx.lblk (X : Cx) (s : Shared) (H : Hp) (le : Env) : Cx := { X with A := X.A.in1.deeper le, s_0 := s, H_0 := H, env := le, outer := X.stack, stack := le :: X.stack, ex := [], fn := fun _ => false, pn := [], xe := fun _ _ => False }
abbrev lamE (X : Cx) (scope : Scope) (qual : Str) (L f : Addr) (code : Value) : Env := PySem.W.envX qual scope L f code (cloFrom X.env.cells scope.names [])
section
variable {X : Cx} {pins : List (Addr × Obj)} {σ : St} {H : Hp} {s : Shared}
theorem lam_start {scope : Scope} {own : List (Str × Nat)} {qual pname : Str} {f : Addr} {code u : Value} {x : V} {ix tk : Nat} {h' : Heap} (I : Inv X pins σ H s) (ok : BlkOk X.N X.env.scope scope own) (hcell : ∀ y ∈ scope.names, y.2 ≠ .cell) (hN : X.N.Nodup)
    (hix : X.N[ix]? = some pname) (hp : scope.names.lookup pname = some .local) (hn : h'.Ns s.heap.objs.size (fun y => List.lookup y [(pname, u)])) (hs : Heap.SameBut s.heap.objs.size (s.heap.push { cls := .type "frame", data := .dict #[] }) h') (rx : RelV x u) :
    Inv (X.lblk s H (lamE X scope qual s.heap.objs.size f code)) [] ((wipe σ (own.map (·.2))).set ix (some x)) H { s with heap := h', toks := tk } := by
  have hfree : ∀ y ∈ scope.names, y.2 = .free → ∃ c, X.env.cells.lookup y.1 = some c := fun y hy e => by
    rcases ok.free y hy e with k | k
    · exact I.ok.has _ (.inl k)
    · exact I.ok.has _ (.inr k)
  have hsz : h'.objs.size = s.heap.objs.size + 1 := by rw [hs.1, Heap.size_push]
  have kp : ∀ b o, s.heap.get? b = some o → h'.get? b = some o := fun b o e => hs.extBut b o (Nat.ne_of_lt (Heap.lt_size e)) (Heap.get?_push_of_some _ e)
  have cm : ∀ {y c}, (y, c) ∈ cloFrom X.env.cells scope.names [] → X.env.cells.lookup y = some c ∧ c < s.heap.objs.size ∧ (y, NameKind.free) ∈ scope.names := fun {y c} hm => by
    rcases cloFrom_mem hm with hm | ⟨h1, rfl⟩
    · cases hm
    · obtain ⟨c, hc⟩ := hfree _ h1 rfl
      rw [hc]
      obtain ⟨w, z⟩ := I.cell _ _ hc
      exact ⟨rfl, z.lt, h1⟩
  have mem : ∀ {y c}, (cloFrom X.env.cells scope.names []).lookup y = some c → X.env.cells.lookup y = some c ∧ c < s.heap.objs.size ∧ (y, NameKind.free) ∈ scope.names := fun {y c} e => cm (PySem.mem_of_lookup e)
  have look : ∀ {y}, scope.names.lookup y = some .free → ∃ c, (cloFrom X.env.cells scope.names []).lookup y = some c ∧ X.env.cells.lookup y = some c := fun {y} hl => by
    obtain ⟨c', e'⟩ := mem_lookup (cloFrom_has (cells := X.env.cells) (acc := []) (PySem.mem_of_lookup hl))
    exact ⟨c', e', (mem e').1⟩
  generalize hge : lamE X scope qual s.heap.objs.size f code = ge
  have hL : ge.locals = s.heap.objs.size := by rw [← hge]
  have hcl : ge.cells = cloFrom X.env.cells scope.names [] := by rw [← hge]
  have hsc : ge.scope = scope := by rw [← hge]
  have nocell : ∀ y, ¬ scope.names.lookup y = some .cell := fun y e => hcell _ (PySem.mem_of_lookup e) rfl
  have okB : (X.lblk s H ge).Ok := by
    refine ⟨I.ok.mod, by show ge.scope.kind = _; rw [hsc]; exact ok.kind, by show ge.globals = _; rw [← hge], by show ge.builtins = _; rw [← hge], by show s.heap.objs.size ≤ ge.locals; rw [hL]; exact Nat.le_refl _,
      fun y z c e1 e2 => ?_, fun y hy => ?_, (fun y c z e => nomatch z), I.ok.hd, ?_, .inr ⟨rfl, by show ge.frame = some ge.locals; rw [← hge]⟩, fun b hb => absurd (show b ∈ ([] : List Addr) from hb) (by simp), I.bs, Nat.le_trans I.ok.bsz I.sz, fun b o e hb => absurd (show b ∈ ([] : List Addr) from hb) (by simp), fun b hb z => absurd (show b ∈ ([] : List Addr) from hb) (by simp), I.stack, I.stkFree⟩
    · have e1 : ge.cells.lookup y = some c := e1
      have e2 : ge.cells.lookup z = some c := e2
      rw [hcl] at e1 e2
      exact I.ok.inj y z c (mem e1).1 (mem e2).1
    · show ∃ c, ge.cells.lookup y = some c
      rw [hcl]
      have key : ge.scope.names.lookup y = some .cell ∨ ge.scope.names.lookup y = some .free := hy
      rw [hsc] at key
      rcases key with k | k
      · exact absurd k (nocell y)
      · exact let ⟨c, h, _⟩ := look k; ⟨c, h⟩
    · show (X.A.frames.map (ge :: ·)) = some (ge :: X.stack)
      rw [I.ok.frames]; rfl
  refine ⟨okB, rfl, I.bare, Un.kept kp, ⟨fun y => List.lookup y [(pname, u)], ?_, fun i y av e1 e2 e3 => ?_⟩, fun y c e => ?_, ?_, fun y c e => ?_, fun p hp => absurd (show p ∈ ([] : List (Addr × Obj)) ++ [] from hp) (by simp), I.hok.kept kp, by rw [List.length_set, wipe_length]; exact I.len⟩
  · show Heap.Ns _ ge.locals _
    rw [hL]
    exact hn
  · have e3 : Vis ge.scope y := e3
    have e1 : X.N[i]? = some y := e1
    by_cases hi : i = ix
    · subst hi
      rw [hix] at e1; cases e1
      have hlt : i < (wipe σ (own.map (·.2))).length := by
        rw [wipe_length, I.len]; exact (List.getElem?_eq_some_iff.mp hix).1
      rw [List.getElem?_set_self hlt] at e2
      cases e2
      refine ⟨u, rx, .inl ⟨?_, by simp [List.lookup]⟩⟩
      show ge.scope.names.lookup _ = _
      rw [hsc]; exact hp
    · rw [List.getElem?_set_ne (Ne.symm hi)] at e2
      obtain ⟨e2, hne⟩ := wipe_some e2
      have key : ∀ k, scope.names.lookup y = some k → k = .local ∨ k = .cell → False := fun k hk hk' => by
        rcases ok.own _ (PySem.mem_of_lookup hk) hk' with e' | e'
        · obtain ⟨p, hp, hpy⟩ := List.mem_map.mp e'
          have e3 := ok.ix p hp
          have : p.1 = y := hpy
          rw [this] at e3
          exact hne (List.mem_map.mpr ⟨p, hp, nodup_ix hN e3 e1⟩)
        · exact e' (List.mem_of_getElem? e1)
      rw [hsc] at e3
      have hfr : scope.names.lookup y = some .free := by
        rcases e3 with e3 | e3 | e3
        · exact (key _ e3 (.inl rfl)).elim
        · exact (key _ e3 (.inr rfl)).elim
        · exact e3
      obtain ⟨m, hn', hl⟩ := I.loc
      have hvis : Vis X.env.scope y := (ok.free _ (PySem.mem_of_lookup hfr) rfl).elim (fun k => .inr (.inl k)) (fun k => .inr (.inr k))
      obtain ⟨w, r, q⟩ := hl i y av e1 e2 hvis
      have kg : ge.kindOf y = some .free := by
        show ge.scope.names.lookup y = _
        rw [hsc]; exact hfr
      refine ⟨w, r, .inr ⟨.inr kg, ?_⟩⟩
      obtain ⟨c, h1, h2⟩ := look hfr
      rcases q with ⟨k, _⟩ | ⟨_, c', e', z⟩
      · have k : X.env.scope.names.lookup y = some .local := k
        rcases ok.free _ (PySem.mem_of_lookup hfr) rfl with k' | k' <;> rw [show X.env.scope.names.lookup y = _ from k'] at k <;> cases k
      · rw [h2] at e'; cases e'
        exact ⟨c, by show ge.cells.lookup y = _; rw [hcl]; exact h1, z.keeps kp⟩
  · have e : ge.cells.lookup y = some c := e
    rw [hcl] at e
    obtain ⟨w, z⟩ := I.cell y c (mem e).1
    exact ⟨w, z.keeps kp⟩
  · show H ge.locals = none
    rw [hL]; exact I.hok.fresh (Nat.le_refl _)
  · have e : ge.cells.lookup y = some c := e
    rw [hcl] at e
    exact I.freeC y c (mem e).1
theorem lam_call {params : Arguments} {body : Expr} {scope : Scope} {own : List (Str × Nat)} {qual pname : Str} {f c' : Addr} {pm ctv u : Value} {x : V} {ix : Nat} {te : TE} {Q : VK} {E : Value → Shared → Prop} (I : Inv X pins σ H s) (ok : BlkOk X.N X.env.scope scope own) (hcell : ∀ y ∈ scope.names, y.2 ≠ .cell) (hN : X.N.Nodup)
    (hix : X.N[ix]? = some pname) (hp : scope.names.lookup pname = some .local) (hroom : X.A.in1.depth < recursionLimit) (hco : scope.isCoroutine = false) (hgen : scope.isGenerator = false)
    (ho : (f, PySem.W.kla_obj "<lambda>" qual params body scope (cloFrom X.env.cells scope.names []) pm c' ctv) ∈ pins) (hcd : s.heap.CodeRec (.ref c') qual)
    (hbind : ∀ u, bindArgs (PySem.W.kla_fn "<lambda>" qual params body scope (cloFrom X.env.cells scope.names []) pm (.ref c') ctv) ⟨[u], []⟩ = pure [(pname, u)]) (rx : RelV x u)
    (he : ∀ (s : Shared) (H : Hp) (L f : Addr) (code : Value), PE (X.lblk s H (lamE X scope qual L f code)) body te) (q : te ((wipe σ (own.map (·.2))).set ix (some x)) H Q) :
    wpAny (model X.prog X.w) X.A.in1 (call (.ref f) [u]) (fun v s' => ∃ y H', Inv X pins σ H' s' ∧ RelV y v ∧ Q y H') E s := by
  have pf := I.pin _ (List.mem_append_right X.pn ho)
  refine wpAny_call (PySem.W.kla_callFunE (body := body) hroom pf.1 rfl hco hgen rfl hcd ?_)
  rw [hbind u]
  refine wpAny_pure (wpAny_newFunctionEnv hcell (fun y hy => by rw [List.mem_singleton.mp hy]; exact hp) (fun h₁ hns hsb => ?_) ok.kind)
  have kp : ∀ b o, s.heap.get? b = some o → h₁.get? b = some o := fun b o e => hsb.extBut b o (Nat.ne_of_lt (Heap.lt_size e)) (Heap.get?_push_of_some _ e)
  refine ⟨I.nolimit.keeps kp, ?_⟩
  have I1 := lam_start (f := f) (code := .ref c') (qual := qual) (tk := s.toks + [(pname, u)].length) I ok hcell hN hix hp hns hsb rx
  refine PySem.W.kla_codeExpr (thnF (he s H s.heap.objs.size f (.ref c') [] _ _ H Q I1 q) fun v s' ⟨y, H', I', r, q'⟩ => ?_)
  exact ⟨y, H', I.call' (ch := []) I'.os I'.base I'.hok I'.bare fun b hb => absurd hb (by simp), r, q'⟩
end
end L2
end
section
set_option Elab.async false
set_option linter.all false
set_option maxRecDepth 100000
set_option autoImplicit false
namespace L2
open PySem PySem.Spec PyProof.Rows
def LamAt (H : Hp) (P : Addr) (pos : Pos) (qual : Str) : Prop := ∃ ps, H P = some (.tbl ps) ∧ TriplesOk ps.toList ∧ (codeAmong pos ps.toList = none ∨ ∃ c', codeAmong pos ps.toList = some (.ref c') ∧ H c' = some (.ext fun h => h.CodeRec (.ref c') qual))
structure LamTo (P : Addr) (H H' : Hp) : Prop where
  but : ∀ b o, b ≠ P → H b = some o → H' b = some o
  dom : ∀ b, H' b = none → H b = none
  tbl : ∀ ps, H P = some (.tbl ps) → ∃ more, H' P = some (.tbl (ps ++ more))
section
variable {X : Cx} {pins : List (Addr × Obj)} {σ : St} {H : Hp} {s : Shared} {P : Addr} {ps more : Array Value}
theorem LamTo.refl (H : Hp) : LamTo P H H := ⟨fun _ _ _ e => e, fun _ e => e, fun ps e => ⟨#[], by rw [e]; simp⟩⟩
theorem Inv.tblNew {h' : Heap} {t' : Nat} {c' : Addr} {φ : Heap → Prop} (I : Inv X pins σ H s) (hP : H P = some (.tbl ps)) (hx : ∀ b o, b ≠ P → s.heap.get? b = some o → h'.get? b = some o) (e : h'.get? P = some { cls := .none, data := .fields (ps ++ more) }) (hc : s.heap.objs.size ≤ c')
    (hφ : φ h' ∧ (∃ o, h'.get? c' = some o) ∧ ∀ h1 h2 : Heap, φ h1 → (∀ o, h1.get? c' = some o → h2.get? c' = some o) → φ h2) :
    Inv X pins σ (upd (upd H P (.tbl (ps ++ more))) c' (.ext φ)) { s with heap := h', toks := t' } := by
  have nn : ∀ b, H b = none → b ≠ P := fun b n z => by rw [z, hP] at n; cases n
  have no : ∀ b u, H b = some u → (∀ qs, u ≠ .tbl qs) → b ≠ P := fun b u q d z => by rw [z, hP] at q; exact d _ (Option.some.inj q).symm
  have hcn : H c' = none := I.hok.fresh hc
  have nc : ∀ b u, H b = some u → b ≠ c' := fun b u q z => by rw [z, hcn] at q; cases q
  have nl : ∀ b (o : Obj), s.heap.get? b = some o → b ≠ c' := fun b o q z => absurd (Nat.lt_of_lt_of_le (Heap.lt_size q) hc) (by rw [z]; exact Nat.lt_irrefl _)
  refine I.un (t' := t') ⟨fun b o q n _ _ => hx b o (nn b n) q, fun b o q n _ _ => ⟨o.slots, hx b o (nn b n) q⟩, fun b o q n _ => by rw [upd_ne (nl b o q), upd_ne (nn b n)]; exact n, fun b o q _ => ?_, fun b xs q => ?_, fun b o u q => ?_, fun b qs q => ?_⟩ fun b u q => ?_
  · by_cases hb : b = P
    · rw [hb]; exact ⟨_, e⟩
    · exact ⟨o, hx b o hb q⟩
  · rw [upd_ne (nc b _ q), upd_ne (no b _ q fun _ z => nomatch z)]; exact q
  · rw [upd_ne (nc b _ q), upd_ne (no b _ q fun _ z => nomatch z)]; exact q
  · rw [upd_ne (nc b _ q)]
    by_cases hb : b = P
    · rw [hb] at q ⊢
      rw [hP] at q; cases q
      exact ⟨more, upd_same⟩
    · exact ⟨#[], by rw [upd_ne hb, q]; simp⟩
  · by_cases hbc : b = c'
    · rw [hbc, upd_same] at q; cases q
      rw [hbc]; exact hφ
    · rw [upd_ne hbc] at q
      by_cases hb : b = P
      · rw [hb, upd_same] at q; cases q
        rw [hb]; exact e
      · rw [upd_ne hb] at q
        refine (I.hok b u q).stay (fun c v hc r => hx c v ?_ r) (fun c r => by rw [upd_ne (nc c _ r), upd_ne (no c _ r fun _ z => nomatch z)]; exact r) fun c xs r => by rw [upd_ne (nc c _ r), upd_ne (no c _ r fun _ z => nomatch z)]; exact r
        rcases hc with rfl | hc
        · exact hb
        · exact no c _ hc fun _ z => nomatch z
theorem Inv.pinFresh {f : Addr} {fo : Obj} {s1 : Shared} (I : Inv X pins σ H s1) (hf : s1.heap.get? f = some fo) (hn : H f = none) (hs : s.heap.objs.size ≤ f) (I0 : ∃ H0, Inv X pins σ H0 s) (hd : ∀ v, fo.data ≠ .cell v) : Inv X (pins ++ [(f, fo)]) σ H s1 := by
  obtain ⟨H0, I0⟩ := I0
  refine I.pins_of fun p hp => ?_
  rcases List.mem_append.mp hp with hp | hp
  · exact I.pin p (List.mem_append_right _ hp)
  · rw [List.mem_singleton.mp hp]
    exact ⟨hf, hn, Nat.ne_of_gt (Nat.lt_of_lt_of_le I0.lt hs), I0.nofs hs, hd⟩
theorem lam_make {c : Addr} {params : Arguments} {body : Expr} {scope : Scope} {pos : Pos} {Q : Value → Shared → Prop} {E : Value → Shared → Prop} {A : Around} {M : Model} (I : Inv X pins σ H s) (hcode : X.env.code = .ref c) (hcd : PySem.W.CodeHd X.base c P) (hbm : BMain X.base X.mg) (hfree : ∀ y ∈ scope.names, y.2 = .free → ∃ c, X.env.cells.lookup y.1 = some c)
    (hL : LamAt H P pos (X.env.qual ++ "<lambda>"))
    (k : ∀ H' s' f c' pm ctv, LamTo P H H' → LamAt H' P pos (X.env.qual ++ "<lambda>") → H' c' = some (.ext fun h => h.CodeRec (.ref c') (X.env.qual ++ "<lambda>")) →
      Inv X (pins ++ [(f, PySem.W.kla_obj "<lambda>" (X.env.qual ++ "<lambda>") params body scope (cloFrom X.env.cells scope.names []) pm c' ctv)]) σ H' s' → Q (.ref f) s') :
    wpAny M A (makeFunction "<lambda>" (X.env.qual ++ "<lambda>") params (.expr body) scope X.env [] [] [] pos pos.line) Q E s := by
  obtain ⟨ps, hP, htr, hh⟩ := hL
  have hPh : s.heap.get? P = some (PySem.W.tabObj ps) := I.hok P _ hP
  obtain ⟨bm, ob, b1, b2, b3, b4, b5, b6⟩ := hbm
  have hg := I.mod.glob.keeps I.bk
  have hglob : X.env.globals = mainGlobals := I.ok.glob
  have nb : ∀ b o, X.base.get? b = some o → b ≠ P := fun b o e z => by
    have := (I.bs b o e).2
    rw [z, hP] at this; cases this
  have hgP : mainGlobals ≠ P := by
    obtain ⟨o, es, ep, e, hd, _⟩ := I.mod.glob
    exact nb _ _ e
  have hbG : bm ≠ mainGlobals := fun q => by
    obtain ⟨o, es, ep, e, hd, _⟩ := I.mod.glob
    rw [q, e] at b3; cases b3; rw [hd] at b6; cases b6
  have hB : s.heap.BuiltinsAt X.mg P := ⟨bm, ob, b1, b2, hbG, nb _ _ b3, I.bk _ _ b3, b4, b5, b6⟩
  have hC := hcd.keeps I.bk
  rcases hh with hnf | ⟨c', hf, hc'⟩
  · refine PySem.W.kla_makeFunction (mg := X.mg) (closure_ok hfree) hglob hg hcode hC hPh htr hnf hgP hB fun c' ctv h' tk hx hge hlt hrec htb => ?_
    obtain ⟨c₂, oc, vs, t, e2, hoc, hd, hv⟩ := hrec
    cases e2
    have hx' : ∀ (fo : Obj) b o, b ≠ P → s.heap.get? b = some o → (h'.push fo).get? b = some o := fun fo b o hb e => Heap.get?_push_of_some _ (hx b o hb e)
    have htr' : TriplesOk (ps ++ #[rawInt pos.line, rawInt pos.col, .ref c']).toList := by
      rw [Array.toList_append]; exact TriplesOk_snoc _ _ _ _ htr
    have hca : codeAmong pos (ps ++ #[rawInt pos.line, rawInt pos.col, .ref c']).toList = some (.ref c') := by
      rw [Array.toList_append]; exact codeAmong_snoc _ htr hnf
    have hcP : c' ≠ P := fun z => absurd (Nat.lt_of_lt_of_le (Heap.lt_size hPh) hge) (by rw [z]; exact Nat.lt_irrefl _)
    have I1 := fun fo : Obj => I.tblNew (h' := h'.push fo) (t' := tk) (c' := c') (φ := fun h => h.CodeRec (.ref c') (X.env.qual ++ "<lambda>")) hP (hx' fo) (Heap.get?_push_of_some _ htb) hge
      ⟨⟨c', oc, vs, t, rfl, Heap.get?_push_of_some _ hoc, hd, hv⟩, ⟨oc, Heap.get?_push_of_some _ hoc⟩, fun h1 h2 ⟨c3, o3, v3, t3, e3, g3, r3, r4⟩ kk => by
        cases e3
        exact ⟨_, o3, v3, t3, rfl, kk _ g3, r3, r4⟩⟩
    have hszf : s.heap.objs.size ≤ h'.objs.size := Nat.le_trans hge (Nat.le_of_lt hlt)
    refine k _ _ _ c' _ _ ⟨fun b o hb e => ?_, fun b e => ?_, fun qs e => ⟨#[rawInt pos.line, rawInt pos.col, .ref c'], ?_⟩⟩ ⟨_, ?_, htr', .inr ⟨c', hca, upd_same⟩⟩ upd_same ((I1 _).pinFresh (s := s) (Heap.get?_push_size _ rfl) ?_ hszf ⟨H, I⟩ fun v z => nomatch z)
    · rw [upd_ne (fun z => by rw [z, I.hok.fresh hge] at e; cases e), upd_ne hb]; exact e
    · by_cases hb : b = c'
      · rw [hb]; exact I.hok.fresh hge
      · rw [upd_ne hb] at e
        by_cases hb2 : b = P
        · rw [hb2, upd_same] at e; cases e
        · rw [upd_ne hb2] at e; exact e
    · rw [hP] at e; cases e
      rw [upd_ne (Ne.symm hcP), upd_same]
    · rw [upd_ne (Ne.symm hcP), upd_same]
    · rw [upd_ne (Nat.ne_of_gt hlt), upd_ne (fun z => absurd (Nat.lt_of_lt_of_le (Heap.lt_size hPh) hszf) (by rw [z]; exact Nat.lt_irrefl _))]
      exact I.hok.fresh hszf
  · refine PySem.W.kla_makeFunctionHit (mg := X.mg) (closure_ok hfree) hglob hg hcode hC hPh htr hf hB fun ctv h' tk hk hsz => ?_
    have I1 := fun fo : Obj => I.kept (h' := h'.push fo) (t' := tk) fun b o e => Heap.get?_push_of_some _ (hk b o e)
    exact k H _ _ c' _ _ (.refl H) ⟨ps, hP, htr, .inr ⟨c', hf, hc'⟩⟩ hc' ((I1 _).pinFresh (s := s) (Heap.get?_push_size _ rfl) (I.hok.fresh hsz) hsz ⟨H, I⟩ fun v z => nomatch z)
end
end L2
end
section
set_option Elab.async false
set_option linter.all false
set_option maxRecDepth 100000
set_option autoImplicit false
namespace L2
open PySem PySem.Spec PyProof.Rows
section
variable {X : Cx} {pins : List (Addr × Obj)} {σ : St} {H : Hp} {l f : Addr} {xs : List V} {kf : Nat → Int} {E : Value → Shared → Prop}
theorem lam_min_loop {I0 S : Addr} {Q : Value → Shared → Prop} (hc : X.calm = true) (hl : SqL X.K H l xs) (hSI : S ≠ I0)
    (fS : FpOk X pins H S) (fI : FpOk X pins H I0)
    (turn : ∀ (i : Nat) (x : V) (u : Value) (s : Shared) (pl : List (Addr × Obj)), xs[i]? = some x → RelV x u → Inv X (pins ++ pl) σ H s → wpAny (model X.prog X.w) X.A.in1 (call (.ref f) [u]) (fun v s' => (∃ t, v = .int (kf i) t) ∧ Inv X (pins ++ pl) σ H s') (fun _ _ => False) s)
    (hQ : ∀ i x u s, xs[i]? = some x → RelV x u → (∀ j, j < xs.length → kf i ≤ kf j ∧ (j < i → kf i < kf j)) → Inv X pins σ H s → Q u s) :
    ∀ (r j i : Nat) (s : Shared) (vb : Value) (xb : V) (tb : Tok) (c : Nat), xs.length - (j + 1) = r → j + 1 ≤ xs.length → Inv X pins σ H s → s.heap.get? S = some (seqObj "list" #[vb, .int (kf i) tb] c) → s.heap.IsListIter I0 l (j + 1) →
      xs[i]? = some xb → RelV xb vb → i ≤ j → (∀ j', j' ≤ j → kf i ≤ kf j' ∧ (j' < i → kf i < kf j')) →
      codeAny (model X.prog X.w) X.A (.builtin "min.loop" ⟨[.ref I0, .ref f, .ref S], []⟩) (fun r s' => match r with | .ok (.ret v) => Q v s' | .ok _ => False | .error e => E e s') s := by
  have hname : (toString "min" ++ toString ".loop" : String) = "min.loop" := by decide
  have upS : ∀ {s : Shared} (g : Array Value → Array Value), Inv X pins σ H s → Inv X pins σ H { s with heap := s.heap.update S (Obj.mapSeq g) } := fun {s} g I =>
    I.turned (t' := s.toks) (it := S) (fun b o hb e => ((Heap.SameBut.update s.heap S (Obj.mapSeq g)).2 b hb).trans e) fS.1 fS.2.1 fS.2.2.2.1 fS.2.2.2.2.1 fS.2.2.2.2.2
  intro r
  induction r with
  | zero =>
    intro j i s vb xb tb c hr hj I gS hit hxb rb hij hbest
    have hin : j + 1 = xs.length := by omega
    obtain ⟨its, rv, p, hz⟩ := I.list hl
    have hlen := rv.length
    refine codeAny_builtin PySem.F.entry_min_loop ?_
    rw [Around.under_plainId PySem.F.plain_min_loop _]
    show wpAny _ X.A.in1 (seqItems? (.ref S) >>= _) _ _ _
    refine wpAny_bind (wpAny_seqItems gS rfl ?_)
    show wpAny _ X.A.in1 (tryCatch (pyNext (.ref I0)) _ >>= _) _ _ _
    refine wpAny_bind (wpAny_tryCatch (wpAny_pyNext_list_end (A := X.A.in1) (I.ok.hd hc) hit p.isList (by simp; omega) fun h' eb => ?_))
    have I1 : Inv X pins σ H { s with heap := h' } := I.turned (t' := s.toks) (it := I0) (fun b o hb e => eb b o hb e) fI.1 fI.2.1 fI.2.2.2.1 fI.2.2.2.2.1 fI.2.2.2.2.2
    have gS' := eb S _ hSI gS
    show wpAny _ X.A.in1 (updateSeq S (fun _ => #[]) >>= _) _ _ _
    refine wpAny_bind ?_
    refine wpAny_updateSeq gS' rfl (wpAny_bind (wpAny_letGo (wpAny_pure ?_)))
    exact hQ i xb vb _ hxb rb (fun j' hj' => hbest j' (by omega)) (upS (s := { s with heap := h' }) _ I1)
  | succ r ih =>
    intro j i s vb xb tb c hr hj I gS hit hxb rb hij hbest
    have hlt : j + 1 < xs.length := by omega
    obtain ⟨its, rv, p, hz⟩ := I.list hl
    obtain ⟨x, hx⟩ : ∃ x, xs[j + 1]? = some x := ⟨_, List.getElem?_eq_getElem hlt⟩
    obtain ⟨u, hu, ru⟩ := rv.get hx
    refine codeAny_builtin PySem.F.entry_min_loop ?_
    rw [Around.under_plainId PySem.F.plain_min_loop _]
    show wpAny _ X.A.in1 (seqItems? (.ref S) >>= _) _ _ _
    refine wpAny_bind (wpAny_seqItems gS rfl ?_)
    show wpAny _ X.A.in1 (tryCatch (pyNext (.ref I0)) _ >>= _) _ _ _
    refine wpAny_bind (wpAny_tryCatch (wpAny_pyNext_list_item hit p.isList (x := u) (by simpa using hu) fun h' hit' sb => ?_))
    have I1 : Inv X pins σ H { s with heap := h' } := I.turned (t' := s.toks) (it := I0) (fun b o hb e => (sb.2 b hb).trans e) fI.1 fI.2.1 fI.2.2.2.1 fI.2.2.2.2.1 fI.2.2.2.2.2
    have gS1 : h'.get? S = some (seqObj "list" #[vb, .int (kf i) tb] c) := (sb.2 S hSI).trans gS
    obtain ⟨oI, goI, oIc, oId⟩ := id hit'
    have fp : ∀ b ∈ [S, I0], FpOk X pins H b := fun b hb => by
      simp at hb
      rcases hb with z | z
      · rw [z]; exact fS
      · rw [z]; exact fI
    have I1p := I1.pinned (fp := [S, I0]) fp fun b hb => by
      simp at hb
      rcases hb with z | z
      · rw [z]; exact ⟨_, gS1, fun v z => nomatch z⟩
      · rw [z]; exact ⟨oI, goI, fun v z => by rw [oId] at z; cases z⟩
    show wpAny _ X.A.in1 (tryCatch (holding [u] (call (.ref f) [u])) _ >>= _) _ _ _
    refine wpAny_bind (wpAny_tryCatch (wpAny_holding (wpAny_mono (turn (j + 1) x u _ _ hx ru I1p) (fun v s2 hv => ?_) fun _ _ hF => hF.elim)))
    obtain ⟨⟨t2, rfl⟩, I2p⟩ := hv
    have gS2 : s2.heap.get? S = some (seqObj "list" #[vb, .int (kf i) tb] c) := (I2p.pin (S, _) (List.mem_append_right _ (List.mem_append_right _ (mem_pinsAt (by simp) gS1)))).1
    have gI2 : s2.heap.get? I0 = some oI := (I2p.pin (I0, _) (List.mem_append_right _ (List.mem_append_right _ (mem_pinsAt (by simp) goI)))).1
    have I2 := I2p.unpinned
    have hit2 : s2.heap.IsListIter I0 l (j + 1 + 1) := ⟨oI, gI2, oIc, oId⟩
    show wpAny _ X.A.in1 (tryCatch (holding [u, .int (kf (j + 1)) t2] (richCompare .Lt (.int (kf (j + 1)) t2) (.int (kf i) tb) >>= _)) _ >>= _) _ _ _
    refine wpAny_bind (wpAny_tryCatch (wpAny_holding (wpAny_bind (CmpOf.ints_lt (prog := X.prog) (w := X.w) (A := X.A.in1) (P := fun i v => ∃ t, v = .int (kf i) t) kf (fun i v h => h) (j + 1) i _ _ _ _ _ ⟨t2, rfl⟩ ⟨tb, rfl⟩ ?_))))
    refine wpAny_bind (wpAny_holding (wpAny_truthy_bool ?_))
    refine wpAny_bind (wpAny_letGo (wpAny_pure ?_))
    by_cases hb' : kf (j + 1) < kf i
    · have s1 := Heap.SameBut.update s2.heap S (Obj.mapSeq fun _ => #[u, .int (kf (j + 1)) t2])
      obtain ⟨c2, hc2⟩ : ∃ c2, (s2.heap.update S (Obj.mapSeq fun _ => #[u, .int (kf (j + 1)) t2])).get? S = some (seqObj "list" #[u, .int (kf (j + 1)) t2] c2) := ⟨_, get?_update_seq gS2 fun _ => #[u, .int (kf (j + 1)) t2]⟩
      simp only [hb', decide_true, if_true]
      refine wpAny_bind ?_
      refine wpAny_updateSeq gS2 rfl (wpAny_bind (wpAny_letGo ?_))
      rw [hname]
      refine wpAny_pure ⟨plainId_quiet PySem.F.plain_min_loop _, ih (j + 1) (j + 1) _ u x t2 c2 (by omega) hlt (upS _ I2) hc2 ⟨oI, (s1.2 I0 hSI.symm).trans gI2, oIc, oId⟩ hx ru (Nat.le_refl _) fun j' hj' => ?_⟩
      by_cases e : j' = j + 1
      · subst e
        exact ⟨by omega, fun _ => by omega⟩
      · have hb1 := hbest j' (by omega)
        have hb2 := hb1.1
        exact ⟨by omega, fun _ => by omega⟩
    · simp only [hb', decide_false, Bool.false_eq_true, if_false]
      refine wpAny_bind (wpAny_letGo ?_)
      rw [hname]
      refine wpAny_pure ⟨plainId_quiet PySem.F.plain_min_loop _, ih (j + 1) i _ vb xb tb c (by omega) hlt I2 gS2 hit2 hxb rb (by omega) fun j' hj' => ?_⟩
      by_cases e : j' = j + 1
      · subst e
        exact ⟨by omega, fun _ => by omega⟩
      · exact hbest j' (by omega)
theorem lam_min {s : Shared} {Q : Value → Shared → Prop} (hc : X.calm = true) (hl : SqL X.K H l xs) (hne : 0 < xs.length) (I : Inv X pins σ H s)
    (turn : ∀ (i : Nat) (x : V) (u : Value) (s : Shared) (pl : List (Addr × Obj)), xs[i]? = some x → RelV x u → Inv X (pins ++ pl) σ H s → wpAny (model X.prog X.w) X.A.in1 (call (.ref f) [u]) (fun v s' => (∃ t, v = .int (kf i) t) ∧ Inv X (pins ++ pl) σ H s') (fun _ _ => False) s)
    (hQ : ∀ i x u s, xs[i]? = some x → RelV x u → (∀ j, j < xs.length → kf i ≤ kf j ∧ (j < i → kf i < kf j)) → Inv X pins σ H s → Q u s) :
    wpAny (model X.prog X.w) X.A (call (.builtin "min") [.ref l] [(Str.ofString "key", .ref f)]) Q E s := by
  have hname : (toString "min" ++ toString ".loop" : String) = "min.loop" := by decide
  obtain ⟨its, rv, p, hz⟩ := I.list hl
  refine kmk_tree PySem.F.kind_min PySem.F.plain_min PySem.F.entry_min (kmk_min_key _ _) ?_
  show wpAny _ X.A.in1 (Builtin.Builtins.bindParams "min" ["key", "default"] 0 ⟨[], [(Str.ofString "key", .ref f)]⟩ >>= _) _ _ s
  refine wpAny_bind (wpAny_of_eq (show Builtin.Builtins.bindParams "min" ["key", "default"] 0 ⟨[], [(Str.ofString "key", .ref f)]⟩ = pure [some (.ref f), none] from rfl) ?_)
  refine wpAny_bind (wpAny_pure ?_)
  refine wpAny_bind (wpAny_pyIter_list p.isList ?_)
  refine wpAny_bind (wpAny_newList ?_ (Nat.zero_le _))
  rw [hname]
  have hS : (s.heap.push { cls := .type "list_iterator", data := .fields #[.ref l, .int 0 0] }).objs.size = s.heap.objs.size + 1 := Heap.size_push ..
  refine wpAny_pure ⟨plainId_quiet PySem.F.plain_min_loop _, ?_⟩
  have kp : ∀ b o, s.heap.get? b = some o → ((s.heap.push { cls := .type "list_iterator", data := .fields #[.ref l, .int 0 0] }).push (seqObj "list" #[] 0)).get? b = some o := fun b o e => Heap.get?_push_of_some _ (Heap.get?_push_of_some _ e)
  have gI : ((s.heap.push { cls := .type "list_iterator", data := .fields #[.ref l, .int 0 0] }).push (seqObj "list" #[] 0)).get? s.heap.objs.size = some { cls := .type "list_iterator", data := .fields #[.ref l, .int 0 0] } := Heap.get?_push_of_some _ (Heap.get?_push_size _ rfl)
  have gS : ((s.heap.push { cls := .type "list_iterator", data := .fields #[.ref l, .int 0 0] }).push (seqObj "list" #[] 0)).get? (s.heap.push { cls := .type "list_iterator", data := .fields #[.ref l, .int 0 0] }).objs.size = some (seqObj "list" #[] 0) := Heap.get?_push_size _ rfl
  have IH : Inv X pins σ H { s with heap := (s.heap.push { cls := .type "list_iterator", data := .fields #[.ref l, .int 0 0] }).push (seqObj "list" #[] 0) } := I.kept (t' := s.toks) kp
  have fI : FpOk X pins H s.heap.objs.size := I.fpOk (Nat.le_refl _) (I.hok.fresh (Nat.le_refl _))
  have fS : FpOk X pins H (s.heap.push { cls := .type "list_iterator", data := .fields #[.ref l, .int 0 0] }).objs.size := I.fpOk (by rw [hS]; omega) (I.hok.fresh (by rw [hS]; omega))
  have hSI : (s.heap.push { cls := .type "list_iterator", data := .fields #[.ref l, .int 0 0] }).objs.size ≠ s.heap.objs.size := by rw [hS]; exact Nat.ne_of_gt (Nat.lt_succ_self _)
  generalize (s.heap.push { cls := .type "list_iterator", data := .fields #[.ref l, .int 0 0] }).objs.size = S at gS fS hSI ⊢
  generalize s.heap.objs.size = I0 at gI fI hSI ⊢
  generalize (s.heap.push { cls := .type "list_iterator", data := .fields #[.ref l, .int 0 0] }).push (seqObj "list" #[] 0) = hh at gI gS IH ⊢
  obtain ⟨x, hx⟩ : ∃ x, xs[0]? = some x := ⟨_, List.getElem?_eq_getElem hne⟩
  obtain ⟨its, rv, p, hz⟩ := IH.list hl
  obtain ⟨u, hu, ru⟩ := rv.get hx
  have hit : hh.IsListIter I0 l 0 := ⟨_, gI, rfl, rfl⟩
  refine codeAny_builtin PySem.F.entry_min_loop ?_
  rw [Around.under_plainId PySem.F.plain_min_loop _]
  show wpAny _ X.A.in1 (seqItems? (.ref S) >>= _) _ _ _
  refine wpAny_bind (wpAny_seqItems gS rfl ?_)
  show wpAny _ X.A.in1 (tryCatch (pyNext (.ref I0)) _ >>= _) _ _ _
  refine wpAny_bind (wpAny_tryCatch (wpAny_pyNext_list_item hit p.isList (x := u) (by simpa using hu) fun h' hit' sb => ?_))
  have I1 := IH.turned (h' := h') (t' := s.toks) (it := I0) (fun b o hb e => (sb.2 b hb).trans e) fI.1 fI.2.1 fI.2.2.2.1 fI.2.2.2.2.1 fI.2.2.2.2.2
  have gS1 : h'.get? S = some (seqObj "list" #[] 0) := (sb.2 S hSI).trans gS
  obtain ⟨oI, goI, oIc, oId⟩ := id hit'
  have fp : ∀ b ∈ [S, I0], FpOk X pins H b := fun b hb => by
    simp at hb
    rcases hb with z | z
    · rw [z]; exact fS
    · rw [z]; exact fI
  have I1p := I1.pinned (fp := [S, I0]) fp fun b hb => by
    simp at hb
    rcases hb with z | z
    · rw [z]; exact ⟨_, gS1, fun v z => nomatch z⟩
    · rw [z]; exact ⟨oI, goI, fun v z => by rw [oId] at z; cases z⟩
  show wpAny _ X.A.in1 (tryCatch (holding [u] (call (.ref f) [u])) _ >>= _) _ _ _
  refine wpAny_bind (wpAny_tryCatch (wpAny_holding (wpAny_mono (turn 0 x u _ _ hx ru I1p) (fun v s2 hv => ?_) fun _ _ hF => hF.elim)))
  obtain ⟨⟨t2, rfl⟩, I2p⟩ := hv
  have gS2 : s2.heap.get? S = some (seqObj "list" #[] 0) := (I2p.pin (S, _) (List.mem_append_right _ (List.mem_append_right _ (mem_pinsAt (by simp) gS1)))).1
  have gI2 : s2.heap.get? I0 = some oI := (I2p.pin (I0, _) (List.mem_append_right _ (List.mem_append_right _ (mem_pinsAt (by simp) goI)))).1
  have I2 := I2p.unpinned
  have s1 := Heap.SameBut.update s2.heap S (Obj.mapSeq fun _ => #[u, .int (kf 0) t2])
  obtain ⟨c2, hc2⟩ : ∃ c2, (s2.heap.update S (Obj.mapSeq fun _ => #[u, .int (kf 0) t2])).get? S = some (seqObj "list" #[u, .int (kf 0) t2] c2) := ⟨_, get?_update_seq gS2 fun _ => #[u, .int (kf 0) t2]⟩
  show wpAny _ X.A.in1 (updateSeq S (fun _ => #[u, .int (kf 0) t2]) >>= _) _ _ _
  refine wpAny_bind ?_
  refine wpAny_updateSeq gS2 rfl ?_
  rw [hname]
  have I3 : Inv X pins σ H { s2 with heap := s2.heap.update S (Obj.mapSeq fun _ => #[u, .int (kf 0) t2]) } := I2.turned (t' := s2.toks) (it := S) (fun b o hb e => (s1.2 b hb).trans e) fS.1 fS.2.1 fS.2.2.2.1 fS.2.2.2.2.1 fS.2.2.2.2.2
  refine wpAny_pure ⟨plainId_quiet PySem.F.plain_min_loop _, lam_min_loop hc hl hSI fS fI turn hQ _ 0 0 _ u x t2 c2 rfl hne I3 hc2 ⟨oI, (s1.2 I0 hSI.symm).trans gI2, oIc, oId⟩ hx ru (Nat.le_refl _) fun j' hj' => ?_⟩
  have e : j' = 0 := by omega
  subst e
  exact ⟨by omega, fun h => absurd h (Nat.lt_irrefl _)⟩
end
end L2
end
section
set_option Elab.async false
set_option linter.all false
set_option maxRecDepth 100000
set_option autoImplicit false
namespace L2
open PySem PySem.Spec PyProof.Rows
def tMinK (K : PySem.W.Frag) (tl te : TE) (vs : List Nat) (ix : Nat) (P : Addr) (pos : Pos) (qual : Str) : TE := fun σ H Q => tl σ H fun v H1 => ∃ (l : Addr) (xs : List V) (kf : Nat → Int), v = .ref l ∧ 0 < xs.length ∧ LamAt H1 P pos qual ∧
  ∀ H2, LamTo P H1 H2 → LamAt H2 P pos qual → SqL K H2 l xs ∧ (∀ i x, xs[i]? = some x → te ((wipe σ vs).set ix (some x)) H2 fun y H3 => H3 = H2 ∧ y = .int (kf i)) ∧
    ∀ i x, xs[i]? = some x → (∀ j, j < xs.length → kf i ≤ kf j ∧ (j < i → kf i < kf j)) → Q x H2
section
variable {X : Cx} {P c : Addr}
theorem pe_minK {x pname : Str} {p pos lpos kpos : Pos} {e body : Expr} {params : Arguments} {scope : Scope} {own : List (Str × Nat)} {tl te : TE} {ix : Nat} (hc : X.calm = true) (hN : X.N.Nodup) (hcode : X.env.code = .ref c) (hcd : PySem.W.CodeHd X.base c P) (hbm : BMain X.base X.mg)
    (hroom : X.A.in1.depth < recursionLimit) (hgl : Gl X x) (hm : X.mg x = none) (hv : bootBuiltins x = some (.builtin "min")) (hn : x ≠ "__name__") (hdb : (x == ("__debug__" : Str)) = false) (hl : PE X e tl) (ok : BlkOk X.N X.env.scope scope own) (hcell : ∀ y ∈ scope.names, y.2 ≠ .cell)
    (hix : X.N[ix]? = some pname) (hp : scope.names.lookup pname = some .local) (hco : scope.isCoroutine = false) (hgen : scope.isGenerator = false)
    (he : ∀ (s : Shared) (H : Hp) (L f : Addr) (code : Value), PE (X.lblk s H (lamE X scope (X.env.qual ++ "<lambda>") L f code)) body te)
    (hdef : defaultsOf params X.env = ([], []))
    (hbind : ∀ cl pm c' ctv u, bindArgs (PySem.W.kla_fn "<lambda>" (X.env.qual ++ "<lambda>") params body scope cl pm (.ref c') ctv) ⟨[u], []⟩ = pure [(pname, u)])
    (hs : starEach [e] X.env = [(false, eval e X.env)]) :
    PE X (.Call (.Name x p) [e] [⟨some "key", .Lambda params body scope lpos, kpos⟩] pos) (tMinK X.K tl te (own.map (·.2)) ix P lpos (X.env.qual ++ "<lambda>")) := by
  intro pins s σ H Q I h
  have hfree : ∀ y ∈ scope.names, y.2 = .free → ∃ c, X.env.cells.lookup y.1 = some c := fun y hy e => by
    rcases ok.free y hy e with k | k
    · exact I.ok.has _ (.inl k)
    · exact I.ok.has _ (.inr k)
  refine wpAny_Call_Name_kw (ld_blt I hgl hm hv ?_ hn hdb)
  refine PyProof.Rows.callWith_kw ?_ (by rw [hs]; rfl) (by rw [hs]; rfl) rfl rfl
  rw [hs]
  show wpAny _ _ (spliced ((false, eval e X.env) :: backTo pos (starEach [] X.env))) _ _ s
  refine Calls.spliced_cons (thn (hl pins s σ H _ I h) fun v s1 ⟨v', H1, I1, r1, l, xs, kf, ev, hne, hL, q⟩ => Calls.spliced_nil ?_)
  subst ev
  have r1 : v = .ref l := r1
  subst r1
  show wpAny _ _ (evalAll [(do let v ← eval (.Lambda params body scope lpos) X.env; standAt pos; pure v)]) _ _ s1
  refine wpAny_evalAll_cons (wpAny_bind ?_)
  refine PySem.W.kla_eval hdef (lam_make I1 hcode hcd hbm hfree hL fun H2 s2 f c' pm ctv to hL2 hc' I2 => ?_)
  refine wpAny_bind (wpAny_standAt (wpAny_pure (wpAny_evalAll_nil ?_)))
  obtain ⟨hxs, hk, hq⟩ := q H2 to hL2
  show wpAny _ X.A (call (.builtin "min") [.ref l] [(Str.ofString "key", .ref f)]) _ _ s2
  refine lam_min (kf := kf) hc hxs hne I2 (fun i x u s3 pl hx ru I3 => ?_) fun i x u s3 hx ru best I3 => ⟨x, H2, I3.unpinned, ru, hq i x hx best⟩
  have hrec : s3.heap.CodeRec (.ref c') (X.env.qual ++ "<lambda>") := (I3.hok c' _ hc').1
  refine thn (lam_call I3 ok hcell hN hix hp hroom hco hgen (List.mem_append_left _ (List.mem_append_right _ (.head _))) hrec (hbind _ _ _ _) ru he (hk i x hx)) fun v s4 ⟨y, H4, I4, r4, e4, e5⟩ => ?_
  subst e4 e5
  exact ⟨r4, I4⟩
end
namespace Z
theorem minK {X : Cx} {tb c : Addr} {k : Nat} {x pname : Str} {p pos lpos kpos : Pos} {e body : Expr} {params : Arguments} {scope : Scope} {own : List (Str × Nat)} {tl te : TE} {ix : Nat} (hcode : X.env.code = .ref c) (hcd : PySem.W.CodeHd X.base c tb) (hbm : BMain X.base X.mg) (hr : Room k X.A) (hm : X.mg x = none) (hc : X.calm = true) (hN : X.N.Nodup)
    (hl : ZE X e tl) (ok : BlkOk X.N X.env.scope scope own) (hix : X.N[ix]? = some pname)
    (he : ∀ (s : Shared) (H : Hp) (L f : Addr) (code : Value), ZE (X.lblk s H (lamE X scope (X.env.qual ++ "<lambda>") L f code)) body te)
    (hp : scope.names.lookup pname = some NameKind.local := by kernel_rfl)
    (hv : bootBuiltins x = some (.builtin "min") := by kernel_rfl) (hgl : X.env.kindOf x = some .globalImplicit := by kernel_rfl) (hn : (x == ("__name__" : Str)) = false := by kernel_rfl) (hdb : (x == ("__debug__" : Str)) = false := by kernel_rfl)
    (hcell : (scope.names.all fun y => !(y.2 == NameKind.cell)) = true := by kernel_rfl) (hco : scope.isCoroutine = false := by kernel_rfl) (hgen : scope.isGenerator = false := by kernel_rfl)
    (hdef : defaultsOf params X.env = ([], []) := by rfl)
    (hbind : ∀ cl pm c' ctv u, bindArgs (PySem.W.kla_fn "<lambda>" (X.env.qual ++ "<lambda>") params body scope cl pm (.ref c') ctv) ⟨[u], []⟩ = pure [(pname, u)] := by intros; rfl)
    (hs : starEach [e] X.env = [(false, eval e X.env)] := by rfl) :
    ZE X (.Call (.Name x p) [e] [⟨some "key", .Lambda params body scope lpos, kpos⟩] pos) (tMinK X.K tl te (own.map (·.2)) ix tb lpos (X.env.qual ++ "<lambda>")) :=
  ⟨pe_minK hc hN hcode hcd hbm (by have := hr.dp; show X.A.depth < _; omega) hgl hm hv (beq_eq_false_iff_ne.mp hn) hdb hl.h ok (fun y hy e => by have := List.all_eq_true.mp hcell y hy; rw [e] at this; cases this) hix hp hco hgen (fun s H L f code => (he s H L f code).h) hdef hbind hs⟩
end Z
end L2
end
section
set_option Elab.async false
set_option linter.all false
set_option maxRecDepth 100000
set_option autoImplicit false
namespace L2
open PySem PySem.Spec PyProof.Rows
section
variable {prog : Program} {w : World} {A : Around} {E : Value → Shared → Prop} {s : Shared}
end
section
variable {X : Cx} {tg : Expr}
end
namespace Z
end Z
end L2
end
section
set_option Elab.async false
set_option linter.all false
set_option maxRecDepth 100000
set_option autoImplicit false
namespace L2
open PySem PySem.Spec PyProof.Rows
section
variable {prog : Program} {w : World} {A : Around} {E : Value → Shared → Prop} {s : Shared} {K : Type} [DecidableEq K] {knd : HeapKind prog w K}
theorem pyHash_none {Q : Int → Shared → Prop} (h : Q 0xFCA86420 { s with toks := s.toks + 1 }) : wpAny (model prog w) A (pyHash .none) Q E s := by
  have hT : s.TypeIs .none "NoneType" := rfl
  unfold pyHash
  show wpAny _ _ (pyHashByItsType .none) _ _ _
  unfold pyHashByItsType
  have hv : [Value.none].any Value.onHeap = false := rfl
  refine wpAny_bind ?_
  rw [cRoomFor, if_neg (by rw [hv]; exact Bool.false_ne_true)]; refine wpAny_pure ?_
  refine wpAny_bind (wpAny_specialOf hT F.slot_NoneType_hash.lookup ?_)
  show wpAny _ _ (if (some (Value.builtin "NoneType.__hash__") == some Value.none) = true then _ else _) Q E s
  rw [if_neg (by rw [beq_builtin_none]; exact Bool.false_ne_true)]
  refine wpAny_bind (wpAny_specialOf hT F.slot_NoneType_hash.lookup ?_)
  show wpAny _ _ (callSpecialIfBoundUnlessNone? .none "__hash__" _ >>= _) Q E s
  refine wpAny_bind (wpAny_callSpecialIfBoundUnlessNone?_slot hT F.slot_NoneType_hash
    (wpAny_call_entry F.slot_NoneType_hash hT F.entry_NoneType_hash
      (show wpAny _ _ (do ret (← mkInt 0xFCA86420)) _ _ s from wpAny_ret_mkInt ?_) (F.args_NoneType_hash_1 _)))
  show wpAny _ _ (if (decide (-(2 : Int) ^ 63 ≤ 0xFCA86420) && decide ((0xFCA86420 : Int) < 2 ^ 63)) = true then _ else _) Q E _
  rw [if_pos (by decide)]
  exact wpAny_pure h
theorem dictFind_none {d : Addr} {o : Obj} {es : Array DictEntry} {ep : Nat} {xs : List (K × Addr × Value)} {hsh : Int} {Q : Option Nat → Shared → Prop}
    (ho : s.heap.get? d = some o) (hd : o.data = .dict es ep) (he : es.toList = xs.map (entryOfKey knd)) (his : ∀ x ∈ xs, knd.is s.heap x.1 x.2.1) (heq : ∀ x ∈ xs, PySem.SeqAt.EqAt A s (.ref x.2.1) .none false) (h : Q none s) :
    wpAny (model prog w) A (dictFind d .none hsh) Q E s := by
  have hmem : ∀ e ∈ es, ∃ x ∈ xs, e = entryOfKey knd x := by
    intro e hin
    have : e ∈ xs.map (entryOfKey knd) := he ▸ Array.mem_toList_iff.mpr hin
    obtain ⟨x, hx, rfl⟩ := List.mem_map.mp this
    exact ⟨x, hx, rfl⟩
  have hst : ∀ v ∈ (placesWithHash es.size (fun i => es[i]?.map (·.hash)) hsh).filterMap (fun i => es[i]?.map (·.key)), ∃ k' b, v = .ref b ∧ knd.is s.heap k' b := by
    intro v hv
    obtain ⟨i, _, hi⟩ := List.mem_filterMap.mp hv
    cases hei : es[i]? with
    | none => rw [hei] at hi; cases hi
    | some e =>
      rw [hei] at hi
      obtain rfl : e.key = v := by simpa using hi
      obtain ⟨x, hx, rfl⟩ := hmem e (Array.mem_of_getElem? hei)
      exact ⟨x.1, x.2.1, rfl, his x hx⟩
  have hpl : ∀ i ∈ placesWithHash es.size (fun i => es[i]?.map (·.hash)) hsh, ∃ x ∈ xs, es[i]? = some (entryOfKey knd x) := by
    intro i hi
    rw [placesWithHash, List.mem_filter, List.mem_range] at hi
    obtain ⟨x, hx, e⟩ := hmem es[i] (Array.getElem_mem hi.1)
    exact ⟨x, hx, by rw [Array.getElem?_eq_getElem hi.1, e]⟩
  unfold dictFind
  try with_reducible refine wpAny_holding ?_
  refine wpAny_bind (wpAny_dictEntries ho hd ?_)
  dsimp only
  generalize hp : placesWithHash es.size (fun i => es[i]?.map (·.hash)) hsh = places at hst hpl ⊢
  have tell : ∀ {Q' : Bool → Shared → Prop}, Q' false s → wpAny (model prog w) A (tableMayTell .none (places.filterMap (fun i => es[i]?.map (·.key)))) Q' E s := by
    intro Q' hq
    unfold tableMayTell
    split
    · exact wpAny_pure hq
    · refine wpAny_bind (wpAny_of_eq (a := true) (by rw [eqIsQuiet_byValue _ rfl]) ?_)
      simp only [Bool.not_true, Bool.false_eq_true, if_false]
      refine wpAny_bind ?_
      refine wpAny_forIn_list _ (fun rest r s' => s' = s ∧ r = (none, ()) ∧ ∀ v ∈ rest, ∃ k' b, v = .ref b ∧ knd.is s.heap k' b) _ ?_ ?_ _ _ ⟨rfl, rfl, hst⟩
      · rintro x rest r s' ⟨rfl, rfl, hr⟩
        obtain ⟨k', b, rfl, hb⟩ := hr x List.mem_cons_self
        refine wpAny_bind (knd.quiet hb ?_)
        simp only [Bool.not_true, Bool.false_eq_true, if_false]
        exact wpAny_pure ⟨rfl, rfl, fun v hv => hr v (List.mem_cons_of_mem _ hv)⟩
      · rintro r s' ⟨rfl, rfl, _⟩
        exact wpAny_pure hq
  by_cases hall : ((Value.none :: places.filterMap (fun i => es[i]?.map (·.key))).all carriedByValue) = true
  · rw [if_pos hall]
    have hnil : places = [] := by
      cases places with
      | nil => rfl
      | cons i r =>
        obtain ⟨x, hx, e⟩ := hpl i (by simp)
        rw [List.filterMap_cons, e] at hall
        simp [entryOfKey, carriedByValue] at hall
    subst hnil
    unfold dictWalkPlain
    simp only [List.forIn_nil]
    exact wpAny_bind (wpAny_pure (wpAny_pure h))
  · rw [if_neg hall]
    by_cases hone : ((places.filterMap (fun i => es[i]?.map (·.key))) == [Value.none]) = true <;>
    (first | rw [if_pos hone] | rw [if_neg hone]) <;> (first | refine wpAny_bind (wpAny_pure ?_) | refine wpAny_bind (tell ?_)) <;> (
      rw [if_neg (by simp)]
      refine wpAny_bind ?_
      refine wpAny_forIn_list _ (fun rest b s' => s' = s ∧ b = (none, none) ∧ ∀ i ∈ rest, ∃ x ∈ xs, es[i]? = some (entryOfKey knd x)) _ ?_ ?_ _ _ ⟨rfl, rfl, hpl⟩
      · rintro i rest b s' ⟨rfl, rfl, hr⟩
        obtain ⟨x, hx, e⟩ := hr i List.mem_cons_self
        have hr' : ∀ i ∈ rest, ∃ x ∈ xs, es[i]? = some (entryOfKey knd x) := fun j hj => hr j (List.mem_cons_of_mem _ hj)
        rw [e]
        dsimp only
        by_cases hh : ((entryOfKey knd x).hash == hsh) = true
        · rw [if_pos hh]
          refine wpAny_bind (wpAny_dictEpoch ho hd (wpAny_bind (heq x hx _ _ _ _ (wpAny_bind (wpAny_dictEpoch ho hd ?_)))))
          show wpAny _ _ (if (ep != ep) = true then _ else _) _ E _
          rw [if_neg (by simp)]
          simp only [Bool.false_eq_true, if_false]
          refine wpAny_bind (wpAny_rule ?_)
          first | rw [if_neg (by simp)] | skip
          first
            | exact wpAny_pure ⟨rfl, rfl, hr'⟩
            | exact wpAny_bind (wpAny_pure (wpAny_pure ⟨rfl, rfl, hr'⟩))
        · rw [if_neg hh]
          exact wpAny_pure ⟨rfl, rfl, hr'⟩
      · rintro b s' ⟨rfl, rfl, _⟩
        exact wpAny_pure h)
theorem in_none {d : Addr} {xs : List (K × Addr × Value)} {Q : Value → Shared → Prop} (hd : (d == sysModules) = false) (hm : s.heap.DictOfH knd d xs) (heq : ∀ x ∈ xs, PySem.SeqAt.EqAt A.in1 { s with toks := s.toks + 1 } (.ref x.2.1) .none false)
    (h : Q (.bool false) { s with toks := s.toks + 1 }) : wpAny (model prog w) A (compareOp .In .none (.ref d)) Q E s := by
  show wpAny _ _ (do return .bool (← contains (.ref d) .none)) Q E s
  refine wpAny_bind ?_
  unfold contains
  try with_reducible refine wpAny_holding ?_
  refine wpAny_bind (wpAny_specialOf hm.typeIs slot_dict_contains.lookup ?_)
  show wpAny _ _ (if (some (Value.builtin "dict.__contains__") == some Value.none) = true then _ else _) _ E s
  rw [if_neg (by rw [beq_builtin_none]; exact Bool.false_ne_true)]
  refine wpAny_bind (wpAny_callSpecialUnlessNone?_slot (name := Str.ofString "__contains__") hm.typeIs slot_dict_contains
    (wpAny_call_entry slot_dict_contains hm.typeIs entry_dict_contains ?_ (args_dict_contains _ _)))
  obtain ⟨o, es, ep, ho, _, hdd, he, his, hn⟩ := hm
  show wpAny _ _ (dictGet d .none >>= _) _ _ s
  refine wpAny_bind ?_
  unfold dictGet
  try with_reducible refine wpAny_holding ?_
  refine wpAny_bind (pyHash_none (wpAny_bind (dictFind_none (s := { s with toks := s.toks + 1 }) ho hdd he his heq (wpAny_pure ?_))))
  show wpAny _ _ (Builtin.Dict.pendingKey? d .none >>= _) _ _ _
  exact wpAny_bind (wpAny_pendingKey_other hd (wpAny_pure ⟨_, rfl, wpAny_truthy_bool (wpAny_pure h)⟩))
end
section
variable {X : Cx} {pins : List (Addr × Obj)} {σ : St} {H : Hp} {s : Shared} {a : Addr} {kvs : List (List Key × V)} {A : Around} {E : Value → Shared → Prop}
theorem d_inNone {Q : Value → Shared → Prop} (hu : A.units + 1 < cLine) (I : Inv X pins σ H s) (e : Rd H a (.dT kvs)) (h : ∀ s', Inv X pins σ H s' → Q (.bool false) s') : wpAny (model X.prog X.w) A (compareOp .In .none (.ref a)) Q E s := by
  obtain ⟨z, hd, xs, rel, dd⟩ := dt_rd I.hok e
  refine in_none (knd := tupleKind (mixKind X.prog X.w)) hd dd (fun x hx => ?_) (h _ (I.tok _))
  obtain ⟨o, es, ep, ho, _, hdd, he, his, hn⟩ := dd
  obtain ⟨ox, items, n, h1, h2, h3, h4⟩ := his x hx
  exact PySem.SeqAt.EqAt.tuple_none (items := items) ⟨ox, h1, h2, n, h3⟩ (tupleKind_room_in1 (knd := mixKind X.prog X.w) hu)
end
def tDInO (ty td : TE) : TE := fun σ H Q => ty σ H fun y H1 => td σ H1 fun x H2 => ∃ a o, x = .ref a ∧ (DGet H2 a y o ∨ (y = .non ∧ o = none ∧ ∃ kvs, Rd H2 a (.dT kvs))) ∧ Q (.bl o.isSome) H2
section
variable {X : Cx} {ty td : TE} {i o : Expr}
theorem pc_dinO (hu : X.A.units + 1 < cLine) (hi : PE X i ty) (ho : PE X o td) : PC X .In i o (tDInO ty td) := by
  intro pins s σ H Q I h
  refine thn (hi pins s σ H _ I h) fun iv s1 ⟨y, H1, I1, ry, q1⟩ => thn (ho pins s1 σ H1 _ I1 q1) fun u s2 ⟨x, H2, I2, rx, a, ov, ex, g, q2⟩ => ?_
  subst ex
  obtain rfl : u = Value.ref a := rx
  rcases g with g | ⟨ey, eo, kvs, g⟩
  · exact d_in hu I2 g ry fun s3 I3 => ⟨.bl ov.isSome, H2, I3, rfl, q2⟩
  · subst ey eo
    obtain rfl : iv = Value.none := ry
    exact d_inNone hu I2 g fun s3 I3 => ⟨.bl false, H2, I3, rfl, q2⟩
end
namespace Z
section
variable {X : Cx} {pos : Pos} {i o : Expr} {ty td : TE}
theorem dinO (hu : X.A.units + 64 < cLine) (hi : ZE X i ty) (ho : ZE X o td) (hm : behindInMarks .In o = false := by kernel_rfl) : ZE X (.Compare i [.In] [o] pos) (tDInO ty td) := ⟨pe_cmp (pc_dinO (Nat.lt_of_le_of_lt (by omega) hu) hi.h ho.h) hm⟩
end
end Z
end L2
end
section
set_option Elab.async false
set_option linter.all false
set_option maxRecDepth 100000
set_option autoImplicit false
namespace TV
open PySem L2 KB
def enumI {A : Type} : Nat → List A → List (Int × A)
  | _, [] => []
  | k, x :: xs => ((k : Int), x) :: enumI (k + 1) xs
theorem enumI_len {A : Type} : ∀ (xs : List A) (k : Nat), (enumI k xs).length = xs.length
  | [], _ => rfl
  | _ :: xs, k => by simp [enumI, enumI_len xs]
theorem enumI_get {A : Type} : ∀ (xs : List A) (k i : Nat), (enumI k xs)[i]? = (xs[i]?).map fun x => (((k + i : Nat) : Int), x)
  | [], _, _ => by simp [enumI]
  | x :: xs, k, 0 => by simp [enumI]
  | x :: xs, k, i + 1 => by
    rw [enumI, List.getElem?_cons_succ, enumI_get xs (k + 1) i, List.getElem?_cons_succ]
    congr 1
    funext y
    congr 2
    omega
section
variable {te ta tl ty td : TE} {tt : TT} {ts : TA} {t u : TS} {σ : St} {H : Hp} {Q : VK} {N C : Sets} {A B : Type} {R : Rep A} {S : Rep B} {K : PySem.W.Frag} {D : Ends} {g : TG} {vs : List Nat} {p : Int × A → Bool} {f : Int × A → B} {tb0 : TS}
namespace ev
theorem dinO {L : Type} [DecidableEq L] {k : Ke L} {m : List (L × A)} {q : Option L} (hd : Ev td σ H ((aD k R).r N m)) (hq : Ev ty σ H ((aO k.R).r N q)) : Ev (tDInO ty td) σ H (aB.r N (q.bind (look m)).isSome) := fun H1 s Q kk =>
  hq H1 s _ fun w H2 s2 p3 => hd H2 (s.trans s2) _ fun v H3 s3 p => by
    obtain ⟨a, kvs, rfl, _, h1, t⟩ := p
    cases q with
    | none =>
      exact ⟨a, none, rfl, .inr ⟨p3, rfl, kvs, h1⟩, kk _ H3 (s2.trans s3) rfl⟩
    | some q =>
      obtain ⟨b, rfl, _, h2⟩ := k.out (k.R.sm s3 p3.2)
      exact ⟨a, _, rfl, .inl (.inr ⟨kvs, _, b, h1, rfl, h2, rfl⟩), kk _ H3 (s2.trans s3) (by rw [rows_isSome t q]; rfl)⟩
theorem arg3 {P1 P2 P3 : V → Hp → Prop} {te2 te3 : TE} (ha : Ev te σ H P1) (hb : Ev te2 σ H P2) (hc : Ev te3 σ H P3) (st : ∀ v H1 H2, Sm H1 H2 → P1 v H1 → P1 v H2) (st2 : ∀ v H1 H2, Sm H1 H2 → P2 v H1 → P2 v H2) :
    EvA (tCons te (tCons te2 (tCons te3 tNil))) σ H (fun vs H' => ∃ v w z, vs = [v, w, z] ∧ P1 v H' ∧ P2 w H' ∧ P3 z H') :=
  consA ha (arg2 hb hc st2) st fun v vs H' p ⟨w, z, e, q, r⟩ => ⟨v, w, z, by rw [e], p, q, r⟩
end ev
namespace st
end st
theorem LamAt.sm {H H' : Hp} {P : Addr} {pos : Pos} {q : Str} (h : LamAt H P pos q) (s : Sm H H') : LamAt H' P pos q := by
  obtain ⟨ps, e, tr, h⟩ := h
  refine ⟨ps, s.get noTb e, tr, h.imp id fun ⟨c', e1, e2⟩ => ⟨c', e1, s.get noTb e2⟩⟩
theorem LamAt.up {H : Hp} {P D : Addr} {o : HO} {pos : Pos} {q : Str} (h : LamAt H P pos q) (hD : H D = none) : LamAt (upd H D o) P pos q := LamAt.sm h (.new hD)
theorem LamTo.go {H H' : Hp} {P : Addr} (h : LamTo P H H') (hP : ∃ ps, H P = some (.tbl ps)) : Go (fun b => b = P) H H' := by
  obtain ⟨ps, hP⟩ := hP
  obtain ⟨more, hP'⟩ := h.tbl ps hP
  refine ⟨fun b o n e => .inl (h.but b o n e), h.dom, fun b o e n => ?_⟩
  by_cases z : b = P
  · exact ⟨.tbl (ps ++ more), by rw [z]; exact hP', fun _ z => nomatch z⟩
  · exact ⟨o, h.but b o z e, n⟩
theorem Go.kpT {N : Sets} {H H' : Hp} {P : Addr} (g : Go (fun b => b = P) H H') (hP : ∃ ps, H P = some (.tbl ps)) : Kp N H H' := by
  obtain ⟨ps, hP⟩ := hP
  have ne : ∀ {b : Addr} {o : HO}, (∀ qs, o ≠ .tbl qs) → H b = some o → ¬ b = P := fun {b o} n e z => by rw [z, hP] at e; exact n _ (Option.some.inj e).symm
  exact ⟨fun c us _ e => g.get (ne (o := .tup us) (fun _ z => nomatch z) e) noTb e, fun c u _ pl e => e.elim (fun e => .inl (g.get (ne pl.1 e) noTb e)) fun ⟨o, e⟩ => .inr ⟨o, g.get (ne (o := .frz o u) (fun _ z => nomatch z) e) noTb e⟩, fun c us _ e => g.get (ne (o := .lst us) (fun _ z => nomatch z) e) noTb e⟩
theorem LamAt.tbl {H : Hp} {P : Addr} {pos : Pos} {q : Str} (h : LamAt H P pos q) : ∃ ps, H P = some (.tbl ps) := let ⟨ps, e, _⟩ := h; ⟨ps, e⟩
theorem EX.minK {P : Addr} {pos : Pos} {q : Str} {ix : Nat} {xs : List A} {kf : A → Int} {Aa : Hp → Prop} (hAa : ∀ {H}, Aa H ↔ LamAt H P pos q) (hP : C P) (nP : ¬ N P) (e : EX C Aa tl σ H ((aL R).r N xs)) (hne : 0 < xs.length)
    (hk : ∀ H1, Go C H H1 → ∀ (i : Nat) x v, xs[i]? = some x → R.r N x v H1 → te ((wipe σ vs).set ix (some v)) H1 fun y H3 => H3 = H1 ∧ y = .int (kf x)) :
    EX C Aa (tMinK K tl te vs ix P pos q) σ H (fun v H' => ∃ x ∈ xs, (∀ y ∈ xs, kf x ≤ kf y) ∧ R.r N x v H') := fun H1 g a Q k => by
  refine e H1 g a _ fun v H2 g2 a2 p => ?_
  obtain ⟨b, us, rfl, nb, hb, al⟩ := p
  have hL := hAa.mp a2
  have hl := al.length
  refine ⟨b, us, fun i => ((xs[i]?).map kf).getD 0, rfl, by omega, hL, fun H3 to hL3 => ?_⟩
  have g3 : Go (fun b => b = P) H2 H3 := LamTo.go to (let ⟨ps, e, _⟩ := hL; ⟨ps, e⟩)
  have g3C : Go C H2 H3 := g3.mono fun b z => by rw [z]; exact hP
  have hPb : b ≠ P := fun z => by
    obtain ⟨ps, e, _⟩ := hL
    rw [z, e] at hb; cases hb
  have hb3 := to.but b _ hPb hb
  have kp : Kp N H2 H3 := ⟨fun c us' _ e => to.but c _ (fun z => by obtain ⟨ps, e2, _⟩ := hL; rw [z, e2] at e; cases e) e, fun c u _ pl e => e.elim (fun e => by
      by_cases z : c = P
      · obtain ⟨ps, e2, _⟩ := hL
        rw [z, e2] at e
        cases e
        exact absurd rfl (pl.1 ps)
      · exact .inl (to.but c _ z e)) fun ⟨o, e⟩ => .inr ⟨o, to.but c _ (fun z => by obtain ⟨ps, e2, _⟩ := hL; rw [z, e2] at e; cases e) e⟩, fun c us' _ e => to.but c _ (fun z => by obtain ⟨ps, e2, _⟩ := hL; rw [z, e2] at e; cases e) e⟩
  have al3 := al.imp fun _ _ z => R.kp kp z
  refine ⟨SqL.of hb3, fun i v hv => ?_, fun i v hv best => ?_⟩
  · obtain ⟨x, hx, r⟩ := al3.got hv
    show te _ H3 fun y H4 => H4 = H3 ∧ y = .int (((xs[i]?).map kf).getD 0)
    rw [hx]
    exact hk H3 ((g.trans g2).trans g3C) i x v hx r
  · obtain ⟨x, hx, r⟩ := al3.got hv
    refine k v H3 (g2.trans g3C) (hAa.mpr hL3) ⟨x, List.mem_of_getElem? hx, fun y hy => ?_, r⟩
    obtain ⟨j, hj, e⟩ := List.getElem_of_mem hy
    have h1 := (best j (by omega)).1
    have e2 : xs[j]? = some y := by rw [List.getElem?_eq_getElem hj, e]
    have h2 : ((xs[i]?).map kf).getD 0 ≤ ((xs[j]?).map kf).getD 0 := h1
    rw [hx, e2] at h2
    exact h2
end
end TV
end
section
set_option Elab.async false
set_option linter.all false
set_option maxRecDepth 100000
set_option autoImplicit false
namespace TV
open PySem L2 KB
variable {ta tb : TE} {σ : L2.St} {H : Hp} {N C : Sets} {K : PySem.W.Frag} {A : Type} {R : Rep A} {D : Ends}
theorem ev.neB {i j : Bool} (ha : Ev ta σ H (aB.r N i)) (hb : Ev tb σ H (aB.r N j)) : Ev (tOp rNe ta tb) σ H (aB.r N (!decide (i = j))) :=
  ev.two (P1 := aB.r N i) (P2 := aB.r N j) ha hb (fun _ _ _ _ h => h) fun v w H1 _ e f Q k => by
    cases (show v = .bl i from e)
    cases (show w = .bl j from f)
    exact ⟨rfl, k _ H1 (.refl H1) (by show V.bl _ = V.bl _; congr 2; exact decide_eq_decide.mpr ⟨fun z => V.bl.inj z, fun z => by rw [z]⟩)⟩
theorem LamAt.nil {tb : Addr} {pos : Pos} {q : Str} (h : H tb = some (.tbl #[])) : LamAt H tb pos q := ⟨#[], h, by simp [TriplesOk], .inl rfl⟩
section
variable {tl te : TE} {vs : List Nat}
end
end TV
end
section
set_option Elab.async false
set_option linter.all false
set_option maxRecDepth 100000
set_option autoImplicit false
namespace TV
open PySem L2 KB
variable {te ta tb : TE} {σ : L2.St} {H : Hp} {N C : Sets} {K : PySem.W.Frag} {A B T : Type} {R : Rep A} {S : Rep B} {D : Ends}
theorem ev.isT {U : Row T} {z : T} (ha : Ev te σ H ((aT U).r N z)) : Ev (tCB (rIsi K) (tCons te (tCons (tC (.ty "tuple")) tNil))) σ H (aB.r N (isiB "tuple" "tuple")) :=
  ev.isi (P := fun v H' => (aT U).r N z v H') (n := "tuple") ha (fun _ _ _ s e => (aT U).sm s e) (fun v H' e => by obtain ⟨a, vs, rfl, _, h, _⟩ := e; exact .tup (SqT.of h))
theorem ev.isV {xs : List A} (ha : Ev te σ H ((aV R).r N xs)) : Ev (tCB (rIsi K) (tCons te (tCons (tC (.ty "tuple")) tNil))) σ H (aB.r N (isiB "tuple" "tuple")) :=
  ev.isi (P := fun v H' => (aV R).r N xs v H') (n := "tuple") ha (fun _ _ _ s e => (aV R).sm s e) (fun v H' e => by obtain ⟨a, vs, rfl, _, h, _⟩ := e; exact .tup (SqT.of h))
theorem isiTT : isiB "tuple" "tuple" = true := by decide
theorem aV_some {xs : List Nm} {v : V} (h : (aV aN).r N xs v H) : (aV (aO aN)).r N (xs.map some) v H := by
  obtain ⟨a, vs, e, n, h, al⟩ := h
  exact ⟨a, vs, e, n, h, All2.mapL (f := some) (al.imp fun _ _ z => ⟨(by obtain ⟨a, e, _⟩ := aN_out z; rw [e]; exact fun z => nomatch z), z⟩)⟩
end TV
end
section
set_option Elab.async false
set_option linter.all false
set_option maxRecDepth 100000
namespace K02
open PySem L2 KB TV
set_option autoImplicit false
section
variable {P : Program} {w : World} {K : PySem.W.Frag} {mg : Str → Option Value} {base : Heap} {C : Addr}
def spSized : Sp := fun vs H Q _ => ∃ (a : Addr) (us : List V) (n : Nat), vs = [.ref a, .int n] ∧ H a = some (.tup us) ∧ ∀ H', Sm H H' → Q (.bl (decide ((us.length : Int) = n))) H'
theorem ok_sized {f : Addr} {fd : FuncData} (F : Fun K "is_sized" "is_sized" (top 11) f fd) (B : Bt mg) : FnOk P w K mg base CX0 1 f fd ["value", "size"] spSized := by
  have S := scIsSized
  refine F.okZ scIsSized (fun vs H Q E h => ?_) (fun cdv A outer s H vs Q E hr h => ?_)
  · obtain ⟨a, us, n, rfl, _⟩ := h
    rfl
  · obtain ⟨a, us, n, rfl, ha, k⟩ := h
    refine ⟨_, (Z.last (Z.ret (Z.and (Z.cb Z.isi B.isi (Z.cons (Z.vl 0) (Z.cons (Z.ty "tuple" B.tuple) Z.nil))) (Z.one (Z.cmp Z.eq (Z.cb Z.len B.len (Z.cons (Z.vl 0) Z.nil)) (Z.vl 1)))))), ?_⟩
    show tRet _ _ [some (.ref a), some (.int n)] H
    refine st.ret (ev.andV (N := none') (b := isiB "tuple" "tuple") (c := decide ((us.length : Int) = n)) (ev.isi (P := fun v H' => v = .ref a ∧ H' a = some (.tup us)) ((ev.raw rfl).imp fun v H' s e => ⟨e, s.tup ha⟩) (fun _ _ _ s e => ⟨e.1, s.tup e.2⟩) (fun v H' e => by rw [e.1]; exact .tup (SqT.of e.2))) fun _ => ev.eqI (N := none') (i := (us.length : Int)) ?_ (ev.var rfl rfl)) fun v H' s e => by
      cases (show v = .bl _ from e)
      rw [isiTT, Bool.true_and]
      exact k H' s
    exact ev.cb (ev.arg1 (P := fun v H' => v = .ref a ∧ H' a = some (.tup us)) ((ev.raw rfl).imp fun v H' s e => ⟨e, s.tup ha⟩)) fun vs H1 _ ⟨v, e, ev', h⟩ Q k => ⟨a, us, by rw [e, ev'], .inr (SqT.of h), k _ _ (.refl _) rfl⟩
end
end K02
end
section
set_option Elab.async false
set_option linter.all false
set_option maxRecDepth 100000
set_option autoImplicit false
namespace L2
open PySem PySem.Spec PyProof.Rows
section
variable {prog : Program} {w : World} {A : Around} {E : Value → Shared → Prop} {s : Shared} {K : Type} [DecidableEq K]
theorem meets_get_none (knd : HeapKind prog w K) (d : Addr) (hd : (d == sysModules) = false) (dflt : Value) :
    MeetsIn prog w (Builtin.«dict.get» ⟨[.ref d, .none, dflt], []⟩) (fun A R s => ∃ xs, s.heap.DictOfH knd d xs ∧ (∀ x ∈ xs, PySem.SeqAt.EqAt A.in1 { s with toks := s.toks + 1 } (.ref x.2.1) .none false) ∧
      R (.ok (.ret dflt)) { s with toks := s.toks + 1 }) :=
  .of_wp fun A R s ⟨xs, hm, heq, h⟩ => by
    obtain ⟨o, es, ep, ho, _, hdd, he, his, hn⟩ := hm
    show wpAny _ _ (dictGet d .none >>= _) _ _ s
    refine wpAny_bind ?_
    unfold dictGet
    try with_reducible refine wpAny_holding ?_
    refine wpAny_bind (pyHash_none (wpAny_bind (dictFind_none (s := { s with toks := s.toks + 1 }) ho hdd he his heq (wpAny_pure ?_))))
    show wpAny _ _ (Builtin.Dict.missed d .none >>= _) _ _ _
    exact wpAny_bind (wpAny_missed_other hd (wpAny_pure ⟨dflt, rfl, h⟩))
end
section
variable {X : Cx} {pins : List (Addr × Obj)} {σ : St} {H : Hp} {s : Shared} {a : Addr} {kvs : List (List Key × V)} {A : Around} {E : Value → Shared → Prop}
theorem d_getNone {Q : Value → Shared → Prop} {r : Value} (hu : A.units + 1 < cLine) (I : Inv X pins σ H s) (e : Rd H a (.dT kvs)) (h : ∀ s', Inv X pins σ H s' → Q r s') : wpAny (model X.prog X.w) A (call (.builtin "dict.get") [.ref a, .none, r]) Q E s := by
  obtain ⟨z, hd, xs, rel, dd⟩ := dt_rd I.hok e
  refine call_meetsIn PySem.F.slot_dict_get dd.typeIs PySem.F.entry_dict_get (PySem.F.args_dict_get_3 _ _ _) (meets_get_none (tupleKind (mixKind X.prog X.w)) a hd r) ⟨xs, dd, fun x hx => ?_, h _ (I.tok _)⟩
  obtain ⟨o, es, ep, ho, _, hdd, he, his, hn⟩ := dd
  obtain ⟨ox, items, n, h1, h2, h3, h4⟩ := his x hx
  exact PySem.SeqAt.EqAt.tuple_none (items := items) ⟨ox, h1, h2, n, h3⟩ (tupleKind_room_in1 (knd := mixKind X.prog X.w) hu)
end
def tDGetO (td ty tx : TE) : TE := fun σ H Q => td σ H fun x H1 => ∃ a, x = .ref a ∧ IsD H1 a ∧ ty σ H1 fun y H2 => tx σ H2 fun z H3 => ∃ o, (DGet H3 a y o ∨ (y = .non ∧ o = none ∧ ∃ kvs, Rd H3 a (.dT kvs))) ∧ Q (o.getD z) H3
section
variable {X : Cx} {o e f : Expr} {apos cpos : Pos} {td ty tx : TE}
theorem pe_dgetO (hu : X.A.units + 1 < cLine) (ho : PE X o td) (he : PE X e ty) (hf : PE X f tx) (m : M2 X o "get" apos e f cpos) : PE X (.Call (.Attribute o "get" apos) [e, f] [] cpos) (tDGetO td ty tx) := by
  intro pins s σ H Q I h
  refine wpAny_Call_method m.base m.few m.line PySem.F.plainAttrs_dict PySem.F.slot_dict_get PySem.F.type_dict_get (thn (ho pins s σ H _ I h) fun u s1 ⟨x, H1, I1, rx, a, ex, d, q1⟩ => ?_)
  subst ex
  obtain rfl : u = Value.ref a := rx
  obtain ⟨t1, t2, _⟩ := isD_at I1 d
  refine ⟨t1, t2, ?_⟩
  rw [m.trees]
  refine Calls.callWith_builtin rfl (Calls.evalArgs_plain (Calls.spliced_cons (thn (he pins s1 σ H1 _ I1 q1) fun iv s2 ⟨y, H2, I2, ry, q2⟩ =>
    Calls.spliced_cons (thn (hf pins s2 σ H2 _ I2 q2) fun fv s3 ⟨z, H3, I3, rz, ov, g, q3⟩ => Calls.spliced_nil ?_))))
  rcases g with g | ⟨ey, eo, kvs, g⟩
  · exact d_get2 hu I3 g ry rz fun w' s4 I4 rw' => ⟨_, H3, I4, rw', q3⟩
  · subst ey eo
    obtain rfl : iv = Value.none := ry
    exact d_getNone hu I3 g fun s4 I4 => ⟨z, H3, I4, rz, q3⟩
end
namespace Z
section
variable {X : Cx} {o e f : Expr} {apos cpos : Pos} {td ty tx : TE}
theorem dgetO (hu : X.A.units + 64 < cLine) (ho : ZE X o td) (he : ZE X e ty) (hf : ZE X f tx) (hbase : attributeBase o "get" X.env (eval o X.env) = eval o X.env := by kernel_rfl)
    (hfew : ((backTo cpos (starEach [e, f] X.env)).all (fun x => !x.1) && (backToKw cpos (keywordEach [] X.env)).all (fun x => x.1.isSome)
      && decide (([e, f] : List Expr).length + ([] : List Keyword).length + (if ([] : List Keyword).isEmpty then 0 else 1) < 30)) = true := by kernel_rfl)
    (hline : (apos.endLine == cpos.line) = true := by kernel_rfl) (htr : backTo cpos (starEach [e, f] X.env) = [(false, eval e X.env), (false, eval f X.env)] := by kernel_rfl) :
    ZE X (.Call (.Attribute o "get" apos) [e, f] [] cpos) (tDGetO td ty tx) := ⟨pe_dgetO (Nat.lt_of_le_of_lt (by omega) hu) ho.h he.h hf.h ⟨hbase, hfew, hline, htr⟩⟩
end
end Z
end L2
namespace TV
open PySem L2 KB
section
variable {σ : L2.St} {H : Hp} {N : Sets} {A : Type} {R : Rep A} {x : A}
theorem ev.dgetO {L : Type} [DecidableEq L] {k : Ke L} {td ty tx : TE} {m : List (L × A)} {q : Option L} (hd : Ev td σ H ((aD k R).r N m)) (hq : Ev ty σ H ((aO k.R).r N q)) (hx : Ev tx σ H (R.r N x)) : Ev (tDGetO td ty tx) σ H (R.r N ((q.bind (look m)).getD x)) := fun H1 s Q kk =>
  hd H1 s _ fun v H2 s2 p => by
    obtain ⟨a, kvs, rfl, na, h1, t⟩ := p
    refine ⟨a, rfl, .inr ⟨kvs, h1⟩, hq H2 (s.trans s2) _ fun w H3 s3 p3 => hx H3 ((s.trans s2).trans s3) _ fun u H4 s4 p4 => ?_⟩
    have s34 := s3.trans s4
    cases q with
    | none =>
      have e : w = .non := p3
      exact ⟨none, .inr ⟨e, rfl, kvs, s34.rd noTb_dT h1⟩, kk _ H4 ((s2.trans s3).trans s4) p4⟩
    | some q =>
      obtain ⟨b, rfl, _, h2⟩ := k.out (k.R.sm s4 p3.2)
      have t4 : RowsT k R N H4 m kvs := t.imp fun _ _ z => ⟨z.1, R.sm s34 z.2⟩
      refine ⟨_, .inl (.inr ⟨kvs, _, b, s34.rd noTb_dT h1, rfl, h2, rfl⟩), ?_⟩
      show Q ((valV kvs (k.e q)).getD u) H4
      rcases rows_look t4 q with ⟨e, e'⟩ | ⟨y, v, e, e', f⟩
      · rw [e']; exact kk _ H4 ((s2.trans s3).trans s4) (by show R.r N ((look m q).getD x) _ H4; rw [e]; exact p4)
      · rw [e']; exact kk _ H4 ((s2.trans s3).trans s4) (by show R.r N ((look m q).getD x) _ H4; rw [e]; exact f)
end
end TV
end
section
set_option Elab.async false
set_option linter.all false
set_option maxRecDepth 100000
set_option autoImplicit false
namespace L2
open PySem PySem.Spec PyProof.Rows
section
variable {X : Cx} {pos : Pos} {k v : Expr} {tk tv : TE}
end
namespace Z
section
variable {X : Cx} {pos : Pos} {k v : Expr} {tk tv : TE}
end
end Z
end L2
end
section
set_option Elab.async false
set_option linter.all false
set_option maxRecDepth 100000
set_option autoImplicit false
namespace L2
open PySem PySem.Spec PyProof.Rows
section
variable {X : Cx} {ta tb : TE} {a b : Expr} {rest : List Expr} {pos : Pos}
end
namespace Z
section
variable {X : Cx} {ta tb : TE} {a b : Expr} {rest : List Expr} {pos : Pos}
end
end Z
end L2
end
section
set_option Elab.async false
set_option linter.all false
set_option maxRecDepth 100000
set_option autoImplicit false
namespace TV
open PySem L2 KB
def EP (C : Sets) (A B : Hp → Prop) (te : TE) (σ : L2.St) (H : Hp) (P : V → Hp → Prop) : Prop := ∀ H1, Go C H H1 → A H1 → ∀ Q : VK, (∀ v H2, Go C H1 H2 → B H2 → P v H2 → Q v H2) → te σ H1 Q
def Dw (c : Addr) (n : Nat) (H : Hp) : Prop := ∃ ds : List Int, H c = some (.lst (ds.map V.int)) ∧ n ≤ ds.length
abbrev Cc (c : Addr) : Sets := fun b => b = c
theorem Dw.sm {c : Addr} {n : Nat} {H H' : Hp} (s : Sm H H') (d : Dw c n H) : Dw c n H' := let ⟨ds, e, h⟩ := d; ⟨ds, s.lst e, h⟩
theorem Dw.le {c : Addr} {n m : Nat} {H : Hp} (d : Dw c n H) (h : m ≤ n) : Dw c m H := let ⟨ds, e, h2⟩ := d; ⟨ds, e, Nat.le_trans h h2⟩
theorem Dw.up {c D : Addr} {n m : Nat} {o : HO} {H H' : Hp} (d : Dw c m H) (hD : H D = none) (d' : Dw c n H') : Dw c n (upd H' D o) := by
  obtain ⟨ds, e, _⟩ := d
  obtain ⟨ds', e', h⟩ := d'
  exact ⟨ds', by rw [upd_ne (fun z => by rw [z, hD] at e; cases e)]; exact e', h⟩
theorem Dw.ne {c D : Addr} {n : Nat} {H : Hp} (d : Dw c n H) (hD : H D = none) : D ≠ c := fun z => by obtain ⟨ds, e, _⟩ := d; rw [← z, hD] at e; cases e
section
variable {te ta tb tl tr : TE} {ts : TA} {t u : TS} {σ : L2.St} {H : Hp} {P P1 P2 P3 : V → Hp → Prop} {Q : VK} {N C : Sets} {A B E : Hp → Prop} {T U : Type} {R : Rep T} {S : Rep U} {K : PySem.W.Frag} {D : Ends} {n : Nat} {g : TG} {Φ : T → Prop} {Ψ : U → Prop} {tb0 : TS}
theorem EP.use (e : EP C A B te σ H P) (a : A H) (k : ∀ v H', Go C H H' → B H' → P v H' → Q v H') : te σ H Q := e H (.refl H) a Q k
theorem EP.go {H' : Hp} (e : EP C A B te σ H P) (g : Go C H H') : EP C A B te σ H' P := fun H1 g1 a Q k => e H1 (g.trans g1) a Q k
theorem EP.of (hA : ∀ {H H'}, Sm H H' → A H → A H') (e : ∀ H1, Go C H H1 → Ev te σ H1 P) : EP C A A te σ H P := fun H1 g a Q k => (e H1 g).use fun v H2 s p => k v H2 (.of s) (hA s a) p
theorem EP.imp (e : EP C A B te σ H P1) (h : ∀ v H', P1 v H' → P2 v H') : EP C A B te σ H P2 := fun H1 g a Q k => e H1 g a Q fun v H2 g2 b p => k v H2 g2 b (h v H2 p)
theorem EP.two {r : R2} (ha : EP C A B ta σ H P1) (hb : EP C B E tb σ H P2) (st : ∀ v H1 H2, Go C H1 H2 → P1 v H1 → P1 v H2)
    (h : ∀ v w H1, E H1 → P1 v H1 → P2 w H1 → ∀ Q : VK, (∀ u H2, Go C H1 H2 → E H2 → P3 u H2 → Q u H2) → r v w H1 Q) : EP C A E (tOp r ta tb) σ H P3 := fun H1 g a Q k =>
  ha H1 g a _ fun v H2 g2 b p => hb H2 (g.trans g2) b _ fun w H3 g3 e q => h v w H3 e (st v H2 H3 g3 p) q Q fun u H4 g4 e4 p3 => k u H4 ((g2.trans g3).trans g4) e4 p3
theorem EP.opC {G : Int → Int → Prop} {g : Int → Int → V} {Φ Ψ : Int → Prop} (ha : EP C A B ta σ H (So aI N Φ)) (hb : EP C B E tb σ H (So aI N Ψ)) (hG : ∀ i j, Φ i → Ψ j → G i j) (h : ∀ i j H', Φ i → Ψ j → P (g i j) H') : EP C A E (tOp (rI G g) ta tb) σ H P :=
  EP.two ha hb (fun v _ _ _ ⟨x, p, r⟩ => ⟨x, p, r⟩) fun v w H1 a ⟨i, p, e⟩ ⟨j, q, f⟩ Q k => ⟨i, j, e, f, hG i j p q, k _ H1 (.refl H1) a (h i j H1 p q)⟩
theorem EP.opI {g : Int → Int → V} {Φ Ψ : Int → Prop} (ha : EP C A B ta σ H (So aI N Φ)) (hb : EP C B E tb σ H (So aI N Ψ)) (h : ∀ i j H', Φ i → Ψ j → P (g i j) H') : EP C A E (tOp (rI0 g) ta tb) σ H P :=
  EP.two ha hb (fun v _ _ _ ⟨x, p, r⟩ => ⟨x, p, r⟩) fun v w H1 a ⟨i, p, e⟩ ⟨j, q, f⟩ Q k => ⟨i, j, e, f, k _ H1 (.refl H1) a (h i j H1 p q)⟩
theorem EP.eqI {Φ Ψ : Int → Prop} (ha : EP C A B ta σ H (So aI N Φ)) (hb : EP C B E tb σ H (So aI N Ψ)) : EP C A E (tOp rEq ta tb) σ H (So aB N (fun b => ∃ i j, Φ i ∧ Ψ j ∧ b = decide (i = j))) :=
  EP.two ha hb (fun v _ _ _ ⟨x, p, r⟩ => ⟨x, p, r⟩) fun v w H1 a ⟨i, p, e⟩ ⟨j, q, f⟩ Q k => by
    cases (show v = .int i from e)
    cases (show w = .int j from f)
    exact ⟨rfl, k _ H1 (.refl H1) a ⟨_, ⟨i, j, p, q, rfl⟩, by show V.bl _ = V.bl _; congr 1; exact decide_eq_decide.mpr ⟨fun z => V.int.inj z, fun z => by rw [z]⟩⟩⟩
theorem EP.int {i : Int} (hA : ∀ {H H'}, Sm H H' → A H → A H') : EP C A A (tC (.int i)) σ H (So aI N (fun j => j = i)) := .of hA fun H1 _ => ev.int.imp fun v _ _ e => ⟨i, rfl, e⟩
theorem EP.num {i : Int} {m : Nat} (hA : ∀ {H H'}, Sm H H' → A H → A H') (h : σ[m]? = some (some (.int i))) : EP C A A (tVar m) σ H (So aI N (fun j => j = i)) := .of hA fun H1 _ => (ev.var (R := aI) (N := N) h rfl).imp fun v _ _ e => ⟨i, rfl, e⟩
theorem EP.pick {xs : List T} {Φ : Int → Prop} {Φ2 : T → Prop} (ha : EP C A B ta σ H ((aL R).r N xs)) (hb : EP C B E tb σ H (So aI N Φ)) (hC : ∀ a, C a → N a) (h : ∀ i, Φ i → 0 ≤ i ∧ i < xs.length) (hm : ∀ i x, Φ i → xs[i.toNat]? = some x → Φ2 x) : EP C A E (tOp (rIxL K) ta tb) σ H (So R N Φ2) :=
  EP.two ha hb (fun v _ _ g p => (aL R).kp (g.kp hC) p) fun v w H1 a p ⟨i, q, f⟩ Q k => by
    obtain ⟨b, us, rfl, nb, hu, al⟩ := p
    obtain ⟨h1, h2⟩ := h i q
    obtain ⟨x, hx⟩ : ∃ x, xs[i.toNat]? = some x := ⟨_, List.getElem?_eq_getElem (by omega)⟩
    obtain ⟨u, hu2, r⟩ := al.get hx
    have ei : ((i.toNat : Nat) : Int) = i := by omega
    exact ⟨b, us, i, u, rfl, f, SqL.of hu, by rw [← ei]; exact atI_nat hu2, k _ _ (.refl _) a ⟨x, hm i x q hx, r⟩⟩
theorem EP.pop {c : Addr} {k : Nat} (hv : σ[k]? = some (some (.ref c))) : EP (Cc c) (Dw c (n + 1)) (Dw c n) (tBM0 K "list" rPop (tVar k)) σ H (So aI N fun _ => True) := fun H1 g ⟨ds, e, hn⟩ Q kk => by
  obtain ⟨y, hy⟩ : ∃ y, ds[ds.length - 1]? = some y := ⟨_, List.getElem?_eq_getElem (by omega)⟩
  refine ⟨_, hv, .inl ⟨rfl, _, SqL.of e⟩, c, ds.map V.int, .int y, rfl, rfl, e, ?_, ?_⟩
  · rw [List.length_map, List.getElem?_map, hy]; rfl
  · refine kk _ _ (Go.upd rfl nt_lst) ⟨ds.dropLast, ?_, by rw [List.length_dropLast]; omega⟩ ⟨y, trivial, rfl⟩
    rw [upd_same, List.map_dropLast]
theorem EP.call {sp : Sp} {X : XK} {Pr : List V → Hp → Prop} (hA : ∀ {H H'}, Sm H H' → A H → A H') (ha : ∀ H1, Go C H H1 → EvA ts σ H1 Pr) (h : ∀ vs H1, Go C H H1 → A H1 → Pr vs H1 → ∀ Q : VK, (∀ v H2, Go C H1 H2 → B H2 → P v H2 → Q v H2) → sp (vs ++ []) H1 Q X) : EP C A B (tCall sp [] X ts) σ H P := fun H1 g a Q k =>
  (ha H1 g).use fun vs H2 s p => h vs H2 (g.sm s) (hA s a) p Q fun v H3 g3 b p3 => k v H3 ((Go.of s).trans g3) b p3
theorem EP.tupL {Φ : List T → Prop} (hB : ∀ {H H'}, Sm H H' → B H → B H') (tk : Trk N H) (e : EP C A B tl σ H (fun v H' => ∃ xs, Φ xs ∧ PL R N xs v H')) : EP C A B (tCB (Z.rTupK K) (tCons tl tNil)) σ H (So (aV R) N Φ) := fun H1 g a Q k =>
  e H1 g a _ fun v H2 g2 b ⟨xs, px, l, us, ev, nl, hl, al⟩ => by
    subst ev
    exact ⟨l, us, rfl, .inl ⟨SqL.of hl, fun q hq => k _ _ (g2.sm (.new hq)) (hB (.new hq) b) ⟨xs, px, q, us, rfl, ((tk.go g).go g2).no hq, upd_same, al.imp fun _ _ z => R.sm (.new hq) z⟩⟩⟩
theorem EP.lcR {A : Nat → Hp → Prop} {Φ : Nat → T → Prop} {i : Nat} (hA : ∀ {j : Nat} {H H'}, Sm H H' → A j H → A j H') (hU : ∀ {j j' : Nat} {H : Hp} {D : Addr} {o : HO}, A j H → H D = none → ∀ H', A j' H' → A j' (upd H' D o)) (tk : Trk N H) (hC : ∀ a, C a → N a) (hn : n < 1000)
    (ha : ∀ H1, Go C H H1 → Ev tr σ H1 (aI.r N (n : Int)))
    (he : ∀ j : Nat, j < n → ∀ (N' : Sets) (H1 : Hp), (∀ a, N' a → N a ∨ H a = none) → (∀ a, N a → N' a) → Trk N' H1 → Kp N H H1 → EP C (A j) (A (j + 1)) te ((wipe σ [i]).set i (some (.int j))) H1 (So R N' (Φ j))) (hw2 : ∀ v, wipe ((wipe σ [i]).set i (some v)) [i] = wipe σ [i]) :
    EP C (A 0) (A n) (tLc (iRng1 (tCons tr tNil)) (gName i) tYes te [i]) σ H (fun v H' => ∃ xs : List T, (xs.length = n ∧ ∀ j x, xs[j]? = some x → Φ j x) ∧ PL R N xs v H' ∧ ∃ D, v = .ref D ∧ H D = none) := by
  intro H1 g1 a1 Q k
  refine (ha H1 g1).use fun v H2 s12 e1 => ?_
  cases (show v = .int (n : Int) from e1)
  have a2 := hA s12 a1
  have g12 : Go C H1 H2 := .of s12
  refine ⟨n, rfl, by omega, by omega, fun D hD => ?_⟩
  have g2 := g1.trans g12
  obtain ⟨N', hN⟩ : ∃ N' : Sets, N' = fun b => b = D ∨ N b := ⟨_, rfl⟩
  have gN2 : ∀ a, N' a → N a ∨ H2 a = none := fun b z => by rw [hN] at z; exact z.elim (fun y => .inr (y ▸ hD)) .inl
  have gN : ∀ a, N' a → N a ∨ H a = none := fun b z => (gN2 b z).imp id (g2.d b)
  have gB : ∀ a, N a → N' a := fun b z => by rw [hN]; exact .inr z
  have hDN : N' D := by rw [hN]; exact .inl rfl
  have tk2 : Trk N' (upd H2 D (.lst [])) := hN ▸ (tk.go g2).grow nt_lst
  have nDC : ¬ C D := fun z => ((tk.go g2).no hD) (hC D z)
  refine lc_range (lo := 0) (n := (n : Int).toNat) (fun j H' => Go (fun b => b = D ∨ C b) H2 H' ∧ A j H' ∧ Trk N' H' ∧ ∃ xs acc, H' D = some (.lst acc) ∧ acc.length = j ∧ (∀ j' x, xs[j']? = some x → Φ j' x) ∧ All2 (fun x v => R.r N' x v H') xs acc) ⟨(Go.refl _).up (.inl rfl) nt_lst, hU a2 hD _ a2, tk2, [], [], upd_same, rfl, fun _ _ h => by simp at h, .nil⟩ ?_ ?_
  · rintro j H' hj ⟨g, a', tk', xs, acc, hacc, hl, hΦ, al⟩
    have hj' : j < n := by simpa using hj
    show _ ∧ _
    refine ⟨hw2 _, ?_⟩
    unfold tYes
    dsimp only
    rw [if_pos rfl]
    have kp : Kp N H H' := (g2.kp hC).trans ⟨fun b us nb e => g.get (fun z => z.elim (fun y => by rw [y, hD] at e; cases e) fun y => nb (hC b y)) noTb_tup e, fun b u nb pl e => by
      have nbD : b ≠ D := fun y => by rcases e with e | ⟨_, e⟩ <;> (rw [y, hD] at e; cases e)
      exact e.elim (fun e => .inl (g.get (fun z => z.elim nbD fun y => nb (hC b y)) noTb e)) fun ⟨o, e⟩ => .inr ⟨o, g.get (fun z => z.elim nbD fun y => nb (hC b y)) noTb_frz e⟩, fun b us nb e => g.get (fun z => z.elim (fun y => by rw [y, hD] at e; cases e) fun y => nb (hC b y)) noTb_lst e⟩
    have hcast : (V.int ((0 : Int) + (j : Int))) = V.int (j : Int) := by rw [Int.zero_add]
    rw [hcast]
    have hxl : xs.length = j := by rw [al.length]; exact hl
    refine (he j hj' N' H' gN gB tk' kp).use a' fun y H3 g3 a3 ⟨x, px, rx⟩ => ⟨acc, g3.get nDC noTb_lst hacc, Nat.lt_of_le_of_lt (by omega : acc.length ≤ 1000) (by decide), (g.trans (g3.mono fun b z => .inr z)).up (.inl rfl) nt_lst, hU a2 hD _ a3, (tk'.go g3).up nt_lst, xs ++ [x], _, upd_same, by rw [List.length_append, hl]; rfl, fun j' z hz => ?_, ?_⟩
    · by_cases hlt : j' < xs.length
      · rw [List.getElem?_append_left hlt] at hz
        exact hΦ j' z hz
      · have hle := (List.getElem?_eq_some_iff.mp hz).1
        rw [List.length_append] at hle
        have hj2 : j' = xs.length := by simp at hle; omega
        rw [hj2, List.getElem?_concat_length] at hz
        cases hz
        rw [hj2, hxl]
        exact px
    · have hC' : ∀ a, C a → N' a := fun b z => gB b (hC b z)
      exact ((al.imp fun _ _ z => R.up hDN (R.kp (g3.kp hC') z)).snoc (R.up hDN rx))
  · rintro H' ⟨g, a', tk', xs, acc, hacc, hl, hΦ, al⟩
    have hnn : acc.length = n := by simpa using hl
    have en : (n : Int).toNat = n := by simp
    rw [en] at a'
    refine k _ H' (g12.join g fun b z => ?_) a' ⟨xs, ⟨by rw [al.length]; exact hnn, hΦ⟩, ⟨D, acc, rfl, (tk.go g2).no hD, hacc, al.imp fun _ _ z => R.mv (fun b y => .inl (gB b y)) (.of (.refl _)) z⟩, D, rfl, g2.d D hD⟩
    rcases z with z | z
    · exact .inr (by rw [z]; exact g12.d D hD)
    · exact .inl z
theorem ev.int1B {b : Bool} (ha : Ev ta σ H (aB.r N b)) : Ev (tCB (fun xs H Q => (∃ i, xs = [V.int i] ∧ Q (.int i) H) ∨ ∃ k, xs = [V.bl k] ∧ Q (.int (if k then 1 else 0)) H) (tCons ta tNil)) σ H (aI.r N (if b then 1 else 0)) :=
  ev.cb (ev.one ha) fun vs H1 s ⟨v, e, p⟩ Q k => .inr ⟨b, by rw [e, show v = .bl b from p], k _ _ (.refl _) rfl⟩
theorem EP.int1B {Φ : Bool → Prop} (e : EP C A B ta σ H (So aB N Φ)) : EP C A B (tCB (fun xs H Q => (∃ i, xs = [V.int i] ∧ Q (.int i) H) ∨ ∃ k, xs = [V.bl k] ∧ Q (.int (if k then 1 else 0)) H) (tCons ta tNil)) σ H (So aI N fun i => i = 0 ∨ i = 1) := fun H1 g a Q k =>
  e H1 g a _ fun v H2 g2 b ⟨c, _, ev⟩ => .inr ⟨c, by rw [show v = .bl c from ev], k _ H2 g2 b ⟨_, by cases c <;> simp, rfl⟩⟩
namespace st
end st
end
end TV
end
section
set_option Elab.async false
set_option linter.all false
set_option maxRecDepth 100000
set_option autoImplicit false
namespace TV
open PySem L2 KB
section
variable {σ : L2.St} {H : Hp} {N : Sets} {A : Type} {R : Rep A} {K : PySem.W.Frag} {D : Ends}
end
end TV
end
section
set_option Elab.async false
set_option linter.all false
set_option maxRecDepth 100000
set_option autoImplicit false
namespace TV
open PySem L2 KB
def TbAt (H : Hp) (P : Addr) : Prop := ∃ ps, H P = some (.tbl ps) ∧ TriplesOk ps.toList
theorem TbAt.sm {H H' : Hp} {P : Addr} (h : TbAt H P) (s : Sm H H') : TbAt H' P := let ⟨ps, e, t⟩ := h; ⟨ps, s.get noTb e, t⟩
theorem TbAt.nil {H : Hp} {P : Addr} (h : H P = some (.tbl #[])) : TbAt H P := ⟨#[], h, by simp [TriplesOk]⟩
theorem TbAt.tbl {H : Hp} {P : Addr} (h : TbAt H P) : ∃ ps, H P = some (.tbl ps) := let ⟨ps, e, _⟩ := h; ⟨ps, e⟩
section
variable {σ : L2.St} {H : Hp} {N : Sets} {A : Type} {R : Rep A} {K : PySem.W.Frag}
end
end TV
end
section
set_option Elab.async false
set_option linter.all false
set_option maxRecDepth 100000
set_option autoImplicit false
namespace L2
open PySem PySem.Spec PyProof.Rows
section
variable {prog : Program} {w : World} {A : Around} {E : Value → Shared → Prop} {s : Shared}
end
end L2
end
section
set_option Elab.async false
set_option linter.all false
set_option maxRecDepth 100000
set_option autoImplicit false
namespace L2
open PySem PySem.Spec PyProof.Rows
def tQuG (c : Bool) (wi : TI) (g : TG) (tt : TT) (te : TE) (vs : List Nat) (P : Addr) : TE := fun σ H Q => wi σ H fun J H1 => ∃ ps, H1 P = some (.tbl ps) ∧ TriplesOk ps.toList ∧ ∀ more, TriplesOk (ps ++ more).toList → ∃ W : Nat → Nat → Hp → Prop, (∃ m, W 0 m (upd H1 P (.tbl (ps ++ more)))) ∧
  ∀ i m H, W i m H → (J.stop i H ∧ Q (.bl c) H) ∨ (J.go i H ∧ ∃ Nx : Hp → Prop, (∀ H', Nx H' → ∃ m', m' < m ∧ W (i + 1) m' H') ∧ ∀ x H', J.yld i H x H' → g x (wipe σ vs) H' fun σ2 H2 => wipe σ2 vs = wipe σ vs ∧ tt σ2 H2 fun t H2' => if t = true then te σ2 H2' fun y H3 => ∃ b, y = .bl b ∧ if b = c then Nx H3 else Q (.bl (!c)) H3 else Nx H2')
def genYc (c : Bool) (Y : Cx) (pins : List (Addr × Obj)) (σ0 : St) (g : Nat) (Qf : Hp → Prop) : Protocol := fun _ _ v s kap => ∃ b, v = .bool b ∧ (∃ σ H', Inv Y pins σ H' s ∧ (b = (!c) → Qf H')) ∧ g < s.gens.size ∧ (b = c → ∀ s'', SameG g s s'' → kap (.send .none) s'')
section
variable {X : Cx}
theorem seg_genT {c : Bool} {ifs : List Expr} {tt : TT} {s0 : Shared} {H0 : Hp} {ge : Env} {fp : List Addr} {it a : Addr} {go : Obj} {tn : Nat → Heap → Prop} {J : It} {elt tg iter : Expr} {scope : Scope} {pos : Pos} {gt : TG} {te : TE} {σ : St} {vs : List Nat} {g : Nat} {Q : VK} {W : Nat → Nat → Hp → Prop}
    (hc : X.calm = true) (T : Turn X.prog X.w X.K tg J fp it tn) (hco : ge.scope.isCoroutine = false) (ha : a ∉ fp) (pg : PG (X.gblk s0 H0 ge fp) tg gt) (pt : PTs (X.gblk s0 H0 ge fp) ifs tt) (pe : PE (X.gblk s0 H0 ge fp) elt te)
    (turn : ∀ i m H, W i m H → (J.stop i H ∧ Q (.bl c) H) ∨ (J.go i H ∧ ∃ Nx : Hp → Prop, (∀ H', Nx H' → ∃ m', m' < m ∧ W (i + 1) m' H') ∧ ∀ x H', J.yld i H x H' → gt x (wipe σ vs) H' fun σ2 H2 => wipe σ2 vs = wipe σ vs ∧ tt σ2 H2 fun t H2' => if t = true then te σ2 H2' fun y H3 => ∃ b, y = .bl b ∧ if b = c then Nx H3 else Q (.bl (!c)) H3 else Nx H2')) :
    ∀ (k i m : Nat) (s₀ s : Shared) (H : Hp), m ≤ k → Inv (X.gblk s0 H0 ge fp) [(a, go)] (wipe σ vs) H s → tn i s.heap → (∀ b ∈ fp, H b = none) → W i m H → g < s.gens.size →
      Seg (model X.prog X.w) X.A.in1.in1 (genR (X.gblk s0 H0 ge fp) [(a, go)] (Q (.bl c))) (genYc c (X.gblk s0 H0 ge fp) [(a, go)] (wipe σ vs) g (Q (.bl (!c)))) (k + 1) s₀
        (.compLoop (.GeneratorExp elt [⟨tg, iter, ifs, 0⟩] scope pos) 0 (.ref it) .none ge) ((model X.prog X.w).den (.compLoop (.GeneratorExp elt [⟨tg, iter, ifs, 0⟩] scope pos) 0 (.ref it) .none ge)) [] s := by
  have stat : ∀ {σ' : St} {H' : Hp} {s' : Shared}, Inv (X.gblk s0 H0 ge fp) [(a, go)] σ' H' s' → (∀ b ∈ fp, H' b = none) → ∀ b ∈ fp, FpOk (X.gblk s0 H0 ge fp) [(a, go)] H' b := fun {σ' H' s'} I' hn b hb =>
    ⟨hn b hb, (I'.ok.exf b hb).1, I'.ok.exfs b hb, .inl hb, fun x c e => (I'.ok.exf b hb).2 x c e, fun p hp => by
      have hp : p ∈ ([] : List (Addr × Obj)) ++ [(a, go)] := hp
      rw [List.nil_append] at hp
      rw [List.mem_singleton.mp hp]
      exact fun z => ha (by show a ∈ fp; rw [show a = b from z]; exact hb)⟩
  have ov := over_gen X.A.in1.in1 elt tg iter ifs scope pos (.ref it) .none ge
  intro k i m
  induction m using Nat.strongRecOn generalizing k i with
  | ind m ih =>
    intro s₀ s H hm I st nf w hg
    show Seg _ X.A.in1.in1 _ _ _ s₀ _ ((compTurn (.GeneratorExp elt [⟨tg, iter, ifs, 0⟩] scope pos) 0 (.ref it) .none ge).onRaise (leaving ge)) [] s
    rw [compTurn_gen, Sem.onRaise_eq_wrap]
    refine seg_bind_wrap (wpAny_standAt ?_)
    refine seg_bind_wrap ?_
    rw [ov]
    rcases turn i m H w with ⟨stop, qq⟩ | ⟨go', Nx, hNx, step⟩
    · have td := T.done (X.gblk s0 H0 ge fp) rfl rfl rfl hc i [(a, go)] s _ H (fun _ _ => False) I (stat I nf) st stop
      refine thnF td fun r s6 ⟨hr, I6⟩ => ?_
      subst hr
      exact seg_end (.ok .next) ⟨rfl, _, H, I6, qq⟩
    · have ti := T.item (X.gblk s0 H0 ge fp) rfl rfl rfl hc i [(a, go)] s _ H (fun _ _ => False) I (stat I nf) st go'
      refine wpAny_gens (Nat.le_refl _) (thnF ti fun r s6 ⟨u, hr, h6⟩ n6 => ?_)
      subst hr
      refine seg_bind_wrap ?_
      rw [ov]
      refine wpAny_gens (Nat.le_refl _) (thnF h6 fun _ s7 ⟨x, H7, I7, r7, y7, st7, n7⟩ g7 => ?_)
      have I7' := I7.pinned (stat I7 n7) (T.obj _ _ st7)
      refine seg_bind_wrap ?_
      rw [ov]
      refine wpAny_gens (Nat.le_refl _) (thnF (pg _ s7 _ H7 x u _ I7' r7 (step x H7 y7)) fun _ s8 ⟨σ8, H8, I8, hw8, q8⟩ g8 => ?_)
      refine seg_bind_wrap ?_
      rw [ov]
      refine wpAny_gens (Nat.le_refl _) (thnF (pt _ s8 σ8 H8 _ I8 q8) fun okb s8' ⟨H8', I8', q8'⟩ g8' => ?_)
      cases okb with
      | false =>
        have q8' : Nx H8' := by simpa using q8'
        have I10 : Inv (X.gblk s0 H0 ge fp) [(a, go)] (wipe σ vs) H8' s8' := (I8'.unpinned (pins := [(a, go)])).weak (by rw [← hw8, wipe_length]) fun j v e => by
          rw [← hw8] at e
          exact (wipe_some e).1
        obtain ⟨m', hm', w'⟩ := hNx H8' q8'
        have pin' : ∀ b ∈ fp, ∀ o, s7.heap.get? b = some o → s8'.heap.get? b = some o ∧ H8' b = none := fun b hb o e =>
          let z := I8'.pin (b, o) (List.mem_append_right _ (List.mem_append_right _ (mem_pinsAt hb e)))
          ⟨z.1, z.2.1⟩
        simp only [Bool.false_eq_true, if_false]
        refine seg_again rfl (ih m' hm' k (i + 1) s₀ s8' H8' (by omega) I10 ?_ (fun b hb => ?_) w' (by omega))
        · exact T.keep _ _ _ st7 fun b hb o e => (pin' b hb o e).1
        · obtain ⟨o, e, _⟩ := T.obj _ _ st7 b hb
          exact (pin' b hb o e).2
      | true =>
      simp only [if_true] at q8' ⊢
      have hy : ∀ v, yieldOut ge v = yieldValue v := fun v => by simp only [yieldOut, hco, Bool.false_eq_true, if_false]
      simp only [hy]
      rw [Sem.bind_eq_wrap', Sem.bind_eq_wrap', Sem.wrap_wrap, Sem.wrap_wrap]
      refine seg_wrap ?_
      rw [ov]
      refine wpAny_gens (Nat.le_refl _) (thnF (pe _ s8' σ8 H8' _ I8' q8') fun z s9 ⟨yv, H9, I9, r9, b, hb, q9⟩ g9 => ?_)
      subst hb
      have ez : z = .bool b := r9
      subst ez
      have I10 : Inv (X.gblk s0 H0 ge fp) [(a, go)] (wipe σ vs) H9 s9 := (I9.unpinned (pins := [(a, go)])).weak (by rw [← hw8, wipe_length]) fun j v e => by
        rw [← hw8] at e
        exact (wipe_some e).1
      refine seg_at (seg_yield rfl rfl rfl ⟨b, rfl, ⟨_, H9, I10, fun e => by subst e; simpa using q9⟩, by omega, fun e s'' sm => ?_⟩)
      subst e
      obtain ⟨m', hm', w'⟩ := hNx H9 (by simpa using q9)
      have pin' : ∀ b ∈ fp, ∀ o, s7.heap.get? b = some o → s9.heap.get? b = some o ∧ H9 b = none := fun b hb o e =>
        let z := I9.pin (b, o) (List.mem_append_right _ (List.mem_append_right _ (mem_pinsAt hb e)))
        ⟨z.1, z.2.1⟩
      obtain ⟨k', hk⟩ : ∃ k', k = k' + 1 := ⟨k - 1, by omega⟩
      subst hk
      refine seg_again rfl (ih m' hm' k' (i + 1) s'' s'' H9 (by omega) (I10.of_same sm.h sm.o sm.b) ?_ (fun b hb => ?_) w' sm.n)
      · rw [sm.h]
        exact T.keep _ _ _ st7 fun b hb o e => (pin' b hb o e).1
      · obtain ⟨o, e, _⟩ := T.obj _ _ st7 b hb
        exact (pin' b hb o e).2
end
end L2
end
section
set_option Elab.async false
set_option linter.all false
set_option maxRecDepth 100000
set_option autoImplicit false
namespace L2
open PySem PySem.Spec PyProof.Rows
theorem seg_startT {ifs : List Expr} {X : Cx} {A : Around} {R : GenEnd} {Yp : Protocol} {n : Nat} {s₀ s : Shared} {ge : Env} {fp : List Addr} {it : Addr} {tn : Nat → Heap → Prop} {J : It} {elt tg iter : Expr} {scope : Scope} {pos : Pos} (T : Turn X.prog X.w X.K tg J fp it tn) (st : tn 0 s.heap)
    (loop : Seg (model X.prog X.w) A R Yp n s₀ (.compLoop (.GeneratorExp elt [⟨tg, iter, ifs, 0⟩] scope pos) 0 (.ref it) .none ge) ((model X.prog X.w).den (.compLoop (.GeneratorExp elt [⟨tg, iter, ifs, 0⟩] scope pos) 0 (.ref it) .none ge)) [] s) :
    Seg (model X.prog X.w) A R Yp n s₀ (.compStart (.GeneratorExp elt [⟨tg, iter, ifs, 0⟩] scope pos) 0 (.ref it) .none ge) ((model X.prog X.w).den (.compStart (.GeneratorExp elt [⟨tg, iter, ifs, 0⟩] scope pos) 0 (.ref it) .none ge)) [] s := by
  show Seg _ A _ _ _ s₀ _ ((compStart (.GeneratorExp elt [⟨tg, iter, ifs, 0⟩] scope pos) 0 (.ref it) .none ge).onRaise (leaving ge)) [] s
  unfold compStart
  rw [Sem.onRaise_eq_wrap]
  show Seg _ A _ _ _ s₀ _ ((ask >>= _).wrap _ _ _ _) [] s
  refine seg_bind_wrap (wpAny_askSetting ?_)
  split
  · exact seg_again rfl loop
  · refine seg_bind_wrap (wpAny_rule ?_)
    show Seg _ A _ _ _ s₀ _ ((standAt iter.pos >>= _).wrap _ _ _ _) [] s
    exact seg_bind_wrap (wpAny_standAt (seg_bind_wrap (T.self _ 0 s _ _ st (seg_again rfl loop))))
section
variable {X : Cx} {P c : Addr}
theorem pe_allT {ifs : List Expr} {tt : TT} {x : Str} {p pos gpos : Pos} {elt tg iter : Expr} {scope : Scope} {own : List (Str × Nat)} {wi : TI} {g : TG} {te : TE} (hc : X.calm = true) (hN : X.N.Nodup) (hcode : X.env.code = .ref c) (hcd : PySem.W.CodeHd X.base c P) (hbm : BMain X.base X.mg)
    (hroom : X.A.depth < recursionLimit) (hgl : Gl X x) (hm : X.mg x = none) (hv : bootBuiltins x = some (.builtin "all")) (hn : x ≠ "__name__") (hdb : (x == ("__debug__" : Str)) = false) (hi : PI X tg iter wi) (ok : BlkOk X.N X.env.scope scope own) (hcell : ∀ y ∈ scope.names, y.2 ≠ .cell)
    (h0 : scope.names.lookup (".0" : Str) = some NameKind.local) (hco : scope.isCoroutine = false)
    (hg : ∀ (s : Shared) (H : Hp) (C : Addr) (code : Value) (fp : List Addr), PG (X.gblk s H (genE X scope C code) fp) tg g) (ht : ∀ (s : Shared) (H : Hp) (C : Addr) (code : Value) (fp : List Addr), PTs (X.gblk s H (genE X scope C code) fp) ifs tt) (he : ∀ (s : Shared) (H : Hp) (C : Addr) (code : Value) (fp : List Addr), PE (X.gblk s H (genE X scope C code) fp) elt te)
    (hs : ∀ x, genFold iter X.env x = pure x)
    (hst : starEach [.GeneratorExp elt [⟨tg, iter, ifs, 0⟩] scope gpos] X.env = [(false, eval (.GeneratorExp elt [⟨tg, iter, ifs, 0⟩] scope gpos) X.env)] := by rfl) :
    PE X (.Call (.Name x p) [.GeneratorExp elt [⟨tg, iter, ifs, 0⟩] scope gpos] [] pos) (tQuG true wi g tt te (own.map (·.2)) P) := by
  intro pins s σ H Q I h
  have hfree : ∀ y ∈ scope.names, y.2 = .free → ∃ c, X.env.cells.lookup y.1 = some c := fun y hy e => by
    rcases ok.free y hy e with k | k
    · exact I.ok.has _ (.inl k)
    · exact I.ok.has _ (.inr k)
  refine wpAny_Call_Name_kw (ld_blt I hgl hm hv ?_ hn hdb)
  refine PyProof.Rows.callWith_builtin1 ?_ hst rfl
  rw [hst]
  show wpAny _ _ (spliced ((false, eval _ X.env) :: backTo pos (starEach [] X.env))) _ _ s
  refine Calls.spliced_cons (thn (Q := fun u s1 => wpAny (model X.prog X.w) X.A (call (.builtin "all") [u]) (EP X pins σ Q) X.xe s1) ?_ fun u s1 hu => Calls.spliced_nil hu)
  refine wpAny_GeneratorExp_make hco (closure_ok hfree) hcell h0 ok.kind hroom (thn (hi pins s σ H _ I h) fun xv s1 hx => thn hx fun itv s2 h2 => ?_) hs
  obtain ⟨it, fp, tn, J, H2, e, I2, T, st2, f2, ps, hP, htr, q⟩ := h2
  subst e
  refine ⟨I2.nolimit, ?_⟩
  refine genCode_by hcode (hcd.keeps I2.bk) (I2.hok P _ hP) htr fun code more h3 tk hx3 hP3 htr3 hsz3 => ?_
  have I3 := I2.tblMore (t' := tk) hP hx3 hP3
  obtain ⟨W, ⟨m0, w0⟩, turn⟩ := q more htr3
  have nP : ∀ b ∈ fp, b ≠ P := fun b hb z => by
    have := (f2 b hb).1
    rw [z, hP] at this; cases this
  have st3 : tn 0 h3 := T.keep _ _ _ st2 fun b hb o e => hx3 b o (nP b hb) e
  have f3 : ∀ b ∈ fp, FpOk X pins (upd H2 P (.tbl (ps ++ more))) b := fun b hb => ⟨by rw [upd_ne (nP b hb)]; exact (f2 b hb).1, (f2 b hb).2⟩
  generalize upd H2 P (.tbl (ps ++ more)) = H3 at I3 w0 f3
  obtain ⟨bm, ob, b1, b2, b3, b4, b5, b6⟩ := hbm
  have I3 : Inv X pins σ H3 { s2 with heap := h3, toks := tk } := I3
  refine wpAny_builtinsFor (m := X.mg) (by rw [I3.ok.glob]; exact I3.mod.glob.keeps I3.bk) b1 b2 (I3.bk _ _ b3) b4 b5 b6 ?_
  intro h4 hn4 hs4
  generalize hs3 : ({ s2 with heap := h3, toks := tk } : Shared) = s3 at I3 hn4 hs4 ⊢
  have st3 : tn 0 s3.heap := by rw [← hs3]; exact st3
  have f3' : ∀ b ∈ fp, FpOk X pins H3 b ∧ b < s3.heap.objs.size := fun b hb => ⟨f3 b hb, by
    obtain ⟨o, e, _⟩ := T.obj _ _ st3 b hb
    exact Heap.lt_size e⟩
  generalize hgo : ({ cls := .type "generator", data := .fields #[.int s3.gens.size 0, .str "<genexpr>" (s3.toks + 1), .str (X.env.qual ++ "<genexpr>") (s3.toks + 1 + 1)] } : Obj) = go
  generalize hgs : GenState.fresh (.compStart (.GeneratorExp elt [⟨tg, iter, ifs, 0⟩] scope gpos) 0 (.ref it) .none (genEnv scope (cloFrom X.env.cells scope.names []) s3.heap.objs.size code builtinsNs X.env)) = gs0
  have isg : ∀ h : Heap, h.get? h4.objs.size = some go → h.IsGen h4.objs.size s3.gens.size := fun h e => ⟨go, _, _, e, by rw [← hgo], by rw [← hgo], by rw [← hgo]⟩
  have hgo4 : (h4.push go).get? h4.objs.size = some go := by rw [← hgo]; exact Heap.get?_push_size _ rfl
  have sz4 : h4.objs.size = s3.heap.objs.size + 1 := by rw [hs4.1, Heap.size_push]
  have kp4 : ∀ b o, s3.heap.get? b = some o → (h4.push go).get? b = some o := fun b o e => Heap.get?_push_of_some _ (hs4.extBut b o (Nat.ne_of_lt (Heap.lt_size e)) (Heap.get?_push_of_some _ e))
  have bare0 : AllBare (s3.gens.push gs0) := I3.bare.push (by rw [← hgs]; rfl)
  have hd : X.A.handled = none := I3.ok.hd hc
  have pg := hg s3 H3 s3.heap.objs.size code fp
  have pt := ht s3 H3 s3.heap.objs.size code fp
  have pe := he s3 H3 s3.heap.objs.size code fp
  have mk := fun (g' : Array GenState) (tk : Nat) (b : AllBare g') => gen_start (g' := g') (tk := tk) (code := code) I3 ok hcell hN f3' hn4 hs4 b (go := go) (fun v z => by rw [← hgo] at z; cases z) hgo4
  have hco' : (genE X scope s3.heap.objs.size code).scope.isCoroutine = false := hco
  have eC : (genEnv scope (cloFrom X.env.cells scope.names []) s3.heap.objs.size code builtinsNs X.env) = genE X scope s3.heap.objs.size code := rfl
  rw [eC] at hgs
  generalize genE X scope s3.heap.objs.size code = ge at pg pt pe mk hco' hgs
  have na : h4.objs.size ∉ fp := fun hb => by
    have := (f3' _ hb).2
    rw [sz4] at this
    exact absurd this (Nat.not_lt.mpr (Nat.le_succ _))
  have back : ∀ {σ' : St} {H' : Hp} {s' : Shared}, Inv (X.gblk s3 H3 ge fp) [(h4.objs.size, go)] σ' H' s' → Inv X pins σ H' s' := fun {σ' H' s'} I' =>
    I3.call' (ch := fp) I'.os I'.base I'.hok I'.bare fun b hb => ⟨(f3 b hb).2.2.2.1, (f3 b hb).2.1, (f3 b hb).2.2.2.2.1, (f3 b hb).2.2.2.2.2⟩
  refine all_by (a := h4.objs.size) (fun n s => AllBare s.gens ∧ s.heap.get? h4.objs.size = some go ∧ s.heap.NoLimit ∧ ∃ gs, s.gens[s3.gens.size]? = some gs ∧
    gs.Goes (model X.prog X.w) X.A.in1.in1 (genR (X.gblk s3 H3 ge fp) [(h4.objs.size, go)] (Q (.bl true))) (genYc true (X.gblk s3 H3 ge fp) [(h4.objs.size, go)] (wipe σ (own.map (·.2))) s3.gens.size (Q (.bl false))) n (.send .none) (s.setGen s3.gens.size .running)) (m0 + 1) ?_ ?_
  · refine wpAny_pyIter_gen (isg _ hgo4) ⟨rfl, bare0, hgo4, I3.nolimit.keeps kp4, gs0, by simp, ?_⟩
    subst hgs
    refine ⟨rfl, seg_startT (X := X) T ?_ ?_⟩
    · show tn 0 (h4.push go)
      exact T.keep _ _ _ st3 fun b _ o e => kp4 b o e
    · refine seg_genT (c := true) (go := go) (g := s3.gens.size) hc T hco' na pg pt pe turn m0 0 m0 _ _ H3 (Nat.le_refl _) (mk _ _ (bare_set (s := { heap := h4.push go, gens := s3.gens.push (.fresh (.compStart (.GeneratorExp elt [⟨tg, iter, ifs, 0⟩] scope gpos) 0 (.ref it) .none ge)), drawn := s3.drawn, toks := s3.toks + 1 + 1 + 1, os := s3.os }) (g := s3.gens.size) (x := .running) bare0 rfl)) ?_ (fun b hb => (f3 b hb).1) w0 ?_
      · show tn 0 (h4.push go)
        exact T.keep _ _ _ st3 fun b _ o e => kp4 b o e
      · rw [setGen_size]
        show s3.gens.size < (s3.gens.push _).size
        rw [Array.size_push]
        exact Nat.lt_succ_self _
  · rintro n s5 ⟨bare5, go5, lim5, gs, hgs5, goes⟩
    refine wpAny_pyNext_genexpQ (P := fun _ _ s => ∃ σ' H', Inv (X.gblk s3 H3 ge fp) [(h4.objs.size, go)] σ' H' s ∧ Q (.bl true) H') hd lim5 hroom (isg _ go5) hgs5 goes (fun v s6 gs' hb hy => ?_) (fun s6 hp h7 hk7 => ?_)
    · obtain ⟨b, rfl, ⟨σ', H6, I6, hf⟩, hgl6, ht⟩ := hy
      have b6 : AllBare (s6.setGen s3.gens.size gs').gens := bare_set I6.bare hb
      refine ⟨b, rfl, fun e => ?_, fun e => ?_⟩
      · have sm : SameG s3.gens.size s6 ((s6.setGen s3.gens.size gs').setGen s3.gens.size .running) := ⟨rfl, rfl, bare_set b6 rfl, by rw [setGen_size, setGen_size]; exact hgl6⟩
        have hk := ht e _ sm
        cases n with
        | zero => exact hk.elim
        | succ m => exact ⟨m, Nat.lt_succ_self _, b6, (I6.pin (h4.objs.size, go) (by simp)).1, I6.nolimit, gs', get_set hgl6, hk⟩
      · subst e
        exact ⟨.bl false, H6, (back I6).of_same rfl rfl b6, rfl, hf rfl⟩
    · obtain ⟨σ', H6, I6, hq⟩ := hp
      have I7 : Inv X pins σ H6 (s6.setGen s3.gens.size .finished) := (back I6).of_same rfl rfl (bare_set I6.bare rfl)
      exact ⟨.bl true, H6, I7.kept (t' := s6.toks) hk7, rfl, hq⟩
end
end L2
end
section
set_option Elab.async false
set_option linter.all false
set_option maxRecDepth 100000
set_option autoImplicit false
namespace L2
open PySem PySem.Spec PyProof.Rows
namespace Z
theorem allQ {ifs : List Expr} {tt : TT} {X : Cx} {tb c : Addr} {k : Nat} {x : Str} {p pos gpos : Pos} {elt tg iter : Expr} {scope : Scope} {own : List (Str × Nat)} {wi : TI} {g : TG} {te : TE} (hcode : X.env.code = .ref c) (hcd : PySem.W.CodeHd X.base c tb) (hbm : BMain X.base X.mg) (hr : Room k X.A) (hm : X.mg x = none) (hc : X.calm = true) (hN : X.N.Nodup)
    (hi : ZI X tg iter wi) (ok : BlkOk X.N X.env.scope scope own)
    (hg : ∀ (s : Shared) (H : Hp) (C : Addr) (code : Value) (fp : List Addr), ZG (X.gblk s H (genE X scope C code) fp) tg g) (ht : ∀ (s : Shared) (H : Hp) (C : Addr) (code : Value) (fp : List Addr), ZTs (X.gblk s H (genE X scope C code) fp) ifs tt) (he : ∀ (s : Shared) (H : Hp) (C : Addr) (code : Value) (fp : List Addr), ZE (X.gblk s H (genE X scope C code) fp) elt te)
    (hv : bootBuiltins x = some (.builtin "all") := by kernel_rfl) (hgl : X.env.kindOf x = some .globalImplicit := by kernel_rfl) (hn : (x == ("__name__" : Str)) = false := by kernel_rfl) (hdb : (x == ("__debug__" : Str)) = false := by kernel_rfl)
    (hcell : (scope.names.all fun y => !(y.2 == NameKind.cell)) = true := by kernel_rfl) (h0 : scope.names.lookup (".0" : Str) = some NameKind.local := by kernel_rfl) (hco : scope.isCoroutine = false := by kernel_rfl)
    (hs : ∀ x, genFold iter X.env x = pure x := by intro _; kernel_rfl)
    (hst : starEach [.GeneratorExp elt [⟨tg, iter, ifs, 0⟩] scope gpos] X.env = [(false, eval (.GeneratorExp elt [⟨tg, iter, ifs, 0⟩] scope gpos) X.env)] := by kernel_rfl) :
    ZE X (.Call (.Name x p) [.GeneratorExp elt [⟨tg, iter, ifs, 0⟩] scope gpos] [] pos) (tQuG true wi g tt te (own.map (·.2)) tb) :=
  ⟨pe_allT hc hN hcode hcd hbm (by have := hr.dp; omega) hgl hm hv (beq_eq_false_iff_ne.mp hn) hdb hi.h ok (fun y hy e => by have := List.all_eq_true.mp hcell y hy; rw [e] at this; cases this) h0 hco (fun s H C code fp => (hg s H C code fp).h) (fun s H C code fp => (ht s H C code fp).h) (fun s H C code fp => (he s H C code fp).h) hs hst⟩
end Z
end L2
end
section
set_option Elab.async false
set_option linter.all false
set_option maxRecDepth 100000
set_option autoImplicit false
namespace L2
open PySem PySem.Spec PyProof.Rows
section
variable {K : PySem.W.Frag} {a : Addr} {xs : List V} {g : TG} {tt : TT} {te : TE} {σ : St} {vs : List Nat} {H1 : Hp} {c : Bool} {Qt Qf : Hp → Prop}
end
end L2
namespace TV
open PySem L2 KB
section
variable {σ : L2.St} {H : Hp} {N : Sets} {A : Type} {R : Rep A} {K : PySem.W.Frag} {c : Bool}
end
end TV
end
section
set_option Elab.async false
set_option linter.all false
set_option maxRecDepth 100000
set_option autoImplicit false
namespace L2
open PySem PySem.Spec PyProof.Rows
section
variable {X : Cx}
end
end L2
end
section
set_option Elab.async false
set_option linter.all false
set_option maxRecDepth 100000
set_option autoImplicit false
namespace L2
open PySem PySem.Spec PyProof.Rows
section
variable {X : Cx}
end
end L2
end
section
set_option Elab.async false
set_option linter.all false
set_option maxRecDepth 100000
set_option autoImplicit false
namespace L2
open PySem PySem.Spec PyProof.Rows
section
variable {X : Cx}
end
end L2
end
section
set_option Elab.async false
set_option linter.all false
set_option maxRecDepth 100000
set_option autoImplicit false
namespace L2
open PySem PySem.Spec PyProof.Rows
section
variable {prog : Program} {w : World} {A : Around}
end
end L2
end
section
set_option Elab.async false
set_option linter.all false
set_option maxRecDepth 100000
set_option autoImplicit false
namespace L2
open PySem PySem.Spec PyProof.Rows
section
variable {X : Cx} {P c : Addr}
end
end L2
end
section
set_option Elab.async false
set_option linter.all false
set_option maxRecDepth 100000
set_option autoImplicit false
namespace L2
open PySem PySem.Spec PyProof.Rows
namespace Z
end Z
end L2
end
section
set_option Elab.async false
set_option linter.all false
set_option maxRecDepth 100000
set_option autoImplicit false
namespace TV
open PySem L2 KB
section
variable {σ : L2.St} {H : Hp} {N : Sets} {A B : Type} {R : Rep A} {S : Rep B} {K : PySem.W.Frag} {c : Bool}
end
end TV
end
section
set_option Elab.async false
set_option linter.all false
set_option maxRecDepth 100000
set_option autoImplicit false
namespace HT
open PySem PySem.Spec PyProof.Rows
section
variable {prog : Program} {w : World} {A : Around} {E : Value → Shared → Prop} {s : Shared}
theorem getItem_tuple_whole {t sl : Addr} {items : Array Value} {vl vu : Value} {lo hi : Option Int} {Q : Value → Shared → Prop} (ht : IsTup s.heap t items) (hs : s.heap.IsSliceOf sl vl vu .none) (pl : IsPart vl lo) (pu : IsPart vu hi)
    (hw : sIx items.size 0 lo = 0 ∧ sIx items.size items.size hi = items.size)
    (h : Q (.ref t) s) : wpAny (model prog w) A (getItem (.ref t) (.ref sl)) Q E s := by
  obtain ⟨os, hos, hcs, hds⟩ := id hs
  have hTs : s.TypeIs (.ref sl) "slice" := ⟨os, hos, hcs⟩
  unfold getItem
  try with_reducible refine wpAny_holding ?_
  first | refine wpAny_bind (wpAny_pure ?_) | skip
  refine wpAny_bind (wpAny_sequenceKey ht.typeIs (by decide) ?_)
  refine wpAny_bind (wpAny_callSpecial?_slot (name := Str.ofString "__getitem__") ht.typeIs PyProof.Rows.slot_tuple_getitem
    (wpAny_call_entry PyProof.Rows.slot_tuple_getitem ht.typeIs entry_tuple_getitem ?_ (args_tuple_getitem _ _)))
  show wpAny _ _ (Builtin.Tuple.tupleItemsOf (.ref t) >>= _) _ _ s
  refine wpAny_bind (tupleItemsOf_ ht ?_)
  refine wpAny_bind (wpAny_typeOf hTs ?_)
  rw [if_pos (by decide)]
  refine wpAny_bind (sliceApplied_gen hs pl pu ?_)
  have hyes : (((sIx items.size 0 lo : Nat) : Int) == 0 && (1 : Int) == 1 && (sIx items.size items.size hi - sIx items.size 0 lo) == items.size) = true := by
    rw [hw.1, hw.2]
    simp
  show wpAny _ _ (if (((sIx items.size 0 lo : Nat) : Int) == 0 && (1 : Int) == 1 && (sIx items.size items.size hi - sIx items.size 0 lo) == items.size) = true then _ else _) _ _ s
  rw [if_pos hyes]
  refine wpAny_bind (wpAny_bind (m := typeOf _) (wpAny_typeOf ht.typeIs (wpAny_pure ?_)))
  rw [if_pos (by decide)]
  exact wpAny_bind (wpAny_rule (wpAny_pure ⟨_, rfl, wpAny_pure h⟩))
end
end HT
namespace L2
open PySem PySem.Spec PyProof.Rows
section
variable {X : Cx}
def rSlTA (K : PySem.W.Frag) : V → Option Int → Option Int → Hp → VK → Prop := fun x lo hi H Q => ∃ a xs, x = .ref a ∧ SqT K H a xs ∧
  ((HT.sIx xs.length 0 lo = 0 ∧ HT.sIx xs.length xs.length hi = xs.length) → Q (.ref a) H) ∧ ∀ p, H p = none → Q (.ref p) (upd H p (.tup (cutV xs lo hi)))
theorem sl_tupA : SlR X (rSlTA X.K) := by
  intro pins s σ H x v vl vu lo hi sl Q I rx hs pl pu h
  obtain ⟨a, xs, rfl, hx, q1, q2⟩ := h
  by_cases hw : HT.sIx xs.length 0 lo = 0 ∧ HT.sIx xs.length xs.length hi = xs.length
  · cases rx
    obtain ⟨its, r, ht, hz⟩ := I.tuple hx
    have hlen : its.toArray.size = xs.length := by rw [List.size_toArray]; exact r.length.symm
    refine ⟨"tuple", _, PyProof.Rows.slot_tuple_getitem.lookup, ht.typeIs, ?_⟩
    exact HT.getItem_tuple_whole ht hs pl pu (by rw [hlen]; exact hw) ⟨.ref a, H, I, rfl, q1 hw⟩
  · exact sl_tup pins s σ H _ v vl vu lo hi sl Q I rx hs pl pu ⟨a, xs, rfl, hx, hw, q2⟩
def rCatTA (K : PySem.W.Frag) : R2 := fun x y H Q => ∃ a b xs ys, x = .ref a ∧ y = .ref b ∧ SqT K H a xs ∧ SqT K H b ys ∧ xs.length + ys.length ≤ sizeLine ∧
  (ys = [] → Q (.ref a) H) ∧ (xs = [] → Q (.ref b) H) ∧ ∀ p, H p = none → Q (.ref p) (upd H p (.tup (xs ++ ys)))
namespace Z
theorem slTA : ZSl X (rSlTA X.K) := ⟨sl_tupA⟩
theorem ltT {k : Nat} (hr : Room k X.A) : ZOp X (compareOp .Lt) (rLtT X.K) := ⟨op_ltT (by have := hr.un; omega)⟩
variable {K : PySem.W.Frag}
theorem ltTK (h : X.K = K) {k : Nat} (hr : Room k X.A) : ZOp X (compareOp .Lt) (rLtT K) := h ▸ ltT hr
end Z
end
end L2
namespace TV
open PySem L2 KB
section
variable {te ta tb : TE} {σ : L2.St} {H : Hp} {N : Sets} {K : PySem.W.Frag} {A : Type} {R : Rep A}
def slC {A : Type} (xs : List A) (lo hi : Option Int) : List A := (xs.drop (HT.sIx xs.length 0 lo)).take (HT.sIx xs.length xs.length hi - HT.sIx xs.length 0 lo)
theorem slC_to {A : Type} (xs : List A) (i : Nat) : slC xs none (some (i : Int)) = xs.take i := by
  unfold slC
  rw [HT.sIx_none, HT.sIx_nat, Nat.sub_zero, List.drop_zero]
  by_cases h : i ≤ xs.length
  · rw [Nat.min_eq_left h]
  · rw [Nat.min_eq_right (by omega), List.take_of_length_le (Nat.le_refl _), List.take_of_length_le (by omega)]
theorem slC_from {A : Type} (xs : List A) (i : Nat) : slC xs (some (i : Int)) none = xs.drop i := by
  unfold slC
  rw [HT.sIx_none, HT.sIx_nat]
  by_cases h : i ≤ xs.length
  · rw [Nat.min_eq_left h, List.take_of_length_le (by rw [List.length_drop]; exact Nat.le_refl _)]
  · rw [Nat.min_eq_right (by omega), List.drop_eq_nil_of_le (Nat.le_refl _), List.drop_eq_nil_of_le (by omega), List.take_nil]
theorem cut_all {xs : List A} {us : List V} {p : A → V → Prop} (h : All2 p xs us) (lo hi : Option Int) : All2 p (slC xs lo hi) (cutV us lo hi) := by
  unfold slC cutV
  rw [h.length]
  exact (h.drop _).take _
theorem cut_whole {xs : List A} {lo hi : Option Int} (h : HT.sIx xs.length 0 lo = 0 ∧ HT.sIx xs.length xs.length hi = xs.length) : slC xs lo hi = xs := by
  unfold slC
  rw [h.1, h.2, List.drop_zero, Nat.sub_zero, List.take_of_length_le (Nat.le_refl _)]
theorem ev.slTo {xs : List A} {i : Int} (tk : Trk N H) (ha : Ev te σ H ((aV R).r N xs)) (hi : Ev tb σ H (aI.r N i)) : Ev (tSl (rSlTA K) te tNoPart (tPart tb)) σ H ((aV R).r N (slC xs none (some i))) := fun H1 s Q k => ha H1 s _ fun v H2 s2 p => hi H2 (s.trans s2) _ fun v2 H3 s3 e => by
  obtain ⟨a, us, rfl, na, h, al⟩ := (aV R).sm s3 p
  refine ⟨i, e, a, us, rfl, SqT.of h, fun w => ?_, fun q hq => ?_⟩
  · rw [← al.length] at w
    exact k _ _ (s2.trans s3) ⟨a, us, rfl, na, h, by rw [cut_whole w]; exact al⟩
  · have sn := Sm.new (o := .tup (cutV us none (some i))) hq
    exact k _ _ ((s2.trans s3).trans sn) ⟨q, _, rfl, ((tk.sm s).sm (s2.trans s3)).no hq, upd_same, (cut_all al _ _).imp fun _ _ z => R.sm sn z⟩
theorem ev.slFrom {xs : List A} {i : Int} (tk : Trk N H) (ha : Ev te σ H ((aV R).r N xs)) (hi : Ev tb σ H (aI.r N i)) : Ev (tSl (rSlTA K) te (tPart tb) tNoPart) σ H ((aV R).r N (slC xs (some i) none)) := fun H1 s Q k => ha H1 s _ fun v H2 s2 p => hi H2 (s.trans s2) _ fun v2 H3 s3 e => by
  obtain ⟨a, us, rfl, na, h, al⟩ := (aV R).sm s3 p
  refine ⟨i, e, a, us, rfl, SqT.of h, fun w => ?_, fun q hq => ?_⟩
  · rw [← al.length] at w
    exact k _ _ (s2.trans s3) ⟨a, us, rfl, na, h, by rw [cut_whole w]; exact al⟩
  · have sn := Sm.new (o := .tup (cutV us (some i) none)) hq
    exact k _ _ ((s2.trans s3).trans sn) ⟨q, _, rfl, ((tk.sm s).sm (s2.trans s3)).no hq, upd_same, (cut_all al _ _).imp fun _ _ z => R.sm sn z⟩
theorem ev.catT {xs ys : List A} (ha : Ev ta σ H ((aV R).r N xs)) (hb : Ev tb σ H ((aV R).r N ys)) (tk : Trk N H) (hl : xs.length + ys.length ≤ 100000) : Ev (tOp (rCatTA K) ta tb) σ H ((aV R).r N (xs ++ ys)) :=
  ev.two ha hb (fun _ _ _ s p => (aV R).sm s p) fun v w H1 s p q Q k => by
    obtain ⟨l, us, rfl, nl, hl1, al⟩ := p
    obtain ⟨b, zs, rfl, nb, hb1, bl⟩ := q
    refine ⟨l, b, us, zs, rfl, rfl, SqT.of hl1, SqT.of hb1, by rw [← al.length, ← bl.length]; exact Nat.le_trans (m := 100000) hl (by decide), fun e => ?_, fun e => ?_, fun p hp => ?_⟩
    · exact k _ _ (.refl _) ⟨l, us, rfl, nl, hl1, by rw [bl.nil_iff.mp e, List.append_nil]; exact al⟩
    · exact k _ _ (.refl _) ⟨b, zs, rfl, nb, hb1, by rw [al.nil_iff.mp e, List.nil_append]; exact bl⟩
    · exact k _ _ (.new hp) ⟨p, _, rfl, (tk.sm s).no hp, upd_same, (al.imp fun _ _ z => R.sm (.new hp) z).append (bl.imp fun _ _ z => R.sm (.new hp) z)⟩
def nmLt (p q : Nm) : Bool := HT.lexLt [p.1, p.2] [q.1, q.2]
theorem ev.ltN {p q : Nm} (ha : Ev ta σ H (aN.r N p)) (hb : Ev tb σ H (aN.r N q)) : Ev (tOp (rLtT K) ta tb) σ H (aB.r N (nmLt p q)) :=
  ev.two ha hb (fun _ _ _ s p => aN.sm s p) fun v w H1 s e f Q k => by
    obtain ⟨a, rfl, _, ha⟩ := aN_out e
    obtain ⟨b, rfl, _, hb⟩ := aN_out f
    exact ⟨a, b, [p.1, p.2], [q.1, q.2], rfl, rfl, SqT.of ha, SqT.of hb, k _ _ (.refl _) rfl⟩
end
end TV
end
section
set_option Elab.async false
set_option linter.all false
set_option maxRecDepth 100000
set_option autoImplicit false
namespace TV
open PySem L2 KB
structure Walk (P : Addr) {A : Type} (R : Rep A) (N : Sets) (J : It) (xs : List A) (H1 : Hp) : Prop where
  go : ∀ i H', Go (fun b => b = P) H1 H' → i < xs.length → J.go i H' ∧ ∀ x H2, J.yld i H' x H2 → Sm H' H2 ∧ ∃ w, xs[i]? = some w ∧ R.r N w x H2
  stop : ∀ H', Go (fun b => b = P) H1 H' → J.stop xs.length H'
def EvI (P : Addr) {A : Type} (R : Rep A) (N : Sets) (wi : TI) (σ : L2.St) (H : Hp) (xs : List A) : Prop := ∀ H1, Sm H H1 → ∀ Q : It → Hp → Prop, (∀ J H2, Sm H1 H2 → Walk P R N J xs H2 → Q J H2) → wi σ H1 Q
section
variable {σ : L2.St} {H : Hp} {N : Sets} {A B : Type} {R : Rep A} {S : Rep B} {K : PySem.W.Frag} {c : Bool} {P : Addr}
theorem evI.tup {tl : TE} {xs : List A} (e : Ev tl σ H ((aV R).r N xs)) (tb : TbAt H P) : EvI P R N (iTup K tl) σ H xs := fun H1 s Q k => e H1 s _ fun v H2 s2 p => by
  obtain ⟨a, us, rfl, na, ha, al⟩ := p
  obtain ⟨ps, h1, ok1⟩ := (tb.sm s).sm s2
  have hap : a ≠ P := fun z => by rw [z, h1] at ha; cases ha
  have st : ∀ {H'}, Go (fun b => b = P) H2 H' → SqT K H' a us := fun g => SqT.of (g.get (fun y => hap y) noTb_tup ha)
  refine ⟨a, rfl, ⟨us, SqT.of ha⟩, k _ H2 s2 ⟨fun i H' g hi => ?_, fun H' g => ⟨us, st g, by rw [al.length]; exact Nat.le_refl _⟩⟩⟩
  have hi2 : i < us.length := by rw [← al.length]; exact hi
  refine ⟨⟨us, us[i], st g, by simp [hi2]⟩, fun x H3 y => ?_⟩
  obtain ⟨rfl, y⟩ := y
  obtain ⟨w, hw, r⟩ := al.got (y us (st g))
  exact ⟨.refl _, w, hw, R.kp (g.kpT ⟨_, h1⟩) r⟩
theorem evI.lst {tl : TE} {xs : List A} (e : Ev tl σ H ((aL R).r N xs)) (tb : TbAt H P) : EvI P R N (iList K tl) σ H xs := fun H1 s Q k => e H1 s _ fun v H2 s2 p => by
  obtain ⟨a, us, rfl, na, ha, al⟩ := p
  obtain ⟨ps, h1, ok1⟩ := (tb.sm s).sm s2
  have hap : a ≠ P := fun z => by rw [z, h1] at ha; cases ha
  have st : ∀ {H'}, Go (fun b => b = P) H2 H' → SqL K H' a us := fun g => SqL.of (g.get (fun y => hap y) noTb_lst ha)
  refine ⟨a, rfl, ⟨us, SqL.of ha⟩, k _ H2 s2 ⟨fun i H' g hi => ?_, fun H' g => ⟨us, st g, by rw [al.length]; exact Nat.le_refl _⟩⟩⟩
  have hi2 : i < us.length := by rw [← al.length]; exact hi
  refine ⟨⟨us, us[i], st g, by simp [hi2]⟩, fun x H3 y => ?_⟩
  obtain ⟨rfl, y⟩ := y
  obtain ⟨w, hw, r⟩ := al.got (y us (st g))
  exact ⟨.refl _, w, hw, R.kp (g.kpT ⟨_, h1⟩) r⟩
theorem evI.keys {L : Type} {k : Ke L} {td : TE} {m : List (L × A)} {d : Addr} {od : Obj} {kvs : List (List Key × V)} (hd0 : H d = some (.frz od (.dT kvs))) (rws : RowsT k R N H m kvs) (tk : Trk N H) (tb : TbAt H P) (hv : ∀ H1, Sm H H1 → ∀ Q : VK, Q (.ref d) H1 → td σ H1 Q) : EvI P k.R N (iKeys td) σ H (m.map (·.1)) := fun H1 s Q kk => hv H1 s _ (by
  obtain ⟨ps, h1, ok1⟩ := tb.sm s
  have hd1 := s.get noTb_frz hd0
  have hdp : d ≠ P := fun z => by rw [z, h1] at hd1; cases hd1
  have st : ∀ {H'}, Go (fun b => b = P) H1 H' → H' d = some (.frz od (.dT kvs)) := fun g => g.get (fun y => hdp y) noTb_frz hd1
  refine ⟨d, od, rfl, .inr ⟨kvs, hd1, kk _ H1 (.refl _) ⟨fun i H' g hi => ?_, fun H' g => ⟨st g, by rw [List.length_map, rws.length]; exact Nat.le_refl _⟩⟩⟩⟩
  rw [List.length_map, rws.length] at hi
  refine ⟨⟨st g, hi⟩, fun x H3 y => ?_⟩
  obtain ⟨rfl, k1, v1, q, hk, rfl, hq⟩ := y
  obtain ⟨w, hw, r⟩ := rws.got hk
  refine ⟨.refl _, w.1, by rw [List.getElem?_map, hw]; rfl, ?_⟩
  rw [show k1 = k.e w.1 from r.1] at hq
  exact k.back (((tk.sm s).go g).tup hq) hq)
theorem evI.zip {te te2 : TE} {xs : List A} {ys : List B} (e : Ev te σ H ((aV R).r N xs)) (f : Ev te2 σ H ((aV S).r N ys)) (tk : Trk N H) (tb : TbAt H P) : EvI P (aP R S) N (iZipT K (tCons te (tCons te2 tNil))) σ H (xs.zip ys) := fun H1 s Q k => by
  refine (ev.arg2 (P1 := (aV R).r N xs) (P2 := (aV S).r N ys) e f fun _ _ _ s z => (aV R).sm s z) H1 s _ fun vs H2 s2 ⟨v, w, e0, p, q⟩ => ?_
  obtain ⟨a, us, rfl, na, ha, al⟩ := p
  obtain ⟨b, zs, rfl, nb, hb, bl⟩ := q
  obtain ⟨ps, h1, ok1⟩ := (tb.sm s).sm s2
  have hap : a ≠ P := fun z => by rw [z, h1] at ha; cases ha
  have hbp : b ≠ P := fun z => by rw [z, h1] at hb; cases hb
  have st : ∀ {H'}, Go (fun b => b = P) H2 H' → SqT K H' a us := fun g => SqT.of (g.get (fun y => hap y) noTb_tup ha)
  have st2 : ∀ {H'}, Go (fun b => b = P) H2 H' → SqT K H' b zs := fun g => SqT.of (g.get (fun y => hbp y) noTb_tup hb)
  refine ⟨a, b, us, zs, e0, SqT.of ha, SqT.of hb, k _ H2 s2 ⟨fun i H' g hi => ?_, fun H' g => ⟨us, zs, st g, st2 g, ?_⟩⟩⟩
  · rw [List.length_zip] at hi
    have hi1 : i < us.length := by rw [← al.length]; omega
    have hi2 : i < zs.length := by rw [← bl.length]; omega
    refine ⟨⟨us, zs, us[i], zs[i], st g, st2 g, by simp [hi1], by simp [hi2]⟩, fun x H3 y => ?_⟩
    obtain ⟨T, x1, y1, rfl, hT, rfl, f1, f2⟩ := y
    obtain ⟨w1, hw1, r1⟩ := al.got (f1 us (st g))
    obtain ⟨w2, hw2, r2⟩ := bl.got (f2 zs (st2 g))
    have sn := Sm.new (o := .tup [x1, y1]) hT
    refine ⟨sn, (w1, w2), ?_, T, _, rfl, (((tk.sm s).sm s2).go g).no hT, upd_same, x1, _, rfl, R.sm sn (R.kp (g.kpT ⟨_, h1⟩) r1), y1, rfl, S.sm sn (S.kp (g.kpT ⟨_, h1⟩) r2)⟩
    rw [List.getElem?_zip_eq_some]
    exact ⟨hw1, hw2⟩
  · rw [List.length_zip, al.length, bl.length]
    omega
end
end TV
end
section
set_option Elab.async false
set_option linter.all false
set_option maxRecDepth 100000
set_option autoImplicit false
namespace TV
open PySem L2 KB
def Tbs (TS : Sets) (H : Hp) : Prop := ∀ b, TS b → TbAt H b
def Tbl (TS : Sets) (H : Hp) : Prop := ∀ b, TS b → ∃ ps, H b = some (.tbl ps)
section
variable {TS TU N C : Sets} {H H' H1 : Hp} {P : Addr}
theorem Tbs.sm (h : Tbs TS H) (s : Sm H H') : Tbs TS H' := fun b z => (h b z).sm s
theorem Tbs.tbl (h : Tbs TS H) : Tbl TS H := fun b z => (h b z).tbl
theorem tb_stay (h : TbAt H P) (g : Go C H H') (n : ¬ C P) : TbAt H' P := let ⟨ps, e, t⟩ := h; ⟨ps, g.get n noTb e, t⟩
theorem Tbs.one (h : Tbs TS H) (g : Go (fun b => b = P) H H') (t : TbAt H' P) : Tbs TS H' := fun b z => by
  by_cases e : b = P
  · rw [e]; exact t
  · exact tb_stay (h b z) g e
theorem Tbs.go (h : Tbs TS H) (g : Go C H H') (t : ∀ b, TS b → C b → TbAt H' b) : Tbs TS H' := fun b z => by
  by_cases e : C b
  · exact t b z e
  · exact tb_stay (h b z) g e
theorem Go.kpS (g : Go C H H') (hP : Tbl C H) : Kp N H H' := by
  have ne : ∀ {b : Addr} {o : HO}, (∀ qs, o ≠ .tbl qs) → H b = some o → ¬ C b := fun {b o} n e z => by obtain ⟨ps, hP⟩ := hP b z; rw [hP] at e; exact n _ (Option.some.inj e).symm
  exact ⟨fun c us _ e => g.get (ne (o := .tup us) (fun _ z => nomatch z) e) noTb e, fun c u _ pl e => e.elim (fun e => .inl (g.get (ne pl.1 e) noTb e)) fun ⟨o, e⟩ => .inr ⟨o, g.get (ne (o := .frz o u) (fun _ z => nomatch z) e) noTb e⟩, fun c us _ e => g.get (ne (o := .lst us) (fun _ z => nomatch z) e) noTb e⟩
theorem Go.getS (g : Go C H H') (hP : Tbl C H) {b : Addr} {o : HO} (n : ∀ qs, o ≠ .tbl qs) (e : H b = some o) : H' b = some o := g.get (fun z => by obtain ⟨ps, hP⟩ := hP b z; rw [hP] at e; exact n _ (Option.some.inj e).symm) noTb e
theorem Go.one (g : Go (fun b => b = P) H H') (h : C P) : Go C H H' := g.mono fun b z => by rw [z]; exact h
end
abbrev EB (C : Sets) (A : Hp → Prop) (tt : TT) (σ : L2.St) (H : Hp) (b : Bool) : Prop := EXT C A tt σ H fun c => c = b
abbrev EV (C : Sets) (A : Hp → Prop) (te : TE) (σ : L2.St) (H : Hp) (b : Bool) : Prop := EX C A te σ H fun v _ => v = .bl b
section
variable {C : Sets} {A : Hp → Prop} {te te2 : TE} {tt tu : TT} {ta : TA} {t u : TS} {σ : L2.St} {H : Hp} {b c : Bool} {sp : Sp} {E : XK} {P : List V → Hp → Prop} {P' : V → Hp → Prop} {D : Ends} {N : Sets}
theorem EX.call (ha : ∀ H1, Go C H H1 → A H1 → EvA ta σ H1 P) (hA : ∀ {H H'}, Sm H H' → A H → A H') (h : ∀ vs H1, Go C H H1 → A H1 → P vs H1 → ∀ Q : VK, (∀ v H', Go C H1 H' → A H' → P' v H' → Q v H') → sp (vs ++ []) H1 Q E) : EX C A (tCall sp [] E ta) σ H P' := fun H1 g a Q k => by
  refine (ha H1 g a).use fun vs H2 s2 p => h vs H2 (g.sm s2) (hA s2 a) p Q fun v H3 g3 a3 q => k v H3 ((Go.of s2).trans g3) a3 q
theorem EXT.use' (e : EXT C A tt σ H fun c => c = b) (a : A H) {Q : Bool → Hp → Prop} (k : ∀ H', Go C H H' → A H' → Q b H') : tt σ H Q := EXT.use e a fun c H' g a e => by rw [e]; exact k H' g a
theorem EV.val (e : EV C A te σ H b) : EB C A (tB te) σ H b := fun H1 g a Q k => e H1 g a _ fun v H2 g2 a2 e => ⟨b, e, k b H2 g2 a2 rfl⟩
theorem EV.test (e : EV C A te σ H b) : EB C A (tTest te) σ H b := fun H1 g a Q k => e H1 g a _ fun v H2 g2 a2 e => ⟨b, e, k b H2 g2 a2 rfl⟩
theorem EV.of (hA : ∀ {H H'}, Sm H H' → A H → A H') (e : ∀ H1, Go C H H1 → A H1 → Ev te σ H1 (aB.r none' b)) : EV C A te σ H b := fun H1 g a Q k => (e H1 g a).use fun v H2 s p => k v H2 (.of s) (hA s a) p
theorem EB.of (hA : ∀ {H H'}, Sm H H' → A H → A H') (e : ∀ H1, Go C H H1 → A H1 → EvT tt σ H1 b) : EB C A tt σ H b := fun H1 g a Q k => (e H1 g a).use fun H2 s => k b H2 (.of s) (hA s a) rfl
theorem EB.not (e : EB C A tt σ H b) : EB C A (tNot tt) σ H (!b) := fun H1 g a Q k => e H1 g a _ fun c H2 g2 a2 e => k _ H2 g2 a2 (by rw [e])
theorem EB.or (e : EB C A tt σ H b) (f : b = false → EB C A tu σ H c) : EB C A (tOr tt tu) σ H (b || c) := fun H1 g a Q k => e H1 g a _ fun d H2 g2 a2 e => by
  subst e
  cases d with
  | true => exact iteT (k true H2 g2 a2 rfl)
  | false => exact iteF (f rfl H2 (g.trans g2) a2 _ fun d H3 g3 a3 e => k d H3 (g2.trans g3) a3 (by rw [e]; rfl))
theorem EB.and (e : EB C A tt σ H b) (f : b = true → EB C A tu σ H c) : EB C A (tAnd tt tu) σ H (b && c) := fun H1 g a Q k => e H1 g a _ fun d H2 g2 a2 e => by
  subst e
  cases d with
  | true => exact iteT (f rfl H2 (g.trans g2) a2 _ fun d H3 g3 a3 e => k d H3 (g2.trans g3) a3 (by rw [e]; rfl))
  | false => exact iteF (k false H2 g2 a2 rfl)
theorem EV.not (e : EV C A te σ H b) : EV C A (tNotV te) σ H (!b) := fun H1 g a Q k => e H1 g a _ fun v H2 g2 a2 e => ⟨b, e, k _ H2 g2 a2 rfl⟩
theorem EV.and (e : EV C A te σ H b) (f : b = true → EV C A te2 σ H c) : EV C A (tAndV te te2) σ H (b && c) := fun H1 g a Q k => e H1 g a _ fun v H2 g2 a2 e => ⟨b, e, by
  cases b with
  | true => exact iteT (f rfl H2 (g.trans g2) a2 _ fun w H3 g3 a3 e => k w H3 (g2.trans g3) a3 (by rw [e]; rfl))
  | false => exact iteF (k _ H2 g2 a2 rfl)⟩
theorem EV.or (e : EV C A te σ H b) (f : b = false → EV C A te2 σ H c) : EV C A (tOrV te te2) σ H (b || c) := fun H1 g a Q k => e H1 g a _ fun v H2 g2 a2 e => ⟨b, e, by
  cases b with
  | true => exact iteT (k _ H2 g2 a2 rfl)
  | false => exact iteF (f rfl H2 (g.trans g2) a2 _ fun w H3 g3 a3 e => k w H3 (g2.trans g3) a3 (by rw [e]; rfl))⟩
theorem EB.eq (e : EB C A tt σ H b) (h : b = c) : EB C A tt σ H c := h ▸ e
theorem EV.eq (e : EV C A te σ H b) (h : b = c) : EV C A te σ H c := h ▸ e
theorem EV.one {P : Addr} {b : Bool} (hP : C P) (hA : ∀ {H H'}, A H → Go (fun b => b = P) H H' → TbAt H' P → A H') (e : ∀ H1, Go C H H1 → A H1 → ∀ Q : VK, (∀ H', Go (fun b => b = P) H1 H' → TbAt H' P → Q (.bl b) H') → te σ H1 Q) : EV C A te σ H b := fun H1 g a Q k => e H1 g a Q fun H' g2 t => k _ H' (g2.one hP) (hA a g2 t) rfl
theorem st.condU (e : EB C A tt σ H b) (a : A H) (k1 : b = true → ∀ H', Go C H H' → A H' → t D σ H') (k2 : b = false → ∀ H', Go C H H' → A H' → u D σ H') : tIfS tt t u D σ H := EXT.use' e a fun H' g a => by
  cases b with
  | true => exact iteT (k1 rfl H' g a)
  | false => exact iteF (k2 rfl H' g a)
theorem st.retU (e : EV C A te σ H b) (a : A H) (k : ∀ H', Go C H H' → A H' → D.rt (.bl b) H') : tRet te D σ H := EX.use e a fun v H' g a e => by rw [e]; exact k H' g a
end
end TV
end
section
set_option Elab.async false
set_option linter.all false
set_option maxRecDepth 100000
set_option autoImplicit false
namespace TV
open PySem L2 KB
structure WalkC (C : Sets) {A : Type} (R : Rep A) (N : Sets) (J : It) (xs : List A) (H1 : Hp) : Prop where
  go : ∀ i H', Go C H1 H' → i < xs.length → J.go i H' ∧ ∀ x H2, J.yld i H' x H2 → Sm H' H2 ∧ ∃ w, xs[i]? = some w ∧ R.r N w x H2
  stop : ∀ H', Go C H1 H' → J.stop xs.length H'
def EvIC (C : Sets) {A : Type} (R : Rep A) (N : Sets) (wi : TI) (σ : L2.St) (H : Hp) (xs : List A) : Prop := ∀ H1, Sm H H1 → ∀ Q : It → Hp → Prop, (∀ J H2, Sm H1 H2 → WalkC C R N J xs H2 → Q J H2) → wi σ H1 Q
section
variable {σ : L2.St} {H : Hp} {N C : Sets} {A B : Type} {R : Rep A} {S : Rep B} {K : PySem.W.Frag} {c : Bool} {P : Addr}
theorem evC.tup {tl : TE} {xs : List A} (e : Ev tl σ H ((aV R).r N xs)) (tb : Tbs C H) : EvIC C R N (iTup K tl) σ H xs := fun H1 s Q k => e H1 s _ fun v H2 s2 p => by
  obtain ⟨a, us, rfl, na, ha, al⟩ := p
  have tb2 := ((tb.sm s).sm s2).tbl
  have hap : ¬ C a := fun z => by obtain ⟨ps, h1⟩ := tb2 a z; rw [h1] at ha; cases ha
  have st : ∀ {H'}, Go C H2 H' → SqT K H' a us := fun g => SqT.of (g.get hap noTb_tup ha)
  refine ⟨a, rfl, ⟨us, SqT.of ha⟩, k _ H2 s2 ⟨fun i H' g hi => ?_, fun H' g => ⟨us, st g, by rw [al.length]; exact Nat.le_refl _⟩⟩⟩
  have hi2 : i < us.length := by rw [← al.length]; exact hi
  refine ⟨⟨us, us[i], st g, by simp [hi2]⟩, fun x H3 y => ?_⟩
  obtain ⟨rfl, y⟩ := y
  obtain ⟨w, hw, r⟩ := al.got (y us (st g))
  exact ⟨.refl _, w, hw, R.kp (g.kpS tb2) r⟩
theorem evC.zipL {te te2 : TE} {xs : List A} {ys : List B} (e : Ev te σ H ((aL R).r N xs)) (f : Ev te2 σ H ((aL S).r N ys)) (tk : Trk N H) (tb : Tbs C H) : EvIC C (aP R S) N (iZip K (tCons te (tCons te2 tNil))) σ H (xs.zip ys) := fun H1 s Q k => by
  unfold iZip
  refine (ev.arg2 (P1 := (aL R).r N xs) (P2 := (aL S).r N ys) e f fun _ _ _ s z => (aL R).sm s z) H1 s _ fun vs H2 s2 ⟨v, w, e0, p, q⟩ => ?_
  obtain ⟨a, us, rfl, na, ha, al⟩ := p
  obtain ⟨b, zs, rfl, nb, hb, bl⟩ := q
  have tb2 := ((tb.sm s).sm s2).tbl
  have hap : ¬ C a := fun z => by obtain ⟨ps, h1⟩ := tb2 a z; rw [h1] at ha; cases ha
  have hbp : ¬ C b := fun z => by obtain ⟨ps, h1⟩ := tb2 b z; rw [h1] at hb; cases hb
  have st : ∀ {H'}, Go C H2 H' → SqL K H' a us := fun g => SqL.of (g.get hap noTb_lst ha)
  have st2 : ∀ {H'}, Go C H2 H' → SqL K H' b zs := fun g => SqL.of (g.get hbp noTb_lst hb)
  refine ⟨a, b, us, zs, e0, SqL.of ha, SqL.of hb, k _ H2 s2 ⟨fun i H' g hi => ?_, fun H' g => ⟨us, zs, st g, st2 g, ?_⟩⟩⟩
  · rw [List.length_zip] at hi
    have hi1 : i < us.length := by rw [← al.length]; omega
    have hi2 : i < zs.length := by rw [← bl.length]; omega
    refine ⟨⟨us, zs, us[i], zs[i], st g, st2 g, by simp [hi1], by simp [hi2]⟩, fun x H3 y => ?_⟩
    obtain ⟨T, x1, y1, rfl, hT, rfl, f1, f2⟩ := y
    obtain ⟨w1, hw1, r1⟩ := al.got (f1 us (st g))
    obtain ⟨w2, hw2, r2⟩ := bl.got (f2 zs (st2 g))
    have sn := Sm.new (o := .tup [x1, y1]) hT
    refine ⟨sn, (w1, w2), ?_, T, _, rfl, (((tk.sm s).sm s2).go g).no hT, upd_same, x1, _, rfl, R.sm sn (R.kp (g.kpS tb2) r1), y1, rfl, S.sm sn (S.kp (g.kpS tb2) r2)⟩
    rw [List.getElem?_zip_eq_some]
    exact ⟨hw1, hw2⟩
  · rw [List.length_zip, al.length, bl.length]
    omega
theorem evC.enumT {tl : TE} {xs : List A} (e : Ev tl σ H ((aV R).r N xs)) (tk : Trk N H) (tb : Tbs C H) : EvIC C (aP aI R) N (iEnumT K (tCons tl tNil)) σ H (enumI 0 xs) := fun H1 s Q k => by
  unfold iEnumT
  refine (ev.arg1 (P := (aV R).r N xs) e) H1 s _ fun vs H2 s2 ⟨v, e0, p⟩ => ?_
  obtain ⟨a, us, rfl, na, ha, al⟩ := p
  have tb2 := ((tb.sm s).sm s2).tbl
  have hap : ¬ C a := fun z => by obtain ⟨ps, h1⟩ := tb2 a z; rw [h1] at ha; cases ha
  have st : ∀ {H'}, Go C H2 H' → SqT K H' a us := fun g => SqT.of (g.get hap noTb_tup ha)
  have hl : (enumI 0 xs).length = us.length := by rw [enumI_len, al.length]
  refine ⟨a, us, e0, SqT.of ha, k _ H2 s2 ⟨fun i H' g hi => ?_, fun H' g => ⟨us, st g, by rw [hl]; exact Nat.le_refl _⟩⟩⟩
  have hi2 : i < us.length := by rw [← hl]; exact hi
  refine ⟨⟨us, us[i], st g, by simp [hi2]⟩, fun x H3 y => ?_⟩
  obtain ⟨T, v, rfl, hT, rfl, hv⟩ := y
  obtain ⟨w, hw, r⟩ := al.got (hv us (st g))
  have sn := Sm.new (o := .tup [.int (i : Nat), v]) hT
  exact ⟨sn, ((i : Int), w), by rw [enumI_get, hw]; simp, T, _, rfl, (((tk.sm s).sm s2).go g).no hT, upd_same, _, _, rfl, rfl, _, rfl, R.sm sn (R.kp (g.kpS tb2) r)⟩
theorem EX.quX {W : Hp → Prop} {wi : TI} {te : TE} {tt : TT} {g : TG} {vs : List Nat} {xs : List A} (t b : A → Bool) (hA : ∀ {H H'}, Sm H H' → W H → W H') (hP : C P) (hPA : ∀ {H}, W H → TbAt H P) (hAP : ∀ {H H'}, W H → Go (fun b => b = P) H H' → TbAt H' P → W H')
    (e : ∀ H1, Go C H H1 → W H1 → EvIC C R N wi σ H1 xs)
    (hs : ∀ x ∈ xs, ∀ v H', Go C H H' → W H' → R.r N x v H' → ∀ kk : L2.St → Hp → Prop, (∀ σ2, wipe σ2 vs = wipe σ vs → EvT tt σ2 H' (t x) → (t x = true → EV C W te σ2 H' (b x)) → kk σ2 H') → g v (wipe σ vs) H' kk) :
    EV C W (tQuG c wi g tt te vs P) σ H (if xs.any (fun x => t x && (b x != c)) then !c else c) := fun H0 g0 w0 Q kq => by
  have k : ∀ H', Go C H0 H' → W H' → Q (.bl (if xs.any (fun x => t x && (b x != c)) then !c else c)) H' := fun H' g' w' => kq _ H' g' w' rfl
  refine e H0 g0 w0 H0 (.refl _) _ fun J H1 s Wk => ?_
  have w1 := hA s w0
  obtain ⟨ps, h1, ok1⟩ := hPA w1
  refine ⟨ps, h1, ok1, fun more ok2 => ?_⟩
  have gP : Go (fun b => b = P) H1 (upd H1 P (.tbl (ps ++ more))) := .upd rfl (fun _ z => nomatch z)
  have t2 : TbAt (upd H1 P (.tbl (ps ++ more))) P := ⟨_, upd_same, ok2⟩
  have g2 : Go C H1 (upd H1 P (.tbl (ps ++ more))) := gP.one hP
  have w2 := hAP w1 gP t2
  refine ⟨fun i m H' => m = xs.length - i ∧ i ≤ xs.length ∧ Go C H1 H' ∧ W H' ∧ (xs.take i).any (fun x => t x && (b x != c)) = false, ⟨_, rfl, Nat.zero_le _, g2, w2, rfl⟩, ?_⟩
  rintro i m H' ⟨rfl, hi, g3, w3, z⟩
  by_cases hlt : i < xs.length
  · obtain ⟨y1, y2⟩ := Wk.go i H' g3 hlt
    refine .inr ⟨y1, fun H' => Go C H1 H' ∧ W H' ∧ (xs.take (i + 1)).any (fun x => t x && (b x != c)) = false, fun H' ⟨u1, u2, u3⟩ => ⟨xs.length - (i + 1), by omega, rfl, hlt, u1, u2, u3⟩, fun x H7 yy => ?_⟩
    obtain ⟨s7, y, hy, r⟩ := y2 x H7 yy
    have tk : xs.take (i + 1) = xs.take i ++ [y] := by rw [List.take_succ, hy]; rfl
    have g7 := g3.sm s7
    have w7 := hA s7 w3
    refine hs y (List.mem_of_getElem? hy) x H7 (g0.trans ((Go.of s).trans g7)) w7 r _ fun σ2 ew et ee => ⟨ew, et.use fun H2 s2 => ?_⟩
    cases ht : t y with
    | false => exact ⟨g7.sm s2, hA s2 w7, by rw [tk, List.any_append, z]; simp [ht]⟩
    | true =>
      refine (ee ht) H2 (.of s2) (hA s2 w7) _ fun v2 H3 g4' w4 e2 => ⟨b y, e2, ?_⟩
      have g4 := (g7.sm s2).trans g4'
      by_cases hb : b y = c
      · rw [if_pos hb]; exact ⟨g4, w4, by rw [tk, List.any_append, z]; simp [hb]⟩
      · rw [if_neg hb]
        have z3 := k H3 ((Go.of s).trans g4) w4
        have z4 : xs.any (fun x => t x && (b x != c)) = true := List.any_eq_true.mpr ⟨y, List.mem_of_getElem? hy, by simp [ht, hb]⟩
        rw [z4] at z3
        exact z3
  · have e : i = xs.length := by omega
    subst e
    refine .inl ⟨Wk.stop H' g3, ?_⟩
    rw [List.take_length] at z
    have z3 := k H' ((Go.of s).trans g3) w3
    rw [z] at z3
    exact z3
end
end TV
end
section
set_option Elab.async false
set_option linter.all false
set_option maxRecDepth 100000
set_option autoImplicit false
namespace L2
open PySem PySem.Spec PyProof.Rows
theorem ext_tup (l b : Addr) (xs ys : Array Value) (n n2 : Nat) (dd : Option Addr) (sl : Array (Option Value)) (h0 : ¬(!xs.isEmpty && Builtin.List.listTooLong (xs.size + ys.size)) = true) (h1 : xs.size ≤ sizeLine) (h2 : xs.size + ys.size ≤ sizeLine + 1) :
    Meets (Builtin.«list.extend» ⟨[.ref l, .ref b], []⟩) (fun _ R s => s.heap.get? l = some { cls := .type "list", dict := none, data := .seq xs n, slots := #[] } ∧ s.heap.get? b = some { cls := .type "tuple", dict := dd, data := .seq ys n2, slots := sl } ∧ R (.ok (.ret Value.none)) { s with heap := s.heap.update l (Obj.mapSeq fun x => x ++ ys), toks := s.toks }) :=
  .of_wp fun prog w A R s h => by
    obtain ⟨hp, g, d, tk, os⟩ := s
    obtain ⟨hl, hb, h⟩ := h
    have f1 := AutoSeq1.idx_int
    have f2 := AutoSeq1.sub_tuple_tuple
    have f3 := AutoSeq1.sub_list_list
    have f4 := AutoSeq1.sub_tuple_list
    have f5 := AutoSeq1.sub_list_tuple
    have h3 : (xs ++ ys).size ≤ sizeLine + 1 := by rw [Array.size_append]; exact h2
    wp_walk using (wpAny_updateSeq hl rfl (hz := h1) (_hz' := h3)), wpAny_loadPart' hl, wpAny_loadPart' hb
    exact ⟨_, rfl, h⟩
section
variable {X : Cx}
def rExtendT (K : PySem.W.Frag) : V → List V → Hp → VK → Prop := fun x vs H Q => ∃ l b xs zs, x = .ref l ∧ vs = [.ref b] ∧ H l = some (.lst xs) ∧ SqT K H b zs ∧ xs.length + zs.length ≤ sizeLine ∧ Q .non (upd H l (.lst (xs ++ zs)))
theorem mt_extendT : MtM X "list.extend" (rExtendT X.K) := by
  intro pins s σ H x vs v us Q I rx rv h
  obtain ⟨l, b, xs, zs, rfl, rfl, hH, hB, hz, q⟩ := h
  cases rx
  obtain ⟨u, rfl, ru⟩ := rv.one
  cases ru
  obtain ⟨z, its, n, r, hl, e⟩ := I.lstM hH
  obtain ⟨its2, r2, p2, _⟩ := I.tuple hB
  obtain ⟨⟨cls2, dd2, data2, sl2⟩, e2, hc2, n2, hd2⟩ := id p2
  simp only at hc2 hd2
  subst hc2 hd2
  have hsz : its.toArray.size + its2.toArray.size ≤ sizeLine := by rw [List.size_toArray, List.size_toArray, ← r.length, ← r2.length]; exact hz
  have hlong : ¬ (!its.toArray.isEmpty && Builtin.List.listTooLong (its.toArray.size + its2.toArray.size)) = true := by
    rw [notLongL hsz, Bool.and_false]
    exact Bool.false_ne_true
  refine call_meets F.slot_list_extend ⟨_, e, rfl⟩ F.entry_list_extend (F.args_list_extend_2 _ _)
    (ext_tup l b its.toArray its2.toArray n n2 dd2 sl2 hlong (by rw [List.size_toArray]; omega) (by omega)) ⟨e, e2, ?_⟩
  refine ⟨.non, _, I.lset (its' := its ++ its2) hH e (by simp) (r.append r2) ?_, rfl, q⟩
  rw [List.length_append]
  omega
end
namespace Z
end Z
end L2
namespace TV
open PySem L2 KB
section
variable {te tl td ty : TE} {tt : TT} {σ : L2.St} {H : Hp} {N : Sets} {A : Type} {R : Rep A} {K : PySem.W.Frag} {D : Ends} {g : TG} {vs : List Nat}
theorem st.extendT {xs ys : List A} {a : Addr} {k : Nat} (c : LC R N xs a H) (na : N a) (hv : σ[k]? = some (some (.ref a))) (e : Ev te σ H ((aV R).r N ys)) (hl : xs.length + ys.length ≤ sizeLine) (h : ∀ H1 vs, Sm H H1 → LC R N (xs ++ ys) a (upd H1 a (.lst vs)) → D.nx σ (upd H1 a (.lst vs))) :
    tDrop (tBM K "list" (rExtendT K) (tVar k) (tCons te tNil)) D σ H := by
  obtain ⟨vs, e1, t⟩ := c
  refine ⟨_, hv, .inl ⟨rfl, _, SqL.of e1⟩, e.use fun v H1 s p => ?_⟩
  obtain ⟨b, us, rfl, nb, hb, al⟩ := p
  refine ⟨a, b, vs, us, rfl, rfl, s.lst e1, SqT.of hb, by rw [← t.length, ← al.length]; exact hl, h H1 _ s ⟨_, upd_same, ?_⟩⟩
  exact (t.imp fun _ _ z => R.up na (R.sm s z)).append (al.imp fun _ _ z => R.up na z)
end
end TV
namespace TV
open PySem L2 KB
namespace ev
section
variable {te ta tb tl tl1 : TE} {tt tt1 : TT} {ts : TA} {t u : TS} {σ : St} {H : Hp} {P P' : V → Hp → Prop} {Q : VK} {N C : Sets} {A B T : Type} {R : Rep A} {S : Rep B} {x : A} {y : B} {i j : Int} {b c : Bool} {K : PySem.W.Frag} {D : Ends} {n : Nat} {g g1 : TG} {vs vs1 : List Nat} {tb0 : TS}
end
end ev
end TV
end
section
set_option Elab.async false
set_option linter.all false
set_option maxRecDepth 100000
namespace K02
open PySem L2 KB TV
set_option autoImplicit false
structure BtC (mg : Str → Option Value) : Prop where
  isi : mg "isinstance" = none
  tuple : mg "tuple" = none
  all : mg "all" = none
  zip : mg "zip" = none
  len : mg "len" = none
  enumerate : mg "enumerate" = none
def qu {A : Type} (c : Bool) (t b : A → Bool) (xs : List A) : Bool := if xs.any (fun x => t x && (b x != c)) then !c else c
theorem qu_all {A : Type} {b : A → Bool} {xs : List A} (h : ∀ x ∈ xs, b x = true) : qu true (fun _ => true) b xs = true := by
  unfold qu
  rw [if_neg]
  intro hh
  obtain ⟨x, hx, h2⟩ := List.any_eq_true.mp hh
  rw [h x hx] at h2
  simp at h2
def isHs (m i : Int) : Bool := decide (0 ≤ i) && decide (i < m)
def isNm (m : Int) (q : Nm) : Bool := isHs m q.1 && (decide (0 ≤ q.2) && decide (q.2 ≤ 99))
def isO (m : Int) (o : Option Nm) : Bool := match o with
  | none => true
  | some q => isNm m q
theorem ev.chI {ta tb tc : TE} {σ : L2.St} {H : Hp} {N : Sets} {i j k : Int} {f f' : Int → Int → Bool} (ha : Ev ta σ H (aI.r N i)) (hb : Ev tb σ H (aI.r N j)) (hc : Ev tc σ H (aI.r N k)) : Ev (tChain (rI0 fun i j => .bl (f i j)) (rI0 fun i j => .bl (f' i j)) ta tb tc) σ H (aB.r N (f i j && f' j k)) := fun H1 s Q q => ha H1 s _ fun v1 H2 s2 e1 => hb H2 (s.trans s2) _ fun v2 H3 s3 e2 => by
  cases (show v1 = .int i from e1)
  cases (show v2 = .int j from e2)
  refine ⟨i, j, rfl, rfl, f i j, rfl, ?_⟩
  cases h : f i j with
  | false => exact iteF (q _ _ (s2.trans s3) (by rw [h]; rfl))
  | true => exact iteT (hc H3 ((s.trans s2).trans s3) _ fun v3 H4 s4 e3 => by
      cases (show v3 = .int k from e3)
      exact ⟨j, k, rfl, rfl, q _ _ ((s2.trans s3).trans s4) (by rw [h]; rfl)⟩)
structure LoA (K : PySem.W.Frag) (mg : Str → Option Value) (base : Heap) (TS : Sets) : Prop where
  B : Bt mg
  C : BtC mg
  last : ∃ t, mg "LAST_NUMBER" = some (.int 99 t)
  hands : ∃ t, mg "HANDS" = some (.int 4 t)
  still : ∃ t, mg "MOST_STILL" = some (.int 6 t)
  things : ∃ t, mg "MOST_THINGS" = some (.int 40 t)
  flds : ∃ t, mg "MOST_FIELDS" = some (.int 4 t)
  houses : ∃ t, mg "MOST_HOUSES" = some (.int 8 t)
  num : ∃ f fd, Dn K mg "is_number" (top 10) ["value"] f fd
  siz : ∃ f fd, Dn K mg "is_sized" (top 11) ["value", "size"] f fd
  pai : ∃ f fd, Dn K mg "is_pair" (top 12) ["value"] f fd
  hou : ∃ f fd, Dn K mg "is_house" (top 13) ["value", "many"] f fd
  nam : ∃ f fd, Dn K mg "is_name" (top 14) ["value", "many"] f fd
  nms : ∃ f fd tb, Dn K mg "are_names" (top 15) ["values", "many"] f fd ∧ GTab base mg fd tb ∧ TS tb
  fls : ∃ f fd tb, Dn K mg "are_fields" (top 16) ["values", "many"] f fd ∧ GTab base mg fd tb ∧ TS tb
  ris : ∃ f fd tb, Dn K mg "rises" (top 17) ["values"] f fd ∧ GTab base mg fd tb ∧ TS tb
  hds : ∃ f fd, Dn K mg "are_hands" (top 18) ["values", "many"] f fd
  thi : ∃ f fd, Dn K mg "is_thing" (top 19) ["value", "home", "many"] f fd
  ths : ∃ f fd tb, Dn K mg "are_things" (top 20) ["values", "home", "many"] f fd ∧ GTab base mg fd tb ∧ TS tb
  par : ∃ f fd, Dn K mg "is_part" (top 21) ["value", "home", "many"] f fd
  let_ : ∃ f fd, Dn K mg "is_letter" (top 22) ["value", "many"] f fd
  frm : ∃ f fd tb, Dn K mg "is_of_form" (top 23) ["picture"] f fd ∧ GTab base mg fd tb ∧ TS tb
  fbn : ∃ f fd, Dn K mg "fields_by_name" (top 24) ["picture"] f fd
  lnm : ∃ f fd, Dn K mg "letter_names" (top 25) ["picture"] f fd
  ptr : ∃ f fd, Dn K mg "pointers" (top 26) ["picture"] f fd
section
variable {P : Program} {w : World} {K : PySem.W.Frag} {mg : Str → Option Value} {base : Heap} {C : Addr} {TS : Sets}
def spHs : Sp := fun vs H Q _ => ∃ i m : Int, vs = [.int i, .int m] ∧ ∀ H', Sm H H' → Q (.bl (isHs m i)) H'
theorem scHs : FnScope ["value", "many"] ["value", "many"] (defScope (top 13)) := ⟨rfl, rfl, rfl, by decide +kernel, rfl, by decide +kernel, by decide +kernel⟩
theorem ok_hs {f : Addr} {fd : FuncData} (F : Fun K "is_house" "is_house" (top 13) f fd) (U : LoA K mg base TS) : FnOk P w K mg base CX0 2 f fd ["value", "many"] spHs := by
  have S := scHs
  have B := U.B
  obtain ⟨f1, fd1, Dis_number⟩ := U.num
  have Gis_number := ok_isnum (P := P) (w := w) (base := base) Dis_number.F B
  refine F.okZ scHs (fun vs H Q E h => ?_) (fun cdv A outer s H vs Q E hr h => ?_)
  · obtain ⟨i, m, rfl, _⟩ := h
    rfl
  · obtain ⟨i, m, rfl, k⟩ := h
    refine ⟨_, (Z.last (Z.ret (Z.and (Z.cf Gis_number hr Dis_number.m Dis_number.F.kp Dis_number.b pass0 (Z.cons (Z.vl 0) Z.nil)) (Z.one (Z.chain Z.le Z.lt Z.int (Z.vl 0) (Z.vl 1)))))), ?_⟩
    show tRet _ _ [some (.int i), some (.int m)] H
    refine st.ret (ev.andV (N := none') (b := true) (ev.call (P' := fun v' H' => aB.r none' true v' H') (ev.arg1 (P := fun v _ => v = .int i) (ev.raw (n := 0) rfl)) fun vs H1 s ⟨v1, e, p1⟩ Q k => ⟨i, by rw [e, p1]; rfl, fun H' s => k _ H' s rfl⟩) fun _ => ev.chI (f := fun i j => decide (i ≤ j)) (f' := fun i j => decide (i < j)) (i := 0) (j := i) (k := m) ev.int (ev.var (n := 0) (R := aI) rfl rfl) (ev.var (n := 1) (R := aI) rfl rfl)) fun v' H3 s3 e3 => ?_
    have e3 : v' = .bl (isHs m i) := e3
    rw [e3]
    exact k H3 s3
def spNm : Sp := fun vs H Q _ => ∃ (N : Sets) (q : Nm) (m : Int) (v : V), vs = [v, .int m] ∧ aN.r N q v H ∧ ∀ H', Sm H H' → Q (.bl (isNm m q)) H'
theorem scNm : FnScope ["value", "many"] ["value", "many"] (defScope (top 14)) := ⟨rfl, rfl, rfl, by decide +kernel, rfl, by decide +kernel, by decide +kernel⟩
theorem ok_nm {f : Addr} {fd : FuncData} (F : Fun K "is_name" "is_name" (top 14) f fd) (U : LoA K mg base TS) : FnOk P w K mg base CX0 3 f fd ["value", "many"] spNm := by
  have S := scNm
  have B := U.B
  obtain ⟨f1, fd1, D1⟩ := U.num
  obtain ⟨f2, fd2, D2⟩ := U.siz
  obtain ⟨f3, fd3, Dis_pair⟩ := U.pai
  obtain ⟨f4, fd4, Dis_house⟩ := U.hou
  obtain ⟨t, hL⟩ := U.last
  have Gis_pair := ok_ispair (P := P) (w := w) (base := base) Dis_pair.F B D1 D2
  have Gis_house := ok_hs (P := P) (w := w) (base := base) Dis_house.F U
  refine F.okZ scNm (fun vs H Q E h => ?_) (fun cdv A outer s H vs Q E hr h => ?_)
  · obtain ⟨N, q, m, v, rfl, _⟩ := h
    rfl
  · obtain ⟨N, q, m, v, rfl, fq, k⟩ := h
    refine ⟨_, (Z.last (Z.ret (Z.and (Z.cf Gis_pair hr Dis_pair.m Dis_pair.F.kp Dis_pair.b pass0 (Z.cons (Z.vl 0) Z.nil)) (Z.and (Z.cf Gis_house hr Dis_house.m Dis_house.F.kp Dis_house.b pass0 (Z.cons (Z.ix Z.ixT (Z.vl 0) Z.int) (Z.cons (Z.vl 1) Z.nil))) (Z.one (Z.chain Z.le Z.le Z.int (Z.ix Z.ixT (Z.vl 0) Z.int) (Z.glob (.int 99) hL ⟨t, rfl⟩))))))), ?_⟩
    show tRet _ _ [some v, some (.int m)] H
    have fv := ev.var (σ := [some v, some (.int m)]) (n := 0) rfl fq
    refine st.ret (ev.andV (N := N) (b := true) (ev.call (P' := fun v' H' => aB.r N true v' H') (ev.arg1 fv) fun vs H1 s ⟨v1, e, p1⟩ Q k => ⟨q, v1, by rw [e]; rfl, aN.any p1, fun H' s => k _ H' s rfl⟩) fun _ => ev.andV (N := N) (b := isHs m q.1) (ev.call (P' := fun v' H' => aB.r N (isHs m q.1) v' H') (ev.arg2 (P1 := aI.r N q.1) (P2 := fun v _ => v = .int m) (ev.ix (n := 0) ev.At.first fv) (ev.raw (n := 1) rfl) fun _ _ _ _ z => z) fun vs H1 s ⟨v1, v2, e, p1, p2⟩ Q k => ⟨q.1, m, by rw [e, p2, show v1 = .int q.1 from p1]; rfl, fun H' s => k _ H' s rfl⟩) fun _ => ev.chI (f := fun i j => decide (i ≤ j)) (f' := fun i j => decide (i ≤ j)) (i := 0) (j := q.2) (k := 99) ev.int (ev.ix (n := 1) (ev.At.next ev.At.last) fv) (fun H s Q k => k _ _ (.refl _) rfl)) fun v' H3 s3 e3 => ?_
    have e3 : v' = .bl (isNm m q) := e3
    rw [e3]
    exact k H3 s3
def nmsC (m : Int) (xs : List Nm) : Bool := qu true (fun _ => true) (isNm m) xs
def spNms (TS : Sets) : Sp := fun vs H Q _ => ∃ (N : Sets) (xs : List Nm) (m : Int) (v : V), vs = [v, .int m] ∧ Trk N H ∧ Tbs TS H ∧ (aV aN).r N xs v H ∧ ∀ H', Go TS H H' → Tbs TS H' → Q (.bl (nmsC m xs)) H'
theorem scNms : FnScope ["values", "many", "value"] ["values", "many"] (defScope (top 15)) := ⟨rfl, rfl, rfl, by decide +kernel, rfl, by decide +kernel, by decide +kernel⟩
theorem ok_nms {f tb : Addr} {fd : FuncData} (F : Fun K "are_names" "are_names" (top 15) f fd) (T : GTab base mg fd tb) (hT : TS tb) (U : LoA K mg base TS) : FnOk P w K mg base CX0 5 f fd ["values", "many"] (spNms TS) := by
  have S := scNms
  have hbm := T.bm
  have B := U.C
  obtain ⟨f1, fd1, Dis_name⟩ := U.nam
  have GBis_name := ok_nm (P := P) (w := w) (base := base) Dis_name.F U
  refine F.okG T scNms (fun vs H Q E h => ?_) (fun c hcd A outer s H vs Q E hr h => ?_)
  · obtain ⟨N, xs, m, v, rfl, _⟩ := h
    rfl
  · obtain ⟨N, xs, m, v, rfl, tk, ht, fx, k⟩ := h
    refine ⟨_, (Z.last (Z.ret (Z.and (Z.cb Z.isi B.isi (Z.cons (Z.vl 0) (Z.cons (Z.ty "tuple" B.tuple) Z.nil))) (Z.one (Z.allQ (own := [("value", 2)]) rfl hcd hbm hr B.all rfl S.nd (Z.it (Z.vl 0)) (blkOk_by (own := [("value", 2)]) (N := ["values", "many", "value"]) (sc := defScope (top 15)) (by decide +kernel)) (fun _ _ _ _ _ => (Z.gl 2 S.nd)) (fun _ _ _ _ _ => Z.tsnil) (fun _ _ _ _ _ => (Z.cf GBis_name (room_gen hr _) Dis_name.m Dis_name.F.kp Dis_name.b pass0 (Z.cons (Z.vl 2) (Z.cons (Z.vf 1) Z.nil))))))))), ?_⟩
    show tRet _ _ [some v, some (.int m), none] H
    have hA : ∀ {H H' : Hp}, Sm H H' → Tbs TS H → Tbs TS H' := fun s a => a.sm s
    refine st.retU (C := TS) (A := Tbs TS) (b := true && nmsC m xs) (EV.and (EV.of hA fun H1 g a => (ev.isV (K := K) (R := aN) (N := N) (ev.var (n := 0) rfl ((aV aN).kp (g.kpS ht.tbl) fx))).imp fun _ _ _ z => by rw [isiTT] at z; exact z) fun _ => EX.quX (c := true) (R := aN) (N := N) (fun _ => true) (isNm m) hA hT (fun a => a tb hT) (fun a g t => a.one g t) (fun H1 g1 a1 => evC.tup (K := K) (ev.var (n := 0) rfl ((aV aN).kp (g1.kpS ht.tbl) fx)) a1) (fun x hx xv H' g' a' rx kk h' => h' [some v, some (.int m), some xv] rfl ev.tyes fun _ => EV.of hA fun H2 g2 a2 => (ev.call (P' := fun v' H' => aB.r none' (isNm m x) v' H') (ev.arg2 (P1 := aN.r N x) (P2 := fun v _ => v = .int m) (ev.var (n := 2) rfl (aN.kp (g2.kpS a'.tbl) rx)) (ev.raw (n := 1) rfl) fun _ _ _ s z => aN.sm s z) fun vs H3 s3 ⟨v1, v2, e, p1, p2⟩ Q k => ⟨N, x, m, v1, by rw [e, p2]; rfl, p1, fun H' s => k _ H' s rfl⟩))) ht fun H' g a => k H' g a
def fldsC (m : Int) (xs : Flds) : Bool := qu true (fun _ => true) (isO m) xs
def spFls (TS : Sets) : Sp := fun vs H Q _ => ∃ (N : Sets) (xs : Flds) (m : Int) (v : V), vs = [v, .int m] ∧ Trk N H ∧ Tbs TS H ∧ aF.r N xs v H ∧ ∀ H', Go TS H H' → Tbs TS H' → Q (.bl (fldsC m xs)) H'
theorem scFls : FnScope ["values", "many", "value"] ["values", "many"] (defScope (top 16)) := ⟨rfl, rfl, rfl, by decide +kernel, rfl, by decide +kernel, by decide +kernel⟩
theorem ok_fls {f tb : Addr} {fd : FuncData} (F : Fun K "are_fields" "are_fields" (top 16) f fd) (T : GTab base mg fd tb) (hT : TS tb) (U : LoA K mg base TS) : FnOk P w K mg base CX0 5 f fd ["values", "many"] (spFls TS) := by
  have S := scFls
  have hbm := T.bm
  have B := U.C
  obtain ⟨f1, fd1, Dis_name⟩ := U.nam
  have GBis_name := ok_nm (P := P) (w := w) (base := base) Dis_name.F U
  refine F.okG T scFls (fun vs H Q E h => ?_) (fun c hcd A outer s H vs Q E hr h => ?_)
  · obtain ⟨N, xs, m, v, rfl, _⟩ := h
    rfl
  · obtain ⟨N, xs, m, v, rfl, tk, ht, fx, k⟩ := h
    refine ⟨_, (Z.last (Z.ret (Z.and (Z.cb Z.isi B.isi (Z.cons (Z.vl 0) (Z.cons (Z.ty "tuple" B.tuple) Z.nil))) (Z.one (Z.allQ (own := [("value", 2)]) rfl hcd hbm hr B.all rfl S.nd (Z.it (Z.vl 0)) (blkOk_by (own := [("value", 2)]) (N := ["values", "many", "value"]) (sc := defScope (top 16)) (by decide +kernel)) (fun _ _ _ _ _ => (Z.gl 2 S.nd)) (fun _ _ _ _ _ => Z.tsnil) (fun _ _ _ _ _ => (Z.or (Z.isN (Z.vl 2)) (Z.one (Z.cf GBis_name (room_gen hr _) Dis_name.m Dis_name.F.kp Dis_name.b pass0 (Z.cons (Z.vl 2) (Z.cons (Z.vf 1) Z.nil))))))))))), ?_⟩
    show tRet _ _ [some v, some (.int m), none] H
    have hA : ∀ {H H' : Hp}, Sm H H' → Tbs TS H → Tbs TS H' := fun s a => a.sm s
    refine st.retU (C := TS) (A := Tbs TS) (b := true && fldsC m xs) (EV.and (EV.of hA fun H1 g a => (ev.isV (K := K) (R := aO aN) (N := N) (ev.var (n := 0) rfl (aF.kp (g.kpS ht.tbl) fx))).imp fun _ _ _ z => by rw [isiTT] at z; exact z) fun _ => EX.quX (c := true) (R := aO aN) (N := N) (fun _ => true) (isO m) hA hT (fun a => a tb hT) (fun a g t => a.one g t) (fun H1 g1 a1 => evC.tup (K := K) (R := aO aN) (ev.var (n := 0) rfl (aF.kp (g1.kpS ht.tbl) fx)) a1) (fun x hx xv H' g' a' rx kk h' => h' [some v, some (.int m), some xv] rfl ev.tyes fun _ => EV.of hA fun H2 g2 a2 => ?_)) ht fun H' g a => k H' g a
    have rx2 := (aO aN).kp (g2.kpS a'.tbl) rx
    have en : Ev (tIsN (tVar 2)) [some v, some (.int m), some xv] H2 (aB.r none' x.isNone) := ev.isN (N := N) (ev.var (n := 2) rfl rx2)
    cases x with
    | none => exact ev.orV (b := true) (c := true) en fun h => nomatch h
    | some q => exact ev.orV (b := false) (c := isNm m q) en fun _ => (ev.call (P' := fun v' H' => aB.r none' (isNm m q) v' H') (ev.arg2 (P1 := aN.r N q) (P2 := fun v _ => v = .int m) (ev.var (n := 2) rfl rx2.2) (ev.raw (n := 1) rfl) fun _ _ _ s z => aN.sm s z) fun vs H3 s3 ⟨v1, v2, e, p1, p2⟩ Q k => ⟨N, q, m, v1, by rw [e, p2]; rfl, p1, fun H' s => k _ H' s rfl⟩)
end
end K02
end
section
set_option Elab.async false
set_option linter.all false
set_option maxRecDepth 100000
set_option autoImplicit false
namespace KB
open PySem L2
abbrev vb : List Value := [.type "ValueError", .type "Exception", .type "BaseException", .type "object"]
structure ExTop (K : PySem.W.Frag) (x : Str) (C : Addr) : Prop where
  ns : PySem.W.nsIn K mainGlobals x = some (some (.ref C))
  c : PySem.W.excIn K C vb "ValueError.__new__" = true
  s : PySem.W.subIn K (.ref C) (.ref C) = some true
theorem ExTop.ex {K : PySem.W.Frag} {h : Heap} {mg : Str → Option Value} {x : Str} {C : Addr} (X : ExTop K x C) (KX : K.In h) (G : h.Ns mainGlobals mg) : Ex K mg x C := ⟨⟨X.c⟩, PySem.W.mg_of KX G X.ns, X.s⟩
structure ClTop (K : PySem.W.Frag) (x : Str) (C : Addr) : Prop where
  ns : PySem.W.nsIn K mainGlobals x = some (some (.ref C))
  cl : Cls K C
  ma : PySem.W.makesIn K C = true
  kc : PySem.W.keepIn K (.ref C) = true
structure MeTop (K : PySem.W.Frag) (C : Addr) (q m : Str) (st : Stmt) (f : Addr) (fd : FuncData) : Prop where
  F : Fun K m q st f fd
  m : Meth K C m f
end KB
end
section
set_option Elab.async false
set_option linter.all false
set_option maxRecDepth 100000
set_option autoImplicit false
namespace L2.Z
open PySem PySem.Spec PyProof.Rows
end L2.Z
end
section
set_option Elab.async false
set_option linter.all false
set_option maxRecDepth 100000
set_option autoImplicit false
namespace KB
open PySem L2
end KB
end
section
set_option Elab.async false
set_option linter.all false
set_option maxRecDepth 100000
set_option autoImplicit false
namespace L2
open PySem PySem.Spec PyProof.Rows
structure FnOkR (P : Program) (w : World) (K : PySem.W.Frag) (mg : Str → Option Value) (base : Heap) (CX : CXT) (k : Nat) (f : Addr) (fd : FuncData) (ps : List Str) (sp : Sp) : Prop where
  len : ∀ vs H Q E, sp vs H Q E → vs.length = ps.length
  run : ∀ (A : Around) (outer : List Env) (s : Shared) (H : Hp) (args : Args) (us : List Value) (vs : List V) (Q : VK) (E : XK), Room k A → A.guards = some [] → Env0 P w K mg base A outer s H → BindsTo s fd args (ps.zip us) → Vals vs us → sp vs H Q E →
    codeAny (model P w) A (.call (.ref f) args) (CR CX outer P w H s Q E) s
section
variable {P : Program} {w : World} {K : PySem.W.Frag} {mg : Str → Option Value} {base : Heap}
end
section
variable {X : Cx}
end
namespace Z
end Z
end L2
end
section
set_option Elab.async false
set_option linter.all false
set_option maxRecDepth 100000
set_option autoImplicit false
namespace L2
open PySem PySem.Spec PyProof.Rows
namespace Z
variable {X : Cx}
end Z
end L2
namespace TV
open PySem L2 KB
section
variable {te ta tb : TE} {σ : L2.St} {H : Hp} {N : Sets} {K : PySem.W.Frag}
theorem ev.adds {x y : Str} (ha : Ev ta σ H (aS.r N x)) (hb : Ev tb σ H (aS.r N y)) (hl : x.length + y.length ≤ sizeLine) : Ev (tOp (fun x y H Q => ∃ i j, x = .str i ∧ y = .str j ∧ i.length + j.length ≤ sizeLine ∧ Q (.str (i ++ j)) H) ta tb) σ H (aS.r N (x ++ y)) :=
  ev.two ha hb (fun _ _ _ _ p => p) fun v w H1 _ p r Q k => ⟨x, y, p, r, hl, k _ _ (.refl _) rfl⟩
end
end TV
namespace TV
open PySem L2 KB
section
variable {σ : L2.St} {H : Hp} {N : Sets} {A : Type} {R : Rep A} {K : PySem.W.Frag} {D : Ends}
end
end TV
namespace TV
open PySem L2 KB
namespace ev
section
variable {te ta tb tl tl1 : TE} {tt tt1 : TT} {ts : TA} {t u : TS} {σ : St} {H : Hp} {P P' : V → Hp → Prop} {Q : VK} {N C : Sets} {A B T : Type} {R : Rep A} {S : Rep B} {x : A} {y : B} {i j : Int} {b c : Bool} {K : PySem.W.Frag} {D : Ends} {n : Nat} {g g1 : TG} {vs vs1 : List Nat} {tb0 : TS} {p : Int × A → Bool} {f : Int × A → B}
end
end ev
end TV
namespace TV
open PySem L2 KB
section
variable {te ta tb tl tl1 : TE} {tt tu : TT} {ts : TA} {t u : TS} {σ : St} {H : Hp} {P P1 P2 P3 : V → Hp → Prop} {Q : VK} {N C : Sets} {A : Hp → Prop} {T B : Type} {R : Rep T} {S : Rep B} {K : PySem.W.Frag} {D : Ends} {n : Nat} {g : TG} {vs : List Nat} {Φ : T → Prop} {Ψ : B → Prop} {tb0 : TS}
end
end TV
namespace TV
open PySem L2 KB
section
variable {te ta tb tl tl1 : TE} {σ : St} {H : Hp} {N C : Sets} {A : Hp → Prop} {T B : Type} {R : Rep T} {S : Rep B} {K : PySem.W.Frag}
end
end TV
end
section
set_option Elab.async false
set_option linter.all false
set_option maxRecDepth 100000
set_option autoImplicit false
namespace L2
open PySem PySem.Spec PyProof.Rows
namespace Z
theorem zipL {X : Cx} {e e2 : Expr} {ta : TA} {p pos tpos : Pos} {elts : List Expr} {kk : Nat} (hm : X.mg "zip" = none) (ha : ZA X [e, e2] ta) (hg : X.env.kindOf "zip" = some .globalImplicit := by kernel_rfl)
    (hs : starEach [e, e2] X.env = (false, eval e X.env) :: starEach [e2] X.env := by kernel_rfl) (hpl : (backTo pos (starEach [e2] X.env)).any (·.1) = false := by kernel_rfl) :
    ZI X (.Tuple elts kk tpos) (.Call (.Name "zip" p) [e, e2] [] pos) (iZip X.K ta) := ⟨pi_zip hg hm ha.h hs hpl⟩
end Z
end L2
namespace TV
open PySem L2 KB
section
variable {σ : L2.St} {H : Hp} {N : Sets} {A B : Type} {R : Rep A} {S : Rep B} {K : PySem.W.Frag} {D : Ends}
end
end TV
end
section
set_option Elab.async false
set_option linter.all false
set_option maxRecDepth 100000
namespace K02
open PySem L2 KB TV
set_option autoImplicit false
theorem asgE {te : TE} {σ : L2.St} {H : Hp} {P : V → Hp → Prop} {g : TG} {u : TS} {D : Ends} (e : Ev te σ H P) (k : ∀ v H', Sm H H' → P v H' → g v σ H' fun σ' H'' => u D σ' H'') : tSeq (tAsg te g) u D σ H := e.use k
theorem ev_slF {te tb : TE} {σ : L2.St} {H : Hp} {N : Sets} {K : PySem.W.Frag} {A : Type} {R : Rep A} {xs : List A} {i : Int} (tk : Trk N H) (ha : Ev te σ H ((aL R).r N xs)) (hi : Ev tb σ H (aI.r N i)) : Ev (tSl (rSlL K) te (tPart tb) tNoPart) σ H ((aL R).r N (slC xs (some i) none)) := fun H1 s Q k => ha H1 s _ fun v H2 s2 p => hi H2 (s.trans s2) _ fun v2 H3 s3 e => by
  obtain ⟨a, us, rfl, na, h, al⟩ := (aL R).sm s3 p
  refine ⟨i, e, a, us, rfl, SqL.of h, fun q hq => ?_⟩
  have sn := Sm.new (o := .lst (cutV us (some i) none)) hq
  exact k _ _ ((s2.trans s3).trans sn) ⟨q, _, rfl, ((tk.sm s).sm (s2.trans s3)).no hq, upd_same, (cut_all al _ _).imp fun _ _ z => R.sm sn z⟩
theorem unmapL {A B D : Type} {f : A → D} {p : D → B → Prop} : ∀ {as : List A} {bs : List B}, All2 p (as.map f) bs → All2 (fun a b => p (f a) b) as bs
  | [], _, h => by cases h; exact .nil
  | a :: t, _, h => by
    cases h with
    | cons x y => exact .cons x (unmapL y)
theorem aV_un {N : Sets} {H : Hp} {ys : List Nm} {v : V} (h : (aV (aO aN)).r N (ys.map some) v H) : (aV aN).r N ys v H := by
  obtain ⟨a, vs, e, n, h, al⟩ := h
  exact ⟨a, vs, e, n, h, (unmapL (f := some) al).imp fun _ _ z => z.2⟩
def risesC (xs : List Nm) : Bool := qu true (fun _ => true) (fun z : Nm × Nm => nmLt z.1 z.2) (xs.zip (xs.drop 1))
section
variable {P : Program} {w : World} {K : PySem.W.Frag} {mg : Str → Option Value} {base : Heap} {C : Addr} {TS : Sets}
def spRises (TS : Sets) : Sp := fun vs H Q _ => ∃ (N : Sets) (xs : List Nm) (v : V), vs = [v] ∧ Trk N H ∧ Tbs TS H ∧ (aL aN).r N xs v H ∧ ∀ H', Go TS H H' → Tbs TS H' → Q (.bl (risesC xs)) H'
theorem scRises : FnScope ["values", "low", "high"] ["values"] (defScope (top 17)) := ⟨rfl, rfl, rfl, by decide +kernel, rfl, by decide +kernel, by decide +kernel⟩
theorem ok_rises {f tb : Addr} {fd : FuncData} (F : Fun K "rises" "rises" (top 17) f fd) (T : GTab base mg fd tb) (hT : TS tb) (B : BtC mg) : FnOk P w K mg base CX0 2 f fd ["values"] (spRises TS) := by
  have S := scRises
  have hbm := T.bm
  have Pzip := B.zip
  refine F.okG T scRises (fun vs H Q E h => ?_) (fun c hcd A outer s H vs Q E hr h => ?_)
  · obtain ⟨N, xs, v, rfl, _⟩ := h
    rfl
  · obtain ⟨N, xs, v, rfl, tk, ht, fx, k⟩ := h
    refine ⟨_, (Z.last (Z.ret (Z.allQ (own := [("low", 1), ("high", 2)]) (g := (gTup K 2 (gCons (gName 1) (gCons (gName 2) gNil)))) rfl hcd hbm hr B.all rfl S.nd (Z.zipL Pzip (Z.cons (Z.vl 0) (Z.cons (Z.slice Z.slL (Z.vl 0) (Z.osome Z.int) Z.onone) Z.nil))) (blkOk_by (own := [("low", 1), ("high", 2)]) (N := ["values", "low", "high"]) (sc := defScope (top 17)) (by decide +kernel)) (fun _ _ _ _ _ => (Z.gtup (n := 2) rfl (Z.gcons (Z.gl 1 S.nd) (Z.gcons (Z.gl 2 S.nd) Z.gnil)) (by kernel_rfl))) (fun _ _ _ _ _ => Z.tsnil) (fun _ _ _ _ _ => (Z.cmp (Z.ltTK (K := K) rfl (room_gen hr _)) (Z.vl 1) (Z.vl 2)))))), ?_⟩
    show tRet _ _ [some v, none, none] H
    have hA : ∀ {H H' : Hp}, Sm H H' → Tbs TS H → Tbs TS H' := fun s a => a.sm s
    refine st.retU (C := TS) (A := Tbs TS) (b := risesC xs) (EX.quX (c := true) (R := aP aN aN) (N := N) (fun _ => true) (fun z : Nm × Nm => nmLt z.1 z.2) hA hT (fun a => a tb hT) (fun a g t => a.one g t) (fun H1 g1 a1 => ?_) (fun x hx xv H' g' a' rx kk h' => ?_)) ht fun H' g a => k H' g a
    · have fx1 := (aL aN).kp (g1.kpS ht.tbl) fx
      have e1 := ev_slF (K := K) (R := aN) (N := N) (i := ((1 : Nat) : Int)) (σ := [some v, none, none]) (tk.go g1) (ev.var (n := 0) rfl fx1) ev.int
      rw [slC_from] at e1
      exact evC.zipL (K := K) (ev.var (n := 0) rfl fx1) e1 (tk.go g1) a1
    · refine st.unpack rx (fun vs t => st.gcons t fun v1 r1 p1 q1 => ?_) rfl
      refine st.glast q1 fun v2 p2 => st.gend (h' [some v, some v1, some v2] rfl ev.tyes fun _ => EV.of hA fun H2 g2 a2 => (show Ev _ _ H2 (aB.r N _) from ev.ltN (K := K) (ev.var (n := 1) rfl (aN.kp (g2.kpS a'.tbl) p1)) (ev.var (n := 2) rfl (aN.kp (g2.kpS a'.tbl) p2))))
def spHds (TS : Sets) : Sp := fun vs H Q _ => ∃ (N : Sets) (xs : Flds) (ys : List Nm) (m : Int) (v : V), vs = [v, .int m] ∧ Trk N H ∧ Tbs TS H ∧ aF.r N xs v H ∧ 4 ≤ xs.length ∧ xs.length ≤ 10 ∧ xs.drop 4 = ys.map some ∧ ∀ H', Go TS H H' → Tbs TS H' → Q (.bl (fldsC m (xs.take 4) && nmsC m ys)) H'
theorem scHds : FnScope ["values", "many"] ["values", "many"] (defScope (top 18)) := ⟨rfl, rfl, rfl, by decide +kernel, rfl, by decide +kernel, by decide +kernel⟩
theorem ok_hds {f : Addr} {fd : FuncData} (F : Fun K "are_hands" "are_hands" (top 18) f fd) (U : LoA K mg base TS) : FnOk P w K mg base CX0 6 f fd ["values", "many"] (spHds TS) := by
  have S := scHds
  have B := U.B
  obtain ⟨f1, fd1, tb1, Dare_fields, T1, h1⟩ := U.fls
  obtain ⟨f2, fd2, tb2, Dare_names, T2, h2⟩ := U.nms
  obtain ⟨t4, hH⟩ := U.hands
  obtain ⟨t6, hS⟩ := U.still
  have Gare_fields := ok_fls (P := P) (w := w) Dare_fields.F T1 h1 U
  have Gare_names := ok_nms (P := P) (w := w) Dare_names.F T2 h2 U
  refine F.okZ scHds (fun vs H Q E h => ?_) (fun cdv A outer s H vs Q E hr h => ?_)
  · obtain ⟨N, xs, ys, m, v, rfl, _⟩ := h
    rfl
  · obtain ⟨N, xs, ys, m, v, rfl, tk, ht, fx, hl, hu, hys, k⟩ := h
    refine ⟨_, (Z.seq (Z.cond (Z.pw (Z.tor (Z.tnot (Z.val (Z.cb Z.isi B.isi (Z.cons (Z.vl 0) (Z.cons (Z.ty "tuple" B.tuple) Z.nil))))) (Z.or1 (Z.tnot (Z.tchain Z.le Z.le (Z.glob (.int 4) hH ⟨t4, rfl⟩) (Z.cb Z.len B.len (Z.cons (Z.vl 0) Z.nil)) (Z.op Z.add (Z.glob (.int 4) hH ⟨t4, rfl⟩) (Z.glob (.int 6) hS ⟨t6, rfl⟩))))))) (Z.last (Z.ret Z.bl)) Z.snil)
      (Z.last (Z.ret (Z.and (Z.cf Gare_fields hr Dare_fields.m Dare_fields.F.kp Dare_fields.b pass0 (Z.cons (Z.slice Z.slTA (Z.vl 0) Z.onone (Z.osome (Z.glob (.int 4) hH ⟨t4, rfl⟩))) (Z.cons (Z.vl 1) Z.nil))) (Z.one (Z.cf Gare_names hr Dare_names.m Dare_names.F.kp Dare_names.b pass0 (Z.cons (Z.slice Z.slTA (Z.vl 0) (Z.osome (Z.glob (.int 4) hH ⟨t4, rfl⟩)) Z.onone) (Z.cons (Z.vl 1) Z.nil)))))))), ?_⟩
    show tSeq (tIfS _ _ _) _ _ [some v, some (.int m)] H
    have hA : ∀ {H H' : Hp}, Sm H H' → Tbs TS H → Tbs TS H' := fun s a => a.sm s
    have cI : ∀ {i : Int} {H : Hp}, Ev (tC (.int i)) [some v, some (.int m)] H (aI.r N i) := fun {i H} H s Q k => k _ _ (.refl _) rfl
    refine st.cond (b := !(isiB "tuple" "tuple") || !(decide ((4 : Int) ≤ (xs.length : Int)) && decide ((xs.length : Int) ≤ 4 + 6))) (ev.tOr (ev.tNot (ev.tB (N := N) (ev.isV (K := K) (R := aO aN) (N := N) (ev.var (n := 0) rfl fx)))) fun _ => ev.tNot (ev.tTest (N := N) (ev.chI (f := fun i j => decide (i ≤ j)) (f' := fun i j => decide (i ≤ j)) (i := 4) (j := (xs.length : Int)) (k := 4 + 6) cI (ev.lenV (K := K) (R := aO aN) (ev.var (n := 0) rfl fx)) (ev.add cI cI)))) (fun h => absurd h (by
      rw [isiTT, decide_eq_true (show (4 : Int) ≤ (xs.length : Int) by omega), decide_eq_true (show (xs.length : Int) ≤ 4 + 6 by omega)]
      decide)) (fun _ H1 s1 => ?_)
    try unfold tNext
    try dsimp only
    have tk1 := tk.sm s1
    have ht1 := ht.sm s1
    have fx1 := aF.sm s1 fx
    show tRet (tAndV (tCall (spFls TS) _ _ _) (tCall (spNms TS) _ _ _)) _ [some v, some (.int m)] H1
    refine st.retU (C := TS) (A := Tbs TS) (b := fldsC m (xs.take 4) && nmsC m ys) (EV.and (EX.call (fun H2 g2 a2 => ev.arg2 (P1 := aF.r N (xs.take 4)) (P2 := fun v _ => v = .int m) (by
      have e1 := ev.slTo (K := K) (R := aO aN) (N := N) (i := ((4 : Nat) : Int)) (σ := [some v, some (.int m)]) (tk1.go g2) (ev.var (n := 0) rfl (aF.kp (g2.kpS ht1.tbl) fx1)) cI
      rw [slC_to] at e1
      exact e1) (ev.raw (n := 1) rfl) fun _ _ _ s z => aF.sm s z) hA fun vs H2 g2 a2 ⟨v1, v2, e, p1, p2⟩ Q k => ⟨N, xs.take 4, m, v1, by rw [e, p2]; rfl, tk1.go g2, a2, p1, fun H' g' a' => k _ H' g' a' rfl⟩) fun _ => EX.call (fun H2 g2 a2 => ev.arg2 (P1 := (aV aN).r N ys) (P2 := fun v _ => v = .int m) (by
      have e1 := ev.slFrom (K := K) (R := aO aN) (N := N) (i := ((4 : Nat) : Int)) (σ := [some v, some (.int m)]) (tk1.go g2) (ev.var (n := 0) rfl (aF.kp (g2.kpS ht1.tbl) fx1)) cI
      rw [slC_from, hys] at e1
      exact e1.imp fun _ _ _ z => aV_un z) (ev.raw (n := 1) rfl) fun _ _ _ s z => (aV aN).sm s z) hA fun vs H2 g2 a2 ⟨v1, v2, e, p1, p2⟩ Q k => ⟨N, ys, m, v1, by rw [e, p2]; rfl, tk1.go g2, a2, p1, fun H' g' a' => k _ H' g' a' rfl⟩) ht1 fun H' g a => k H' ((Go.of s1).trans g) a
end
end K02
end
section
set_option Elab.async false
set_option linter.all false
set_option maxRecDepth 100000
namespace K02
open PySem L2 KB TV
set_option autoImplicit false
structure GoodTh (m h : Int) (t : Thing) : Prop where
  nm : isNm m t.1 = true
  hm : t.1.1 = h
  fl : fldsC m t.2.2 = true
  so : (t.2.1 = Str.ofString "mark" ∧ t.2.2.length = 1) ∨ (t.2.1 = Str.ofString "thing" ∧ t.2.2.length ≤ 4)
theorem aP3_out {A B D : Type} {R : Rep A} {S : Rep B} {T : Rep D} {N : Sets} {z : A × B × D} {v : V} {H : Hp} (h : (aP3 R S T).r N z v H) : ∃ a us, v = .ref a ∧ H a = some (.tup us) ∧ us.length = 3 := by
  obtain ⟨a, us, e, na, ha, v1, r1, e1, p1, v2, r2, e2, p2, v3, e3, p3⟩ := h
  exact ⟨a, us, e, ha, by rw [e1, e2, e3]; rfl⟩
theorem aP_out {A B : Type} {R : Rep A} {S : Rep B} {N : Sets} {z : A × B} {v : V} {H : Hp} (h : (aP R S).r N z v H) : ∃ a us, v = .ref a ∧ H a = some (.tup us) ∧ us.length = 2 := by
  obtain ⟨a, us, e, na, ha, v1, r1, e1, p1, v3, e3, p3⟩ := h
  exact ⟨a, us, e, ha, by rw [e1, e3]; rfl⟩
section
variable {P : Program} {w : World} {K : PySem.W.Frag} {mg : Str → Option Value} {base : Heap} {C : Addr} {TS : Sets}
theorem ev_sz {σ : L2.St} {H : Hp} {N : Sets} {E : XK} {te : TE} {n : Nat} {a : Addr} {us : List V} (e : Ev te σ H fun v _ => v = .ref a) (ha : H a = some (.tup us)) (hl : us.length = n) : Ev (tCall spSized [] E (tCons te (tCons (tC (.int (n : Int))) tNil))) σ H (aB.r N true) :=
  ev.call (ev.arg2 (P1 := fun v _ => v = .ref a) (P2 := fun v _ => v = .int (n : Int)) e (fun H1 s Q k => k _ H1 (.refl _) rfl) fun _ _ _ _ z => z) fun vs H1 s ⟨v1, v2, e, q1, q2⟩ Q k => ⟨a, us, n, by rw [e, q1, q2]; rfl, s.tup ha, fun H' s' => k _ H' s' (by rw [decide_eq_true (by rw [hl])]; rfl)⟩
def spThi (TS : Sets) : Sp := fun vs H Q _ => ∃ (N : Sets) (t : Thing) (h m : Int) (v : V), vs = [v, .int h, .int m] ∧ Trk N H ∧ Tbs TS H ∧ aTh.r N t v H ∧ GoodTh m h t ∧ ∀ H', Go TS H H' → Tbs TS H' → Q (.bl true) H'
theorem scThi : FnScope ["value", "home", "many", "name", "sort", "fields"] ["value", "home", "many"] (defScope (top 19)) := ⟨rfl, rfl, rfl, by decide +kernel, rfl, by decide +kernel, by decide +kernel⟩
theorem ok_thi {f : Addr} {fd : FuncData} (F : Fun K "is_thing" "is_thing" (top 19) f fd) (U : LoA K mg base TS) : FnOk P w K mg base CX0 6 f fd ["value", "home", "many"] (spThi TS) := by
  have S := scThi
  have B := U.B
  obtain ⟨f1, fd1, tb1, Dare_fields, T1, h1⟩ := U.fls
  obtain ⟨f2, fd2, Dis_name⟩ := U.nam
  obtain ⟨f3, fd3, Dis_sized⟩ := U.siz
  obtain ⟨t4, hF⟩ := U.flds
  have Gare_fields := ok_fls (P := P) (w := w) Dare_fields.F T1 h1 U
  have Gis_name := (ok_nm (P := P) (w := w) Dis_name.F U).mono (show 3 ≤ 5 by decide)
  have Gis_sized := (ok_sized (P := P) (w := w) (base := base) Dis_sized.F B).mono (show 1 ≤ 5 by decide)
  refine F.okZ scThi (fun vs H Q E h => ?_) (fun cdv A outer s H vs Q E hr h => ?_)
  · obtain ⟨N, t, hm, m, v, rfl, _⟩ := h
    rfl
  · obtain ⟨N, t, hm, m, v, rfl, tk, ht, ft, gt, k⟩ := h
    refine ⟨_, (Z.seq (Z.cond (Z.tnot (Z.val (Z.cf Gis_sized hr Dis_sized.m Dis_sized.F.kp Dis_sized.b pass0 (Z.cons (Z.vl 0) (Z.cons Z.int Z.nil))))) (Z.last (Z.ret Z.bl)) Z.snil)
      (Z.seq (Z.asg (Z.vl 0) (Z.gtup (n := 3) rfl (Z.gcons (Z.gl 3 S.nd) (Z.gcons (Z.gl 4 S.nd) (Z.gcons (Z.gl 5 S.nd) Z.gnil))) (by kernel_rfl)))
      (Z.seq (Z.cond (Z.pw (Z.tor (Z.tnot (Z.val (Z.cf Gis_name hr Dis_name.m Dis_name.F.kp Dis_name.b pass0 (Z.cons (Z.vl 3) (Z.cons (Z.vl 2) Z.nil))))) (Z.tor (Z.tcmp Z.ne (Z.ix Z.ixT (Z.vl 3) Z.int) (Z.vl 1)) (Z.or1 (Z.tnot (Z.val (Z.cf Gare_fields hr Dare_fields.m Dare_fields.F.kp Dare_fields.b pass0 (Z.cons (Z.vl 5) (Z.cons (Z.vl 2) Z.nil))))))))) (Z.last (Z.ret Z.bl)) Z.snil)
      (Z.seq (Z.cond (Z.tnot (Z.val (Z.cb Z.isi B.isi (Z.cons (Z.vl 4) (Z.cons (Z.ty "str" B.str) Z.nil))))) (Z.last (Z.ret Z.bl)) Z.snil)
      (Z.seq (Z.cond (Z.tcmp Z.eq (Z.vl 4) Z.str) (Z.last (Z.ret (Z.cmp Z.eq (Z.cb Z.len B.len (Z.cons (Z.vl 5) Z.nil)) Z.int))) Z.snil)
      (Z.last (Z.ret (Z.and (Z.cmp Z.eq (Z.vl 4) Z.str) (Z.one (Z.cmp Z.le (Z.cb Z.len B.len (Z.cons (Z.vl 5) Z.nil)) (Z.glob (.int 4) hF ⟨t4, rfl⟩))))))))))), ?_⟩
    show tSeq (tIfS _ _ _) _ _ [some v, some (.int hm), some (.int m), none, none, none] H
    have hA : ∀ {H H' : Hp}, Sm H H' → Tbs TS H → Tbs TS H' := fun s a => a.sm s
    obtain ⟨a, us, rfl, ha, hl⟩ := aP3_out ft
    refine st.cond (b := !true) (ev.tNot (ev.tB (N := N) (ev_sz (n := 3) (ev.raw (n := 0) rfl) ha hl))) (fun h => nomatch h) (fun _ H1 s1 => ?_)
    try unfold tNext
    try dsimp only
    have tk1 := tk.sm s1
    have ht1 := ht.sm s1
    show tSeq (tAsg (tVar 0) _) _ _ [some (.ref a), some (.int hm), some (.int m), none, none, none] H1
    refine asgE (ev.var (n := 0) (R := aTh) rfl (aTh.sm s1 ft)) fun v' H2 s2 r2 => ?_
    have tk2 := tk1.sm s2
    have ht2 := ht1.sm s2
    have g2 : Go TS H H2 := .of (s1.trans s2)
    refine st.unpack r2 (fun vs tt => st.gcons tt fun v1 r1 p1 q1 => ?_) rfl
    refine st.gcons q1 fun v3 r3 p3 q3 => ?_
    refine st.glast q3 fun v4 p4 => st.gend ?_
    show tSeq (tIfS _ _ _) _ _ [some (.ref a), some (.int hm), some (.int m), some v1, some v3, some v4] H2
    refine st.condU (C := TS) (A := Tbs TS) (b := !true || (!decide (t.1.1 = hm) || !fldsC m t.2.2)) (EB.or (EB.not (EB.of hA fun H3 g3 a3 => ev.tB (N := N) (ev.call (P' := fun v' H' => aB.r N true v' H') (ev.arg2 (P1 := aN.r N t.1) (P2 := fun v _ => v = .int m) (ev.var (n := 3) rfl (aN.kp (g3.kpS ht2.tbl) p1)) (ev.raw (n := 2) rfl) fun _ _ _ s z => aN.sm s z) fun vs H4 s4 ⟨b1, b2, e, z1, z2⟩ Q k => ⟨N, t.1, m, b1, by rw [e, z2]; rfl, z1, fun H' s => k _ H' s (by rw [gt.nm]; rfl)⟩))) fun _ => EB.or (EB.of hA fun H3 g3 a3 => ev.tTest (N := N) (ev.neI (ev.ix (K := K) (n := 0) (z := t.1) (R := aI) ev.At.first (ev.var (n := 3) (R := aN) rfl (aN.kp (g3.kpS ht2.tbl) p1))) (ev.var (n := 1) (R := aI) rfl rfl))) fun _ => EB.not (EV.val (EX.call (fun H3 g3 a3 => ev.arg2 (P1 := aF.r N t.2.2) (P2 := fun v _ => v = .int m) (ev.var (n := 5) rfl (aF.kp (g3.kpS ht2.tbl) p4)) (ev.raw (n := 2) rfl) fun _ _ _ s z => aF.sm s z) hA fun vs H3 g3 a3 ⟨b1, b2, e, z1, z2⟩ Q k => ⟨N, t.2.2, m, b1, by rw [e, z2]; rfl, tk2.go g3, a3, z1, fun H' g' a' => k _ H' g' a' rfl⟩))) ht2 (fun h => absurd h (by rw [gt.fl, decide_eq_true gt.hm]; decide)) (fun _ H3 g3 a3 => ?_)
    try unfold tNext
    try dsimp only
    have p4' := aF.kp (g3.kpS ht2.tbl) p4
    cases (show v3 = .str t.2.1 from p3)
    have eS : ∀ {H' : Hp}, Ev (tVar 4) [some (.ref a), some (.int hm), some (.int m), some v1, some (.str t.2.1), some v4] H' (aS.r N t.2.1) := fun {H'} => ev.var (n := 4) (R := aS) rfl rfl
    show tSeq (tIfS _ _ _) _ _ [some (.ref a), some (.int hm), some (.int m), some v1, some (.str t.2.1), some v4] H3
    refine st.cond (b := !(isiB "str" "str")) (ev.tNot (ev.tB (N := N) (ev.isi (P := fun v' _ => v' = .str t.2.1) (n := "str") (ev.raw (n := 4) rfl) (fun _ _ _ _ z => z) fun v' H' e => by rw [e]; exact .str _))) (fun h => absurd h (by decide)) (fun _ H4 s4 => ?_)
    try unfold tNext
    try dsimp only
    show tSeq (tIfS _ _ _) _ _ [some (.ref a), some (.int hm), some (.int m), some v1, some (.str t.2.1), some v4] H4
    have fin : ∀ {H5 : Hp}, Sm H4 H5 → Q (.bl true) H5 := fun {H5} s5 => k H5 ((g2.trans g3).sm (s4.trans s5)) (a3.sm (s4.trans s5))
    refine st.cond (b := decide (t.2.1 = Str.ofString "mark")) (ev.tTest (N := N) (ev.eqS eS ev.str)) (fun h H5 s5 => ?_) (fun h H5 s5 => ?_)
    · have h : t.2.1 = Str.ofString "mark" := of_decide_eq_true h
      have hl1 : t.2.2.length = 1 := by
        rcases gt.so with z | z
        · exact z.2
        · exact absurd (z.1.symm.trans h) (by decide)
      refine st.ret (ev.eqI (N := N) (ev.lenV (K := K) (R := aO aN) (xs := t.2.2) (ev.var (n := 5) rfl (aF.sm (s4.trans s5) p4'))) ev.int) fun v' H6 s6 e6 => ?_
      have e6 : v' = .bl (decide ((t.2.2.length : Int) = 1)) := e6
      rw [e6, decide_eq_true (by rw [hl1]; rfl)]
      exact fin (s5.trans s6)
    · have h : ¬ t.2.1 = Str.ofString "mark" := of_decide_eq_false h
      obtain ⟨z1, z2⟩ : t.2.1 = Str.ofString "thing" ∧ t.2.2.length ≤ 4 := gt.so.resolve_left fun z => h z.1
      try unfold tNext
      try dsimp only
      refine st.ret (ev.andV (N := N) (b := decide (t.2.1 = Str.ofString "thing")) (c := decide ((t.2.2.length : Int) ≤ 4)) (ev.eqS eS ev.str) fun _ => ev.le (ev.lenV (K := K) (R := aO aN) (xs := t.2.2) (ev.var (n := 5) rfl (aF.sm (s4.trans s5) p4'))) (fun H s Q k => k _ _ (.refl _) rfl)) fun v' H6 s6 e6 => ?_
      have e6 : v' = .bl (decide (t.2.1 = Str.ofString "thing") && decide ((t.2.2.length : Int) ≤ 4)) := e6
      rw [e6, decide_eq_true z1, decide_eq_true (show (t.2.2.length : Int) ≤ 4 by omega)]
      exact fin (s5.trans s6)
end
end K02
end
section
set_option Elab.async false
set_option linter.all false
set_option maxRecDepth 100000
namespace K02
open PySem L2 KB TV
set_option autoImplicit false
structure GoodThs (m h : Int) (ts : List Thing) : Prop where
  l : ts.length ≤ 40
  t : ∀ t ∈ ts, GoodTh m h t
  r : risesC (ts.map (·.1)) = true
structure GoodHo (m h : Int) (ho : House) : Prop where
  lo : 4 ≤ ho.1.length
  hi : ho.1.length ≤ 10
  hs : ∃ ys, ho.1.drop 4 = ys.map some ∧ nmsC m ys = true
  fl : fldsC m (ho.1.take 4) = true
  ts : GoodThs m h ho.2
structure GoodLe (m : Int) (l : Letr) : Prop where
  s : isHs m l.1 = true
  t : isHs m l.2.1 = true
  ne : l.1 ≠ l.2.1
  n : nmsC m l.2.2 = true
  p : 0 < l.2.2.length
structure GoodPic (p : Pict) : Prop where
  lo : 1 ≤ p.1.length
  hi : p.1.length ≤ 8
  h : ∀ z ∈ enumI 0 p.1, GoodHo (p.1.length : Int) z.1 z.2
  l : ∀ l ∈ p.2, GoodLe (p.1.length : Int) l
section
variable {P : Program} {w : World} {K : PySem.W.Frag} {mg : Str → Option Value} {base : Heap} {C : Addr} {TS : Sets}
def spThs (TS : Sets) : Sp := fun vs H Q _ => ∃ (N : Sets) (ts : List Thing) (h m : Int) (v : V), vs = [v, .int h, .int m] ∧ Trk N H ∧ Tbs TS H ∧ (aV aTh).r N ts v H ∧ GoodThs m h ts ∧ ∀ H', Go TS H H' → Tbs TS H' → Q (.bl true) H'
theorem scThs : FnScope ["values", "home", "many", "value", "thing"] ["values", "home", "many"] (defScope (top 20)) := ⟨rfl, rfl, rfl, by decide +kernel, rfl, by decide +kernel, by decide +kernel⟩
theorem ok_ths {f tb : Addr} {fd : FuncData} (F : Fun K "are_things" "are_things" (top 20) f fd) (T : GTab base mg fd tb) (hT : TS tb) (U : LoA K mg base TS) : FnOk P w K mg base CX0 8 f fd ["values", "home", "many"] (spThs TS) := by
  have S := scThs
  have hbm := T.bm
  have B := U.C
  obtain ⟨f1, fd1, Dis_thing⟩ := U.thi
  obtain ⟨f2, fd2, tb2, Drises, T2, h2⟩ := U.ris
  obtain ⟨t4, hM⟩ := U.things
  have GBis_thing := ok_thi (P := P) (w := w) Dis_thing.F U
  have Grises := (ok_rises (P := P) (w := w) (TS := TS) Drises.F T2 h2 U.C).mono (show 2 ≤ 7 by decide)
  refine F.okG T scThs (fun vs H Q E h => ?_) (fun c hcd A outer s H vs Q E hr h => ?_)
  · obtain ⟨N, ts, hm, m, v, rfl, _⟩ := h
    rfl
  · obtain ⟨N, ts, hm, m, v, rfl, tk, ht, ft, gt, k⟩ := h
    refine ⟨_, (Z.seq (Z.cond (Z.pw (Z.tor (Z.tnot (Z.val (Z.cb Z.isi B.isi (Z.cons (Z.vl 0) (Z.cons (Z.ty "tuple" B.tuple) Z.nil))))) (Z.or1 (Z.tcmp Z.gt (Z.cb Z.len B.len (Z.cons (Z.vl 0) Z.nil)) (Z.glob (.int 40) hM ⟨t4, rfl⟩))))) (Z.last (Z.ret Z.bl)) Z.snil)
      (Z.seq (Z.cond (Z.tnot (Z.val (Z.allQ (own := [("value", 3)]) rfl hcd hbm hr B.all rfl S.nd (Z.it (Z.vl 0)) (blkOk_by (own := [("value", 3)]) (N := ["values", "home", "many", "value", "thing"]) (sc := defScope (top 20)) (by decide +kernel)) (fun _ _ _ _ _ => (Z.gl 3 S.nd)) (fun _ _ _ _ _ => Z.tsnil) (fun _ _ _ _ _ => (Z.cf GBis_thing (room_gen hr _) Dis_thing.m Dis_thing.F.kp Dis_thing.b pass0 (Z.cons (Z.vl 3) (Z.cons (Z.vf 1) (Z.cons (Z.vf 2) Z.nil)))))))) (Z.last (Z.ret Z.bl)) Z.snil)
      (Z.last (Z.ret (Z.cf Grises hr Drises.m Drises.F.kp Drises.b pass0 (Z.cons (Z.lc (own := [("thing", 4)]) rfl S.nd (Z.it (Z.vl 0)) (blkOk_by (own := [("thing", 4)]) (N := ["values", "home", "many", "value", "thing"]) (sc := defScope (top 20)) (by decide +kernel)) (fun _ _ _ _ _ => (Z.gl 4 S.nd)) (fun _ _ _ _ _ => Z.tsnil) (fun _ _ _ _ _ => (Z.ix (Z.ixTK (K := K) rfl) (Z.vl 4) Z.int))) Z.nil)))))), ?_⟩
    show tSeq (tIfS _ _ _) _ _ [some v, some (.int hm), some (.int m), none, none] H
    have hA : ∀ {H H' : Hp}, Sm H H' → Tbs TS H → Tbs TS H' := fun s a => a.sm s
    refine st.cond (b := !(isiB "tuple" "tuple") || decide ((40 : Int) < (ts.length : Int))) (ev.tOr (ev.tNot (ev.tB (N := N) (ev.isV (K := K) (R := aTh) (N := N) (ev.var (n := 0) rfl ft)))) fun _ => ev.tTest (N := N) (ev.gt (ev.lenV (K := K) (R := aTh) (ev.var (n := 0) rfl ft)) (fun H s Q k => k _ _ (.refl _) rfl))) (fun h => absurd h (by
      rw [isiTT, decide_eq_false (show ¬ (40 : Int) < (ts.length : Int) by have := gt.l; omega)]
      decide)) (fun _ H1 s1 => ?_)
    try unfold tNext
    try dsimp only
    have tk1 := tk.sm s1
    have ht1 := ht.sm s1
    have ft1 := (aV aTh).sm s1 ft
    show tSeq (tIfS _ _ _) _ _ [some v, some (.int hm), some (.int m), none, none] H1
    refine st.condU (C := TS) (A := Tbs TS) (b := !qu true (fun _ => true) (fun _ => true) ts) (EB.not (EV.val (EX.quX (c := true) (R := aTh) (N := N) (fun _ => true) (fun _ => true) hA hT (fun a => a tb hT) (fun a g t => a.one g t) (fun H1 g1 a1 => evC.tup (K := K) (ev.var (n := 0) rfl ((aV aTh).kp (g1.kpS ht1.tbl) ft1)) a1) (fun x hx xv H' g' a' rx kk h' => h' [some v, some (.int hm), some (.int m), some xv, none] rfl ev.tyes fun _ => EX.call (fun H2 g2 a2 => ev.arg3 (P1 := aTh.r N x) (P2 := fun v _ => v = .int hm) (P3 := fun v _ => v = .int m) (ev.var (n := 3) rfl (aTh.kp (g2.kpS a'.tbl) rx)) (ev.raw (n := 1) rfl) (ev.raw (n := 2) rfl) (fun _ _ _ s z => aTh.sm s z) fun _ _ _ _ z => z) hA fun vs H2 g2 a2 ⟨b1, b2, b3, e, z1, z2, z3⟩ Q k => ⟨N, x, hm, m, b1, by rw [e, z2, z3]; rfl, (tk1.go g').go g2, a2, z1, gt.t x hx, fun H' g' a' => k _ H' g' a' rfl⟩)))) ht1 (fun h => absurd h (by rw [qu_all fun _ _ => rfl]; decide)) (fun _ H2 g2 a2 => ?_)
    try unfold tNext
    try dsimp only
    have tk2 := tk1.go g2
    have ft2 := (aV aTh).kp (g2.kpS ht1.tbl) ft1
    show tRet (tCall (spRises TS) _ _ _) _ [some v, some (.int hm), some (.int m), none, none] H2
    have eC : ∀ {H3 : Hp}, Go TS H2 H3 → Ev (tLc (iTup K (tVar 0)) (gName 4) tYes (tOp (rIxT K) (tVar 4) (tC (.int (0 : Int)))) [4]) [some v, some (.int hm), some (.int m), none, none] H3 ((aL aN).r N (ts.map (·.1))) := fun {H3} g3 => (ev.lcV (K := K) (R := aTh) (S := aN) (p := fun _ => true) (f := fun t : Thing => t.1) (tk2.go g3) (ev.var (n := 0) rfl ((aV aTh).kp (g3.kpS a2.tbl) ft2)) (fun t ht N' H3 gN s3 tk5 tv rt kk h' => h' [some v, some (.int hm), some (.int m), none, some tv] rfl ev.tyes fun _ => ev.ix (n := 0) (z := t) (R := aN) ev.At.first (ev.var (n := 4) (R := aTh) rfl rt)) (Nat.lt_of_le_of_lt (m := 40) gt.l (by decide))).imp fun v' H'' _ z => by
      rw [List.filter_eq_self.mpr fun _ _ => rfl] at z
      exact z.rl
    refine st.retU (C := TS) (A := Tbs TS) (b := risesC (ts.map (·.1))) (EX.call (fun H3 g3 a3 => ev.arg1 (P := (aL aN).r N (ts.map (·.1))) (eC g3)) hA fun vs H3 g3 a3 ⟨b1, e, z1⟩ Q k => ⟨N, ts.map (·.1), b1, by rw [e]; rfl, tk2.go g3, a3, z1, fun H' g' a' => k _ H' g' a' rfl⟩) a2 fun H3 g3 a3 => ?_
    rw [gt.r]
    exact k H3 (((Go.of s1).trans g2).trans g3) a3
def spPar (TS : Sets) : Sp := fun vs H Q _ => ∃ (N : Sets) (ho : House) (h m : Int) (v : V), vs = [v, .int h, .int m] ∧ Trk N H ∧ Tbs TS H ∧ aHo.r N ho v H ∧ GoodHo m h ho ∧ ∀ H', Go TS H H' → Tbs TS H' → Q (.bl true) H'
theorem scPar : FnScope ["value", "home", "many"] ["value", "home", "many"] (defScope (top 21)) := ⟨rfl, rfl, rfl, by decide +kernel, rfl, by decide +kernel, by decide +kernel⟩
theorem ok_par {f : Addr} {fd : FuncData} (F : Fun K "is_part" "is_part" (top 21) f fd) (U : LoA K mg base TS) : FnOk P w K mg base CX0 9 f fd ["value", "home", "many"] (spPar TS) := by
  have S := scPar
  have B := U.B
  obtain ⟨f1, fd1, Dare_hands⟩ := U.hds
  obtain ⟨f2, fd2, tb2, Dare_things, T2, h2⟩ := U.ths
  obtain ⟨f3, fd3, Dis_sized⟩ := U.siz
  have Gare_hands := (ok_hds (P := P) (w := w) Dare_hands.F U).mono (show 6 ≤ 8 by decide)
  have Gare_things := ok_ths (P := P) (w := w) Dare_things.F T2 h2 U
  have Gis_sized := (ok_sized (P := P) (w := w) (base := base) Dis_sized.F B).mono (show 1 ≤ 8 by decide)
  refine F.okZ scPar (fun vs H Q E h => ?_) (fun cdv A outer s H vs Q E hr h => ?_)
  · obtain ⟨N, ho, hm, m, v, rfl, _⟩ := h
    rfl
  · obtain ⟨N, ho, hm, m, v, rfl, tk, ht, ft, gt, k⟩ := h
    refine ⟨_, (Z.last (Z.ret (Z.and (Z.cf Gis_sized hr Dis_sized.m Dis_sized.F.kp Dis_sized.b pass0 (Z.cons (Z.vl 0) (Z.cons Z.int Z.nil))) (Z.and (Z.cf Gare_hands hr Dare_hands.m Dare_hands.F.kp Dare_hands.b pass0 (Z.cons (Z.ix Z.ixT (Z.vl 0) Z.int) (Z.cons (Z.vl 2) Z.nil))) (Z.one (Z.cf Gare_things hr Dare_things.m Dare_things.F.kp Dare_things.b pass0 (Z.cons (Z.ix Z.ixT (Z.vl 0) Z.int) (Z.cons (Z.vl 1) (Z.cons (Z.vl 2) Z.nil))))))))), ?_⟩
    show tRet _ _ [some v, some (.int hm), some (.int m)] H
    have hA : ∀ {H H' : Hp}, Sm H H' → Tbs TS H → Tbs TS H' := fun s a => a.sm s
    obtain ⟨a, us, ea, ha, hl⟩ := aP_out ft
    obtain ⟨ys, hys, hn⟩ := gt.hs
    refine st.retU (C := TS) (A := Tbs TS) (b := true && ((fldsC m (ho.1.take 4) && nmsC m ys) && true)) (EV.and (EV.of hA fun H1 g1 a1 => ev_sz (N := none') (n := 2) (a := a) (us := us) (by rw [ea]; exact ev.raw (n := 0) rfl) (g1.getS ht.tbl (fun _ z => nomatch z) ha) hl) fun _ => EV.and (EX.call (fun H2 g2 a2 => ev.arg2 (P1 := aF.r N ho.1) (P2 := fun v _ => v = .int m) (ev.ix (n := 0) (z := ho) (R := aF) ev.At.first (ev.var (n := 0) (R := aHo) rfl (aHo.kp (g2.kpS ht.tbl) ft))) (ev.raw (n := 2) rfl) fun _ _ _ s z => aF.sm s z) hA fun vs H2 g2 a2 ⟨b1, b2, e, z1, z2⟩ Q k => ⟨N, ho.1, ys, m, b1, by rw [e, z2]; rfl, tk.go g2, a2, z1, gt.lo, gt.hi, hys, fun H' g' a' => k _ H' g' a' rfl⟩) fun _ => EX.call (fun H2 g2 a2 => ev.arg3 (P1 := (aV aTh).r N ho.2) (P2 := fun v _ => v = .int hm) (P3 := fun v _ => v = .int m) (ev.ix (n := 1) (z := ho) (R := aV aTh) (ev.At.next ev.At.last) (ev.var (n := 0) (R := aHo) rfl (aHo.kp (g2.kpS ht.tbl) ft))) (ev.raw (n := 1) rfl) (ev.raw (n := 2) rfl) (fun _ _ _ s z => (aV aTh).sm s z) fun _ _ _ _ z => z) hA fun vs H2 g2 a2 ⟨b1, b2, b3, e, z1, z2, z3⟩ Q k => ⟨N, ho.2, hm, m, b1, by rw [e, z2, z3]; rfl, tk.go g2, a2, z1, gt.ts, fun H' g' a' => k _ H' g' a' rfl⟩) ht fun H' g' a' => ?_
    rw [gt.fl, hn]
    exact k H' g' a'
def spLet (TS : Sets) : Sp := fun vs H Q _ => ∃ (N : Sets) (l : Letr) (m : Int) (v : V), vs = [v, .int m] ∧ Trk N H ∧ Tbs TS H ∧ aLe.r N l v H ∧ GoodLe m l ∧ ∀ H', Go TS H H' → Tbs TS H' → Q (.bl true) H'
theorem scLet : FnScope ["value", "many", "sender", "to", "names"] ["value", "many"] (defScope (top 22)) := ⟨rfl, rfl, rfl, by decide +kernel, rfl, by decide +kernel, by decide +kernel⟩
theorem ok_let {f : Addr} {fd : FuncData} (F : Fun K "is_letter" "is_letter" (top 22) f fd) (U : LoA K mg base TS) : FnOk P w K mg base CX0 6 f fd ["value", "many"] (spLet TS) := by
  have S := scLet
  have B := U.B
  obtain ⟨f1, fd1, tb1, Dare_names, T1, h1⟩ := U.nms
  obtain ⟨f2, fd2, Dis_house⟩ := U.hou
  obtain ⟨f3, fd3, Dis_sized⟩ := U.siz
  have Gare_names := ok_nms (P := P) (w := w) Dare_names.F T1 h1 U
  have Gis_house := (ok_hs (P := P) (w := w) Dis_house.F U).mono (show 2 ≤ 5 by decide)
  have Gis_sized := (ok_sized (P := P) (w := w) (base := base) Dis_sized.F B).mono (show 1 ≤ 5 by decide)
  refine F.okZ scLet (fun vs H Q E h => ?_) (fun cdv A outer s H vs Q E hr h => ?_)
  · obtain ⟨N, l, m, v, rfl, _⟩ := h
    rfl
  · obtain ⟨N, l, m, v, rfl, tk, ht, ft, gt, k⟩ := h
    refine ⟨_, (Z.seq (Z.cond (Z.tnot (Z.val (Z.cf Gis_sized hr Dis_sized.m Dis_sized.F.kp Dis_sized.b pass0 (Z.cons (Z.vl 0) (Z.cons Z.int Z.nil))))) (Z.last (Z.ret Z.bl)) Z.snil)
      (Z.seq (Z.asg (Z.vl 0) (Z.gtup (n := 3) rfl (Z.gcons (Z.gl 2 S.nd) (Z.gcons (Z.gl 3 S.nd) (Z.gcons (Z.gl 4 S.nd) Z.gnil))) (by kernel_rfl)))
      (Z.seq (Z.cond (Z.pw (Z.tor (Z.tnot (Z.val (Z.cf Gis_house hr Dis_house.m Dis_house.F.kp Dis_house.b pass0 (Z.cons (Z.vl 2) (Z.cons (Z.vl 1) Z.nil))))) (Z.tor (Z.tnot (Z.val (Z.cf Gis_house hr Dis_house.m Dis_house.F.kp Dis_house.b pass0 (Z.cons (Z.vl 3) (Z.cons (Z.vl 1) Z.nil))))) (Z.or1 (Z.tcmp Z.eq (Z.vl 2) (Z.vl 3)))))) (Z.last (Z.ret Z.bl)) Z.snil)
      (Z.last (Z.ret (Z.and (Z.cf Gare_names hr Dare_names.m Dare_names.F.kp Dare_names.b pass0 (Z.cons (Z.vl 4) (Z.cons (Z.vl 1) Z.nil))) (Z.one (Z.cmp Z.gt (Z.cb Z.len B.len (Z.cons (Z.vl 4) Z.nil)) Z.int)))))))), ?_⟩
    show tSeq (tIfS _ _ _) _ _ [some v, some (.int m), none, none, none] H
    have hA : ∀ {H H' : Hp}, Sm H H' → Tbs TS H → Tbs TS H' := fun s a => a.sm s
    obtain ⟨a, us, rfl, ha, hl⟩ := aP3_out ft
    refine st.cond (b := !true) (ev.tNot (ev.tB (N := N) (ev_sz (n := 3) (ev.raw (n := 0) rfl) ha hl))) (fun h => nomatch h) (fun _ H1 s1 => ?_)
    try unfold tNext
    try dsimp only
    have tk1 := tk.sm s1
    have ht1 := ht.sm s1
    show tSeq (tAsg (tVar 0) _) _ _ [some (.ref a), some (.int m), none, none, none] H1
    refine asgE (ev.var (n := 0) (R := aLe) rfl (aLe.sm s1 ft)) fun v' H2 s2 r2 => ?_
    have tk2 := tk1.sm s2
    have ht2 := ht1.sm s2
    have g2 : Go TS H H2 := .of (s1.trans s2)
    refine st.unpack r2 (fun vs tt => st.gcons tt fun v1 r1 p1 q1 => ?_) rfl
    refine st.gcons q1 fun v3 r3 p3 q3 => ?_
    refine st.glast q3 fun v4 p4 => st.gend ?_
    cases (show v1 = .int l.1 from p1)
    cases (show v3 = .int l.2.1 from p3)
    have hs : ∀ {H' : Hp} {i : Nat} {j : Int}, ([some (.ref a), some (.int m), some (.int l.1), some (.int l.2.1), some v4] : L2.St)[i]? = some (some (.int j)) → isHs m j = true → Ev (tCall spHs [] E0 (tCons (tVar i) (tCons (tVar 1) tNil))) [some (.ref a), some (.int m), some (.int l.1), some (.int l.2.1), some v4] H' (aB.r N true) := fun {H' i j} hi hj => ev.call (ev.arg2 (P1 := fun v _ => v = .int j) (P2 := fun v _ => v = .int m) (ev.raw hi) (ev.raw (n := 1) rfl) fun _ _ _ _ z => z) fun vs H4 s4 ⟨b1, b2, e, z1, z2⟩ Q k => ⟨j, m, by rw [e, z1, z2]; rfl, fun H' s => k _ H' s (by rw [hj]; rfl)⟩
    show tSeq (tIfS _ _ _) _ _ [some (.ref a), some (.int m), some (.int l.1), some (.int l.2.1), some v4] H2
    refine st.cond (b := !true || (!true || decide (l.1 = l.2.1))) (ev.tOr (ev.tNot (ev.tB (N := N) (hs (i := 2) rfl gt.s))) fun _ => ev.tOr (ev.tNot (ev.tB (N := N) (hs (i := 3) rfl gt.t))) fun _ => ev.tTest (N := N) (ev.eqI (ev.var (n := 2) (R := aI) rfl rfl) (ev.var (n := 3) (R := aI) rfl rfl))) (fun h => absurd h (by rw [decide_eq_false gt.ne]; decide)) (fun _ H3 s3 => ?_)
    try unfold tNext
    try dsimp only
    have ht3 := ht2.sm s3
    have p4' := (aV aN).sm s3 p4
    show tRet (tAndV (tCall (spNms TS) _ _ _) _) _ [some (.ref a), some (.int m), some (.int l.1), some (.int l.2.1), some v4] H3
    refine st.retU (C := TS) (A := Tbs TS) (b := nmsC m l.2.2 && decide ((0 : Int) < (l.2.2.length : Int))) (EV.and (EX.call (fun H4 g4 a4 => ev.arg2 (P1 := (aV aN).r N l.2.2) (P2 := fun v _ => v = .int m) (ev.var (n := 4) rfl ((aV aN).kp (g4.kpS ht3.tbl) p4')) (ev.raw (n := 1) rfl) fun _ _ _ s z => (aV aN).sm s z) hA fun vs H4 g4 a4 ⟨b1, b2, e, z1, z2⟩ Q k => ⟨N, l.2.2, m, b1, by rw [e, z2]; rfl, (tk2.sm s3).go g4, a4, z1, fun H' g' a' => k _ H' g' a' rfl⟩) fun _ => EV.of hA fun H4 g4 a4 => ev.gt (ev.lenV (K := K) (R := aN) (N := none') (ev.var (n := 4) rfl ((aV aN).any ((aV aN).kp (g4.kpS ht3.tbl) p4')))) ev.int) ht3 fun H' g' a' => ?_
    rw [gt.n, decide_eq_true (show (0 : Int) < (l.2.2.length : Int) by have := gt.p; omega)]
    exact k H' ((g2.sm s3).trans g') a'
end
end K02
end
section
set_option Elab.async false
set_option linter.all false
set_option maxRecDepth 100000
namespace K02
open PySem L2 KB TV
set_option autoImplicit false
def lettersOf (p : Pict) : List (List Nm) := p.2.map fun l => l.2.2
section
variable {P : Program} {w : World} {K : PySem.W.Frag} {mg : Str → Option Value} {base : Heap} {C : Addr} {TS : Sets}
def spLetN : Sp := fun vs H Q _ => ∃ (N : Sets) (p : Pict) (v : V), vs = [v] ∧ Trk N H ∧ aPi.r N p v H ∧ p.2.length < 1000 ∧ ∀ v' H', Sm H H' → (aV (aV aN)).r N (lettersOf p) v' H' → Q v' H'
theorem scLetN : FnScope ["picture", "sender", "to", "names"] ["picture"] (defScope (top 25)) := ⟨rfl, rfl, rfl, by decide +kernel, rfl, by decide +kernel, by decide +kernel⟩
theorem ok_letn {f : Addr} {fd : FuncData} (F : Fun K "letter_names" "letter_names" (top 25) f fd) (B : Bt mg) : FnOk P w K mg base CX0 1 f fd ["picture"] spLetN := by
  have S := scLetN
  refine F.okZ scLetN (fun vs H Q E h => ?_) (fun cdv A outer s H vs Q E hr h => ?_)
  · obtain ⟨N, p, v, rfl, _⟩ := h
    rfl
  · obtain ⟨N, p, v, rfl, tk, fp, hl, k⟩ := h
    refine ⟨_, (Z.last (Z.ret (Z.ct Z.tupO B.tuple (Z.cons (Z.lc (own := [("sender", 1), ("to", 2), ("names", 3)]) (g := (gTup K 3 (gCons (gName 1) (gCons (gName 2) (gCons (gName 3) gNil))))) rfl S.nd (Z.it (Z.ix Z.ixT (Z.vl 0) Z.int)) (blkOk_by (own := [("sender", 1), ("to", 2), ("names", 3)]) (N := ["picture", "sender", "to", "names"]) (sc := defScope (top 25)) (by decide +kernel)) (fun _ _ _ _ _ => (Z.gtup (n := 3) rfl (Z.gcons (Z.gl 1 S.nd) (Z.gcons (Z.gl 2 S.nd) (Z.gcons (Z.gl 3 S.nd) Z.gnil))) (by kernel_rfl))) (fun _ _ _ _ _ => Z.tsnil) (fun _ _ _ _ _ => (Z.vl 3))) Z.nil)))), ?_⟩
    show tRet _ _ [some v, none, none, none] H
    refine st.ret (ev.tupL tk (ev.lcV (R := aLe) (S := aV aN) (p := fun _ => true) (f := fun l => l.2.2) tk (ev.ix (n := 1) (ev.At.next ev.At.last) (ev.var rfl fp)) (fun x hx N' H1 gN s1 tk1 xv r kk h' => ?_) (Nat.lt_of_lt_of_le hl (by decide)))) fun v' H' s r => ?_
    · refine st.unpack r (fun vs t => st.gcons t fun v1 r1 p1 q1 => ?_) rfl
      refine st.gcons q1 fun v2 r2 p2 q2 => ?_
      refine st.glast q2 fun v3 p3 => st.gend (h' [some v, some v1, some v2, some v3] rfl ev.tyes fun _ => ev.var rfl p3)
    · refine k v' H' s ?_
      have e : List.filter (fun _ => true) (id p.2) = p.2 := List.filter_eq_self.mpr fun _ _ => rfl
      rw [e] at r
      exact r
def spFrm (TS : Sets) : Sp := fun vs H Q _ => ∃ (N : Sets) (p : Pict) (v : V), vs = [v] ∧ Trk N H ∧ Tbs TS H ∧ aPi.r N p v H ∧ GoodPic p ∧ ∀ H', Go TS H H' → Tbs TS H' → Q (.bl true) H'
theorem scFrm : FnScope ["picture", "houses", "letters", "many", "home", "part", "letter"] ["picture"] (defScope (top 23)) := ⟨rfl, rfl, rfl, by decide +kernel, rfl, by decide +kernel, by decide +kernel⟩
theorem ok_frm {f tb : Addr} {fd : FuncData} (F : Fun K "is_of_form" "is_of_form" (top 23) f fd) (T : GTab base mg fd tb) (hT : TS tb) (U : LoA K mg base TS) : FnOk P w K mg base CX0 11 f fd ["picture"] (spFrm TS) := by
  have S := scFrm
  have hbm := T.bm
  have B0 := U.B
  have B := U.C
  obtain ⟨f1, fd1, Dis_part⟩ := U.par
  obtain ⟨f2, fd2, Dis_letter⟩ := U.let_
  obtain ⟨f3, fd3, Dis_sized⟩ := U.siz
  obtain ⟨t8, hM⟩ := U.houses
  have GBis_part := ok_par (P := P) (w := w) Dis_part.F U
  have GBis_letter := (ok_let (P := P) (w := w) Dis_letter.F U).mono (show 6 ≤ 9 by decide)
  have Gis_sized := (ok_sized (P := P) (w := w) (base := base) Dis_sized.F B0).mono (show 1 ≤ 10 by decide)
  refine F.okG T scFrm (fun vs H Q E h => ?_) (fun c hcd A outer s H vs Q E hr h => ?_)
  · obtain ⟨N, p, v, rfl, _⟩ := h
    rfl
  · obtain ⟨N, p, v, rfl, tk, ht, fp, gp, k⟩ := h
    refine ⟨_, (Z.seq (Z.cond (Z.tnot (Z.val (Z.cf Gis_sized hr Dis_sized.m Dis_sized.F.kp Dis_sized.b pass0 (Z.cons (Z.vl 0) (Z.cons Z.int Z.nil))))) (Z.last (Z.ret Z.bl)) Z.snil)
      (Z.seq (Z.asg (Z.vl 0) (Z.gtup (n := 2) rfl (Z.gcons (Z.gl 1 S.nd) (Z.gcons (Z.gl 2 S.nd) Z.gnil)) (by kernel_rfl)))
      (Z.seq (Z.cond (Z.pw (Z.tor (Z.tnot (Z.val (Z.cb Z.isi B.isi (Z.cons (Z.vl 1) (Z.cons (Z.ty "tuple" B.tuple) Z.nil))))) (Z.or1 (Z.tnot (Z.val (Z.cb Z.isi B.isi (Z.cons (Z.vl 2) (Z.cons (Z.ty "tuple" B.tuple) Z.nil)))))))) (Z.last (Z.ret Z.bl)) Z.snil)
      (Z.seq (Z.stc 3 S.nd (Z.cb Z.len B.len (Z.cons (Z.vl 1) Z.nil)))
      (Z.seq (Z.cond (Z.tnot (Z.tchain Z.le Z.le Z.int (Z.vc 3) (Z.glob (.int 8) hM ⟨t8, rfl⟩))) (Z.last (Z.ret Z.bl)) Z.snil)
      (Z.seq (Z.cond (Z.tnot (Z.val (Z.allQ (own := [("home", 4), ("part", 5)]) (g := (gTup K 2 (gCons (gName 4) (gCons (gName 5) gNil)))) rfl hcd hbm hr B.all rfl S.nd (Z.enmT B.enumerate (Z.cons (Z.vl 1) Z.nil)) (blkOk_by (own := [("home", 4), ("part", 5)]) (N := ["picture", "houses", "letters", "many", "home", "part", "letter"]) (sc := defScope (top 23)) (by decide +kernel)) (fun _ _ _ _ _ => (Z.gtup (n := 2) rfl (Z.gcons (Z.gl 4 S.nd) (Z.gcons (Z.gl 5 S.nd) Z.gnil)) (by kernel_rfl))) (fun _ _ _ _ _ => Z.tsnil) (fun _ _ _ _ _ => (Z.cf GBis_part (room_gen hr _) Dis_part.m Dis_part.F.kp Dis_part.b pass0 (Z.cons (Z.vl 5) (Z.cons (Z.vl 4) (Z.cons (Z.vf 3) Z.nil)))))))) (Z.last (Z.ret Z.bl)) Z.snil)
      (Z.last (Z.ret (Z.allQ (own := [("letter", 6)]) rfl hcd hbm hr B.all rfl S.nd (Z.it (Z.vl 2)) (blkOk_by (own := [("letter", 6)]) (N := ["picture", "houses", "letters", "many", "home", "part", "letter"]) (sc := defScope (top 23)) (by decide +kernel)) (fun _ _ _ _ _ => (Z.gl 6 S.nd)) (fun _ _ _ _ _ => Z.tsnil) (fun _ _ _ _ _ => (Z.cf GBis_letter (room_gen hr _) Dis_letter.m Dis_letter.F.kp Dis_letter.b pass0 (Z.cons (Z.vl 6) (Z.cons (Z.vf 3) Z.nil))))))))))))), ?_⟩
    show tSeq (tIfS _ _ _) _ _ [some v, none, none, none, none, none, none] H
    have hA : ∀ {H H' : Hp}, Sm H H' → Tbs TS H → Tbs TS H' := fun s a => a.sm s
    obtain ⟨a, us, ea, ha, hl⟩ := aP_out fp
    subst ea
    refine st.cond (b := !true) (ev.tNot (ev.tB (N := N) (ev_sz (n := 2) (ev.raw (n := 0) rfl) ha hl))) (fun h => nomatch h) (fun _ H1 s1 => ?_)
    try unfold tNext
    try dsimp only
    show tSeq (tAsg (tVar 0) _) _ _ [some (.ref a), none, none, none, none, none, none] H1
    refine asgE (ev.var (n := 0) (R := aPi) rfl (aPi.sm s1 fp)) fun v' H2 s2 r2 => ?_
    have tk2 := (tk.sm s1).sm s2
    have ht2 := (ht.sm s1).sm s2
    have g2 : Go TS H H2 := .of (s1.trans s2)
    refine st.unpack r2 (fun vs tt => st.gcons tt fun v1 r1 p1 q1 => ?_) rfl
    refine st.glast q1 fun v3 p3 => st.gend ?_
    show tSeq (tIfS _ _ _) _ _ [some (.ref a), some v1, some v3, none, none, none, none] H2
    refine st.cond (b := !(isiB "tuple" "tuple") || !(isiB "tuple" "tuple")) (ev.tOr (ev.tNot (ev.tB (N := N) (ev.isV (K := K) (R := aHo) (N := N) (ev.var (n := 1) rfl p1)))) fun _ => ev.tNot (ev.tB (N := N) (ev.isV (K := K) (R := aLe) (N := N) (ev.var (n := 2) rfl p3)))) (fun h => absurd h (by rw [isiTT]; decide)) (fun _ H3 s3 => ?_)
    try unfold tNext
    try dsimp only
    show tSeq (tAsg _ (gName 3)) _ _ [some (.ref a), some v1, some v3, none, none, none, none] H3
    refine st.set (ev.lenV (K := K) (R := aHo) (N := N) (xs := p.1) (ev.var (n := 1) rfl ((aV aHo).sm s3 p1))) fun mv H4 s4 em => ?_
    cases (show mv = .int (p.1.length : Int) from em)
    have s34 := s3.trans s4
    have tk4 := tk2.sm s34
    have ht4 := ht2.sm s34
    have p1' := (aV aHo).sm s34 p1
    have p3' := (aV aLe).sm s34 p3
    have g4 := g2.sm s34
    generalize hm : (p.1.length : Int) = m at gp ⊢
    show tSeq (tIfS (tNot _) _ _) _ _ [some (.ref a), some v1, some v3, some (.int m), none, none, none] H4
    refine st.cond (b := !(decide ((1 : Int) ≤ m) && decide (m ≤ 8))) (ev.tNot (ev.tTest (N := N) (ev.chI (f := fun i j => decide (i ≤ j)) (f' := fun i j => decide (i ≤ j)) (i := 1) (j := m) (k := 8) ev.int (ev.var (n := 3) (R := aI) rfl rfl) (fun H s Q k => k _ _ (.refl _) rfl)))) (fun h => absurd h (by
      rw [decide_eq_true (show (1 : Int) ≤ m by have := gp.lo; omega), decide_eq_true (show m ≤ 8 by have := gp.hi; omega)]
      decide)) (fun _ H5 s5 => ?_)
    try unfold tNext
    try dsimp only
    have tk5 := tk4.sm s5
    have ht5 := ht4.sm s5
    have p15 := (aV aHo).sm s5 p1'
    have p35 := (aV aLe).sm s5 p3'
    have g5 := g4.sm s5
    have gph : ∀ z ∈ enumI 0 p.1, GoodHo m z.1 z.2 := fun z hz => by rw [← hm]; exact gp.h z hz
    have gpl : ∀ l ∈ p.2, GoodLe m l := fun l hl => by rw [← hm]; exact gp.l l hl
    show tSeq (tIfS _ _ _) _ _ [some (.ref a), some v1, some v3, some (.int m), none, none, none] H5
    refine st.condU (C := TS) (A := Tbs TS) (b := !qu true (fun _ => true) (fun _ => true) (enumI 0 p.1)) (EB.not (EV.val (EX.quX (c := true) (R := aP aI aHo) (N := N) (fun _ => true) (fun _ => true) hA hT (fun a => a tb hT) (fun a g t => a.one g t) (fun H1 g1 a1 => evC.enumT (K := K) (R := aHo) (ev.var (n := 1) rfl ((aV aHo).kp (g1.kpS ht5.tbl) p15)) (tk5.go g1) a1) (fun x hx xv H' g' a' rx kk h' => ?_)))) ht5 (fun h => absurd h (by rw [qu_all fun _ _ => rfl]; decide)) (fun _ H6 g6 a6 => ?_)
    · refine st.unpack rx (fun vs tt => st.gcons tt fun w1 r1 z1 y1 => ?_) rfl
      refine st.glast y1 fun w2 z2 => st.gend ?_
      cases (show w1 = .int x.1 from z1)
      exact h' [some (.ref a), some v1, some v3, some (.int m), some (.int x.1), some w2, none] rfl ev.tyes fun _ => EX.call (fun H2 g2 a2 => ev.arg3 (P1 := aHo.r N x.2) (P2 := fun v _ => v = .int x.1) (P3 := fun v _ => v = .int m) (ev.var (n := 5) rfl (aHo.kp (g2.kpS a'.tbl) z2)) (ev.raw (n := 4) rfl) (ev.raw (n := 3) rfl) (fun _ _ _ s z => aHo.sm s z) fun _ _ _ _ z => z) hA fun vs H2 g2 a2 ⟨b1, b2, b3, e, u1, u2, u3⟩ Q k => ⟨N, x.2, x.1, m, b1, by rw [e, u2, u3]; rfl, (tk5.go g').go g2, a2, u1, gph x hx, fun H' g' a' => k _ H' g' a' rfl⟩
    try unfold tNext
    try dsimp only
    have p36 := (aV aLe).kp (g6.kpS ht5.tbl) p35
    have tk6 := tk5.go g6
    show tRet _ _ [some (.ref a), some v1, some v3, some (.int m), none, none, none] H6
    refine st.retU (C := TS) (A := Tbs TS) (b := qu true (fun _ => true) (fun _ => true) p.2) (EX.quX (c := true) (R := aLe) (N := N) (fun _ => true) (fun _ => true) hA hT (fun a => a tb hT) (fun a g t => a.one g t) (fun H1 g1 a1 => evC.tup (K := K) (R := aLe) (ev.var (n := 2) rfl ((aV aLe).kp (g1.kpS a6.tbl) p36)) a1) (fun x hx xv H' g' a' rx kk h' => h' [some (.ref a), some v1, some v3, some (.int m), none, none, some xv] rfl ev.tyes fun _ => EX.call (fun H2 g2 a2 => ev.arg2 (P1 := aLe.r N x) (P2 := fun v _ => v = .int m) (ev.var (n := 6) rfl (aLe.kp (g2.kpS a'.tbl) rx)) (ev.raw (n := 3) rfl) fun _ _ _ s z => aLe.sm s z) hA fun vs H2 g2 a2 ⟨b1, b2, e, u1, u2⟩ Q k => ⟨N, x, m, b1, by rw [e, u2]; rfl, (tk6.go g').go g2, a2, u1, gpl x hx, fun H' g' a' => k _ H' g' a' rfl⟩)) a6 fun H7 g7 a7 => ?_
    rw [qu_all fun _ _ => rfl]
    exact k H7 ((g5.trans g6).trans g7) a7
end
end K02
end
section
set_option Elab.async false
set_option linter.all false
set_option maxRecDepth 100000
namespace K02
open PySem L2 KB TV
set_option autoImplicit false
structure Closed2 (p : Pict) (ks : List Nm) : Prop where
  h : ∀ h ∈ p.1, ∀ q, some q ∈ h.1 → q ∈ ks
  f : ∀ h ∈ p.1, ∀ t ∈ h.2, ∀ q, some q ∈ t.2.2 → q ∈ ks
  l : ∀ l ∈ p.2, ∀ q ∈ l.2.2, q ∈ ks
structure Bnd (p : Pict) : Prop where
  p1 : p.1.length ≤ 8
  h : ∀ h ∈ p.1, h.1.length ≤ 10 ∧ h.2.length ≤ 40 ∧ ∀ t ∈ h.2, t.2.2.length ≤ 4
  p2 : p.2.length < 1000
  l : ∀ l ∈ p.2, l.2.2.length < 1000
section
variable {P : Program} {w : World} {K : PySem.W.Frag} {mg : Str → Option Value} {base : Heap} {C : Addr} {TS : Sets}
def Oks (ks : List Nm) (os : List (Option Nm)) : Prop := ∀ q, some q ∈ os → q ∈ ks
theorem Oks.app {ks : List Nm} {a b : List (Option Nm)} (x : Oks ks a) (y : Oks ks b) : Oks ks (a ++ b) := fun q h => (List.mem_append.mp h).elim (x q) (y q)
def spPtr : Sp := fun vs H Q _ => ∃ (N : Sets) (p : Pict) (ks : List Nm) (v : V), vs = [v] ∧ Trk N H ∧ aPi.r N p v H ∧ Bnd p ∧ Closed2 p ks ∧ ∀ a H' os, Sm H H' → (aL (aO aN)).r N os (.ref a) H' → Oks ks os → os.length ≤ 2000000 → Q (.ref a) H'
theorem scPtr : FnScope ["picture", "found", "hands", "things", "name", "sort", "fields", "names"] ["picture"] (defScope (top 26)) := ⟨rfl, rfl, rfl, by decide +kernel, rfl, by decide +kernel, by decide +kernel⟩
theorem ok_ptr {f f1 : Addr} {fd fd1 : FuncData} (F : Fun K "pointers" "pointers" (top 26) f fd) (B : Bt mg) (Dletter_names : Dn K mg "letter_names" (top 25) ["picture"] f1 fd1) : FnOk P w K mg base CX0 2 f fd ["picture"] spPtr := by
  have S := scPtr
  have Gletter_names := ok_letn (P := P) (w := w) (base := base) Dletter_names.F B
  refine F.okZ scPtr (fun vs H Q E h => ?_) (fun cdv A outer s H vs Q E hr h => ?_)
  · obtain ⟨N, p, ks, v, rfl, _⟩ := h
    rfl
  · obtain ⟨N, p, ks, v, rfl, tk, fp, bd, cl, k⟩ := h
    refine ⟨_, (Z.seq (Z.stl 1 S.nd (Z.lst Z.nil))
      (Z.seq (Z.loop PassesOwn.never rfl (Z.it (Z.ix Z.ixT (Z.vl 0) Z.int)) (Z.gtup (n := 2) rfl (Z.gcons (Z.gl 2 S.nd) (Z.gcons (Z.gl 3 S.nd) Z.gnil)) (by kernel_rfl)) (Z.seq (Z.expr (Z.bm PySem.F.plainAttrs_list PySem.F.slot_list_extend PySem.F.type_list_extend ⟨mt_extendT⟩ (Z.vl 1) (Z.cons (Z.vl 2) Z.nil)))
      (Z.last (Z.loop PassesOwn.never rfl (Z.it (Z.vl 3)) (Z.gtup (n := 3) rfl (Z.gcons (Z.gl 4 S.nd) (Z.gcons (Z.gl 5 S.nd) (Z.gcons (Z.gl 6 S.nd) Z.gnil))) (by kernel_rfl)) (Z.last (Z.expr (Z.bm PySem.F.plainAttrs_list PySem.F.slot_list_extend PySem.F.type_list_extend ⟨mt_extendT⟩ (Z.vl 1) (Z.cons (Z.vl 6) Z.nil))))))))
      (Z.seq (Z.loop PassesOwn.never rfl (Z.it (Z.cf Gletter_names hr Dletter_names.m Dletter_names.F.kp Dletter_names.b pass0 (Z.cons (Z.vl 0) Z.nil))) (Z.gl 7 S.nd) (Z.last (Z.expr (Z.bm PySem.F.plainAttrs_list PySem.F.slot_list_extend PySem.F.type_list_extend ⟨mt_extendT⟩ (Z.vl 1) (Z.cons (Z.vl 7) Z.nil)))))
      (Z.last (Z.ret (Z.vl 1)))))), ?_⟩
    show tSeq _ _ _ [some v, none, none, none, none, none, none, none] H
    refine st.newL (N := N) (aO aN) fun c hc cc => ?_
    obtain ⟨N1, hN1⟩ : ∃ N1 : Sets, N1 = fun b => b = c ∨ N b := ⟨_, rfl⟩
    have tk1 : Trk N1 (upd H c (.lst [])) := hN1 ▸ tk.grow nt_lst
    have nc : N1 c := by rw [hN1]; exact .inl rfl
    have gN : ∀ a, N1 a → N a ∨ H a = none := by rw [hN1]; exact grow1 hc
    have gB : ∀ a, N a → N1 a := fun a z => by rw [hN1]; exact .inr z
    have ncN : ¬ N c := tk.no hc
    rw [← hN1] at cc
    have s1 : Sm H (upd H c (.lst [])) := .new hc
    have fp1 := aPi.to fp gN s1
    generalize upd H c (.lst []) = H1 at s1 tk1 cc fp1 ⊢
    have mono : ∀ b, (fun b => b = c) b → N1 b := fun b z => by rw [z]; exact nc
    show tSeq (tFor _ _ _) _ _ [some v, some (.ref c), none, none, none, none, none, none] H1
    refine st.cut (fun σ' H' => ∃ j2 j3 j4 j5 j6 os, σ' = [some v, some (.ref c), j2, j3, j4, j5, j6, none] ∧ Go (fun b => b = c) H1 H' ∧ LC (aO aN) N1 os c H' ∧ os.length ≤ 1600 ∧ Oks ks os) (fun qq hqq => st.forV (C := fun b => b = c) (N := N1) (R := aHo) (ev.ix (n := 0) ev.At.first (ev.var (n := 0) rfl fp1)) mono (fun i σ' H' => ∃ j2 j3 j4 j5 j6 os, σ' = [some v, some (.ref c), j2, j3, j4, j5, j6, none] ∧ LC (aO aN) N1 os c H' ∧ os.length ≤ i * 200 ∧ Oks ks os) (fun H2 s2 => ⟨none, none, none, none, none, [], rfl, cc.sm s2, Nat.zero_le _, fun _ h => nomatch h⟩) (fun i h xv σ' H' hx g r ⟨j2, j3, j4, j5, j6, os, e, cc', hl, hk⟩ => ?_) fun σ' H' g ⟨j2, j3, j4, j5, j6, os, e, cc', hl, hk⟩ => hqq _ _ ⟨j2, j3, j4, j5, j6, os, e, g, cc', Nat.le_trans hl (Nat.mul_le_mul_right 200 bd.p1), hk⟩) ?_
    · subst e
      have hx' : p.1[i]? = some h := hx
      have hin : h ∈ p.1 := List.mem_of_getElem? hx'
      obtain ⟨b1, b2, b3⟩ := bd.h h hin
      have hi8 : i < 8 := Nat.lt_of_lt_of_le (List.getElem?_eq_some_iff.mp hx').1 bd.p1
      refine st.unpack r (fun vs t => st.gcons t fun v1 r1 p1 q1 => ?_) rfl
      refine st.glast q1 fun v2 p2 => st.gend ?_
      show tSeq _ _ _ [some v, some (.ref c), some v1, some v2, j4, j5, j6, none] H'
      refine st.extendT (R := aO aN) (ys := h.1) cc' nc rfl (ev.var (n := 2) rfl p1) (Nat.le_trans (m := 4000) (by omega) (by decide)) fun H2 us s2 cc2 => ?_
      have g2 : Go (fun b => b = c) H' (upd H2 c (.lst us)) := (Go.of s2).up rfl nt_lst
      have p2' := (aV aTh).up (o := .lst us) nc ((aV aTh).sm s2 p2)
      have tk2 : Trk N1 (upd H2 c (.lst us)) := (tk1.go g).go g2
      have hk2 : Oks ks (os ++ h.1) := hk.app (cl.h h hin)
      have hl2 : (os ++ h.1).length ≤ i * 200 + 10 := by rw [List.length_append]; omega
      generalize upd H2 c (.lst us) = H3 at g2 p2' tk2 cc2 ⊢
      generalize os ++ h.1 = os2 at cc2 hk2 hl2
      try dsimp only
      show tFor _ _ _ _ [some v, some (.ref c), some v1, some v2, j4, j5, j6, none] H3
      refine st.forV (C := fun b => b = c) (N := N1) (R := aTh) (ev.var (n := 3) rfl p2') mono (fun j σ' H' => ∃ j4 j5 j6 os, σ' = [some v, some (.ref c), some v1, some v2, j4, j5, j6, none] ∧ LC (aO aN) N1 os c H' ∧ os.length ≤ i * 200 + 10 + j * 4 ∧ Oks ks os) (fun H4 s4 => ⟨j4, j5, j6, os2, rfl, cc2.sm s4, by omega, hk2⟩) (fun j t tv σ' H4 hj g4 rt ⟨j4, j5, j6, os3, e, cc4, hl4, hk4⟩ => ?_) fun σ' H4 g4 ⟨j4, j5, j6, os3, e, cc4, hl4, hk4⟩ => ⟨g2.trans g4, _, _, _, _, _, os3, e, cc4, by
        have e3 : (i + 1) * 200 = i * 200 + 200 := by omega
        omega, hk4⟩
      subst e
      have hj' : h.2[j]? = some t := hj
      have htin : t ∈ h.2 := List.mem_of_getElem? hj'
      have hj40 : j < 40 := Nat.lt_of_lt_of_le (List.getElem?_eq_some_iff.mp hj').1 b2
      have ht4 := b3 t htin
      refine st.unpack rt (fun vs tt => st.gcons tt fun w1 r1 z1 y1 => ?_) rfl
      refine st.gcons y1 fun w2 r2 z2 y2 => ?_
      refine st.glast y2 fun w3 z3 => st.gend ?_
      dsimp only
      refine st.extendT (R := aO aN) (ys := t.2.2) cc4 nc rfl (ev.var (n := 6) rfl z3) (Nat.le_trans (m := 4000) (by omega) (by decide)) fun H5 us5 s5 cc5 => ?_
      exact ⟨(Go.of s5).up rfl nt_lst, _, _, _, os3 ++ t.2.2, rfl, cc5, by rw [List.length_append]; omega, hk4.app (cl.f h hin t htin)⟩
    rintro σ' H2 ⟨j2, j3, j4, j5, j6, os, rfl, g2, cc2, hl2, hk2⟩
    have tk2 := tk1.go g2
    have fp2 := aPi.kp (g2.kp mono) fp1
    have hll : (lettersOf p).length < 1000 := by unfold lettersOf; rw [List.length_map]; exact bd.p2
    show tSeq (tFor _ _ _) _ _ [some v, some (.ref c), j2, j3, j4, j5, j6, none] H2
    refine st.forV (C := fun b => b = c) (N := N1) (R := aV aN) (xs := lettersOf p) (ev.call (P' := (aV (aV aN)).r N1 (lettersOf p)) (ev.arg1 (ev.var (n := 0) rfl fp2)) fun vs H3 s3 ⟨v1, e, p1⟩ Q k => ⟨N1, p, v1, by rw [e]; rfl, tk2.sm s3, p1, bd.p2, fun v' H' s r => k v' H' s r⟩) mono (fun i σ' H' => ∃ j7 os, σ' = [some v, some (.ref c), j2, j3, j4, j5, j6, j7] ∧ LC (aO aN) N1 os c H' ∧ os.length ≤ 1600 + i * 1000 ∧ Oks ks os) (fun H3 s3 => ⟨none, os, rfl, cc2.sm s3, by omega, hk2⟩) (fun i x xv σ' H' hx g r ⟨j7, os3, e, cc3, hl3, hk3⟩ => ?_) fun σ' H' g ⟨j7, os3, e, cc3, hl3, hk3⟩ => ?_
    · subst e
      have hxi : i < 1000 := Nat.lt_trans (List.getElem?_eq_some_iff.mp hx).1 hll
      have hxin : x ∈ lettersOf p := List.mem_of_getElem? hx
      unfold lettersOf at hxin
      obtain ⟨l, hl, rfl⟩ := List.mem_map.mp hxin
      have hbl := bd.l l hl
      dsimp only [gName]
      refine st.extendT (R := aO aN) (ys := l.2.2.map some) cc3 nc rfl ((ev.var (n := 7) (R := aV aN) rfl r).imp fun _ _ _ z => aV_some z) (Nat.le_trans (m := 2000000) (by rw [List.length_map]; omega) (by decide)) fun H5 us5 s5 cc5 => ?_
      refine ⟨(Go.of s5).up rfl nt_lst, _, os3 ++ l.2.2.map some, rfl, cc5, by rw [List.length_append, List.length_map]; omega, hk3.app fun q hq => ?_⟩
      obtain ⟨q', hq', e⟩ := List.mem_map.mp hq
      cases e
      exact cl.l l hl q hq'
    · subst e
      refine st.ret (ev.raw (n := 1) rfl) fun v' H3 s3 e => ?_
      subst e
      exact k c H3 os3 (((g2.trans g).sm s3).fresh s1 fun b z => by rw [z]; exact hc) ((cc3.sm s3).rd (fun a z => gB a z) ncN) hk3 (by omega)
end
end K02
end
section
set_option Elab.async false
set_option linter.all false
set_option maxRecDepth 100000
namespace K02
open PySem L2 KB TV
set_option autoImplicit false
section
variable {P : Program} {w : World} {K : PySem.W.Frag} {mg : Str → Option Value} {base : Heap} {C : Addr} {TS : Sets}
theorem small_b {p : Pict} (b : Bnd p) : Small p := by
  unfold Small
  have h1 : ∀ l : List House, (∀ h ∈ l, h.2.length ≤ 40) → (l.map fun h => h.2.length).sum ≤ 40 * l.length := fun l hl => by
    induction l with
    | nil => simp
    | cons a t ih =>
      rw [List.map_cons, List.sum_cons, List.length_cons]
      have := hl a (by simp)
      have := ih fun h hh => hl h (by simp [hh])
      omega
  have := h1 p.1 fun h hh => (b.h h hh).2.1
  have := b.p1
  omega
def spLook (TS : Sets) : Sp := fun vs H Q _ => ∃ (N : Sets) (p : Pict) (v : V), vs = [v] ∧ Trk N H ∧ Tbs TS H ∧ aPi.r N p v H ∧ GoodPic p ∧ Bnd p ∧ Closed2 p ((fieldsOf p).map (·.1)) ∧ ∀ H', Go TS H H' → Tbs TS H' → Q .non H'
theorem scLook : FnScope ["picture", "fields", "name"] ["picture"] (defScope (top 27)) := ⟨rfl, rfl, rfl, by decide +kernel, rfl, by decide +kernel, by decide +kernel⟩
theorem ok_look {f : Addr} {fd : FuncData} (F : Fun K "look_at_picture" "look_at_picture" (top 27) f fd) (U : LoA K mg base TS) : FnOk P w K mg base CX0 12 f fd ["picture"] (spLook TS) := by
  have S := scLook
  have B := U.B
  obtain ⟨f1, fd1, tb1, Dis_of_form, T1, h1⟩ := U.frm
  obtain ⟨f2, fd2, Dfields_by_name⟩ := U.fbn
  obtain ⟨f3, fd3, D3⟩ := U.lnm
  obtain ⟨f4, fd4, Dpointers⟩ := U.ptr
  have Gis_of_form := ok_frm (P := P) (w := w) Dis_of_form.F T1 h1 U
  have Gfields_by_name := (ok_fields (P := P) (w := w) (base := base) (mg := mg) Dfields_by_name.F).mono (show 1 ≤ 11 by decide)
  have Gpointers := (ok_ptr (P := P) (w := w) (base := base) Dpointers.F B D3).mono (show 2 ≤ 11 by decide)
  refine F.okZ scLook (fun vs H Q E h => ?_) (fun cdv A outer s H vs Q E hr h => ?_)
  · obtain ⟨N, p, v, rfl, _⟩ := h
    rfl
  · obtain ⟨N, p, v, rfl, tk, ht, fp, gp, bd, cl, k⟩ := h
    refine ⟨_, (Z.seq (Z.cond (Z.tnot (Z.val (Z.cf Gis_of_form hr Dis_of_form.m Dis_of_form.F.kp Dis_of_form.b pass0 (Z.cons (Z.vl 0) Z.nil)))) Z.never Z.snil)
      (Z.seq (Z.stl 1 S.nd (Z.cf Gfields_by_name hr Dfields_by_name.m Dfields_by_name.F.kp Dfields_by_name.b pass0 (Z.cons (Z.vl 0) Z.nil)))
      (Z.last (Z.loop PassesOwn.never rfl (Z.il (Z.cf Gpointers hr Dpointers.m Dpointers.F.kp Dpointers.b pass0 (Z.cons (Z.vl 0) Z.nil))) (Z.gl 2 S.nd) (Z.last (Z.cond (Z.pw (Z.tand (Z.tnotN (Z.vl 2)) (Z.and1 (Z.tdnotin hr.units (Z.vl 2) (Z.vl 1))))) Z.never Z.snil)))))), ?_⟩
    show tSeq (tIfS _ _ _) _ _ [some v, none, none] H
    have hA : ∀ {H H' : Hp}, Sm H H' → Tbs TS H → Tbs TS H' := fun s a => a.sm s
    refine st.condU (C := TS) (A := Tbs TS) (b := !true) (EB.not (EV.val (EX.call (fun H2 g2 a2 => ev.arg1 (P := aPi.r N p) (ev.var (n := 0) rfl (aPi.kp (g2.kpS ht.tbl) fp))) hA fun vs H2 g2 a2 ⟨b1, e, z1⟩ Q k => ⟨N, p, b1, by rw [e]; rfl, tk.go g2, a2, z1, gp, fun H' g' a' => k _ H' g' a' rfl⟩))) ht (fun h => nomatch h) (fun _ H1 g1 ht1 => ?_)
    try unfold tNext
    try dsimp only
    have tk1 := tk.go g1
    have fp1 := aPi.kp (g1.kpS ht.tbl) fp
    show tSeq (tAsg (tCall spFields _ _ _) _) _ _ [some v, none, none] H1
    refine ⟨_, rfl, N, p, v, rfl, tk1, fp1, small_b bd, fun a H2 s2 na dc => ?_⟩
    have tk2 := tk1.sm s2
    have ht2 := ht1.sm s2
    have fp2 := aPi.sm s2 fp1
    dsimp only [gName]
    show tFor _ _ _ _ [some v, some (.ref a), none] H2
    have fd2 : (aD kNm aF).r N (fieldsOf p) (.ref a) H2 := dc.rd (fun _ z => z) na
    have eP : Ev (tCall spPtr [] E0 (tCons (tVar 0) tNil)) [some v, some (.ref a), none] H2 (fun v' H' => ∃ os, (aL (aO aN)).r N os v' H' ∧ Oks ((fieldsOf p).map (·.1)) os) := ev.call (ev.arg1 (ev.var (n := 0) rfl fp2)) fun vs H3 s3 ⟨v1, e, p1⟩ Q k => ⟨N, p, _, v1, by rw [e]; rfl, tk2.sm s3, p1, bd, cl, fun b H' os s r ok _ => k _ H' s ⟨os, r, ok⟩⟩
    unfold tFor iList
    refine eP.use fun pv H3 s3 ⟨os, fo, ok⟩ => ?_
    show tFor (iList K (tC pv)) (gName 2) (tIfS (tAnd (tB (tNotN (tVar 2))) (tB (tDNotIn (tVar 2) (tVar 1)))) tNever fun D σ H => D.nx σ H) { nx := fun x H' => Q V.non H', rt := Q } [some v, some (.ref a), none] H3
    refine st.forL (C := fun _ => False) (N := N) (R := aO aN) (xs := os) (fun H s Q k => k _ _ (.refl _) ((aL (aO aN)).sm s fo)) (fun _ z => z.elim) (fun i σ' H' => ∃ j2, σ' = [some v, some (.ref a), j2]) (fun _ _ => ⟨_, rfl⟩) (fun i x xv σ' H' hx g r ⟨j2, e⟩ => ?_) fun σ' H' g ⟨j2, e⟩ => ?_
    · subst e
      have s4 : Sm H3 H' := g.new fun _ z => z.elim
      have fd4 := (aD kNm aF).sm (s3.trans s4) fd2
      dsimp only [gName]
      show tIfS _ _ _ _ [some v, some (.ref a), some xv] H'
      have en : EvT (tB (tNotN (tVar 2))) [some v, some (.ref a), some xv] H' x.isSome := ev.tB (ev.notN (N := N) (ev.var (n := 2) rfl r))
      cases x with
      | none => exact st.cond (b := false && true) (ev.tAnd en fun h => nomatch h) (fun h => nomatch h) fun _ H5 s5 => ⟨.of s5, _, rfl⟩
      | some q =>
        have hin : (look (fieldsOf p) q).isNone = false := by
          have h1 := look_some.mpr (ok q (List.mem_of_getElem? hx))
          cases e : look (fieldsOf p) q with
          | none => rw [e] at h1; cases h1
          | some z => rfl
        exact st.cond (b := true && (look (fieldsOf p) q).isNone) (ev.tAnd en fun _ => ev.tB (N := N) (ev.dnotin (R := aF) (k := kNm) (ev.var (n := 1) rfl fd4) (ev.var (n := 2) (R := kNm.R) rfl r.2))) (fun h => absurd h (by rw [hin]; decide)) fun _ H5 s5 => ⟨.of s5, _, rfl⟩
    · subst e
      have s4 : Sm H3 H' := g.new fun _ z => z.elim
      have sA := (s2.trans s3).trans s4
      exact k H' (g1.sm sA) (ht1.sm sA)
end
end K02
end
section
set_option Elab.async false
set_option linter.all false
set_option maxRecDepth 100000
namespace K02
open PySem L2 KB TV
set_option autoImplicit false
structure StA (K : PySem.W.Frag) (H : Hp) (p a : Addr) (ns : List Int) : Prop where
  st : ∃ i c m : Int, 0 ≤ i ∧ H p = some (.lst [.ref a, .int i, .int c, .int m])
  sc : SqL K H a (ns.map V.int)
  ne : a ≠ p ∨ ∀ H0 : Hp, SqL K H0 a (ns.map V.int)
theorem StA.new {K : PySem.W.Frag} {H : Hp} {p a q : Addr} {ns : List Int} {o : HO} (s : StA K H p a ns) (h : H q = none) : StA K (upd H q o) p a ns := by
  obtain ⟨i, c, m, h0, hp⟩ := s.st
  exact ⟨⟨i, c, m, h0, by rw [upd_ne (ne_of_none hp h)]; exact hp⟩, (same_upd h).seq s.sc, s.ne⟩
section
variable {P : Program} {w : World} {K : PySem.W.Frag} {mg : Str → Option Value} {base : Heap}
def spNext (K : PySem.W.Frag) : Sp := fun vs H Q _ => ∃ (p a : Addr) (ns : List Int) (b : Int), vs = [.ref p, .int b] ∧ StA K H p a ns ∧ ns.length ≤ 63 ∧ 0 < b ∧ b < 1073741824 ∧
  ∀ (r : Int) (H' : Hp), 0 ≤ r → r < b → StA K H' p a ns → But p H H' → Q (.int r) H'
theorem scNext : FnScope ["_law_state", "_law_below", "_law_found", "_law_cell"] ["_law_state", "_law_below"] (defScope (top 29)) := ⟨rfl, rfl, rfl, by decide +kernel, rfl, by decide +kernel, by decide +kernel⟩
theorem ok_next {f : Addr} {fd : FuncData} (F : Fun K "_law_next" "_law_next" (top 29) f fd) (B : Bt mg) : FnOk P w K mg base CX0 1 f fd ["_law_state", "_law_below"] (spNext K) := by
  have S := scNext
  refine F.okZ scNext (fun vs H Q E h => ?_) (fun cdv A outer s H vs Q E hr h => ?_)
  · obtain ⟨p, a, ns, b, rfl, _⟩ := h
    rfl
  · obtain ⟨p, a, ns, b, rfl, st, h63, hb, hb2, k⟩ := h
    obtain ⟨⟨i, c, m, h0, hp⟩, sc, ne⟩ := id st
    refine ⟨_, (Z.seq (Z.cond (Z.tcmp Z.gt (Z.ix Z.ixL (Z.vl 0) Z.int) Z.int) (Z.seq (Z.stl 2 S.nd (Z.op Z.mod (Z.ix Z.ixL (Z.vl 0) Z.int) (Z.vl 1)))
      (Z.seq (Z.asg (Z.op Z.fdiv (Z.ix Z.ixL (Z.vl 0) Z.int) (Z.vl 1)) (Z.gsub (Z.vl 0) Z.int set_list))
      (Z.last (Z.ret (Z.vl 2))))) Z.snil)
      (Z.seq (Z.stl 3 S.nd Z.int)
      (Z.seq (Z.cond (Z.tcmp Z.lt (Z.ix Z.ixL (Z.vl 0) Z.int) (Z.cb Z.len B.len (Z.cons (Z.ix Z.ixL (Z.vl 0) Z.int) Z.nil))) (Z.last (Z.stl 3 S.nd (Z.ix Z.ixL (Z.ix Z.ixL (Z.vl 0) Z.int) (Z.ix Z.ixL (Z.vl 0) Z.int)))) Z.snil)
      (Z.seq (Z.asg (Z.op Z.add (Z.ix Z.ixL (Z.vl 0) Z.int) Z.int) (Z.gsub (Z.vl 0) Z.int set_list))
      (Z.seq (Z.cond (Z.tcmp Z.ge (Z.vl 3) (Z.op Z.pow Z.int Z.int)) (Z.seq (Z.asg (Z.op Z.fdiv (Z.vl 3) (Z.vl 1)) (Z.gsub (Z.vl 0) Z.int set_list))
      (Z.last (Z.ret (Z.op Z.mod (Z.vl 3) (Z.vl 1))))) Z.snil)
      (Z.seq (Z.asg (Z.op Z.mod (Z.op Z.add (Z.op Z.add (Z.op Z.mul (Z.ix Z.ixL (Z.vl 0) Z.int) Z.int) (Z.op Z.mod (Z.vl 3) Z.int)) (Z.op Z.mul Z.int (Z.ix Z.ixL (Z.vl 0) Z.int))) Z.int) (Z.gsub (Z.vl 0) Z.int set_list))
      (Z.last (Z.ret (Z.op Z.mod (Z.op Z.fdiv (Z.op Z.mod (Z.op Z.mul (Z.ix Z.ixL (Z.vl 0) Z.int) Z.int) Z.int) Z.int) (Z.vl 1)))))))))), ?_⟩
    have r0 : ∀ x : Int, 0 ≤ x % b ∧ x % b < b := fun x => ⟨Int.emod_nonneg _ (by omega), Int.emod_lt_of_pos _ hb⟩
    refine ⟨_, rfl, p, _, 2, .int c, rfl, rfl, .inl (.inl hp), atI_nat (j := 2) rfl, _, _, rfl, rfl, _, rfl, ite2 (fun hc => ?_) (fun hc => ?_)⟩
    · refine ⟨_, rfl, p, _, 2, .int c, rfl, rfl, .inl (.inl hp), atI_nat (j := 2) rfl, _, rfl, _, _, rfl, rfl, hb, ?_⟩
      refine ⟨_, rfl, p, _, 2, .int c, rfl, rfl, .inl (.inl hp), atI_nat (j := 2) rfl, _, rfl, _, _, rfl, rfl, ⟨hb, hb2⟩, _, rfl, p, _, 2, 2, rfl, rfl, hp, rfl, ?_⟩
      exact ⟨_, rfl, k _ _ (r0 c).1 (r0 c).2 ⟨⟨i, c / b, m, h0, upd_same⟩, But.upd.seq ne sc, ne⟩ But.upd⟩
    · refine ⟨_, rfl, p, _, 1, .int i, rfl, rfl, .inl (.inl hp), atI_nat (j := 1) rfl, ?_⟩
      refine ⟨_, rfl, p, _, 0, .ref a, rfl, rfl, .inl (.inl hp), atI_nat (j := 0) rfl, a, _, rfl, .inl sc, _, _, rfl, rfl, _, rfl, ite2 (fun hi => ?_) (fun hi => ?_)⟩
      · have hi : i < ((ns.map V.int).length : Int) := of_decide_eq_true hi
        rw [List.length_map] at hi
        obtain ⟨z, hz⟩ : ∃ z, ns[i.toNat]? = some z := ⟨_, List.getElem?_eq_getElem (by omega)⟩
        refine ⟨_, rfl, p, _, 0, .ref a, rfl, rfl, .inl (.inl hp), atI_nat (j := 0) rfl, _, rfl, p, _, 1, .int i, rfl, rfl, .inl (.inl hp), atI_nat (j := 1) rfl, ?_⟩
        refine ⟨a, _, i, .int z, rfl, rfl, sc, at_of (j := i.toNat) (by omega) (by rw [List.getElem?_map, hz]; rfl), ?_⟩
        refine ⟨_, rfl, p, _, 1, .int i, rfl, rfl, .inl (.inl hp), atI_nat (j := 1) rfl, _, _, rfl, rfl, _, rfl, p, _, 1, 1, rfl, rfl, hp, rfl, ?_⟩
        refine ⟨_, rfl, _, _, rfl, rfl, ⟨by decide, by decide, by decide⟩, _, _, rfl, rfl, _, rfl, ite2 (fun hq => ?_) (fun hq => ?_)⟩
        · refine ⟨_, rfl, _, rfl, _, _, rfl, rfl, ⟨hb, hb2⟩, _, rfl, p, _, 2, 2, rfl, rfl, upd_same, rfl, ?_⟩
          exact ⟨_, rfl, _, rfl, _, _, rfl, rfl, hb, k _ _ (r0 _).1 (r0 _).2 ⟨⟨i + 1, _, m, by omega, upd_same⟩, (But.upd.trans But.upd).seq ne sc, ne⟩ (But.upd.trans But.upd)⟩
        · refine ⟨_, rfl, p, _, 3, .int m, rfl, rfl, .inl (.inl upd_same), atI_nat (j := 3) rfl, _, _, rfl, rfl, .inr ⟨by decide, by decide⟩, _, rfl, _, _, rfl, rfl, (by show (0 : Int) < 2147483629; decide), _, _, rfl, rfl, ?_⟩
          refine ⟨_, rfl, p, _, 1, .int (i + 1), rfl, rfl, .inl (.inl upd_same), atI_nat (j := 1) rfl, _, _, rfl, rfl, .inl ⟨by decide, by decide⟩, _, _, rfl, rfl, _, _, rfl, rfl, (by show (0 : Int) < 2147483647; decide), _, rfl, p, _, 3, 3, rfl, rfl, upd_same, rfl, ?_⟩
          refine ⟨_, rfl, p, _, 3, _, rfl, rfl, .inl (.inl upd_same), atI_nat (j := 3) rfl, _, _, rfl, rfl, .inr ⟨by decide, by decide⟩, _, _, rfl, rfl, (by show (0 : Int) < 2147483629; decide), _, _, rfl, rfl, ⟨by decide, by decide⟩, _, rfl, _, _, rfl, rfl, hb, ?_⟩
          exact k _ _ (r0 _).1 (r0 _).2 ⟨⟨i + 1, c, _, by omega, upd_same⟩, (But.upd.trans But.upd).seq ne sc, ne⟩ (But.upd.trans But.upd)
      · refine ⟨_, rfl, p, _, 1, .int i, rfl, rfl, .inl (.inl hp), atI_nat (j := 1) rfl, _, _, rfl, rfl, _, rfl, p, _, 1, 1, rfl, rfl, hp, rfl, ?_⟩
        refine ⟨_, rfl, _, _, rfl, rfl, ⟨by decide, by decide, by decide⟩, _, _, rfl, rfl, _, rfl, ite2 (fun hq => ?_) (fun hq => ?_)⟩
        · refine ⟨_, rfl, _, rfl, _, _, rfl, rfl, ⟨hb, hb2⟩, _, rfl, p, _, 2, 2, rfl, rfl, upd_same, rfl, ?_⟩
          exact ⟨_, rfl, _, rfl, _, _, rfl, rfl, hb, k _ _ (r0 _).1 (r0 _).2 ⟨⟨i + 1, _, m, by omega, upd_same⟩, (But.upd.trans But.upd).seq ne sc, ne⟩ (But.upd.trans But.upd)⟩
        · refine ⟨_, rfl, p, _, 3, .int m, rfl, rfl, .inl (.inl upd_same), atI_nat (j := 3) rfl, _, _, rfl, rfl, .inr ⟨by decide, by decide⟩, _, rfl, _, _, rfl, rfl, (by show (0 : Int) < 2147483629; decide), _, _, rfl, rfl, ?_⟩
          refine ⟨_, rfl, p, _, 1, .int (i + 1), rfl, rfl, .inl (.inl upd_same), atI_nat (j := 1) rfl, _, _, rfl, rfl, .inl ⟨by decide, by decide⟩, _, _, rfl, rfl, _, _, rfl, rfl, (by show (0 : Int) < 2147483647; decide), _, rfl, p, _, 3, 3, rfl, rfl, upd_same, rfl, ?_⟩
          refine ⟨_, rfl, p, _, 3, _, rfl, rfl, .inl (.inl upd_same), atI_nat (j := 3) rfl, _, _, rfl, rfl, .inr ⟨by decide, by decide⟩, _, _, rfl, rfl, (by show (0 : Int) < 2147483629; decide), _, _, rfl, rfl, ⟨by decide, by decide⟩, _, rfl, _, _, rfl, rfl, hb, ?_⟩
          exact k _ _ (r0 _).1 (r0 _).2 ⟨⟨i + 1, c, _, by omega, upd_same⟩, (But.upd.trans But.upd).seq ne sc, ne⟩ (But.upd.trans But.upd)
end
section
variable {K : PySem.W.Frag} {p a : Addr} {ns : List Int} {H H' : Hp}
theorem sq_sm {xs : List V} (s : Sm H H') (h : SqL K H a xs) : SqL K H' a xs := h.elim (fun h => .inl (s.rd noTb_lst h)) .inr
theorem StA.sm (st : StA K H p a ns) (s : Sm H H') : StA K H' p a ns := by
  obtain ⟨i, c, m, h0, hp⟩ := st.st
  exact ⟨⟨i, c, m, h0, s.lst hp⟩, sq_sm s st.sc, st.ne⟩
structure Off (K : PySem.W.Frag) (p a : Addr) (ns : List Int) (c : Addr) : Prop where
  p : c ≠ p
  a : a ≠ c ∨ ∀ H0 : Hp, SqL K H0 a (ns.map V.int)
theorem StA.off (st : StA K H p a ns) {c : Addr} (h : H c = none) : Off K p a ns c := by
  obtain ⟨i, c', m, h0, hp⟩ := st.st
  refine ⟨fun z => (by rw [← z, h] at hp; cases hp), ?_⟩
  rcases st.sc with (e | ⟨o, e⟩) | e
  · exact .inl fun z => (by rw [z, h] at e; cases e)
  · exact .inl fun z => (by rw [z, h] at e; cases e)
  · exact .inr fun H0 => .inr e
theorem StA.up (st : StA K H p a ns) {c : Addr} {o : HO} (f : Off K p a ns c) : StA K (upd H c o) p a ns := by
  obtain ⟨i, c', m, h0, hp⟩ := st.st
  refine ⟨⟨i, c', m, h0, by rw [upd_ne f.p.symm]; exact hp⟩, ?_, st.ne⟩
  rcases f.a with n | n
  · rcases st.sc with (e | ⟨o, e⟩) | e
    · exact .inl (.inl (by rw [upd_ne n]; exact e))
    · exact .inl (.inr ⟨o, by rw [upd_ne n]; exact e⟩)
    · exact .inr e
  · exact n _
theorem StA.U {D : Addr} {o : HO} (st : StA K H p a ns) (h : H D = none) (H' : Hp) (st' : StA K H' p a ns) : StA K (upd H' D o) p a ns := st'.up (st.off h)
theorem But.go (b : But p H H') (st : StA K H p a ns) (st' : StA K H' p a ns) : Go (fun c => c = p) H H' := by
  obtain ⟨i, c, m, h0, hp⟩ := st.st
  obtain ⟨i', c', m', h0', hp'⟩ := st'.st
  refine ⟨fun c o n e => .inl (b c o n e), fun c e => ?_, fun c o e n => ?_⟩
  · cases q : H c with
    | none => rfl
    | some o =>
      by_cases z : c = p
      · rw [z, hp'] at e; cases e
      · rw [b c o z q] at e; cases e
  · by_cases z : c = p
    · exact ⟨_, by rw [z]; exact hp', nt_lst⟩
    · exact ⟨o, b c o z e, n⟩
abbrev SA (K : PySem.W.Frag) (p a : Addr) (ns : List Int) : Hp → Prop := fun H => StA K H p a ns
abbrev CP (p : Addr) : Sets := fun c => c = p
theorem SA.sm : ∀ {H H' : Hp}, Sm H H' → SA K p a ns H → SA K p a ns H' := fun s st => StA.sm st s
theorem SA.U : ∀ {H : Hp} {D : Addr} {o : HO}, SA K p a ns H → H D = none → ∀ H', SA K p a ns H' → SA K p a ns (upd H' D o) := fun st h H' st' => StA.U st h H' st'
theorem ex_next {N : Sets} {σ : St} {i : Nat} {tb : TE} {E : XK} {Ψ : Int → Prop} (h63 : ns.length ≤ 63) (hi : σ[i]? = some (some (.ref p))) (hb : EX (CP p) (SA K p a ns) tb σ H (So aI N Ψ)) (hΨ : ∀ b, Ψ b → 0 < b ∧ b < 1073741824) :
    EX (CP p) (SA K p a ns) (tCall (spNext K) [] E (tCons (tVar i) (tCons tb tNil))) σ H (So aI N (fun r => ∃ b, Ψ b ∧ 0 ≤ r ∧ r < b)) := fun H1 g st Q k =>
  ⟨_, hi, hb H1 g st _ fun v H2 g2 st2 ⟨b, pb, e⟩ => by
    cases (show v = .int b from e)
    exact ⟨p, a, ns, b, rfl, st2, h63, (hΨ b pb).1, (hΨ b pb).2, fun r H' h0 h1 st3 bt => k _ H' (g2.trans (But.go bt st2 st3)) st3 ⟨r, ⟨b, pb, h0, h1⟩, rfl⟩⟩⟩
theorem ex_nextK {N : Sets} {σ : St} {i : Nat} {b : Int} {E : XK} (h63 : ns.length ≤ 63) (hi : σ[i]? = some (some (.ref p))) (h1 : 0 < b) (h2 : b < 1073741824) :
    EX (CP p) (SA K p a ns) (tCall (spNext K) [] E (tCons (tVar i) (tCons (tC (.int b)) tNil))) σ H (So aI N (fun r => 0 ≤ r ∧ r < b)) :=
  (ex_next (N := N) h63 hi (EX.int SA.sm) fun c e => e ▸ ⟨h1, h2⟩).imp fun v H' ⟨r, ⟨c, e, h⟩, q⟩ => ⟨r, e ▸ h, q⟩
end
end K02
end
section
set_option Elab.async false
set_option linter.all false
set_option maxRecDepth 100000
namespace K02
open PySem L2 KB TV
set_option autoImplicit false
def Lt (a b : Nm) : Prop := a.1 < b.1 ∨ (a.1 = b.1 ∧ a.2 < b.2)
structure GoodN (xs : List Nm) (many : Int) : Prop where
  r : xs.Pairwise Lt
  h : ∀ q ∈ xs, 0 ≤ q.1 ∧ q.1 < many ∧ 0 ≤ q.2 ∧ q.2 ≤ 99
  l : (xs.length : Int) ≤ 5 * many
theorem pw_snoc {T : Type} {r : T → T → Prop} {xs : List T} {y : T} (h : xs.Pairwise r) (g : ∀ x ∈ xs, r x y) : (xs ++ [y]).Pairwise r := List.pairwise_append.mpr ⟨h, by simp, fun a ha b hb => by simp at hb; rw [hb]; exact g a ha⟩
section
variable {P : Program} {w : World} {K : PySem.W.Frag} {mg : Str → Option Value} {base : Heap} {C : Addr}
def spNames (K : PySem.W.Frag) : Sp := fun vs H Q _ => ∃ (N : Sets) (sp a : Addr) (ns : List Int) (many : Int), vs = [.ref sp, .int many] ∧ N sp ∧ Trk N H ∧ StA K H sp a ns ∧ ns.length ≤ 63 ∧ 1 ≤ many ∧ many ≤ 8 ∧
  ∀ v H' xs, Go (CP sp) H H' → StA K H' sp a ns → (aL aN).r N xs v H' → GoodN xs many → Q v H'
theorem scNames : FnScope ["_law_state", "_law_many", "_law_names_here", "_law_house", "_law_number", "_law_k"] ["_law_state", "_law_many"] (defScope (top 30)) := ⟨rfl, rfl, rfl, by decide +kernel, rfl, by decide +kernel, by decide +kernel⟩
theorem ok_names {f f1 : Addr} {fd fd1 : FuncData} (F : Fun K "_law_names" "_law_names" (top 30) f fd) (B : Bt mg) (D_law_next : Dn K mg "_law_next" (top 29) ["_law_state", "_law_below"] f1 fd1) : FnOk P w K mg base CX0 2 f fd ["_law_state", "_law_many"] (spNames K) := by
  have S := scNames
  have G_law_next := ok_next (P := P) (w := w) (base := base) D_law_next.F B
  refine F.okZ scNames (fun vs H Q E h => ?_) (fun cdv A outer s H vs Q E hr h => ?_)
  · obtain ⟨N, sp, a, ns, many, rfl, _⟩ := h
    rfl
  · obtain ⟨N, sp, a, ns, many, rfl, hN, tk, st0, h63, m1, m8, k⟩ := h
    refine ⟨_, (Z.seq (Z.stl 2 S.nd (Z.lst Z.nil))
      (Z.seq (Z.loop PassesOwn.never rfl (Z.rg1 B.range (Z.cons (Z.vl 1) Z.nil)) (Z.gl 3 S.nd) (Z.seq (Z.stl 4 S.nd (Z.ix Z.ixL (Z.lst (Z.consts (by repeat (first | exact Cs.nil | apply Cs.int | apply Cs.str | apply Cs.non | apply Cs.pow ⟨by decide, by decide, by decide⟩)))) (Z.cf G_law_next hr D_law_next.m D_law_next.F.kp D_law_next.b pass0 (Z.cons (Z.vl 0) (Z.cons Z.int Z.nil)))))
      (Z.last (Z.loop PassesOwn.never rfl (Z.rg1 B.range (Z.cons (Z.cf G_law_next hr D_law_next.m D_law_next.F.kp D_law_next.b pass0 (Z.cons (Z.vl 0) (Z.cons (Z.ix Z.ixL (Z.lst (Z.consts (by repeat (first | exact Cs.nil | apply Cs.int | apply Cs.str | apply Cs.non | apply Cs.pow ⟨by decide, by decide, by decide⟩)))) (Z.cb ⟨call_min2 rfl⟩ B.min (Z.cons Z.int (Z.cons (Z.op Z.fdiv (Z.vl 1) Z.int) Z.nil)))) Z.nil))) Z.nil)) (Z.gl 5 S.nd) (Z.seq (Z.expr (Z.bm PySem.F.plainAttrs_list PySem.F.slot_list_append PySem.F.type_list_append ⟨mt_append⟩ (Z.vl 2) (Z.cons (Z.tup (Z.cons (Z.vl 3) (Z.cons (Z.vl 4) Z.nil))) Z.nil)))
      (Z.last (Z.stl 4 S.nd (Z.op Z.add (Z.op Z.add (Z.vl 4) Z.int) (Z.ix Z.ixL (Z.lst (Z.consts (by repeat (first | exact Cs.nil | apply Cs.int | apply Cs.str | apply Cs.non | apply Cs.pow ⟨by decide, by decide, by decide⟩)))) (Z.cf G_law_next hr D_law_next.m D_law_next.F.kp D_law_next.b pass0 (Z.cons (Z.vl 0) (Z.cons Z.int Z.nil))))))))))))
      (Z.last (Z.ret (Z.vl 2))))), ?_⟩
    show tSeq _ _ _ [some (.ref sp), some (.int many), none, none, none, none] H
    refine st.newL (N := N) aN fun c hc cc => ?_
    obtain ⟨N1, hN1⟩ : ∃ N1 : Sets, N1 = fun b => b = c ∨ N b := ⟨_, rfl⟩
    have tk1 : Trk N1 (upd H c (.lst [])) := hN1 ▸ tk.grow nt_lst
    have nc : N1 c := by rw [hN1]; exact .inl rfl
    have gN : ∀ a, N1 a → N a ∨ H a = none := by rw [hN1]; exact grow1 hc
    have gB : ∀ a, N a → N1 a := fun a z => by rw [hN1]; exact .inr z
    rw [← hN1] at cc
    have off := st0.off hc
    have s1 : Sm H (upd H c (.lst [])) := .new hc
    have st1 := st0.sm s1
    generalize upd H c (.lst []) = H1 at s1 tk1 cc st1 ⊢
    have hC : ∀ b, CP sp b → N1 b := fun b z => by rw [show b = sp from z]; exact gB _ hN
    have ncs : ¬ CP sp c := off.p
    have mono : ∀ b, (fun b => b = c ∨ b = sp) b → N1 b := fun b z => z.elim (fun y => by rw [y]; exact nc) fun y => by rw [y]; exact gB _ hN
    obtain ⟨m, rfl⟩ : ∃ m : Nat, many = m := ⟨many.toNat, by omega⟩
    refine st.forR (C := fun b => b = c ∨ b = sp) (n := m) (N := N1) (ev.one (ev.var rfl rfl)) (by omega) (fun i σ' H' => ∃ jh jn jk ys, σ' = [some (.ref sp), some (.int m), some (.ref c), jh, jn, jk] ∧ StA K H' sp a ns ∧ LC aN N1 ys c H' ∧ ys.Pairwise Lt ∧ (∀ q ∈ ys, 0 ≤ q.1 ∧ q.1 < (i : Int) ∧ 0 ≤ q.2 ∧ q.2 ≤ 99) ∧ ys.length ≤ 5 * i)
      (fun H2 s2 => ⟨none, none, none, [], rfl, st1.sm s2, cc.sm s2, .nil, fun _ h => absurd h (by simp), Nat.le_refl _⟩) ?_ ?_
    · rintro i σ' H2 hi g2 ⟨jh, jn, jk, ys, rfl, st2, cc2, pw, bd, ln⟩
      have tk2 := tk1.go g2
      show tSeq _ _ _ [some (.ref sp), some (.int m), some (.ref c), some (.int i), jn, jk] H2
      have pk : ∀ {H' : Hp} {σ : St} {E : XK} (zs : List Int) (b : Int) (hz : (zs.length : Int) = b) (hp : ∀ z ∈ zs, 0 ≤ z ∧ z ≤ 17) (hb : b < 1000) (hb0 : 0 < b), Trk N1 H' → σ[0]? = some (some (.ref sp)) →
          EX (CP sp) (SA K sp a ns) (tOp (rIxL K) (tLst fun _ H Q => Q (zs.map V.int) H) (tCall (spNext K) [] E (tCons (tVar 0) (tCons (tC (.int b)) tNil)))) σ H' (So aI N1 fun r => 0 ≤ r ∧ r ≤ 17) := fun zs b hz hp hb hb0 tk' h0 =>
        EX.pick (R := aI) (Φ2 := fun r => 0 ≤ r ∧ r ≤ 17) (EX.of SA.sm fun H1 g => (ev.nums (tk'.go g) zs (Nat.le_trans (by omega : zs.length ≤ 1000) (by decide))).rl) (ex_nextK (N := N1) h63 h0 hb0 (by omega)) hC (fun j ⟨h1, h2⟩ => by omega) hp
      refine st.setX (pk [0, 0, 1, 17] 4 rfl (by simp) (by decide) (by decide) tk2 rfl) st2 fun vn H3 g3 st3 ⟨z, hz, ez⟩ => ?_
      cases (show vn = .int z from ez)
      have hb : EX (CP sp) (SA K sp a ns) (tOp (rIxL K) (tLst fun _ H Q => Q (([6, 5, 4, 3] : List Int).map V.int) H) (tCB (fun xs H Q => ∃ i j : Int, xs = [.int i, .int j] ∧ Q (.int (if j < i then j else i)) H) (tCons (tC (.int 3)) (tCons (tOp (rI CDiv fun i j => .int (i / j)) (tVar 1) (tC (.int 2))) tNil)))) [some (.ref sp), some (.int m), some (.ref c), some (.int i), some (.int z), jk] H3 (So aI N1 fun b => 0 < b ∧ b ≤ 6) :=
        EX.pick (R := aI) (Φ2 := fun b => 0 < b ∧ b ≤ 6) (EX.of SA.sm fun H1 g => (ev.nums ((tk2.go g3).go g) [6, 5, 4, 3]).rl) (EX.of (P := So aI N1 fun r => 0 ≤ r ∧ r < 4) SA.sm fun H1 _ => (ev.min2 (N := N1) ev.int (ev.fdiv (ev.var (R := aI) rfl rfl) ev.int ⟨by decide, by decide⟩)).imp fun v H' _ e => ⟨_, by
          constructor
          · split <;> omega
          · split <;> omega, e⟩) hC (fun j h => h) (by simp)
      refine st.forRX (C := CP sp) (N := N1) (A := SA K sp a ns) (ex_next (N := N1) h63 rfl hb fun b h => ⟨h.1, by omega⟩) st3 (fun i ⟨b, hb, h1, h2⟩ => ⟨h1, by omega⟩) (fun n j σ' H' => ∃ z jk ys, σ' = [some (.ref sp), some (.int m), some (.ref c), some (.int i), some (.int z), jk] ∧ Go (fun b => b = c ∨ b = sp) H2 H' ∧ StA K H' sp a ns ∧ LC aN N1 ys c H' ∧ ys.Pairwise Lt ∧ (0 ≤ z ∧ z ≤ 17 + 18 * j) ∧
        (∀ q ∈ ys, 0 ≤ q.1 ∧ (0 ≤ q.2 ∧ q.2 ≤ 99) ∧ (q.1 < (i : Int) ∨ (q.1 = i ∧ q.2 < z))) ∧ ys.length ≤ 5 * i + j ∧ n ≤ 5) ?_ ?_ ?_
      · rintro H4 n g4 st4 ⟨b, hb, h1, h2⟩
        exact ⟨z, jk, ys, rfl, (g3.trans g4).mono fun b z => .inr z, st4, (cc2.go g3 ncs hC).go g4 ncs hC, pw, by omega, fun q hq => ⟨(bd q hq).1, (bd q hq).2.2, .inl (bd q hq).2.1⟩, by omega, by omega⟩
      · rintro n j σ' H4 _ hj ⟨z, jk', ys, rfl, g4, st4, cc4, pw, hz, bd, ln, n4⟩
        have tk4 := tk2.go g4
        show tSeq _ _ _ [some (.ref sp), some (.int m), some (.ref c), some (.int i), some (.int z), some (.int j)] H4
        refine st.append (R := aN) (x := ((i : Int), z)) cc4 nc rfl (ev.tup tk4 (ev.cons (R := aI) (ev.var rfl rfl) (ev.one (R := aI) (ev.var rfl rfl)))) (Nat.lt_of_le_of_lt (m := 100) (by omega) (by decide)) fun H5 us s5 cc5 => ?_
        have st5 : StA K (upd H5 c (.lst us)) sp a ns := (st4.sm s5).up off
        have g5 : Go (fun b => b = c ∨ b = sp) H2 (upd H5 c (.lst us)) := (g4.sm s5).up (.inl rfl) nt_lst
        generalize upd H5 c (.lst us) = H6 at cc5 st5 g5 ⊢
        have tk6 := tk2.go g5
        refine st.setX1 (C := CP sp) (A := SA K sp a ns) (EX.opI (Φ := fun x => x = z + 1) (N := N1) (P := So aI N1 fun r => z < r ∧ r ≤ z + 18) (EX.of SA.sm fun H1 _ => (ev.add (N := N1) (ev.var (R := aI) rfl rfl) ev.int).imp fun v _ _ e => ⟨_, rfl, e⟩) (pk [0, 0, 2, 17] 4 rfl (by simp) (by decide) (by decide) tk6 rfl) fun p q _ hp hq => ⟨_, by omega, rfl⟩) st5 fun v H7 g7 st7 ⟨z', hz', ez⟩ => ?_
        cases (show v = .int z' from ez)
        refine ⟨z', _, _, rfl, g5.trans (g7.mono fun b z => .inr z), st7, cc5.go g7 ncs hC, pw_snoc pw fun q hq => ?_, by omega, fun q hq => ?_, by rw [List.length_append]; show _ + 1 ≤ _; omega, n4⟩
        · have := bd q hq
          show q.1 < (i : Int) ∨ (q.1 = (i : Int) ∧ q.2 < z)
          omega
        · rcases List.mem_append.mp hq with hq | hq
          · have := bd q hq; omega
          · simp at hq
            subst hq
            exact ⟨by show (0 : Int) ≤ i; omega, by show (0 : Int) ≤ z ∧ z ≤ 99; omega, .inr ⟨rfl, hz'.1⟩⟩
      · rintro n σ' H4 _ ⟨z, jk', ys, rfl, g4, st4, cc4, pw, hz, bd, ln, n4⟩
        exact ⟨g4, _, _, _, ys, rfl, st4, cc4, pw, fun q hq => by have := bd q hq; omega, by omega⟩
    · rintro σ' H2 g2 ⟨jh, jn, jk, ys, rfl, st2, cc2, pw, bd, ln⟩
      refine st.ret (ev.raw rfl) fun v H3 s3 e => ?_
      subst e
      refine k _ H3 ys (((g2.to (D := CP sp) s1 fun b z => z.elim (fun y => .inr (by rw [y]; exact hc)) .inl)).sm s3) (st2.sm s3) ((cc2.sm s3).rd gB (tk.no hc)) ⟨pw, bd, by omega⟩
end
end K02
end
section
set_option Elab.async false
set_option linter.all false
set_option maxRecDepth 100000
namespace K02
open PySem L2 KB TV
set_option autoImplicit false
theorem some_in {N : Sets} {q : Nm} {v : V} {H : Hp} (h : aN.r N q v H) : (aO aN).r N (some q) v H := ⟨(by obtain ⟨a, e, _⟩ := aN_out h; rw [e]; exact fun z => nomatch z), h⟩
structure GoodT (xs : List Nm) (t : Thing) : Prop where
  f : ∀ q, some q ∈ t.2.2 → q ∈ xs
  l : t.2.2.length ≤ 4
  s : (t.2.1 = "mark" ∧ t.2.2.length = 1) ∨ t.2.1 = "thing"
structure GoodL (xs : List Nm) (many : Int) (l : Letr) : Prop where
  s : 0 ≤ l.1 ∧ l.1 < many
  t : 0 ≤ l.2.1 ∧ l.2.1 < many
  n : l.1 ≠ l.2.1
  e : l.2.2 ≠ []
  m : ∀ q ∈ l.2.2, q ∈ xs
  l : l.2.2.length ≤ 3
section
variable {P : Program} {w : World} {K : PySem.W.Frag} {mg : Str → Option Value} {base : Heap} {C : Addr}
def spSome (K : PySem.W.Frag) : Sp := fun vs H Q _ => ∃ (N : Sets) (sp a : Addr) (ns : List Int) (xs : List Nm) (w : V) (odds : Int), vs = [.ref sp, w, .int odds] ∧ N sp ∧ Trk N H ∧ StA K H sp a ns ∧ ns.length ≤ 63 ∧ (aL aN).r N xs w H ∧ 0 < odds ∧ odds < 1000 ∧ xs.length < 1000 ∧
  ∀ v H' o, Go (CP sp) H H' → StA K H' sp a ns → (aO aN).r N o v H' → (∀ q, o = some q → q ∈ xs) → (odds = 1 → xs ≠ [] → o ≠ none) → Q v H'
theorem scSome : FnScope ["_law_state", "_law_names_here", "_law_odds"] ["_law_state", "_law_names_here", "_law_odds"] (defScope (top 31)) := ⟨rfl, rfl, rfl, by decide +kernel, rfl, by decide +kernel, by decide +kernel⟩
theorem ex_one {N : Sets} {σ : St} {H : Hp} {sp a : Addr} {ns : List Int} {xs : List Nm} {i j : Nat} {wv : V} {E : XK} (h63 : ns.length ≤ 63) (hN : N sp) (hs : σ[i]? = some (some (.ref sp))) (hw : σ[j]? = some (some wv)) (fw : (aL aN).r N xs wv H) (ne : xs ≠ []) (hl : xs.length < 1000) :
    EX (CP sp) (SA K sp a ns) (tOp (rIxL K) (tVar j) (tCall (spNext K) [] E (tCons (tVar i) (tCons (tCB (Z.rLenK K) (tCons (tVar j) tNil)) tNil)))) σ H (So aN N fun q => q ∈ xs) := by
  have hC : ∀ b, CP sp b → N b := fun b z => by rw [show b = sp from z]; exact hN
  have h0 : 0 < xs.length := List.length_pos_iff.mpr ne
  exact EX.pick (R := aN) (Φ2 := fun q => q ∈ xs) (EX.of SA.sm fun H1 g => ev.var hw ((aL aN).kp (g.kp hC) fw)) (ex_next (N := N) (Ψ := fun b => b = xs.length) h63 hs (EX.of SA.sm fun H1 g => (ev.lenL (N := N) (ev.var hw ((aL aN).kp (g.kp hC) fw))).imp fun v _ _ e => ⟨_, rfl, e⟩) fun b e => by omega) hC (fun k ⟨b, e, h1, h2⟩ => by omega) fun x h => h
theorem ok_some {f f1 : Addr} {fd fd1 : FuncData} (F : Fun K "_law_some" "_law_some" (top 31) f fd) (B : Bt mg) (D_law_next : Dn K mg "_law_next" (top 29) ["_law_state", "_law_below"] f1 fd1) : FnOk P w K mg base CX0 2 f fd ["_law_state", "_law_names_here", "_law_odds"] (spSome K) := by
  have S := scSome
  have G_law_next := ok_next (P := P) (w := w) (base := base) D_law_next.F B
  refine F.okZ scSome (fun vs H Q E h => ?_) (fun cdv A outer s H vs Q E hr h => ?_)
  · obtain ⟨N, sp, a, ns, xs, w, odds, rfl, _⟩ := h
    rfl
  · obtain ⟨N, sp, a, ns, xs, w, odds, rfl, hN, tk, st0, h63, fw, o1, o2, hl, k⟩ := h
    refine ⟨_, (Z.seq (Z.cond (Z.pw (Z.tor (Z.tcmp (Z.eqD hr.units) (Z.vl 1) (Z.lst Z.nil)) (Z.or1 (Z.tcmp Z.gt (Z.cf G_law_next hr D_law_next.m D_law_next.F.kp D_law_next.b pass0 (Z.cons (Z.vl 0) (Z.cons (Z.vl 2) Z.nil))) Z.int)))) (Z.last (Z.ret Z.non)) Z.snil)
      (Z.last (Z.ret (Z.ix Z.ixL (Z.vl 1) (Z.cf G_law_next hr D_law_next.m D_law_next.F.kp D_law_next.b pass0 (Z.cons (Z.vl 0) (Z.cons (Z.cb Z.len B.len (Z.cons (Z.vl 1) Z.nil)) Z.nil))))))), ?_⟩
    show tSeq _ _ _ [some (.ref sp), some w, some (.int odds)] H
    have hC : ∀ b, CP sp b → N b := fun b z => by rw [show b = sp from z]; exact hN
    refine st.condX (C := CP sp) (A := SA K sp a ns) (EXT.or' (EXT.of SA.sm fun H1 g => ev.tTest (N := N) (ev.eqD (datL datN) (ev.var rfl ((aL aN).kp (g.kp hC) fw)) (ev.lst (tk.go g) ev.zero) (fun q _ => okN q) (fun _ h => absurd h (by simp)))) fun he => EXT.test (N := N) (EX.lt (ex_next (N := N) (Ψ := fun b => b = odds) h63 rfl (EX.num SA.sm rfl) fun b e => by omega) (EX.int SA.sm))) st0 (fun h H1 g1 st1 => ?_) (fun h H1 g1 st1 => ?_)
    · refine st.ret (ev.non (R := aN) (N := N)) fun v H2 s2 e => ?_
      refine k v H2 none (g1.sm s2) (st1.sm s2) e (fun _ z => nomatch z) fun z ne => ?_
      rcases h with ⟨_, h⟩ | ⟨_, i, j, ⟨b, eb, h1, h2⟩, ej, h3⟩
      · have := of_decide_eq_true h.symm
        exact absurd this ne
      · have := of_decide_eq_true h3.symm
        omega
    · have ne : xs ≠ [] := by
        rcases h with ⟨h, _⟩ | ⟨h, _⟩
        · cases h
        · exact of_decide_eq_false h.symm
      exact st.retX (ex_one (N := N) h63 hN rfl rfl ((aL aN).kp (g1.kp hC) fw) ne hl) st1 fun v H2 g2 st2 ⟨q, hq, e⟩ => k v H2 (some q) (g1.trans g2) st2 (some_in e) (fun r z => by cases z; exact hq) fun _ _ z => nomatch z
theorem ex_some {N : Sets} {σ : St} {H : Hp} {sp a : Addr} {ns : List Int} {xs : List Nm} {i j : Nat} {wv : V} {tb : TE} {E : XK} {Ψ : Int → Prop} (h63 : ns.length ≤ 63) (hN : N sp) (tk : Trk N H) (hs : σ[i]? = some (some (.ref sp))) (hw : σ[j]? = some (some wv)) (fw : (aL aN).r N xs wv H) (hl : xs.length < 1000)
    (hb : EX (CP sp) (SA K sp a ns) tb σ H (So aI N Ψ)) (hΨ : ∀ b, Ψ b → 0 < b ∧ b < 1000) :
    EX (CP sp) (SA K sp a ns) (tCall (spSome K) [] E (tCons (tVar i) (tCons (tVar j) (tCons tb tNil)))) σ H (So (aO aN) N fun o => ∀ q, o = some q → q ∈ xs) := fun H1 g st Q k => by
  have hC : ∀ b, CP sp b → N b := fun b z => by rw [show b = sp from z]; exact hN
  refine ⟨_, hs, _, hw, hb H1 g st _ fun v H2 g2 st2 ⟨b, pb, e⟩ => ?_⟩
  cases (show v = .int b from e)
  exact ⟨N, sp, a, ns, xs, wv, b, rfl, hN, tk.go (g.trans g2), st2, h63, (aL aN).kp ((g.trans g2).kp hC) fw, (hΨ b pb).1, (hΨ b pb).2, hl, fun v H' o g3 st3 r h _ => k _ H' (g2.trans g3) st3 ⟨o, h, r⟩⟩
def spThing (K : PySem.W.Frag) : Sp := fun vs H Q _ => ∃ (N : Sets) (sp a : Addr) (ns : List Int) (xs : List Nm) (u w : V) (q : Nm), vs = [.ref sp, u, w] ∧ N sp ∧ Trk N H ∧ StA K H sp a ns ∧ ns.length ≤ 63 ∧ aN.r N q u H ∧ (aL aN).r N xs w H ∧ xs.length < 1000 ∧
  ∀ v H' t, Go (CP sp) H H' → StA K H' sp a ns → aTh.r N t v H' → t.1 = q → GoodT xs t → Q v H'
theorem scThing : FnScope ["_law_state", "_law_name", "_law_names_here", "_law_fields", "_law_k"] ["_law_state", "_law_name", "_law_names_here"] (defScope (top 32)) := ⟨rfl, rfl, rfl, by decide +kernel, rfl, by decide +kernel, by decide +kernel⟩
theorem ok_thing {f f1 f2 : Addr} {fd fd1 fd2 : FuncData} (F : Fun K "_law_thing" "_law_thing" (top 32) f fd) (B : Bt mg) (D_law_next : Dn K mg "_law_next" (top 29) ["_law_state", "_law_below"] f1 fd1) (D_law_some : Dn K mg "_law_some" (top 31) ["_law_state", "_law_names_here", "_law_odds"] f2 fd2) : FnOk P w K mg base CX0 3 f fd ["_law_state", "_law_name", "_law_names_here"] (spThing K) := by
  have S := scThing
  have G_law_next := (ok_next (P := P) (w := w) (base := base) D_law_next.F B).mono (show 1 ≤ 2 by decide)
  have G_law_some := ok_some (P := P) (w := w) (base := base) D_law_some.F B D_law_next
  refine F.okZ scThing (fun vs H Q E h => ?_) (fun cdv A outer s H vs Q E hr h => ?_)
  · obtain ⟨N, sp, a, ns, xs, u, w, q, rfl, _⟩ := h
    rfl
  · obtain ⟨N, sp, a, ns, xs, u, w, q, rfl, hN, tk, st0, h63, fq, fw, hl, k⟩ := h
    refine ⟨_, (Z.seq (Z.cond (Z.tcmp Z.eq (Z.cf G_law_next hr D_law_next.m D_law_next.F.kp D_law_next.b pass0 (Z.cons (Z.vc 0) (Z.cons Z.int Z.nil))) Z.int) (Z.last (Z.ret (Z.tup (Z.cons (Z.vl 1) (Z.cons Z.str (Z.cons (Z.tup (Z.cons (Z.cf G_law_some hr D_law_some.m D_law_some.F.kp D_law_some.b pass0 (Z.cons (Z.vc 0) (Z.cons (Z.vc 2) (Z.cons (Z.op Z.add Z.int (Z.cf G_law_next hr D_law_next.m D_law_next.F.kp D_law_next.b pass0 (Z.cons (Z.vc 0) (Z.cons Z.int Z.nil)))) Z.nil)))) Z.nil)) Z.nil)))))) Z.snil)
      (Z.seq (Z.setLc 3 (own := [("_law_k", 4)]) rfl S.nd (Z.rg1 B.range (Z.cons (Z.cf G_law_next hr D_law_next.m D_law_next.F.kp D_law_next.b pass0 (Z.cons (Z.vc 0) (Z.cons Z.int Z.nil))) Z.nil)) (blkOk_by (own := [("_law_k", 4)]) (N := ["_law_state", "_law_name", "_law_names_here", "_law_fields", "_law_k"]) (sc := defScope (top 32)) (by decide +kernel)) (fun _ _ _ _ _ => (Z.gl 4 S.nd)) (fun _ _ _ _ _ => Z.tsnil) (fun _ _ _ _ _ => (Z.cf G_law_some hr D_law_some.m D_law_some.F.kp D_law_some.b pass0 (Z.cons (Z.vc 0) (Z.cons (Z.vc 2) (Z.cons (Z.op Z.add Z.int (Z.cf G_law_next hr D_law_next.m D_law_next.F.kp D_law_next.b pass0 (Z.cons (Z.vc 0) (Z.cons Z.int Z.nil)))) Z.nil))))))
      (Z.last (Z.ret (Z.tup (Z.cons (Z.vl 1) (Z.cons Z.str (Z.cons (Z.ct Z.tupO B.tuple (Z.cons (Z.vl 3) Z.nil)) Z.nil)))))))), ?_⟩
    show tSeq _ _ _ [some (.ref sp), some u, some w, none, none] H
    have hC : ∀ b, CP sp b → N b := fun b z => by rw [show b = sp from z]; exact hN
    have one2 : ∀ {N' : Sets} {σ : L2.St} {H' : Hp} {E : XK}, σ[0]? = some (some (.ref sp)) → EX (CP sp) (SA K sp a ns) (tOp (rI0 fun i j => .int (i + j)) (tC (.int 1)) (tCall (spNext K) [] E (tCons (tVar 0) (tCons (tC (.int 2)) tNil)))) σ H' (So aI N' fun b => 1 ≤ b ∧ b < 3) := fun {N' σ H' E} h0 => EX.opI (N := N') (Φ := fun x => x = 1) (Ψ := fun r => 0 ≤ r ∧ r < 2) (EX.int SA.sm) (ex_nextK (N := N') h63 h0 (by decide) (by decide)) fun p q _ hp hq => ⟨_, by have hp : p = 1 := hp; omega, rfl⟩
    refine st.condX (C := CP sp) (A := SA K sp a ns) (EXT.test (N := N) (EX.eqI (ex_nextK (N := N) h63 rfl (by decide) (by decide)) (EX.int SA.sm))) st0 (fun _ H1 g1 st1 => ?_) (fun _ H1 g1 st1 => ?_)
    ·
      have fq1 := aN.kp (g1.kp hC) fq
      have fw1 := (aL aN).kp (g1.kp hC) fw
      have tk1 := tk.go g1
      refine ⟨u, rfl, (ex_some (N := N) (Ψ := fun b => 1 ≤ b ∧ b < 3) h63 hN tk1 rfl rfl fw1 hl (one2 rfl) fun b e => by omega).use st1 fun v H2 g2 st2 ⟨o, ho, e⟩ => ⟨Nat.le_of_ble_eq_true rfl, fun t1 ht1 => ?_⟩⟩
      have s3 : Sm H2 (upd H2 t1 (.tup [v])) := .new ht1
      have f3 : aF.r N [o] (.ref t1) (upd H2 t1 (.tup [v])) := ⟨t1, _, rfl, (tk1.go g2).no ht1, upd_same, .cons ((aO aN).sm s3 e) .nil⟩
      have fq3 := aN.sm s3 (aN.kp (g2.kp hC) fq1)
      have tk3 := (tk1.go g2).sm s3
      have st3 := st2.sm s3
      have g3 := (g1.trans g2).sm s3
      generalize upd H2 t1 (.tup [v]) = H3 at f3 fq3 tk3 st3 g3 ⊢
      refine ⟨Nat.le_of_ble_eq_true rfl, fun t2 ht2 => ?_⟩
      have s4 : Sm H3 (upd H3 t2 (.tup [u, .str "mark", .ref t1])) := .new ht2
      refine k _ _ (q, "mark", [o]) (g3.sm s4) (st3.sm s4) ⟨t2, _, rfl, tk3.no ht2, upd_same, u, _, rfl, aN.sm s4 fq3, .str "mark", _, rfl, rfl, _, rfl, aF.sm s4 f3⟩ rfl ⟨fun r hr => ?_, by simp, .inl ⟨rfl, rfl⟩⟩
      simp at hr
      exact ho r hr.symm
    have fq1 := aN.kp (g1.kp hC) fq
    have fw1 := (aL aN).kp (g1.kp hC) fw
    have tk1 := tk.go g1
    try unfold tNext
    try dsimp only
    refine st.setX (P := fun v H' => ∃ (n : Nat) (ys : List (Option Nm)), (0 ≤ (n : Int) ∧ (n : Int) < 5) ∧ ys.length = n ∧ (∀ x ∈ ys, ∀ q, x = some q → q ∈ xs) ∧ PL (aO aN) N ys v H') (EX.lcR (Ψ := fun m => 0 ≤ m ∧ m < 5) SA.sm SA.U tk1 hC (ex_nextK (N := N) h63 rfl (by decide) (by decide)) (fun m e => by omega) (fun N' H2 gN' gB' tk' kp j' => ?_) fun v => rfl) st1 fun v H3 g3 st3 ⟨n', zs, n4, zl, zm, pl⟩ => ?_
    · exact ex_some (N := N') (Ψ := fun b => 1 ≤ b ∧ b < 3) h63 (gB' _ hN) tk' rfl rfl ((aL aN).mv (N := N') (N' := N') (fun b z => .inl z) ⟨fun b xs n e => kp.t b xs (fun y => n (gB' b y)) e, fun b u n p e => kp.r b u (fun y => n (gB' b y)) p e, fun b xs n e => kp.l b xs (fun y => n (gB' b y)) e⟩ ((aL aN).mv (fun b z => gN' b z) (.of (.refl _)) fw1)) hl (one2 rfl) fun b e => by omega
    · have tk3 := tk1.go g3
      have fq3 := aN.kp (g3.kp hC) fq1
      refine st.ret (ev.tup (N := N) tk3 (ev.cons (R := aN) (ev.var rfl fq3) (ev.cons (R := aS) ev.str (ev.one (R := aF) (ev.tupL tk3 (ev.var rfl pl.rl)))))) fun v4 H4 s4 e => ?_
      exact k v4 H4 (q, "thing", zs) ((g1.trans g3).sm s4) (st3.sm s4) e rfl ⟨fun r hr => zm _ hr r rfl, by show zs.length ≤ 4; omega, .inr rfl⟩
end
end K02
end
section
set_option Elab.async false
set_option linter.all false
set_option maxRecDepth 100000
namespace K02
open PySem L2 KB TV
set_option autoImplicit false
structure GoodP (p : Pict) (xs : List Nm) : Prop where
  n : GoodN xs p.1.length
  b : 1 ≤ p.1.length ∧ p.1.length ≤ 8
  hh : ∀ (i : Nat) (h : House), p.1[i]? = some h → (4 ≤ h.1.length ∧ h.1.length ≤ 10) ∧ (∀ o ∈ h.1.drop 4, o ≠ none) ∧ (∀ q, some q ∈ h.1 → q ∈ xs) ∧ h.2.map (·.1) = xs.filter (fun q => decide (q.1 = (i : Int))) ∧ ∀ t ∈ h.2, GoodT xs t
  ll : ∀ l ∈ p.2, GoodL xs p.1.length l
  l2 : p.2.length ≤ 3
section
variable {P : Program} {w : World} {K : PySem.W.Frag} {mg : Str → Option Value} {base : Heap} {C : Addr}
def spLetters (K : PySem.W.Frag) : Sp := fun vs H Q _ => ∃ (N : Sets) (sp a : Addr) (ns : List Int) (xs : List Nm) (w : V) (many : Int), vs = [.ref sp, .int many, w] ∧ N sp ∧ Trk N H ∧ StA K H sp a ns ∧ ns.length ≤ 63 ∧ (aL aN).r N xs w H ∧ xs.length < 1000 ∧ 1 ≤ many ∧ many ≤ 8 ∧
  ∀ v H' ls, Go (CP sp) H H' → StA K H' sp a ns → (aV aLe).r N ls v H' → (∀ l ∈ ls, GoodL xs many l) → ls.length ≤ 3 → Q v H'
theorem scLetters : FnScope ["_law_state", "_law_many", "_law_names_here", "_law_found", "_law_k", "_law_sender", "_law_to", "_law_some_here", "_law_j"] ["_law_state", "_law_many", "_law_names_here"] (defScope (top 33)) := ⟨rfl, rfl, rfl, by decide +kernel, rfl, by decide +kernel, by decide +kernel⟩
theorem ok_letters {f f1 : Addr} {fd fd1 : FuncData} (F : Fun K "_law_letters" "_law_letters" (top 33) f fd) (B : Bt mg) (D_law_next : Dn K mg "_law_next" (top 29) ["_law_state", "_law_below"] f1 fd1) : FnOk P w K mg base CX0 2 f fd ["_law_state", "_law_many", "_law_names_here"] (spLetters K) := by
  have S := scLetters
  have G_law_next := ok_next (P := P) (w := w) (base := base) D_law_next.F B
  refine F.okZ scLetters (fun vs H Q E h => ?_) (fun cdv A outer s H vs Q E hr h => ?_)
  · obtain ⟨N, sp, a, ns, xs, w, many, rfl, _⟩ := h
    rfl
  · obtain ⟨N, sp, a, ns, xs, w, many, rfl, hN, tk, st0, h63, fw, hl, m1, m8, k⟩ := h
    refine ⟨_, (Z.seq (Z.stl 3 S.nd (Z.lst Z.nil))
      (Z.seq (Z.loop PassesOwn.never rfl (Z.rg1 B.range (Z.cons (Z.cf G_law_next hr D_law_next.m D_law_next.F.kp D_law_next.b pass0 (Z.cons (Z.vc 0) (Z.cons Z.int Z.nil))) Z.nil)) (Z.gl 4 S.nd) (Z.last (Z.cond (Z.pw (Z.tand (Z.tcmp Z.gt (Z.vl 1) Z.int) (Z.and1 (Z.tcmp (Z.neD hr.units) (Z.vc 2) (Z.lst Z.nil))))) (Z.seq (Z.stl 5 S.nd (Z.cf G_law_next hr D_law_next.m D_law_next.F.kp D_law_next.b pass0 (Z.cons (Z.vc 0) (Z.cons (Z.vl 1) Z.nil))))
      (Z.seq (Z.stl 6 S.nd (Z.op Z.mod (Z.op Z.add (Z.op Z.add (Z.vl 5) Z.int) (Z.cf G_law_next hr D_law_next.m D_law_next.F.kp D_law_next.b pass0 (Z.cons (Z.vc 0) (Z.cons (Z.op Z.sub (Z.vl 1) Z.int) Z.nil)))) (Z.vl 1)))
      (Z.seq (Z.setLc 7 (own := [("_law_j", 8)]) rfl S.nd (Z.rg1 B.range (Z.cons (Z.op Z.add Z.int (Z.cf G_law_next hr D_law_next.m D_law_next.F.kp D_law_next.b pass0 (Z.cons (Z.vc 0) (Z.cons Z.int Z.nil)))) Z.nil)) (blkOk_by (own := [("_law_j", 8)]) (N := ["_law_state", "_law_many", "_law_names_here", "_law_found", "_law_k", "_law_sender", "_law_to", "_law_some_here", "_law_j"]) (sc := defScope (top 33)) (by decide +kernel)) (fun _ _ _ _ _ => (Z.gl 8 S.nd)) (fun _ _ _ _ _ => Z.tsnil) (fun _ _ _ _ _ => (Z.ix (Z.ixLK (K := K) rfl) (Z.vc 2) (Z.cf G_law_next hr D_law_next.m D_law_next.F.kp D_law_next.b pass0 (Z.cons (Z.vc 0) (Z.cons (Z.cb (Z.lenK (K := K) rfl) B.len (Z.cons (Z.vc 2) Z.nil)) Z.nil))))))
      (Z.last (Z.expr (Z.bm PySem.F.plainAttrs_list PySem.F.slot_list_append PySem.F.type_list_append ⟨mt_append⟩ (Z.vl 3) (Z.cons (Z.tup (Z.cons (Z.vl 5) (Z.cons (Z.vl 6) (Z.cons (Z.ct Z.tupO B.tuple (Z.cons (Z.vl 7) Z.nil)) Z.nil)))) Z.nil))))))) Z.snil)))
      (Z.last (Z.ret (Z.ct Z.tupO B.tuple (Z.cons (Z.vl 3) Z.nil)))))), ?_⟩
    show tSeq _ _ _ [some (.ref sp), some (.int many), some w, none, none, none, none, none, none] H
    have hC : ∀ b, CP sp b → N b := fun b z => by rw [show b = sp from z]; exact hN
    refine st.newL (N := N) aLe fun c hc cc => ?_
    obtain ⟨N1, hN1⟩ : ∃ N1 : Sets, N1 = fun b => b = c ∨ N b := ⟨_, rfl⟩
    have tk2 : Trk N1 (upd H c (.lst [])) := hN1 ▸ tk.grow nt_lst
    have nc : N1 c := by rw [hN1]; exact .inl rfl
    have gN : ∀ a, N1 a → N a ∨ H a = none := by rw [hN1]; exact grow1 hc
    have gB : ∀ a, N a → N1 a := fun a z => by rw [hN1]; exact .inr z
    rw [← hN1] at cc
    have off := st0.off hc
    have s2 : Sm H (upd H c (.lst [])) := .new hc
    have st2 := st0.sm s2
    have fw2 := (aL aN).to fw gN s2
    have nN : ¬ N c := tk.no hc
    generalize upd H c (.lst []) = H2 at s2 tk2 cc st2 fw2 ⊢
    have hC1 : ∀ b, CP sp b → N1 b := fun b z => gB b (hC b z)
    have ncs : ¬ CP sp c := off.p
    have mono : ∀ b, (fun b => b = c ∨ b = sp) b → N1 b := fun b z => z.elim (fun y => by rw [y]; exact nc) fun y => by rw [y]; exact gB _ hN
    refine st.forRX (C := CP sp) (N := N1) (A := SA K sp a ns) (ex_nextK (N := N1) h63 rfl (by decide) (by decide)) st2 (fun i ⟨h1, h2⟩ => ⟨h1, by omega⟩) (fun n j σ' H' => ∃ jk js jt jh ys, σ' = [some (.ref sp), some (.int many), some w, some (.ref c), jk, js, jt, jh, none] ∧ Go (fun b => b = c ∨ b = sp) H2 H' ∧ StA K H' sp a ns ∧ LC aLe N1 ys c H' ∧ (∀ l ∈ ys, GoodL xs many l) ∧ ys.length ≤ j ∧ n ≤ 3) ?_ ?_ ?_
    · rintro H3 n g3 st3 ⟨h1, h2⟩
      exact ⟨none, none, none, none, [], rfl, g3.mono fun b z => .inr z, st3, cc.go g3 ncs hC1, fun _ h => absurd h (by simp), Nat.le_refl _, by omega⟩
    · rintro n j σ' H3 _ hj ⟨jk, js, jt, jh, ys, rfl, g3, st3, cc3, ym, yl, n4⟩
      have tk3 := tk2.go g3
      have fw3 := (aL aN).kp (g3.kp mono) fw2
      refine st.cond (b := decide ((1 : Int) < many) && !decide (xs = [])) (ev.tAnd (ev.tTest (N := N1) (ev.gt (ev.var (R := aI) rfl rfl) ev.int)) fun _ => ev.tTest (N := N1) (ev.neD (datL datN) (ev.var rfl fw3) (ev.lst tk3 ev.zero) (fun q _ => okN q) (fun _ h => absurd h (by simp)))) (fun h H4 s4 => ?_) (fun h H4 s4 => ?_)
      · have hm2 : 1 < many := by simp at h; exact h.1
        have ne : xs ≠ [] := by simp at h; exact h.2
        have st4 := st3.sm s4
        have tk4 := tk3.sm s4
        have fw4 := (aL aN).sm s4 fw3
        have cc4 := cc3.sm s4
        have g4 := g3.sm s4
        show tSeq _ _ _ [some (.ref sp), some (.int many), some w, some (.ref c), some (.int j), js, jt, jh, none] H4
        refine st.setX (ex_next (N := N1) (Ψ := fun b => b = many) h63 rfl (EX.num SA.sm rfl) fun b e => by omega) st4 fun v H5 g5 st5 ⟨se, ⟨b, eb, h1, h2⟩, evv⟩ => ?_
        cases (show v = .int se from evv)
        refine st.setX (P := So aI N1 fun t => 0 ≤ t ∧ t < many ∧ t ≠ se) (EX.opC (N := N1) (Φ := fun x => ∃ r, 0 ≤ r ∧ r < many - 1 ∧ x = se + 1 + r) (Ψ := fun x => x = many) (EX.opI (N := N1) (Φ := fun x => x = se + 1) (Ψ := fun r => ∃ b, b = many - 1 ∧ 0 ≤ r ∧ r < b) (EX.of SA.sm fun H1 _ => (ev.add (N := N1) (ev.var (R := aI) rfl rfl) ev.int).imp fun v _ _ e => ⟨_, rfl, e⟩) (ex_next (N := N1) h63 rfl (EX.of SA.sm fun H1 _ => (ev.sub (N := N1) (ev.var (R := aI) rfl rfl) ev.int).imp fun v _ _ e => ⟨_, rfl, e⟩) fun b e => by omega)
          fun p q _ hp ⟨b, hb, q1, q2⟩ => ⟨_, ⟨q, q1, by omega, by omega⟩, rfl⟩) (EX.num SA.sm rfl) (fun p q _ hq => by omega) fun p q _ ⟨r, r1, r2, r3⟩ hq => ⟨_, ?_, rfl⟩) st5 fun v H6 g6 st6 ⟨to, ⟨t1, t2, t3⟩, evv⟩ => ?_
        · rw [show q = many from hq]
          subst r3
          refine ⟨Int.emod_nonneg _ (by omega), Int.emod_lt_of_pos _ (by omega), fun z => ?_⟩
          by_cases hs : se + 1 + r < many
          · rw [Int.emod_eq_of_lt (by omega) hs] at z
            omega
          · have : (se + 1 + r) % many = se + 1 + r - many := by
              rw [← Int.sub_emod_right]
              exact Int.emod_eq_of_lt (by omega) (by omega)
            omega
        cases (show v = .int to from evv)
        have tk6 := (tk4.go g5).go g6
        have fw6 := (aL aN).kp (g6.kp hC1) ((aL aN).kp (g5.kp hC1) fw4)
        have cc6 := (cc4.go g5 ncs hC1).go g6 ncs hC1
        refine st.setX (P := fun v H' => ∃ (n : Nat) (ys : List Nm), (∃ r : Int, 0 ≤ r ∧ r < 3 ∧ (n : Int) = 1 + r) ∧ ys.length = n ∧ (∀ x ∈ ys, x ∈ xs) ∧ PL aN N1 ys v H') (EX.lcR (Ψ := fun m => ∃ r : Int, 0 ≤ r ∧ r < 3 ∧ m = 1 + r) SA.sm SA.U tk6 hC1 (EX.opI (N := N1) (EX.int SA.sm) (ex_nextK (N := N1) h63 rfl (by decide) (by decide)) fun p q _ hp ⟨q1, q2⟩ => ⟨_, ⟨q, q1, q2, by omega⟩, rfl⟩) (fun m ⟨r, r1, r2, r3⟩ => by omega) (fun N' H1 gN' gB' tk' kp j' => ?_) fun v => rfl) st6 fun v H7 g7 st7 ⟨n', zs, ⟨r, r1, r2, r3⟩, zl, zm, pl⟩ => ?_
        · exact ex_one (N := N') h63 (gB' _ (gB _ hN)) rfl rfl ((aL aN).mv (fun b z => (gN' b z)) (.of (.refl _)) fw6 |> fun z => (aL aN).mv (N := N') (N' := N') (fun b z => .inl z) ⟨fun b xs n e => kp.t b xs (fun y => n (gB' b y)) e, fun b u n p e => kp.r b u (fun y => n (gB' b y)) p e, fun b xs n e => kp.l b xs (fun y => n (gB' b y)) e⟩ z) ne hl
        have cc7 := cc6.go g7 ncs hC1
        have tk7 := tk6.go g7
        refine st.append (R := aLe) (x := (se, to, zs)) cc7 nc rfl (ev.tup tk7 (ev.cons (R := aI) (ev.var rfl rfl) (ev.cons (R := aI) (ev.var rfl rfl) (ev.one (R := aV aN) (ev.tupL tk7 (ev.var rfl pl.rl)))))) (Nat.lt_of_le_of_lt (m := 100) (by omega) (by decide)) fun H8 us s8 cc8 => ?_
        refine ⟨_, _, _, _, ys ++ [(se, to, zs)], rfl, ((((g4.trans (g5.mono fun b z => .inr z)).trans (g6.mono fun b z => .inr z)).trans (g7.mono fun b z => .inr z)).sm s8).up (.inl rfl) nt_lst, (st7.sm s8).up off, cc8, fun l hm => ?_, by rw [List.length_append]; show _ + 1 ≤ _; omega, n4⟩
        rcases List.mem_append.mp hm with hm | hm
        · exact ym l hm
        · simp at hm
          subst hm
          refine ⟨⟨h1, by omega⟩, ⟨t1, t2⟩, fun z => t3 z.symm, fun z => ?_, zm, by show zs.length ≤ 3; omega⟩
          have z : zs = [] := z
          rw [z] at zl
          have : ([] : List Nm).length = 0 := rfl
          omega
      · exact ⟨_, js, jt, jh, ys, rfl, g3.sm s4, st3.sm s4, cc3.sm s4, ym, by omega, n4⟩
    · rintro n σ' H3 _ ⟨jk, js, jt, jh, ys, rfl, g3, st3, cc3, ym, yl, n4⟩
      refine st.ret (ev.tupL (N := N) ((tk.sm s2).go g3) (ev.var rfl (cc3.rd gB nN))) fun v H4 s4 e => ?_
      refine k v H4 ys (((Go.of s2).join g3 fun b z => ?_).sm s4) (st3.sm s4) e ym (by omega)
      rcases z with z | z
      · exact .inr (by rw [z]; exact hc)
      · exact .inl z
end
end K02
end
section
set_option Elab.async false
set_option linter.all false
set_option maxRecDepth 100000
namespace K02
open PySem L2 KB TV
set_option autoImplicit false
section
variable {P : Program} {w : World} {K : PySem.W.Frag} {mg : Str → Option Value} {base : Heap} {C : Addr}
theorem all_keys {xs : List Nm} {ys : List Thing} {zs : List Nm} (h : All2 (fun x (t : Thing) => t.1 = x ∧ GoodT zs t) xs ys) : ys.map (·.1) = xs ∧ ∀ t ∈ ys, GoodT zs t := by
  induction h with
  | nil => exact ⟨rfl, fun _ h => absurd h (by simp)⟩
  | cons x _ ih =>
    refine ⟨by rw [List.map_cons, ih.1, x.1], fun t ht => ?_⟩
    rcases List.mem_cons.mp ht with rfl | ht
    · exact x.2
    · exact ih.2 t ht
def spPicture (K : PySem.W.Frag) : Sp := fun vs H Q _ => ∃ (N : Sets) (sp a : Addr) (ns : List Int), vs = [.ref sp] ∧ N sp ∧ Trk N H ∧ StA K H sp a ns ∧ ns.length ≤ 63 ∧
  ∀ v H' p xs, Go (CP sp) H H' → StA K H' sp a ns → aPi.r N p v H' → GoodP p xs → Q v H'
theorem scPicture : FnScope ["_law_state", "_law_many", "_law_names_here", "_law_houses", "_law_house", "_law_hands", "_law_k", "_law_things", "_law_name"] ["_law_state"] (defScope (top 34)) := ⟨rfl, rfl, rfl, by decide +kernel, rfl, by decide +kernel, by decide +kernel⟩
theorem ok_picture {f f1 f2 f3 f4 f5 : Addr} {fd fd1 fd2 fd3 fd4 fd5 : FuncData} (F : Fun K "_law_picture" "_law_picture" (top 34) f fd) (B : Bt mg) (D_law_next : Dn K mg "_law_next" (top 29) ["_law_state", "_law_below"] f1 fd1) (D_law_some : Dn K mg "_law_some" (top 31) ["_law_state", "_law_names_here", "_law_odds"] f2 fd2)
    (D_law_names : Dn K mg "_law_names" (top 30) ["_law_state", "_law_many"] f3 fd3) (D_law_thing : Dn K mg "_law_thing" (top 32) ["_law_state", "_law_name", "_law_names_here"] f4 fd4) (D_law_letters : Dn K mg "_law_letters" (top 33) ["_law_state", "_law_many", "_law_names_here"] f5 fd5) : FnOk P w K mg base CX0 4 f fd ["_law_state"] (spPicture K) := by
  have S := scPicture
  have G_law_next := (ok_next (P := P) (w := w) (base := base) D_law_next.F B).mono (show 1 ≤ 3 by decide)
  have G_law_some := (ok_some (P := P) (w := w) (base := base) D_law_some.F B D_law_next).mono (show 2 ≤ 3 by decide)
  have G_law_names := (ok_names (P := P) (w := w) (base := base) D_law_names.F B D_law_next).mono (show 2 ≤ 3 by decide)
  have G_law_thing := ok_thing (P := P) (w := w) (base := base) D_law_thing.F B D_law_next D_law_some
  have G_law_letters := (ok_letters (P := P) (w := w) (base := base) D_law_letters.F B D_law_next).mono (show 2 ≤ 3 by decide)
  refine F.okZ scPicture (fun vs H Q E h => ?_) (fun cdv A outer s H vs Q E hr h => ?_)
  · obtain ⟨N, sp, a, ns, rfl, _⟩ := h
    rfl
  · obtain ⟨N, sp, a, ns, rfl, hN, tk, st0, h63, k⟩ := h
    refine ⟨_, (Z.seq (Z.stl 1 S.nd (Z.ix Z.ixL (Z.lst (Z.consts (by repeat (first | exact Cs.nil | apply Cs.int | apply Cs.str | apply Cs.non | apply Cs.pow ⟨by decide, by decide, by decide⟩)))) (Z.cf G_law_next hr D_law_next.m D_law_next.F.kp D_law_next.b pass0 (Z.cons (Z.vc 0) (Z.cons Z.int Z.nil)))))
      (Z.seq (Z.stc 2 S.nd (Z.cf G_law_names hr D_law_names.m D_law_names.F.kp D_law_names.b pass0 (Z.cons (Z.vc 0) (Z.cons (Z.vl 1) Z.nil))))
      (Z.seq (Z.stl 3 S.nd (Z.lst Z.nil))
      (Z.seq (Z.loop PassesOwn.never rfl (Z.rg1 B.range (Z.cons (Z.vl 1) Z.nil)) (Z.gc 4 S.nd) (Z.seq (Z.setLc 5 (own := [("_law_k", 6)]) rfl S.nd (Z.rg1 B.range (Z.cons Z.int Z.nil)) (blkOk_by (own := [("_law_k", 6)]) (N := ["_law_state", "_law_many", "_law_names_here", "_law_houses", "_law_house", "_law_hands", "_law_k", "_law_things", "_law_name"]) (sc := defScope (top 34)) (by decide +kernel)) (fun _ _ _ _ _ => (Z.gl 6 S.nd)) (fun _ _ _ _ _ => Z.tsnil) (fun _ _ _ _ _ => (Z.cf G_law_some hr D_law_some.m D_law_some.F.kp D_law_some.b pass0 (Z.cons (Z.vc 0) (Z.cons (Z.vc 2) (Z.cons Z.int Z.nil))))))
      (Z.seq (Z.cond (Z.tcmp (Z.neD hr.units) (Z.vc 2) (Z.lst Z.nil)) (Z.last (Z.stl 5 S.nd (Z.op Z.cat (Z.vl 5) (Z.lc (own := [("_law_k", 6)]) rfl S.nd (Z.rg1 B.range (Z.cons (Z.ix Z.ixL (Z.lst (Z.consts (by repeat (first | exact Cs.nil | apply Cs.int | apply Cs.str | apply Cs.non | apply Cs.pow ⟨by decide, by decide, by decide⟩)))) (Z.cf G_law_next hr D_law_next.m D_law_next.F.kp D_law_next.b pass0 (Z.cons (Z.vc 0) (Z.cons Z.int Z.nil)))) Z.nil)) (blkOk_by (own := [("_law_k", 6)]) (N := ["_law_state", "_law_many", "_law_names_here", "_law_houses", "_law_house", "_law_hands", "_law_k", "_law_things", "_law_name"]) (sc := defScope (top 34)) (by decide +kernel)) (fun _ _ _ _ _ => (Z.gl 6 S.nd)) (fun _ _ _ _ _ => Z.tsnil) (fun _ _ _ _ _ => (Z.ix (Z.ixLK (K := K) rfl) (Z.vc 2) (Z.cf G_law_next hr D_law_next.m D_law_next.F.kp D_law_next.b pass0 (Z.cons (Z.vc 0) (Z.cons (Z.cb (Z.lenK (K := K) rfl) B.len (Z.cons (Z.vc 2) Z.nil)) Z.nil))))))))) Z.snil)
      (Z.seq (Z.setLc 7 (own := [("_law_name", 8)]) rfl S.nd (Z.il (Z.vc 2)) (blkOk_by (own := [("_law_name", 8)]) (N := ["_law_state", "_law_many", "_law_names_here", "_law_houses", "_law_house", "_law_hands", "_law_k", "_law_things", "_law_name"]) (sc := defScope (top 34)) (by decide +kernel)) (fun _ _ _ _ _ => (Z.gl 8 S.nd)) (fun _ _ _ _ _ => (Z.tsone (Z.tcmp Z.eq (Z.ix (Z.ixTK (K := K) rfl) (Z.vl 8) Z.int) (Z.vc 4)))) (fun _ _ _ _ _ => (Z.cf G_law_thing hr D_law_thing.m D_law_thing.F.kp D_law_thing.b pass0 (Z.cons (Z.vc 0) (Z.cons (Z.vl 8) (Z.cons (Z.vc 2) Z.nil))))))
      (Z.last (Z.expr (Z.bm PySem.F.plainAttrs_list PySem.F.slot_list_append PySem.F.type_list_append ⟨mt_append⟩ (Z.vl 3) (Z.cons (Z.tup (Z.cons (Z.ct Z.tupO B.tuple (Z.cons (Z.vl 5) Z.nil)) (Z.cons (Z.ct Z.tupO B.tuple (Z.cons (Z.vl 7) Z.nil)) Z.nil))) Z.nil))))))))
      (Z.last (Z.ret (Z.tup (Z.cons (Z.ct Z.tupO B.tuple (Z.cons (Z.vl 3) Z.nil)) (Z.cons (Z.cf G_law_letters hr D_law_letters.m D_law_letters.F.kp D_law_letters.b pass0 (Z.cons (Z.vc 0) (Z.cons (Z.vl 1) (Z.cons (Z.vc 2) Z.nil)))) Z.nil))))))))), ?_⟩
    show tSeq _ _ _ [some (.ref sp), none, none, none, none, none, none, none, none] H
    have hC : ∀ b, CP sp b → N b := fun b z => by rw [show b = sp from z]; exact hN
    have pk : ∀ {H' : Hp} {σ : St} {E : XK} (zs : List Int) (b lo hi : Int) (hz : (zs.length : Int) = b) (hp : ∀ z ∈ zs, lo ≤ z ∧ z ≤ hi) (hb : b < 1000) (hb0 : 0 < b), Trk N H' → σ[0]? = some (some (.ref sp)) →
        EX (CP sp) (SA K sp a ns) (tOp (rIxL K) (tLst fun _ H Q => Q (zs.map V.int) H) (tCall (spNext K) [] E (tCons (tVar 0) (tCons (tC (.int b)) tNil)))) σ H' (So aI N fun r => lo ≤ r ∧ r ≤ hi) := fun zs b lo hi hz hp hb hb0 tk' h0 =>
      EX.pick (R := aI) (Φ2 := fun r => lo ≤ r ∧ r ≤ hi) (EX.of SA.sm fun H1 g => (ev.nums (tk'.go g) zs (Nat.le_trans (by omega : zs.length ≤ 1000) (by decide))).rl) (ex_nextK (N := N) h63 h0 hb0 (by omega)) hC (fun j ⟨h1, h2⟩ => by omega) hp
    refine st.setX (pk [2, 3, 1, 4, 2, 3, 5, 8] 8 1 8 rfl (by simp) (by decide) (by decide) tk rfl) st0 fun v H1 g1 st1 ⟨many, ⟨m1, m8⟩, e⟩ => ?_
    cases (show v = .int many from e)
    obtain ⟨m, rfl⟩ : ∃ m : Nat, many = m := ⟨many.toNat, by omega⟩
    refine ⟨.ref sp, rfl, _, rfl, N, sp, a, ns, m, rfl, hN, tk.go g1, st1, h63, m1, m8, fun w H2 xs g2 st2 fw gn => ?_⟩
    have hxl : xs.length ≤ 40 := by have := gn.l; omega
    show tSeq _ _ _ [some (.ref sp), some (.int m), some w, none, none, none, none, none, none] H2
    have g12 := g1.trans g2
    have tk2 := tk.go g12
    have st3 := st2
    have g13 := g12
    have tk3 := tk2
    have fw3 := fw
    refine st.newL (N := N) aHo fun c hc cc => ?_
    obtain ⟨N1, hN1⟩ : ∃ N1 : Sets, N1 = fun b => b = c ∨ N b := ⟨_, rfl⟩
    have tk4 : Trk N1 (upd H2 c (.lst [])) := hN1 ▸ tk3.grow nt_lst
    have nc : N1 c := by rw [hN1]; exact .inl rfl
    have gN : ∀ a, N1 a → N a ∨ H2 a = none := by rw [hN1]; exact grow1 hc
    have gB : ∀ a, N a → N1 a := fun a z => by rw [hN1]; exact .inr z
    rw [← hN1] at cc
    have off := st3.off hc
    have s4 : Sm H2 (upd H2 c (.lst [])) := .new hc
    have st4 := st3.sm s4
    have fw4 := (aL aN).to fw3 gN s4
    have nN : ¬ N c := tk3.no hc
    have g14 := g13.sm s4
    have hcH : H c = none := g13.d c hc
    generalize upd H2 c (.lst []) = H4 at s4 tk4 cc st4 fw4 g14 ⊢
    have hC1 : ∀ b, CP sp b → N1 b := fun b z => gB b (hC b z)
    have ncs : ¬ CP sp c := off.p
    have mono : ∀ b, (fun b => b = c ∨ b = sp) b → N1 b := fun b z => z.elim (fun y => by rw [y]; exact nc) fun y => by rw [y]; exact gB _ hN
    refine st.forR (C := fun b => b = c ∨ b = sp) (n := m) (N := N1) (ev.one (ev.var rfl rfl)) (by omega) (fun i σ' H' => ∃ j5 j6 j8 hs, σ' = [some (.ref sp), some (.int m), some w, some (.ref c), j5, j6, none, j8, none] ∧ StA K H' sp a ns ∧ LC aHo N1 hs c H' ∧ hs.length = i ∧
      ∀ (i : Nat) (h : House), hs[i]? = some h → (4 ≤ h.1.length ∧ h.1.length ≤ 10) ∧ (∀ o ∈ h.1.drop 4, o ≠ none) ∧ (∀ q, some q ∈ h.1 → q ∈ xs) ∧ h.2.map (·.1) = xs.filter (fun q => decide (q.1 = (i : Int))) ∧ ∀ t ∈ h.2, GoodT xs t)
      (fun H5 s5 => ⟨none, none, none, [], rfl, st4.sm s5, cc.sm s5, rfl, fun _ _ h => absurd h (by simp)⟩) ?_ ?_
    · rintro i σ' H5 hi g5 ⟨j5, j6, j8, hs, rfl, st5, cc5, hl, hp⟩
      have tk5 := tk4.go g5
      have fw5 := (aL aN).kp (g5.kp mono) fw4
      show tSeq _ _ _ [some (.ref sp), some (.int m), some w, some (.ref c), some (.int i), j6, none, j8, none] H5
      refine st.setX (P := fun v H' => ∃ (n : Nat) (ys : List (Option Nm)), (n : Int) = 4 ∧ ys.length = n ∧ (∀ x ∈ ys, ∀ q, x = some q → q ∈ xs) ∧ PL (aO aN) N1 ys v H') (EX.lcR (Ψ := fun m => m = 4) SA.sm SA.U tk5 hC1 (EX.int SA.sm) (fun m e => by omega) (fun N' H1 gN' gB' tk' kp j' => ?_) fun v => rfl) st5 fun v H6 g6 st6 ⟨n', zs, n4, zl, zm, pl⟩ => ?_
      · exact ex_some (N := N') (Ψ := fun b => b = 2) h63 (gB' _ (gB _ hN)) tk' rfl rfl ((aL aN).mv (N := N') (N' := N') (fun b z => .inl z) ⟨fun b xs n e => kp.t b xs (fun y => n (gB' b y)) e, fun b u n p e => kp.r b u (fun y => n (gB' b y)) p e, fun b xs n e => kp.l b xs (fun y => n (gB' b y)) e⟩ ((aL aN).mv (fun b z => gN' b z) (.of (.refl _)) fw5)) (by omega) (EX.int SA.sm) fun b e => by omega
      have tk6 := tk5.go g6
      have fw6 := (aL aN).kp (g6.kp hC1) fw5
      have cc6 := cc5.go g6 ncs hC1
      show tSeq _ _ _ [some (.ref sp), some (.int m), some w, some (.ref c), some (.int i), some v, none, j8, none] H6
      refine st.cut (fun σ' H' => ∃ hv hd, σ' = [some (.ref sp), some (.int m), some w, some (.ref c), some (.int i), some hv, none, j8, none] ∧ Go (CP sp) H6 H' ∧ StA K H' sp a ns ∧ PL (aO aN) N1 hd hv H' ∧ (4 ≤ hd.length ∧ hd.length ≤ 10) ∧ (∀ o ∈ hd.drop 4, o ≠ none) ∧ ∀ q, some q ∈ hd → q ∈ xs) (fun k' hk' => ?_) ?_
      · refine st.condX (C := CP sp) (A := SA K sp a ns) (EXT.of SA.sm fun H1 g => ev.tTest (N := N1) (ev.neD (datL datN) (ev.var rfl ((aL aN).kp (g.kp hC1) fw6)) (ev.lst (tk6.go g) ev.zero) (fun q _ => okN q) (fun _ h => absurd h (by simp)))) st6 (fun h H7 g7 st7 => ?_) (fun h H7 g7 st7 => ?_)
        · have ne : xs ≠ [] := by simpa using h.symm
          have tk7 := tk6.go g7
          have fw7 := (aL aN).kp (g7.kp hC1) fw6
          have hcount : EX (CP sp) (SA K sp a ns) (tOp (rIxL K) (tLst fun _ H Q => Q (([0, 0, 1, 6] : List Int).map V.int) H) (tCall (spNext K) [] E0 (tCons (tVar 0) (tCons (tC (.int 4)) tNil)))) [some (.ref sp), some (.int m), some w, some (.ref c), some (.int i), some v, none, j8, none] H7 (So aI N1 fun r => 0 ≤ r ∧ r ≤ 6) :=
            EX.pick (R := aI) (Φ2 := fun r => 0 ≤ r ∧ r ≤ 6) (EX.of SA.sm fun H1 g => (ev.nums (tk7.go g) [0, 0, 1, 6]).rl) (ex_nextK (N := N1) h63 rfl (by decide) (by decide)) hC1 (fun j ⟨h1, h2⟩ => ⟨h1, h2⟩) (by simp)
          have hcomp := EX.lcR (N := N1) (R := aO aN) (i := 6) (Ψ := fun m => 0 ≤ m ∧ m ≤ 6) (Φ := fun o => ∃ q, o = some q ∧ q ∈ xs) SA.sm SA.U tk7 hC1 hcount (fun m e => by omega) (te := tOp (rIxL K) (tVar 2) (tCall (spNext K) [] E0 (tCons (tVar 0) (tCons (tCB (Z.rLenK K) (tCons (tVar 2) tNil)) tNil)))) (fun N' H1 gN' gB' tk' kp j' => (ex_one (N := N') h63 (gB' _ (gB _ hN)) rfl rfl ((aL aN).mv (N := N') (N' := N') (fun b z => .inl z) ⟨fun b xs n e => kp.t b xs (fun y => n (gB' b y)) e, fun b u n p e => kp.r b u (fun y => n (gB' b y)) p e, fun b xs n e => kp.l b xs (fun y => n (gB' b y)) e⟩ ((aL aN).mv (fun b z => gN' b z) (.of (.refl _)) fw7)) ne (by omega)).imp fun v H' ⟨q, hq, r⟩ => ⟨some q, ⟨q, rfl, hq⟩, some_in r⟩) fun v => rfl
          refine st.setX1 (EX.cat (N := N1) (Φ := fun ys : List (Option Nm) => ys.length ≤ 6 ∧ ∀ o ∈ ys, ∃ q, o = some q ∧ q ∈ xs) SA.sm tk7 hC1 (EX.of SA.sm fun H1 g => fun H2 s2 Q kq => ⟨v, rfl, kq v H2 (.refl _) (((pl.go g7 hC1).go g hC1).sm s2)⟩) (hcomp.imp fun v' H' ⟨n, ys, hn, hl, hy, p⟩ => ⟨ys, ⟨by omega, hy⟩, p⟩) fun ys e => Nat.le_trans (m := 20) (by have := e.1; omega) (by decide)) st7 fun v' H8 g8 st8 ⟨ys, ⟨hy6, hy⟩, pl8⟩ => ?_
          refine hk' _ _ ⟨v', zs ++ ys, rfl, g7.trans g8, st8, pl8, by rw [List.length_append]; omega, fun o ho => ?_, fun q hq => ?_⟩
          · rw [List.drop_append_of_le_length (by omega), List.drop_of_length_le (by omega), List.nil_append] at ho
            obtain ⟨q, rfl, _⟩ := hy o ho
            exact fun z => nomatch z
          rcases List.mem_append.mp hq with hq | hq
          · exact zm _ hq q rfl
          · obtain ⟨q', e, h'⟩ := hy _ hq
            cases e
            exact h'
        · have hz4 : ∀ o ∈ zs.drop 4, o ≠ none := fun o ho => by
            rw [List.drop_of_length_le (by omega)] at ho
            cases ho
          exact hk' _ _ ⟨v, zs, rfl, g7, st7, pl.go g7 hC1, ⟨by omega, by omega⟩, hz4, fun q hq => zm _ hq q rfl⟩
      rintro σ7 H7 ⟨hv, hd, rfl, g7, st7, pl7, hdl, hdn, hdm⟩
      have tk7 := tk6.go g7
      have fw7 := (aL aN).kp (g7.kp hC1) fw6
      have cc7 := cc6.go g7 ncs hC1
      refine st.setX (P := fun v H' => ∃ ys : List Thing, All2 (fun x (t : Thing) => t.1 = x ∧ GoodT xs t) (xs.filter fun q => decide (q.1 = (i : Int))) ys ∧ PL aTh N1 ys v H') (EX.lcL (S := aTh) (p := fun q => decide (q.1 = (i : Int))) SA.sm SA.U tk7 hC1 (EX.of SA.sm fun H1 g => ev.var rfl ((aL aN).kp (g.kp hC1) fw7)) (by omega) (fun x hx N' H1 gN' gB' tk' kp xv rx => ⟨?_, fun _ => ?_⟩) fun v => rfl) st7 fun tv H8 g8 st8 ⟨ts, hts, pt⟩ => ?_
      · exact ev.tTest (N := N') (ev.eqI (ev.ix (n := 0) ev.At.first (ev.var rfl rx)) (ev.var (R := aI) rfl rfl))
      · have fw' : (aL aN).r N' xs w H1 := (aL aN).mv (N := N') (N' := N') (fun b z => .inl z) ⟨fun b xs n e => kp.t b xs (fun y => n (gB' b y)) e, fun b u n p e => kp.r b u (fun y => n (gB' b y)) p e, fun b xs n e => kp.l b xs (fun y => n (gB' b y)) e⟩ ((aL aN).mv (fun b z => gN' b z) (.of (.refl _)) fw7)
        intro H2 g st' Q kq
        have hC' : ∀ b, CP sp b → N' b := fun b z => gB' b (hC1 b z)
        exact ⟨_, rfl, _, rfl, _, rfl, N', sp, a, ns, xs, xv, w, x, rfl, gB' _ (gB _ hN), tk'.go g, st', h63, aN.kp (g.kp hC') rx, (aL aN).kp (g.kp hC') fw', by omega, fun v H' t g' st'' r e gt => kq v H' g' st'' ⟨t, ⟨e, gt⟩, r⟩⟩
      obtain ⟨tk1, tk2'⟩ := all_keys hts
      have tk8 := tk7.go g8
      have cc8 := cc7.go g8 ncs hC1
      have pl8 := pl7.go g8 hC1
      have htl : ts.length ≤ 1000 := by
        have h1 := congrArg List.length tk1
        rw [List.length_map] at h1
        have h2 : (xs.filter fun q => decide (q.1 = (i : Int))).length ≤ xs.length := List.length_filter_le _ _
        omega
      refine st.append (R := aHo) (x := (hd, ts)) cc8 nc rfl (ev.tup tk8 (ev.cons (R := aF) (ev.tupL tk8 (ev.var rfl pl8.rl)) (ev.one (R := aV aTh) (ev.tupL tk8 (ev.var rfl pt.rl))))) (Nat.lt_of_le_of_lt (m := 100) (by omega) (by decide)) fun H9 us s9 cc9 => ?_
      refine ⟨(((g6.trans (g7.trans g8)).mono fun b z => .inr z).sm s9).up (.inl rfl) nt_lst, _, _, _, hs ++ [(hd, ts)], rfl, (st8.sm s9).up off, cc9, by rw [List.length_append, hl]; rfl, fun j h hj => ?_⟩
      rw [List.getElem?_append] at hj
      split at hj
      · exact hp j h hj
      · rename_i hge
        have e1 : j = i := by
          have := (List.getElem?_eq_some_iff.mp hj).1
          simp at this
          omega
        subst e1
        rw [hl, Nat.sub_self] at hj
        cases (Option.some.inj hj)
        exact ⟨hdl, hdn, hdm, tk1, tk2'⟩
    · rintro σ' H5 g5 ⟨j5, j6, j8, hs, rfl, st5, cc5, hl, hp⟩
      have tk5 := tk4.go g5
      have fw5 : (aL aN).r N xs w H5 := (aL aN).mv (fun b z => .inl (gB b z)) (.of (.refl _)) ((aL aN).kp (g5.kp mono) fw4)
      have g15 : Go (CP sp) H H5 := g14.join g5 fun b z => z.elim (fun y => .inr (by rw [y]; exact hcH)) .inl
      have tkN := tk.go g15
      refine st.retX (EX.tup2 (N := N) (R := aV aHo) (S := aV aLe) (Φ := fun z => z = hs) (Ψ := fun ls => (∀ l ∈ ls, GoodL xs m l) ∧ ls.length ≤ 3) SA.sm tkN hC (EX.of SA.sm fun H1 g => (ev.tupL (tkN.go g) (ev.var rfl ((aL aHo).kp (g.kp hC) (cc5.rd gB nN)))).imp fun v _ _ e => ⟨hs, rfl, e⟩) ?_) st5 fun v H6 g6 st6 ⟨⟨hs', ls⟩, ⟨e, gl, l2⟩, r⟩ => ?_
      · intro H6 g6 st6 Q kq
        exact ⟨_, rfl, _, rfl, _, rfl, N, sp, a, ns, xs, w, m, rfl, hN, tkN.go g6, st6, h63, (aL aN).kp (g6.kp hC) fw5, by omega, m1, m8, fun lv H7 ls g7 st7 fl gl l2 => kq lv H7 g7 st7 ⟨ls, ⟨gl, l2⟩, fl⟩⟩
      · cases (show hs' = hs from e)
        exact k v H6 (hs, ls) xs (g15.trans g6) st6 r ⟨by rw [hl]; exact gn, ⟨by rw [hl]; omega, by rw [hl]; omega⟩, hp, fun l hlm => by rw [hl]; exact gl l hlm, l2⟩
end
theorem flat_keys {p : Pict} {xs : List Nm} (g : GoodP p xs) : (rowsOf p).map (·.1) = xs := by
  have h1 : (rowsOf p).map (·.1) = (List.range p.1.length).flatMap fun (i : Nat) => xs.filter fun q => decide (q.1 = (i : Int)) := by
    unfold rowsOf
    rw [List.map_flatMap]
    have h2 : ∀ (hs : List House) (k : Nat), (∀ (i : Nat) (h : House), hs[i]? = some h → h.2.map (·.1) = xs.filter (fun q => decide (q.1 = ((k + i : Nat) : Int)))) → (hs.flatMap fun a => (a.2.map fun t => (t.1, t.2.2)).map (·.1)) = (List.range' k hs.length).flatMap fun (i : Nat) => xs.filter fun q => decide (q.1 = (i : Int)) := by
      intro hs
      induction hs with
      | nil => intro k _; rfl
      | cons h hs ih =>
        intro k hk
        rw [List.flatMap_cons, List.length_cons, List.range'_succ, List.flatMap_cons]
        congr 1
        · rw [List.map_map]
          have := hk 0 h rfl
          exact this
        · refine ih (k + 1) fun i h' hi => ?_
          have := hk (i + 1) h' (by simpa using hi)
          rw [show k + 1 + i = k + (i + 1) by omega]
          exact this
    rw [List.range_eq_range']
    exact h2 p.1 0 fun i h hi => by rw [Nat.zero_add]; exact (g.hh i h hi).2.2.2.1
  rw [h1]
  have h3 : ∀ (xs : List Nm) (n : Nat), xs.Pairwise Lt → (∀ q ∈ xs, 0 ≤ q.1 ∧ q.1 < (n : Int)) → ((List.range n).flatMap fun (i : Nat) => xs.filter fun q => decide (q.1 = (i : Int))) = xs := by
    intro xs n
    induction n generalizing xs with
    | zero =>
      intro _ h
      cases xs with
      | nil => rfl
      | cons x xs => have := h x (by simp); omega
    | succ n ih =>
      intro pw h
      rw [List.range_succ, List.flatMap_append]
      have e1 : xs = (xs.filter fun q => decide (q.1 < (n : Int))) ++ xs.filter fun q => decide (q.1 = (n : Int)) := by
        clear ih
        induction xs with
        | nil => rfl
        | cons x xs ihx =>
          have hx := h x (by simp)
          have hr := fun q hq => h q (List.mem_cons_of_mem _ hq)
          rw [List.pairwise_cons] at pw
          by_cases c : x.1 < (n : Int)
          · rw [List.filter_cons_of_pos (by simpa using c), List.filter_cons_of_neg (by simp; omega), List.cons_append, ← ihx pw.2 hr]
          · have e : x.1 = (n : Int) := by omega
            have all : ∀ q ∈ xs, q.1 = (n : Int) := fun q hq => by
              have h1 := pw.1 q hq
              have h2 := hr q hq
              unfold Lt at h1
              omega
            rw [List.filter_cons_of_neg (by simpa using c), List.filter_cons_of_pos (by simpa using e)]
            have f1 : (xs.filter fun q => decide (q.1 < (n : Int))) = [] := List.filter_eq_nil_iff.mpr fun q hq => by simp; have := all q hq; omega
            have f2 : (xs.filter fun q => decide (q.1 = (n : Int))) = xs := List.filter_eq_self.mpr fun q hq => by simpa using all q hq
            rw [f1, f2]
            rfl
      have h4 := ih (xs.filter fun q => decide (q.1 < (n : Int))) (pw.filter _) fun q hq => by
        rw [List.mem_filter] at hq
        have := h q hq.1
        have h5 : q.1 < (n : Int) := by simpa using hq.2
        omega
      have h6 : ((List.range n).flatMap fun (i : Nat) => xs.filter fun q => decide (q.1 = (i : Int))) = (List.range n).flatMap fun (i : Nat) => (xs.filter fun q => decide (q.1 < (n : Int))).filter fun q => decide (q.1 = (i : Int)) := by
        rw [List.flatMap_def, List.flatMap_def]
        congr 1
        refine List.map_congr_left fun i hi => ?_
        rw [List.filter_filter]
        refine List.filter_congr fun q _ => ?_
        have hi : i < n := List.mem_range.mp hi
        by_cases c : q.1 = (i : Int)
        · simp [c]; omega
        · simp [c]
      rw [h6, h4]
      conv => rhs; rw [e1]
      simp
  exact h3 xs _ g.n.r fun q hq => ⟨(g.n.h q hq).1, (g.n.h q hq).2.1⟩
theorem lt_nodup {xs : List Nm} (h : xs.Pairwise Lt) : xs.Nodup := h.imp fun {a b} z e => by
  subst e
  unfold Lt at z
  omega
theorem store_all {A : Type} : ∀ (ps m : List (Nm × A)), ((m ++ ps).map (·.1)).Nodup → ps.foldl (fun m p => store m p.1 p.2) m = m ++ ps
  | [], m, _ => by simp
  | p :: ps, m, h => by
    rw [List.foldl_cons]
    have hn : look m p.1 = none := look_none.mpr fun z => by
      rw [List.map_append] at h
      exact (List.nodup_append.mp h).2.2 _ z p.1 (by simp) rfl
    rw [store_new hn, store_all ps _ (by simpa using h)]
    simp
theorem fields_good {p : Pict} {xs : List Nm} (g : GoodP p xs) : fieldsOf p = rowsOf p := by
  unfold fieldsOf
  rw [store_all _ _ (by rw [List.nil_append, flat_keys g]; exact lt_nodup g.n.r)]
  rfl
end K02
end
section
set_option Elab.async false
set_option linter.all false
set_option maxRecDepth 100000
namespace K02
open PySem L2 KB TV
set_option autoImplicit false
theorem lt_nm {a b : Nm} (h : Lt a b) : nmLt a b = true := by
  unfold nmLt
  unfold Lt at h
  simp only [HT.lexLt]
  by_cases e : a.1 = b.1
  · rw [if_pos e]
    by_cases e2 : a.2 = b.2
    · omega
    · rw [if_neg e2]; exact decide_eq_true (by omega)
  · rw [if_neg e]; exact decide_eq_true (by omega)
theorem rises_pw {ys : List Nm} (h : ys.Pairwise Lt) : risesC ys = true := qu_all fun z hz => by
  obtain ⟨i, hi⟩ := List.mem_iff_getElem?.mp hz
  rw [List.getElem?_zip_eq_some] at hi
  obtain ⟨h1, h2⟩ := hi
  rw [List.getElem?_drop] at h2
  obtain ⟨l1, e1⟩ := List.getElem?_eq_some_iff.mp h1
  obtain ⟨l2, e2⟩ := List.getElem?_eq_some_iff.mp h2
  rw [← e1, ← e2]
  exact lt_nm (List.pairwise_iff_getElem.mp h i (1 + i) l1 l2 (by omega))
section
variable {p : Pict} {xs : List Nm}
theorem nm_in (g : GoodP p xs) {q : Nm} (h : q ∈ xs) : isNm (p.1.length : Int) q = true := by
  obtain ⟨h1, h2, h3, h4⟩ := g.n.h q h
  unfold isNm isHs
  rw [decide_eq_true h1, decide_eq_true h2, decide_eq_true h3, decide_eq_true h4]
  rfl
theorem enum_at {i : Int} {ho : House} (h : (i, ho) ∈ enumI 0 p.1) : ∃ n : Nat, i = (n : Int) ∧ p.1[n]? = some ho := by
  obtain ⟨n, hn⟩ := List.mem_iff_getElem?.mp h
  rw [enumI_get] at hn
  cases e : p.1[n]? with
  | none => rw [e] at hn; simp at hn
  | some x =>
    rw [e] at hn
    simp at hn
    exact ⟨n, by omega, e.trans (by rw [hn.2])⟩
theorem good_pic (g : GoodP p xs) : GoodPic p := by
  have hxl : xs.length ≤ 40 := by have := g.n.l; have := g.b; omega
  refine ⟨g.b.1, g.b.2, fun z hz => ?_, fun l hl => ?_⟩
  · obtain ⟨i, ho⟩ := z
    obtain ⟨n, rfl, hn⟩ := enum_at hz
    obtain ⟨⟨l4, l10⟩, hd, hm, hk, ht⟩ := g.hh n ho hn
    have hO : ∀ o ∈ ho.1, isO (p.1.length : Int) o = true := fun o h => by
      cases o with
      | none => rfl
      | some q => exact nm_in g (hm q h)
    refine ⟨l4, l10, ⟨(ho.1.drop 4).filterMap id, ?_, qu_all fun q hq => ?_⟩, qu_all fun o h => hO o (List.mem_of_mem_take h), ⟨?_, fun t htm => ?_, ?_⟩⟩
    · have h1 : ∀ l : List (Option Nm), (∀ o ∈ l, o ≠ none) → l = (l.filterMap id).map some := fun l => by
        induction l with
        | nil => intro _; rfl
        | cons o t ih =>
          intro h
          cases o with
          | none => exact absurd rfl (h none (by simp))
          | some q =>
            exact congrArg (some q :: ·) (ih fun o ho => h o (by simp [ho]))
      exact h1 _ hd
    · obtain ⟨o, ho', e⟩ := List.mem_filterMap.mp hq
      have e : o = some q := e
      subst e
      exact nm_in g (hm q (List.mem_of_mem_drop ho'))
    · have h1 := congrArg List.length hk
      rw [List.length_map] at h1
      have h2 := List.length_filter_le (fun q : Nm => decide (q.1 = (n : Int))) xs
      show ho.2.length ≤ 40
      omega
    · have htk : t.1 ∈ xs.filter (fun q => decide (q.1 = (n : Int))) := by rw [← hk]; exact List.mem_map_of_mem (f := fun t : Thing => t.1) htm
      obtain ⟨h1, h2⟩ := List.mem_filter.mp htk
      have gt := ht t htm
      refine ⟨nm_in g h1, of_decide_eq_true h2, qu_all fun o h => ?_, gt.s.imp id fun z => ⟨z, gt.l⟩⟩
      cases o with
      | none => rfl
      | some q => exact nm_in g (gt.f q h)
    · show risesC (ho.2.map fun t => t.1) = true
      rw [hk]
      exact rises_pw (g.n.r.filter _)
  · have gl := g.ll l hl
    refine ⟨?_, ?_, gl.n, qu_all fun q hq => nm_in g (gl.m q hq), ?_⟩
    · unfold isHs; rw [decide_eq_true gl.s.1, decide_eq_true gl.s.2]; rfl
    · unfold isHs; rw [decide_eq_true gl.t.1, decide_eq_true gl.t.2]; rfl
    · exact List.length_pos_iff.mpr gl.e
theorem good_bnd (g : GoodP p xs) : Bnd p := by
  have hxl : xs.length ≤ 40 := by have := g.n.l; have := g.b; omega
  refine ⟨g.b.2, fun h hh => ?_, by have := g.l2; omega, fun l hl => by have := (g.ll l hl).l; omega⟩
  obtain ⟨n, hn⟩ := List.mem_iff_getElem?.mp hh
  obtain ⟨⟨l4, l10⟩, hd, hm, hk, ht⟩ := g.hh n h hn
  refine ⟨l10, ?_, fun t htm => (ht t htm).l⟩
  have h1 := congrArg List.length hk
  rw [List.length_map] at h1
  have h2 := List.length_filter_le (fun q : Nm => decide (q.1 = (n : Int))) xs
  omega
theorem good_cl (g : GoodP p xs) : Closed2 p ((fieldsOf p).map (·.1)) := by
  rw [fields_good g, flat_keys g]
  refine ⟨fun h hh q hq => ?_, fun h hh t ht q hq => ?_, fun l hl q hq => (g.ll l hl).m q hq⟩
  · obtain ⟨n, hn⟩ := List.mem_iff_getElem?.mp hh
    exact (g.hh n h hn).2.2.1 q hq
  · obtain ⟨n, hn⟩ := List.mem_iff_getElem?.mp hh
    exact ((g.hh n h hn).2.2.2.2 t ht).f q hq
end
def numC (k : Nat) : Int := if k < 39 then (k : Int) else 99
def thC (k : Nat) : Thing := (((0 : Int), numC k), Str.ofString "thing", [some ((0 : Int), numC ((k + 1) % 40)), none])
def fullP : Pict := ([([none, none, none, some (0, 99)], (List.range 40).map thC), ([none, none, none, none], [])], [(1, 0, [(0, 38)])])
theorem full_keys : (fieldsOf fullP).map (·.1) = (List.range 40).map fun k => ((0 : Int), numC k) := by decide +kernel
theorem full_pic : GoodPic fullP := by
  refine ⟨by decide, by decide, ?_, ?_⟩
  · intro z hz
    have hz : z = ((0 : Int), ([none, none, none, some (0, 99)], (List.range 40).map thC)) ∨ z = ((1 : Int), ([none, none, none, none], [])) := by
      have e : enumI 0 fullP.1 = [((0 : Int), ([none, none, none, some (0, 99)], (List.range 40).map thC)), ((1 : Int), ([none, none, none, none], []))] := rfl
      rw [e] at hz
      simpa using hz
    rcases hz with rfl | rfl
    · refine ⟨by decide, by decide, ⟨[], by decide, by decide⟩, by decide +kernel, ⟨by decide, fun t ht => ?_, by decide +kernel⟩⟩
      obtain ⟨k, hk, rfl⟩ := List.mem_map.mp ht
      have hk := List.mem_range.mp hk
      have h2 : ∀ k : Nat, k < 40 → 0 ≤ numC k ∧ numC k ≤ 99 := fun k h => by unfold numC; split <;> omega
      have h3 : ∀ k : Nat, k < 40 → isNm ((2 : Nat) : Int) ((0 : Int), numC k) = true := fun k h => by
        obtain ⟨a, b⟩ := h2 k h
        unfold isNm isHs
        simp [a, b]
      refine ⟨h3 k hk, rfl, qu_all fun o ho => ?_, .inr ⟨rfl, by show 2 ≤ 4; decide⟩⟩
      simp [thC] at ho
      rcases ho with rfl | rfl
      · exact h3 _ (Nat.mod_lt _ (by decide))
      · rfl
    · exact ⟨by decide, by decide, ⟨[], by decide, by decide⟩, by decide, ⟨by decide, fun t ht => (nomatch ht), by decide⟩⟩
  · intro l hl
    have hl : l = (1, 0, [(0, 38)]) := by simpa [fullP] using hl
    subst hl
    exact ⟨by decide, by decide, by decide, by decide, by decide⟩
theorem full_bnd : Bnd fullP := by
  refine ⟨by decide, fun h hh => ?_, by decide, fun l hl => ?_⟩
  · have hh : h = ([none, none, none, some (0, 99)], (List.range 40).map thC) ∨ h = ([none, none, none, none], []) := by simpa [fullP] using hh
    rcases hh with rfl | rfl
    · refine ⟨by decide, by decide, fun t ht => ?_⟩
      obtain ⟨k, _, rfl⟩ := List.mem_map.mp ht
      show 2 ≤ 4
      decide
    · exact ⟨by decide, by decide, fun t ht => (nomatch ht)⟩
  · have hl : l = (1, 0, [(0, 38)]) := by simpa [fullP] using hl
    subst hl
    decide
theorem full_cl : Closed2 fullP ((fieldsOf fullP).map (·.1)) := by
  rw [full_keys]
  have key : ∀ k : Nat, k < 40 → ((0 : Int), numC k) ∈ (List.range 40).map fun k => ((0 : Int), numC k) := fun k h => List.mem_map.mpr ⟨k, List.mem_range.mpr h, rfl⟩
  refine ⟨fun h hh q hq => ?_, fun h hh t ht q hq => ?_, fun l hl q hq => ?_⟩
  · have hh : h = ([none, none, none, some (0, 99)], (List.range 40).map thC) ∨ h = ([none, none, none, none], []) := by simpa [fullP] using hh
    rcases hh with rfl | rfl
    · have hq : q = (0, 99) := by simpa using hq
      subst hq
      exact key 39 (by decide)
    · simp at hq
  · have hh : h = ([none, none, none, some (0, 99)], (List.range 40).map thC) ∨ h = ([none, none, none, none], []) := by simpa [fullP] using hh
    rcases hh with rfl | rfl
    · obtain ⟨k, _, rfl⟩ := List.mem_map.mp ht
      have hq : q = ((0 : Int), numC ((k + 1) % 40)) := by simpa [thC] using hq
      subst hq
      exact key _ (Nat.mod_lt _ (by decide))
    · exact absurd ht (fun z => nomatch z)
  · have hl : l = (1, 0, [(0, 38)]) := by simpa [fullP] using hl
    subst hl
    have hq : q = (0, 38) := by simpa using hq
    subst hq
    exact key 38 (by decide)
end K02
end
section
set_option Elab.async false
set_option linter.all false
set_option maxRecDepth 100000
set_option autoImplicit false
namespace L2
open PySem PySem.Spec PyProof.Rows
def tLsR (ta : TA) : TE := fun σ H Q => ta σ H fun vs H1 => ∃ n : Nat, vs = [.int (n : Int)] ∧ n ≤ 1000 ∧ ∀ l, H1 l = none → Q (.ref l) (upd H1 l (.lst ((List.range n).map fun (i : Nat) => V.int (i : Int))))
theorem vals_from : ∀ (l : List Value) (k : Nat), (∀ (j : Nat) v, l[j]? = some v → ∃ t, v = Value.int ((k + j : Nat) : Int) t) → Vals ((List.range' k l.length).map fun (i : Nat) => V.int (i : Int)) l
  | [], _, _ => .nil
  | x :: l, k, h => by
    obtain ⟨t, rfl⟩ := h 0 x rfl
    rw [List.length_cons, List.range'_succ, List.map_cons]
    exact .cons ⟨t, by simp⟩ (vals_from l (k + 1) fun j v hv => by
      obtain ⟨t, e⟩ := h (j + 1) v (by simpa using hv)
      exact ⟨t, by rw [e]; congr 1; omega⟩)
theorem pe_lsR {X : Cx} {e : Expr} {ta : TA} {p pos p' pos' : Pos} (hc : X.calm = true) (hl : X.mg "list" = none) (hm : X.mg "range" = none) (ha : PA X [e] ta) (hgl : Gl X "list") (hg : Gl X "range")
    (hs1 : starEach [.Call (.Name "range" p') [e] [] pos'] X.env = [(false, eval (.Call (.Name "range" p') [e] [] pos') X.env)]) (hs : starEach [e] X.env = [(false, eval e X.env)]) :
    PE X (.Call (.Name "list" p) [.Call (.Name "range" p') [e] [] pos'] [] pos) (tLsR ta) := by
  intro pins s σ H Q I h
  refine wpAny_Call_Name_kw (ld_blt I hgl hl boot_list ?_)
  refine PyProof.Rows.callWith_type1 ?_ hs1 rfl
  rw [hs1]
  show wpAny _ _ (spliced ((false, eval (.Call (.Name "range" p') [e] [] pos') X.env) :: [])) _ _ s
  refine Calls.spliced_cons ?_
  refine Call_ (ld_blt I hg hm boot_range (PyProof.Rows.callWith_type1 (thn (ha pos' pins s σ H _ I h) fun us s1 ⟨vs, H1, I1, r1, n, ev, hn, q⟩ => ?_) hs rfl))
  subst ev
  obtain ⟨u, rfl, t, rfl⟩ := vals1 r1
  refine call_range_1 ?_
  refine Calls.spliced_nil ?_
  refine call_list_range (n := n) (I1.ok.hd hc) (IsRange.new ..) (small_one (by omega) (by omega) (by omega) (by omega)) (by rw [rangeSize_one]; split <;> omega) (by omega) fun h' tk acc c' kp e2 it => ?_
  have hi : acc.toList.length = n := by rw [Array.length_toList]; exact it.1
  have hv := vals_from acc.toList 0 fun j v hj => by
    obtain ⟨t, e⟩ := it.2 j v (by rw [← Array.getElem?_toList]; exact hj)
    exact ⟨t, by rw [e]; congr 1; omega⟩
  rw [hi, ← List.range_eq_range'] at hv
  refine ⟨.ref _, _, I1.laid (t' := tk) (fun b o e => kp b o (Heap.get?_push_of_some _ e)) (Nat.le_trans (Nat.le_succ _) (by rw [Heap.push]; simp)) (show ObjOk X.prog X.w _ h' _ (.lst _) from ⟨?_, acc.toList, c', hv, ?_⟩), rfl, q _ (I1.hok.fresh ?_)⟩
  · rw [List.length_map, List.length_range]
    exact Nat.le_trans hn (by decide)
  · rw [e2]
  · exact Nat.le_trans (Nat.le_succ _) (by rw [Heap.push]; simp)
namespace Z
theorem lsR {X : Cx} {e : Expr} {ta : TA} {p pos p' pos' : Pos} (hc : X.calm = true) (hl : X.mg "list" = none) (hm : X.mg "range" = none) (ha : ZA X [e] ta) (hgl : X.env.kindOf "list" = some .globalImplicit := by kernel_rfl) (hg : X.env.kindOf "range" = some .globalImplicit := by kernel_rfl)
    (hs1 : starEach [.Call (.Name "range" p') [e] [] pos'] X.env = [(false, eval (.Call (.Name "range" p') [e] [] pos') X.env)] := by kernel_rfl) (hs : starEach [e] X.env = [(false, eval e X.env)] := by kernel_rfl) :
    ZE X (.Call (.Name "list" p) [.Call (.Name "range" p') [e] [] pos'] [] pos) (tLsR ta) := ⟨pe_lsR hc hl hm ha.h hgl hg hs1 hs⟩
end Z
end L2
end
section
set_option Elab.async false
set_option linter.all false
set_option maxRecDepth 100000
namespace K02
open PySem L2 KB TV
set_option autoImplicit false
theorem ev_cat {A : Type} {R : Rep A} {N : Sets} {ta tb : TE} {σ : L2.St} {H : Hp} {xs ys : List A} (tk : Trk N H) (ha : Ev ta σ H (PL R N xs)) (hb : Ev tb σ H (PL R N ys)) (hl : xs.length + ys.length ≤ sizeLine) : Ev (tOp rCat ta tb) σ H (PL R N (xs ++ ys)) :=
  ev.two ha hb (fun _ _ _ s p => p.sm s) fun v w H1 s p q Q k => by
    obtain ⟨l, us, rfl, nl, hl1, al⟩ := p
    obtain ⟨b, zs, rfl, nb, hb1, bl⟩ := q
    refine ⟨l, b, us, zs, rfl, rfl, hl1, hb1, by rw [← al.length, ← bl.length]; exact hl, fun p hp => ?_⟩
    exact k _ _ (.new hp) ⟨p, _, rfl, (tk.sm s).no hp, upd_same, (al.imp fun _ _ z => R.sm (.new hp) z).append (bl.imp fun _ _ z => R.sm (.new hp) z)⟩
theorem all_range {n : Nat} {N : Sets} {H : Hp} : All2 (fun x v => aI.r N x v H) ((List.range n).map fun (i : Nat) => (i : Int)) ((List.range n).map fun (i : Nat) => V.int (i : Int)) := by
  have h : ∀ l : List Nat, All2 (fun x v => aI.r N x v H) (l.map fun (i : Nat) => (i : Int)) (l.map fun (i : Nat) => V.int (i : Int)) := fun l => by
    induction l with
    | nil => exact .nil
    | cons a t ih => exact .cons rfl ih
  exact h _
theorem ev_lsR {te : TE} {σ : L2.St} {H : Hp} {N : Sets} {n : Nat} (tk : Trk N H) (e : Ev te σ H (aI.r N (n : Int))) (hn : n ≤ 1000) : Ev (tLsR (tCons te tNil)) σ H (PL aI N ((List.range n).map fun (i : Nat) => (i : Int))) := fun H1 s Q k => (ev.arg1 e) H1 s _ fun vs H2 s2 ⟨v, ev, p⟩ => by
  refine ⟨n, by rw [ev, show v = .int (n : Int) from p], hn, fun l hl => ?_⟩
  exact k _ _ (s2.trans (.new hl)) ⟨l, _, rfl, ((tk.sm s).sm s2).no hl, upd_same, all_range⟩
def nums : List Int := ((List.range 39).map fun (i : Nat) => (i : Int)) ++ [99]
theorem nums_at : ∀ k : Nat, k < 40 → atI nums (k : Int) = some (numC k) := by decide +kernel
section
variable {P : Program} {w : World} {K : PySem.W.Frag} {mg : Str → Option Value} {base : Heap} {C : Addr} {TS : Sets}
theorem ev_pr {ta tb : TE} {σ : L2.St} {H : Hp} {N : Sets} {A B : Type} {R : Rep A} {S : Rep B} {x : A} {y : B} (tk : Trk N H) (ha : Ev ta σ H (R.r N x)) (hb : Ev tb σ H (S.r N y)) : Ev (tTup (tCons ta (tCons tb tNil))) σ H ((aP R S).r N (x, y)) :=
  ev.tup (S := .cons R (.one S)) (x := (x, y)) tk (ev.cons (R := R) ha (ev.one (R := S) hb)) (hn := by show (2 : Nat) ≤ sizeLine; exact Nat.le_of_ble_eq_true rfl)
theorem ev_p3 {ta tb tc : TE} {σ : L2.St} {H : Hp} {N : Sets} {A B D : Type} {R : Rep A} {S : Rep B} {T : Rep D} {x : A} {y : B} {z : D} (tk : Trk N H) (ha : Ev ta σ H (R.r N x)) (hb : Ev tb σ H (S.r N y)) (hc : Ev tc σ H (T.r N z)) : Ev (tTup (tCons ta (tCons tb (tCons tc tNil)))) σ H ((aP3 R S T).r N (x, y, z)) :=
  ev.tup (S := .cons R (.cons S (.one T))) (x := (x, y, z)) tk (ev.cons (R := R) ha (ev.cons (R := S) hb (ev.one (R := T) hc))) (hn := by show (3 : Nat) ≤ sizeLine; exact Nat.le_of_ble_eq_true rfl)
def spFull : Sp := fun vs H Q _ => ∃ N : Sets, vs = [] ∧ Trk N H ∧ ∀ v H', Sm H H' → aPi.r N fullP v H' → Q v H'
theorem scFull : FnScope ["_law_numbers", "_law_things", "_law_k"] [] (defScope (top 35)) := ⟨rfl, rfl, rfl, by decide +kernel, rfl, by decide +kernel, by decide +kernel⟩
theorem ok_full {f : Addr} {fd : FuncData} (F : Fun K "_law_full" "_law_full" (top 35) f fd) (B : Bt mg) : FnOk P w K mg base CX0 1 f fd [] spFull := by
  have S := scFull
  refine F.okZ scFull (fun vs H Q E h => ?_) (fun cdv A outer s H vs Q E hr h => ?_)
  · obtain ⟨N, rfl, _⟩ := h
    rfl
  · obtain ⟨N, rfl, tk, k⟩ := h
    refine ⟨_, (Z.seq (Z.stl 0 S.nd (Z.op Z.cat (Z.lsR rfl B.list B.range (Z.cons Z.int Z.nil)) (Z.lst (Z.cons Z.int Z.nil))))
      (Z.seq (Z.stl 1 S.nd (Z.lst Z.nil))
      (Z.seq (Z.loop PassesOwn.never rfl (Z.rg1 B.range (Z.cons Z.int Z.nil)) (Z.gl 2 S.nd) (Z.last (Z.expr (Z.bm PySem.F.plainAttrs_list PySem.F.slot_list_append PySem.F.type_list_append ⟨mt_append⟩ (Z.vl 1) (Z.cons (Z.tup (Z.cons (Z.tup (Z.cons Z.int (Z.cons (Z.ix Z.ixL (Z.vl 0) (Z.vl 2)) Z.nil))) (Z.cons Z.str (Z.cons (Z.tup (Z.cons (Z.tup (Z.cons Z.int (Z.cons (Z.ix Z.ixL (Z.vl 0) (Z.op Z.mod (Z.op Z.add (Z.vl 2) Z.int) Z.int)) Z.nil))) (Z.cons Z.non Z.nil))) Z.nil)))) Z.nil)))))
      (Z.last (Z.ret (Z.tup (Z.cons (Z.tup (Z.cons (Z.tup (Z.cons (Z.tup (Z.cons Z.non (Z.cons Z.non (Z.cons Z.non (Z.cons (Z.tup (Z.cons Z.int (Z.cons Z.int Z.nil))) Z.nil))))) (Z.cons (Z.ct Z.tupO B.tuple (Z.cons (Z.vl 1) Z.nil)) Z.nil))) (Z.cons (Z.tup (Z.cons (Z.tup (Z.consts (by repeat (first | exact Cs.nil | apply Cs.int | apply Cs.str | apply Cs.non | apply Cs.pow ⟨by decide, by decide, by decide⟩)))) (Z.cons (Z.tup Z.nil) Z.nil))) Z.nil))) (Z.cons (Z.tup (Z.cons (Z.tup (Z.cons Z.int (Z.cons Z.int (Z.cons (Z.tup (Z.cons (Z.tup (Z.cons Z.int (Z.cons Z.int Z.nil))) Z.nil)) Z.nil)))) Z.nil)) Z.nil)))))))), ?_⟩
    show tSeq _ _ _ [none, none, none] H
    refine st.set (ev_cat (N := N) (R := aI) tk (ev_lsR (n := 39) tk ev.int (by decide)) (ev.lst (R := aI) (N := N) (xs := [99]) tk (ev.more (R := aI) ev.int ev.zero)) (by decide)) fun nv H1 s1 fn => ?_
    have fn : (aL aI).r N nums nv H1 := fn
    have tk1 := tk.sm s1
    show tSeq (tAsg (tLst tNil) (gName 1)) _ _ [some nv, none, none] H1
    refine st.newL (N := N) aTh fun c hc cc => ?_
    obtain ⟨N1, hN1⟩ : ∃ N1 : Sets, N1 = fun b => b = c ∨ N b := ⟨_, rfl⟩
    have tk2 : Trk N1 (upd H1 c (.lst [])) := hN1 ▸ tk1.grow nt_lst
    have nc : N1 c := by rw [hN1]; exact .inl rfl
    have gN : ∀ a, N1 a → N a ∨ H1 a = none := by rw [hN1]; exact grow1 hc
    have gB : ∀ a, N a → N1 a := fun a z => by rw [hN1]; exact .inr z
    have ncN : ¬ N c := tk1.no hc
    rw [← hN1] at cc
    have s2 : Sm H1 (upd H1 c (.lst [])) := .new hc
    have fn2 := (aL aI).to fn gN s2
    generalize upd H1 c (.lst []) = H2 at s2 tk2 cc fn2 ⊢
    have mono : ∀ b, (fun b => b = c) b → N1 b := fun b z => by rw [z]; exact nc
    show tSeq (tFor _ _ _) _ _ [some nv, some (.ref c), none] H2
    refine st.forR (C := fun b => b = c) (n := 40) (N := N1) (ev.one ev.int) (by decide) (fun i σ' H' => ∃ jk, σ' = [some nv, some (.ref c), jk] ∧ LC aTh N1 ((List.range i).map thC) c H') (fun H3 s3 => ⟨none, rfl, cc.sm s3⟩) ?_ ?_
    · rintro i σ' H3 hi g3 ⟨jk, rfl, cc3⟩
      have tk3 := tk2.go g3
      have fn3 := (aL aI).kp (g3.kp mono) fn2
      dsimp only [gName]
      have eN : Ev (tVar 0) [some nv, some (.ref c), some (.int (i : Int))] H3 ((aL aI).r N1 nums) := ev.var (n := 0) rfl fn3
      have eK : Ev (tVar 2) [some nv, some (.ref c), some (.int (i : Int))] H3 (aI.r N1 (i : Int)) := ev.var (n := 2) (R := aI) rfl rfl
      have e2 : atI nums (((i : Int) + 1) % 40) = some (numC ((i + 1) % 40)) := by
        have h := nums_at ((i + 1) % 40) (Nat.mod_lt _ (by decide))
        rw [← h]
        rfl
      refine st.append (R := aTh) (x := thC i) cc3 nc rfl (ev_p3 (R := aN) (S := aS) (T := aF) (x := ((0 : Int), numC i)) (y := Str.ofString "thing") (z := [some ((0 : Int), numC ((i + 1) % 40)), none]) tk3 (ev_pr (R := aI) (S := aI) tk3 ev.int (ev.ixL (R := aI) eN eK (nums_at i hi))) ev.str (ev.tupV (R := aO aN) tk3 (ev.more (R := aO aN) ((ev_pr (R := aI) (S := aI) tk3 ev.int (ev.ixL (R := aI) eN (ev.mod (ev.add eK ev.int) ev.int (by decide)) e2)).imp fun _ _ _ z => some_in z) (ev.more (R := aO aN) ev.non ev.zero)))) (Nat.lt_of_le_of_lt (m := 40) (by rw [List.length_map, List.length_range]; omega) (by decide)) fun H4 us s4 cc4 => ?_
      exact ⟨(Go.of s4).up rfl nt_lst, _, rfl, by rw [List.range_succ, List.map_append]; exact cc4⟩
    · rintro σ' H3 g3 ⟨jk, rfl, cc3⟩
      have tk3 : Trk N H3 := (tk1.sm s2).go g3
      have eT : Ev (tCB (fun xs H Q => ∃ p ys, xs = [V.ref p] ∧ ((SqL K H p ys ∧ ∀ l, H l = none → Q (.ref l) (upd H l (.tup ys))) ∨ (SqT K H p ys ∧ Q (.ref p) H))) (tCons (tVar 1) tNil)) [some nv, some (.ref c), jk] H3 ((aV aTh).r N ((List.range 40).map thC)) := ev.tupL tk3 (ev.var (n := 1) rfl (cc3.rd gB ncN))
      have eO : Ev (tTup (tCons (tC .non) (tCons (tC .non) (tCons (tC .non) (tCons (tTup (tCons (tC (.int 0)) (tCons (tC (.int 99)) tNil))) tNil))))) [some nv, some (.ref c), jk] H3 (aF.r N [none, none, none, some (0, 99)]) := ev.tupV (R := aO aN) tk3 (ev.more (R := aO aN) ev.non (ev.more (R := aO aN) ev.non (ev.more (R := aO aN) ev.non (ev.more (R := aO aN) ((ev_pr (R := aI) (S := aI) tk3 ev.int ev.int).imp fun _ _ _ z => some_in z) ev.zero))))
      have eE : Ev (tTup fun _ H Q => Q [.non, .non, .non, .non] H) [some nv, some (.ref c), jk] H3 (aF.r N [none, none, none, none]) := ev.tupV (R := aO aN) tk3 fun H1 s Q k => k _ _ (.refl _) (.cons rfl (.cons rfl (.cons rfl (.cons rfl .nil))))
      refine st.ret (ev_pr (R := aV aHo) (S := aV aLe) tk3 (ev.tupV (R := aHo) tk3 (ev.more (R := aHo) (ev_pr (R := aF) (S := aV aTh) tk3 eO eT) (ev.more (R := aHo) (ev_pr (R := aF) (S := aV aTh) tk3 eE (ev.tupV (R := aTh) tk3 ev.zero)) ev.zero))) (ev.tupV (R := aLe) tk3 (ev.more (R := aLe) (ev_p3 (R := aI) (S := aI) (T := aV aN) tk3 ev.int ev.int (ev.tupV (R := aN) tk3 (ev.more (R := aN) (ev_pr (R := aI) (S := aI) tk3 ev.int ev.int) ev.zero))) ev.zero))) fun v' H4 s4 e => ?_
      exact k v' H4 ((g3.sm s4).fresh (s1.trans s2) fun b z => by rw [z]; exact s1.dom hc) e
end
end K02
end
section
set_option Elab.async false
set_option linter.all false
set_option maxRecDepth 100000
namespace K02
open PySem L2 KB TV
set_option autoImplicit false
def datF : Dat aF := datV (datO datN nnN)
def datTh : Dat aTh := datT (.cons datN (.cons datS (.one datF)))
def datHo : Dat aHo := datT (.cons datF (.one (datV datTh)))
def datLe : Dat aLe := datT (.cons datI (.cons datI (.one (datV datN))))
def datPi : Dat aPi := datT (.cons (datV datHo) (.one (datV datLe)))
theorem okF (fs : Flds) : datF.ok fs := fun o _ q _ => okN q
theorem ok_pi {p : Pict} {xs : List Nm} (g : GoodP p xs) : datPi.ok p := ⟨fun h hh => ⟨okF h.1, fun t ht => ⟨okN _, by
  obtain ⟨n, hn⟩ := List.mem_iff_getElem?.mp hh
  have gt := (g.hh n h hn).2.2.2.2 t ht
  show PyData.strOk t.2.1 = true
  rcases gt.s with z | z
  · rw [z.1]; decide +kernel
  · rw [z]; decide +kernel, okF _⟩⟩, fun l _ => ⟨trivial, trivial, fun q _ => okN q⟩⟩
def T5 (t1 t2 t3 t4 t5 : Addr) : Sets := fun b => b = t1 ∨ b = t2 ∨ b = t3 ∨ b = t4 ∨ b = t5
theorem ev_tupT {te : TE} {σ : L2.St} {H : Hp} {N : Sets} {K : PySem.W.Frag} {A : Type} {R : Rep A} {xs : List A} (e : Ev te σ H ((aV R).r N xs)) : Ev (tCB (fun xs H Q => ∃ p ys, xs = [V.ref p] ∧ ((SqL K H p ys ∧ ∀ l, H l = none → Q (.ref l) (upd H l (.tup ys))) ∨ (SqT K H p ys ∧ Q (.ref p) H))) (tCons te tNil)) σ H ((aV R).r N xs) := ev.cb (ev.arg1 e) fun vs H1 s ⟨v, e, p⟩ Q k => by
  obtain ⟨a, us, rfl, na, h, al⟩ := p
  exact ⟨a, us, e, .inr ⟨SqT.of h, k _ _ (.refl _) ⟨a, us, rfl, na, h, al⟩⟩⟩
theorem off_sq {K : PySem.W.Frag} {H : Hp} {a D : Addr} {xs : List V} (s : SqL K H a xs) (h : H D = none) : a ≠ D ∨ ∀ H0 : Hp, SqL K H0 a xs := by
  rcases s with (e | ⟨o, e⟩) | e
  · exact .inl (fun z => by rw [z, h] at e; cases e)
  · exact .inl (fun z => by rw [z, h] at e; cases e)
  · exact .inr fun H0 => .inr e
theorem EV.notN {C : Sets} {A : Hp → Prop} {te : TE} {σ : L2.St} {H : Hp} (e : EX C A te σ H fun v _ => v = .non) : EV C A (tNotN te) σ H false := fun H1 g a Q k => e H1 g a _ fun v H2 g2 a2 e => k _ H2 g2 a2 (by rw [e]; rfl)
theorem st_go {K : PySem.W.Frag} {TS : Sets} {H H' : Hp} {sp a : Addr} {ns : List Int} (h : StA K H sp a ns) (t : Tbl TS H) (g : Go TS H H') : StA K H' sp a ns := by
  obtain ⟨⟨x1, x2, x3, hx, e⟩, sq, off⟩ := h
  refine ⟨⟨x1, x2, x3, hx, g.getS t (fun _ z => nomatch z) e⟩, ?_, off⟩
  rcases sq with (h | ⟨o, h⟩) | h
  · exact .inl (.inl (g.getS t (fun _ z => nomatch z) h))
  · exact .inl (.inr ⟨o, g.getS t (fun _ z => nomatch z) h⟩)
  · exact .inr h
structure Lw (K : PySem.W.Frag) (mg : Str → Option Value) (base : Heap) (TS : Sets) : Prop where
  U : LoA K mg base TS
  look : ∃ f fd, Dn K mg "look_at_picture" (top 27) ["picture"] f fd
  nxt : ∃ f fd, Dn K mg "_law_next" (top 29) ["_law_state", "_law_below"] f fd
  som : ∃ f fd, Dn K mg "_law_some" (top 31) ["_law_state", "_law_names_here", "_law_odds"] f fd
  nam : ∃ f fd, Dn K mg "_law_names" (top 30) ["_law_state", "_law_many"] f fd
  thg : ∃ f fd, Dn K mg "_law_thing" (top 32) ["_law_state", "_law_name", "_law_names_here"] f fd
  lets : ∃ f fd, Dn K mg "_law_letters" (top 33) ["_law_state", "_law_many", "_law_names_here"] f fd
  pic : ∃ f fd, Dn K mg "_law_picture" (top 34) ["_law_state"] f fd
  ful : ∃ f fd, Dn K mg "_law_full" (top 35) [] f fd
section
variable {P : Program} {w : World} {K : PySem.W.Frag} {mg : Str → Option Value} {base : Heap} {t1 t2 t3 t4 t5 : Addr}
def spLaw (K : PySem.W.Frag) (t1 t2 t3 t4 t5 : Addr) : Sp := fun vs H Q _ => ∃ (a : Addr) (ns : List Int), vs = [.ref a] ∧ SqL K H a (ns.map V.int) ∧ ns.length ≤ 63 ∧ H t1 = some (.tbl #[]) ∧ H t2 = some (.tbl #[]) ∧ H t3 = some (.tbl #[]) ∧ H t4 = some (.tbl #[]) ∧ H t5 = some (.tbl #[]) ∧ ∀ H' : Hp, Q (.bl true) H'
theorem scLaw : FnScope ["_law_script", "_law_state", "_law_picture_here", "_law_kept"] ["_law_script"] (defScope (top 36)) := ⟨rfl, rfl, rfl, by decide +kernel, rfl, by decide +kernel, by decide +kernel⟩
theorem ok_law {f : Addr} {fd : FuncData} (F : Fun K "law" "law" (top 36) f fd) (U : Lw K mg base (T5 t1 t2 t3 t4 t5)) : FnOk P w K mg base CX0 13 f fd ["_law_script"] (spLaw K t1 t2 t3 t4 t5) := by
  have S := scLaw
  have B := U.U.B
  obtain ⟨f1, fd1, D_law_next⟩ := U.nxt
  obtain ⟨f2, fd2, D2⟩ := U.som
  obtain ⟨f3, fd3, D3⟩ := U.nam
  obtain ⟨f4, fd4, D4⟩ := U.thg
  obtain ⟨f5, fd5, D5⟩ := U.lets
  obtain ⟨f6, fd6, D_law_picture⟩ := U.pic
  obtain ⟨f7, fd7, D_law_full⟩ := U.ful
  obtain ⟨f8, fd8, Dlook_at_picture⟩ := U.look
  have G_law_next := (ok_next (P := P) (w := w) (base := base) D_law_next.F B).mono (show 1 ≤ 12 by decide)
  have G_law_picture := (ok_picture (P := P) (w := w) (base := base) D_law_picture.F B D_law_next D2 D3 D4 D5).mono (show 4 ≤ 12 by decide)
  have G_law_full := (ok_full (P := P) (w := w) (base := base) D_law_full.F B).mono (show 1 ≤ 12 by decide)
  have Glook_at_picture := ok_look (P := P) (w := w) Dlook_at_picture.F U.U
  refine F.okZ scLaw (fun vs H Q E h => ?_) (fun cdv A outer s H vs Q E hr h => ?_)
  · obtain ⟨a, ns, rfl, _⟩ := h
    rfl
  · obtain ⟨a, ns, rfl, sq, h63, h1, h2, h3, h4, h5, q0⟩ := h
    refine ⟨_, (Z.seq (Z.stl 1 S.nd (Z.lst (Z.cons (Z.vl 0) (Z.cons Z.int (Z.cons Z.int (Z.cons Z.int Z.nil))))))
      (Z.seq (Z.stl 2 S.nd (Z.cf G_law_picture hr D_law_picture.m D_law_picture.F.kp D_law_picture.b pass0 (Z.cons (Z.vl 1) Z.nil)))
      (Z.seq (Z.stl 3 S.nd (Z.tup (Z.cons (Z.ct Z.tupO B.tuple (Z.cons (Z.ix Z.ixT (Z.vl 2) Z.int) Z.nil)) (Z.cons (Z.ct Z.tupO B.tuple (Z.cons (Z.ix Z.ixT (Z.vl 2) Z.int) Z.nil)) Z.nil))))
      (Z.seq (Z.cond (Z.pw (Z.tor (Z.tnotN (Z.cf Glook_at_picture hr Dlook_at_picture.m Dlook_at_picture.F.kp Dlook_at_picture.b pass0 (Z.cons (Z.vl 2) Z.nil))) (Z.or1 (Z.tcmp (Z.neD hr.units) (Z.vl 2) (Z.vl 3))))) (Z.last (Z.ret Z.bl)) Z.snil)
      (Z.last (Z.ret (Z.or (Z.cmp Z.gt (Z.cf G_law_next hr D_law_next.m D_law_next.F.kp D_law_next.b pass0 (Z.cons (Z.vl 1) (Z.cons Z.int Z.nil))) Z.int) (Z.one (Z.isN (Z.cf Glook_at_picture hr Dlook_at_picture.m Dlook_at_picture.F.kp Dlook_at_picture.b pass0 (Z.cons (Z.cf0 G_law_full hr D_law_full.m D_law_full.F.kp D_law_full.b pass0) Z.nil))))))))))), ?_⟩
    show tSeq (tAsg (tLst _) (gName 1)) _ _ [some (.ref a), none, none, none] H
    have ht : Tbs (T5 t1 t2 t3 t4 t5) H := fun b z => by
      rcases z with z | z | z | z | z <;> rw [z]
      · exact .nil h1
      · exact .nil h2
      · exact .nil h3
      · exact .nil h4
      · exact .nil h5
    generalize T5 t1 t2 t3 t4 t5 = TS at U ht Glook_at_picture
    have hA : ∀ {H H' : Hp}, Sm H H' → Tbs TS H → Tbs TS H' := fun s a => a.sm s
    refine ⟨_, rfl, Nat.le_of_ble_eq_true rfl, fun sp hsp => ?_⟩
    have s1 : Sm H (upd H sp (.lst [.ref a, .int 0, .int 0, .int 103])) := .new hsp
    have st1 : StA K (upd H sp (.lst [.ref a, .int 0, .int 0, .int 103])) sp a ns := ⟨⟨0, 0, 103, by decide, upd_same⟩, sq_sm s1 sq, off_sq sq hsp⟩
    have nsp : ∀ b, TS b → ¬ CP sp b := fun b z e => by
      obtain ⟨ps, hp⟩ := ht.tbl b z
      rw [show b = sp from e, hsp] at hp
      cases hp
    obtain ⟨N, hN⟩ : ∃ N : Sets, N = CP sp := ⟨_, rfl⟩
    have hNs : N sp := by rw [hN]
    have hC : ∀ b, CP sp b → N b := fun b z => by rw [show b = sp from z]; exact hNs
    have tk1 : Trk N (upd H sp (.lst [.ref a, .int 0, .int 0, .int 103])) := fun b z => by rw [hN] at z; rw [show b = sp from z]; exact ⟨_, upd_same, nt_lst⟩
    dsimp only [gName]
    show tSeq _ _ _ [some (.ref a), some (.ref sp), none, none] (upd H sp (.lst [.ref a, .int 0, .int 0, .int 103]))
    refine ⟨_, rfl, N, sp, a, ns, rfl, hNs, tk1, st1, h63, fun v H1 p xs g1 st2 fp gp => ?_⟩
    have ht1 : Tbs TS H1 := (ht.sm s1).go g1 fun b z e => absurd e (nsp b z)
    have tk2 := tk1.go g1
    clear s1 st1 tk1 g1 sq hsp ht
    dsimp only [gName]
    show tSeq _ _ _ [some (.ref a), some (.ref sp), some v, none] H1
    have vp := ev.var (n := 2) (σ := [some (.ref a), some (.ref sp), some v, none]) (R := aPi) (N := N) rfl fp
    refine st.set (ev_pr (R := aV aHo) (S := aV aLe) (x := p.1) (y := p.2) tk2 (ev_tupT (R := aHo) (ev.ix (K := K) (n := 0) (z := p) ev.At.first vp)) (ev_tupT (R := aLe) (ev.ix (K := K) (n := 1) (z := p) (ev.At.next ev.At.last) vp))) fun kv H2 s2 fk => ?_
    have fk : aPi.r N p kv H2 := fk
    have tk3 := tk2.sm s2
    have fp2 := aPi.sm s2 fp
    have ht2 := ht1.sm s2
    have st3 := st2.sm s2
    show tSeq (tIfS _ _ _) _ _ [some (.ref a), some (.ref sp), some v, some kv] H2
    letI : DecidableEq Pict := fun _ _ => Classical.propDecidable _
    refine st.condU (C := TS) (A := Tbs TS) (b := false || !decide (p = p)) (EB.or (EV.val (EV.notN (EX.call (fun H3 g3 a3 => ev.arg1 (P := aPi.r N p) (ev.var (n := 2) rfl (aPi.kp (g3.kpS ht2.tbl) fp2))) hA fun vs H3 g3 a3 ⟨b1, e, z1⟩ Q k => ⟨N, p, b1, by rw [e]; rfl, tk3.go g3, a3, z1, good_pic gp, good_bnd gp, good_cl gp, fun H' g' a' => k _ H' g' a' rfl⟩))) fun _ => EB.of hA fun H3 g3 a3 => ev.tTest (N := N) (ev.neD datPi (ev.var (n := 2) rfl (aPi.kp (g3.kpS ht2.tbl) fp2)) (ev.var (n := 3) rfl (aPi.kp (g3.kpS ht2.tbl) fk)) (ok_pi gp) (ok_pi gp))) ht2 (fun h => absurd h (by rw [decide_eq_true rfl]; decide)) (fun _ H3 g3 ht3 => ?_)
    try unfold tNext
    try dsimp only
    have st4 := st_go st3 ht2.tbl g3
    have tk4 := tk3.go g3
    show tRet (tOrV _ (tIsN _)) _ [some (.ref a), some (.ref sp), some v, some kv] H3
    refine (EX.lt (ex_nextK (N := N) (σ := [some (.ref a), some (.ref sp), some v, some kv]) (i := 1) h63 rfl (by decide) (by decide)) (EX.int SA.sm)) H3 (.refl _) st4 _ fun v' H4 g4 st5 ⟨b, _, e⟩ => ⟨b, e, ?_⟩
    cases b with
    | true => exact iteT (q0 _)
    | false =>
      have ht4 : Tbs TS H4 := ht3.go g4 fun b z e => absurd e (nsp b z)
      refine iteF ⟨N, rfl, tk4.go g4, fun v2 H5 s5 r5 => ⟨N, fullP, v2, rfl, (tk4.go g4).sm s5, ht4.sm s5, r5, full_pic, full_bnd, full_cl, fun H6 g6 t6 => ?_⟩⟩
      show Q (.bl (decide (V.non = V.non))) H6
      rw [decide_eq_true rfl]
      exact q0 _
end
end K02
end
section
set_option Elab.async false
set_option linter.all false
set_option autoImplicit false
namespace KB
open PySem L2 PySem.Spec PyProof.Rows
structure FarTop (K : PySem.W.Frag) (x y : Str) (nt fe : Addr) : Prop where
  n : ExTop K x nt
  f : ExTop K y fe
  k : ExcK K nt
  sub : PySem.W.subIn K (.ref nt) (.ref fe) = some true
  o : PySem.W.kitOne K (.ref nt) (.ref nt) = some true
end KB
namespace KB
open PySem L2 PySem.Spec PyProof.Rows
structure Far2 (K : PySem.W.Frag) (x y z : Str) (nt fe tx : Addr) : Prop where
  t : FarTop K x y nt fe
  ns : PySem.W.nsIn K mainGlobals z = some (some (.ref tx))
  v : PySem.W.nsIn K mainGlobals "ValueError" = some none
  o2 : PySem.W.kitOne K (.ref nt) (.type "ValueError") = some true
  o3 : PySem.W.kitOne K (.ref nt) (.ref tx) = some false
end KB
end
section
set_option Elab.async false
set_option linter.all false
set_option maxRecDepth 100000
set_option autoImplicit false
namespace L2
open PySem PySem.Spec PyProof.Rows
section
variable {X : Cx} {pins : List (Addr × Obj)} {σ : St} {H : Hp} {s : Shared} {CX : CXT} {n : Nat} {st : Stmt} {f cda cc D C f2 : Addr} {fd2 : FuncData} {ps2 : List Str} {sp : Sp} {E : XK} {ar : Arg} {body : List Stmt} {p0 p1 apos cpos : Pos} {m : Str}
end
section
variable {P : Program} {w : World} {K : PySem.W.Frag} {mg : Str → Option Value} {base : Heap} {x qual : Str} {st : Stmt} {f cda cc D C : Addr} {fd : FuncData} {N ps : List Str} {k : Nat} {sp : Sp}
end
end L2
namespace KB
open PySem L2 PySem.Spec PyProof.Rows
end KB
end
section
set_option Elab.async false
set_option linter.all false
set_option autoImplicit false
namespace KB
open PySem L2 PySem.Spec PyProof.Rows
structure Far9 (K : PySem.W.Frag) (nt fe e1 e2 e3 e4 e5 e6 e7 e8 e9 : Addr) : Prop where
  t : FarTop K "NoThing" "FarError" nt fe
  v : PySem.W.nsIn K mainGlobals "ValueError" = some none
  o2 : PySem.W.kitOne K (.ref nt) (.type "ValueError") = some true
  m1 : PySem.W.nsIn K mainGlobals "NoPicture" = some (some (.ref e1))
  m2 : PySem.W.nsIn K mainGlobals "NoText" = some (some (.ref e2))
  m3 : PySem.W.nsIn K mainGlobals "NoHouse" = some (some (.ref e3))
  m4 : PySem.W.nsIn K mainGlobals "NoPacket" = some (some (.ref e4))
  m5 : PySem.W.nsIn K mainGlobals "BadStep" = some (some (.ref e5))
  m6 : PySem.W.nsIn K mainGlobals "NotHere" = some (some (.ref e6))
  m7 : PySem.W.nsIn K mainGlobals "IsHere" = some (some (.ref e7))
  m8 : PySem.W.nsIn K mainGlobals "NoField" = some (some (.ref e8))
  m9 : PySem.W.nsIn K mainGlobals "TooMany" = some (some (.ref e9))
  k1 : PySem.W.kitAny K (.ref nt) [.ref e1, .ref e2, .ref e3, .ref e4] = some false
  k2 : PySem.W.kitAny K (.ref nt) [.ref e5, .ref e6, .ref e7, .ref e8, .ref e9] = some false
end KB
end
section
set_option Elab.async false
set_option linter.all false
set_option maxRecDepth 100000
namespace K02
open PySem L2 KB PySem.Spec PyProof.Rows
set_option autoImplicit false
structure Top (P : Program) (K : PySem.W.Frag) : Prop where
  eis_number : ∃ f fd, Fx K "is_number" (top 10) f fd
  eis_sized : ∃ f fd, Fx K "is_sized" (top 11) f fd
  eis_pair : ∃ f fd, Fx K "is_pair" (top 12) f fd
  eis_house : ∃ f fd, Fx K "is_house" (top 13) f fd
  eis_name : ∃ f fd, Fx K "is_name" (top 14) f fd
  eare_names : ∃ f fd, Fx K "are_names" (top 15) f fd
  eare_fields : ∃ f fd, Fx K "are_fields" (top 16) f fd
  erises : ∃ f fd, Fx K "rises" (top 17) f fd
  eare_hands : ∃ f fd, Fx K "are_hands" (top 18) f fd
  eis_thing : ∃ f fd, Fx K "is_thing" (top 19) f fd
  eare_things : ∃ f fd, Fx K "are_things" (top 20) f fd
  eis_part : ∃ f fd, Fx K "is_part" (top 21) f fd
  eis_letter : ∃ f fd, Fx K "is_letter" (top 22) f fd
  eis_of_form : ∃ f fd, Fx K "is_of_form" (top 23) f fd
  efields_by_name : ∃ f fd, Fx K "fields_by_name" (top 24) f fd
  eletter_names : ∃ f fd, Fx K "letter_names" (top 25) f fd
  epointers : ∃ f fd, Fx K "pointers" (top 26) f fd
  elook_at_picture : ∃ f fd, Fx K "look_at_picture" (top 27) f fd
  e_law_next : ∃ f fd, Fx K "_law_next" (top 29) f fd
  e_law_names : ∃ f fd, Fx K "_law_names" (top 30) f fd
  e_law_some : ∃ f fd, Fx K "_law_some" (top 31) f fd
  e_law_thing : ∃ f fd, Fx K "_law_thing" (top 32) f fd
  e_law_letters : ∃ f fd, Fx K "_law_letters" (top 33) f fd
  e_law_picture : ∃ f fd, Fx K "_law_picture" (top 34) f fd
  e_law_full : ∃ f fd, Fx K "_law_full" (top 35) f fd
  len : PySem.W.nsIn K mainGlobals "len" = some none
  range : PySem.W.nsIn K mainGlobals "range" = some none
  max : PySem.W.nsIn K mainGlobals "max" = some none
  min : PySem.W.nsIn K mainGlobals "min" = some none
  sorted : PySem.W.nsIn K mainGlobals "sorted" = some none
  tuple : PySem.W.nsIn K mainGlobals "tuple" = some none
  list : PySem.W.nsIn K mainGlobals "list" = some none
  isi : PySem.W.nsIn K mainGlobals "isinstance" = some none
  int : PySem.W.nsIn K mainGlobals "int" = some none
  bool : PySem.W.nsIn K mainGlobals "bool" = some none
  str : PySem.W.nsIn K mainGlobals "str" = some none
  enumerate : PySem.W.nsIn K mainGlobals "enumerate" = some none
  reversed : PySem.W.nsIn K mainGlobals "reversed" = some none
  kLAST_NUMBER : ∃ t, PySem.W.nsIn K mainGlobals "LAST_NUMBER" = some (some (.int (99) t))
  kHANDS : ∃ t, PySem.W.nsIn K mainGlobals "HANDS" = some (some (.int (4) t))
  kMOST_STILL : ∃ t, PySem.W.nsIn K mainGlobals "MOST_STILL" = some (some (.int (6) t))
  kMOST_THINGS : ∃ t, PySem.W.nsIn K mainGlobals "MOST_THINGS" = some (some (.int (40) t))
  kMOST_FIELDS : ∃ t, PySem.W.nsIn K mainGlobals "MOST_FIELDS" = some (some (.int (4) t))
  kMOST_HOUSES : ∃ t, PySem.W.nsIn K mainGlobals "MOST_HOUSES" = some (some (.int (8) t))
  nt : PySem.W.noTabs K = true
  pall : PySem.W.nsIn K mainGlobals "all" = some none
  pzip : PySem.W.nsIn K mainGlobals "zip" = some none
  gare_names : ∃ c tb, PySem.W.tabIn K "are_names" = some (c, tb)
  gare_fields : ∃ c tb, PySem.W.tabIn K "are_fields" = some (c, tb)
  grises : ∃ c tb, PySem.W.tabIn K "rises" = some (c, tb)
  gare_things : ∃ c tb, PySem.W.tabIn K "are_things" = some (c, tb)
  gis_of_form : ∃ c tb, PySem.W.tabIn K "is_of_form" = some (c, tb)
set_option maxHeartbeats 0 in
theorem law_fn {l : PySem.W.OpenLaw} {w : World} {K : PySem.W.Frag} {h : Heap} {mg : Str → Option Value} {fa : Addr} {fd : FuncData} (KX : K.In h) (G : h.Ns mainGlobals mg) (T : Top l.prog K) (FL : Fun K "law" "law" (top 36) fa fd) (base : Heap) (bm : BMain base mg) {care_names tbare_names : Addr} (hare_names : PySem.W.tabIn K "are_names" = some (care_names, tbare_names)) (kare_names : PySem.W.CodeHd base care_names tbare_names) {care_fields tbare_fields : Addr} (hare_fields : PySem.W.tabIn K "are_fields" = some (care_fields, tbare_fields)) (kare_fields : PySem.W.CodeHd base care_fields tbare_fields) {crises tbrises : Addr} (hrises : PySem.W.tabIn K "rises" = some (crises, tbrises)) (krises : PySem.W.CodeHd base crises tbrises) {care_things tbare_things : Addr} (hare_things : PySem.W.tabIn K "are_things" = some (care_things, tbare_things)) (kare_things : PySem.W.CodeHd base care_things tbare_things) {cis_of_form tbis_of_form : Addr} (his_of_form : PySem.W.tabIn K "is_of_form" = some (cis_of_form, tbis_of_form)) (kis_of_form : PySem.W.CodeHd base cis_of_form tbis_of_form) :
    FnOk l.prog w K mg base CX0 13 fa fd ["_law_script"] (spLaw K tbare_names tbare_fields tbrises tbare_things tbis_of_form) := by
  have B : Bt mg := ⟨PySem.W.mg_none_of KX G T.len, PySem.W.mg_none_of KX G T.range, PySem.W.mg_none_of KX G T.max, PySem.W.mg_none_of KX G T.min, PySem.W.mg_none_of KX G T.sorted, PySem.W.mg_none_of KX G T.tuple, PySem.W.mg_none_of KX G T.list, PySem.W.mg_none_of KX G T.isi, PySem.W.mg_none_of KX G T.int, PySem.W.mg_none_of KX G T.bool, PySem.W.mg_none_of KX G T.str, PySem.W.mg_none_of KX G T.enumerate, PySem.W.mg_none_of KX G T.reversed⟩
  have NLAST_NUMBER : ∃ t, mg "LAST_NUMBER" = some (.int (99) t) := let ⟨t, e⟩ := T.kLAST_NUMBER; ⟨t, PySem.W.mg_of KX G e⟩
  have NHANDS : ∃ t, mg "HANDS" = some (.int (4) t) := let ⟨t, e⟩ := T.kHANDS; ⟨t, PySem.W.mg_of KX G e⟩
  have NMOST_STILL : ∃ t, mg "MOST_STILL" = some (.int (6) t) := let ⟨t, e⟩ := T.kMOST_STILL; ⟨t, PySem.W.mg_of KX G e⟩
  have NMOST_THINGS : ∃ t, mg "MOST_THINGS" = some (.int (40) t) := let ⟨t, e⟩ := T.kMOST_THINGS; ⟨t, PySem.W.mg_of KX G e⟩
  have NMOST_FIELDS : ∃ t, mg "MOST_FIELDS" = some (.int (4) t) := let ⟨t, e⟩ := T.kMOST_FIELDS; ⟨t, PySem.W.mg_of KX G e⟩
  have NMOST_HOUSES : ∃ t, mg "MOST_HOUSES" = some (.int (8) t) := let ⟨t, e⟩ := T.kMOST_HOUSES; ⟨t, PySem.W.mg_of KX G e⟩
  have Pall : mg "all" = none := PySem.W.mg_none_of KX G T.pall
  have Pzip : mg "zip" = none := PySem.W.mg_none_of KX G T.pzip
  obtain ⟨fis_number, fdis_number, Xis_number⟩ := T.eis_number
  obtain ⟨fis_sized, fdis_sized, Xis_sized⟩ := T.eis_sized
  obtain ⟨fis_pair, fdis_pair, Xis_pair⟩ := T.eis_pair
  obtain ⟨fis_house, fdis_house, Xis_house⟩ := T.eis_house
  obtain ⟨fis_name, fdis_name, Xis_name⟩ := T.eis_name
  obtain ⟨fare_names, fdare_names, Xare_names⟩ := T.eare_names
  obtain ⟨fare_fields, fdare_fields, Xare_fields⟩ := T.eare_fields
  obtain ⟨frises, fdrises, Xrises⟩ := T.erises
  obtain ⟨fare_hands, fdare_hands, Xare_hands⟩ := T.eare_hands
  obtain ⟨fis_thing, fdis_thing, Xis_thing⟩ := T.eis_thing
  obtain ⟨fare_things, fdare_things, Xare_things⟩ := T.eare_things
  obtain ⟨fis_part, fdis_part, Xis_part⟩ := T.eis_part
  obtain ⟨fis_letter, fdis_letter, Xis_letter⟩ := T.eis_letter
  obtain ⟨fis_of_form, fdis_of_form, Xis_of_form⟩ := T.eis_of_form
  obtain ⟨ffields_by_name, fdfields_by_name, Xfields_by_name⟩ := T.efields_by_name
  obtain ⟨fletter_names, fdletter_names, Xletter_names⟩ := T.eletter_names
  obtain ⟨fpointers, fdpointers, Xpointers⟩ := T.epointers
  obtain ⟨flook_at_picture, fdlook_at_picture, Xlook_at_picture⟩ := T.elook_at_picture
  obtain ⟨f_law_next, fd_law_next, X_law_next⟩ := T.e_law_next
  obtain ⟨f_law_names, fd_law_names, X_law_names⟩ := T.e_law_names
  obtain ⟨f_law_some, fd_law_some, X_law_some⟩ := T.e_law_some
  obtain ⟨f_law_thing, fd_law_thing, X_law_thing⟩ := T.e_law_thing
  obtain ⟨f_law_letters, fd_law_letters, X_law_letters⟩ := T.e_law_letters
  obtain ⟨f_law_picture, fd_law_picture, X_law_picture⟩ := T.e_law_picture
  obtain ⟨f_law_full, fd_law_full, X_law_full⟩ := T.e_law_full
  have Dis_number := Xis_number.dn KX G ["value"] fun _ _ _ _ _ _ us hl => match us, hl with | [_], _ => rfl
  have Dis_sized := Xis_sized.dn KX G ["value", "size"] fun _ _ _ _ _ _ us hl => match us, hl with | [_, _], _ => rfl
  have Dis_pair := Xis_pair.dn KX G ["value"] fun _ _ _ _ _ _ us hl => match us, hl with | [_], _ => rfl
  have Dis_house := Xis_house.dn KX G ["value", "many"] fun _ _ _ _ _ _ us hl => match us, hl with | [_, _], _ => rfl
  have Dis_name := Xis_name.dn KX G ["value", "many"] fun _ _ _ _ _ _ us hl => match us, hl with | [_, _], _ => rfl
  have Dare_names := Xare_names.dn KX G ["values", "many"] fun _ _ _ _ _ _ us hl => match us, hl with | [_, _], _ => rfl
  have Dare_fields := Xare_fields.dn KX G ["values", "many"] fun _ _ _ _ _ _ us hl => match us, hl with | [_, _], _ => rfl
  have Drises := Xrises.dn KX G ["values"] fun _ _ _ _ _ _ us hl => match us, hl with | [_], _ => rfl
  have Dare_hands := Xare_hands.dn KX G ["values", "many"] fun _ _ _ _ _ _ us hl => match us, hl with | [_, _], _ => rfl
  have Dis_thing := Xis_thing.dn KX G ["value", "home", "many"] fun _ _ _ _ _ _ us hl => match us, hl with | [_, _, _], _ => rfl
  have Dare_things := Xare_things.dn KX G ["values", "home", "many"] fun _ _ _ _ _ _ us hl => match us, hl with | [_, _, _], _ => rfl
  have Dis_part := Xis_part.dn KX G ["value", "home", "many"] fun _ _ _ _ _ _ us hl => match us, hl with | [_, _, _], _ => rfl
  have Dis_letter := Xis_letter.dn KX G ["value", "many"] fun _ _ _ _ _ _ us hl => match us, hl with | [_, _], _ => rfl
  have Dis_of_form := Xis_of_form.dn KX G ["picture"] fun _ _ _ _ _ _ us hl => match us, hl with | [_], _ => rfl
  have Dfields_by_name := Xfields_by_name.dn KX G ["picture"] fun _ _ _ _ _ _ us hl => match us, hl with | [_], _ => rfl
  have Dletter_names := Xletter_names.dn KX G ["picture"] fun _ _ _ _ _ _ us hl => match us, hl with | [_], _ => rfl
  have Dpointers := Xpointers.dn KX G ["picture"] fun _ _ _ _ _ _ us hl => match us, hl with | [_], _ => rfl
  have Dlook_at_picture := Xlook_at_picture.dn KX G ["picture"] fun _ _ _ _ _ _ us hl => match us, hl with | [_], _ => rfl
  have D_law_next := X_law_next.dn KX G ["_law_state", "_law_below"] fun _ _ _ _ _ _ us hl => match us, hl with | [_, _], _ => rfl
  have D_law_names := X_law_names.dn KX G ["_law_state", "_law_many"] fun _ _ _ _ _ _ us hl => match us, hl with | [_, _], _ => rfl
  have D_law_some := X_law_some.dn KX G ["_law_state", "_law_names_here", "_law_odds"] fun _ _ _ _ _ _ us hl => match us, hl with | [_, _, _], _ => rfl
  have D_law_thing := X_law_thing.dn KX G ["_law_state", "_law_name", "_law_names_here"] fun _ _ _ _ _ _ us hl => match us, hl with | [_, _, _], _ => rfl
  have D_law_letters := X_law_letters.dn KX G ["_law_state", "_law_many", "_law_names_here"] fun _ _ _ _ _ _ us hl => match us, hl with | [_, _, _], _ => rfl
  have D_law_picture := X_law_picture.dn KX G ["_law_state"] fun _ _ _ _ _ _ us hl => match us, hl with | [_], _ => rfl
  have D_law_full := X_law_full.dn KX G [] fun _ _ _ _ _ _ us hl => match us, hl with | [], _ => rfl
  have Tare_names : GTab base mg fdare_names tbare_names := by
    obtain ⟨oc, od, kV, doc, pm, an, cdv, ct, osl, _, hl, _⟩ := Xare_names.F.ex
    exact ⟨⟨_, tab_code hare_names Xare_names.ns hl, kare_names⟩, bm⟩
  have Tare_fields : GTab base mg fdare_fields tbare_fields := by
    obtain ⟨oc, od, kV, doc, pm, an, cdv, ct, osl, _, hl, _⟩ := Xare_fields.F.ex
    exact ⟨⟨_, tab_code hare_fields Xare_fields.ns hl, kare_fields⟩, bm⟩
  have Trises : GTab base mg fdrises tbrises := by
    obtain ⟨oc, od, kV, doc, pm, an, cdv, ct, osl, _, hl, _⟩ := Xrises.F.ex
    exact ⟨⟨_, tab_code hrises Xrises.ns hl, krises⟩, bm⟩
  have Tare_things : GTab base mg fdare_things tbare_things := by
    obtain ⟨oc, od, kV, doc, pm, an, cdv, ct, osl, _, hl, _⟩ := Xare_things.F.ex
    exact ⟨⟨_, tab_code hare_things Xare_things.ns hl, kare_things⟩, bm⟩
  have Tis_of_form : GTab base mg fdis_of_form tbis_of_form := by
    obtain ⟨oc, od, kV, doc, pm, an, cdv, ct, osl, _, hl, _⟩ := Xis_of_form.F.ex
    exact ⟨⟨_, tab_code his_of_form Xis_of_form.ns hl, kis_of_form⟩, bm⟩
  exact ok_law FL ⟨⟨B, ⟨B.isi, B.tuple, Pall, Pzip, B.len, B.enumerate⟩, NLAST_NUMBER, NHANDS, NMOST_STILL, NMOST_THINGS, NMOST_FIELDS, NMOST_HOUSES, ⟨_, _, Dis_number⟩, ⟨_, _, Dis_sized⟩, ⟨_, _, Dis_pair⟩, ⟨_, _, Dis_house⟩, ⟨_, _, Dis_name⟩, ⟨_, _, _, Dare_names, Tare_names, (.inl rfl)⟩, ⟨_, _, _, Dare_fields, Tare_fields, (.inr (.inl rfl))⟩, ⟨_, _, _, Drises, Trises, (.inr (.inr (.inl rfl)))⟩, ⟨_, _, Dare_hands⟩, ⟨_, _, Dis_thing⟩, ⟨_, _, _, Dare_things, Tare_things, (.inr (.inr (.inr (.inl rfl))))⟩, ⟨_, _, Dis_part⟩, ⟨_, _, Dis_letter⟩, ⟨_, _, _, Dis_of_form, Tis_of_form, (.inr (.inr (.inr (.inr rfl))))⟩, ⟨_, _, Dfields_by_name⟩, ⟨_, _, Dletter_names⟩, ⟨_, _, Dpointers⟩⟩, ⟨_, _, Dlook_at_picture⟩, ⟨_, _, D_law_next⟩, ⟨_, _, D_law_some⟩, ⟨_, _, D_law_names⟩, ⟨_, _, D_law_thing⟩, ⟨_, _, D_law_letters⟩, ⟨_, _, D_law_picture⟩, ⟨_, _, D_law_full⟩⟩
theorem all_mk {l : PySem.W.OpenLaw} {w : World} {K : PySem.W.Frag} {h : Heap} {mg : Str → Option Value} {fa f : Addr} {fd : FuncData} (KX : K.In h) (G : h.Ns mainGlobals mg) (hfa : mg "law" = some (.ref fa)) (T : Top l.prog K) (X : Fx K "law" (top 36) f fd)
    (hb : ∀ (s : Shared) (v : Value), BindsTo s fd ⟨[v], []⟩ [("_law_script", v)]) :
    ∃ (fd : FuncData) (tabs : List (Addr × Addr)) (sp : Sp), (∀ t ∈ tabs, ∃ x ∈ (["are_names", "are_fields", "rises", "are_things", "is_of_form"] : List Str), PySem.W.tabIn (K) x = some t) ∧ PySem.W.noTabs (K) = true ∧ (∀ (s : Shared) (v : Value), BindsTo s fd ⟨[v], []⟩ [("_law_script", v)]) ∧
      (∀ (H : Hp) (a : Addr) (ns : List Int), ns.length ≤ 63 → (∀ t ∈ tabs, H t.2 = some (.tbl #[])) → SqL (K) H a (ns.map V.int) → sp [.ref a] H (fun v _ => v = .bl true) fun _ _ _ => False) ∧
      ∀ base : Heap, (K).In base → base.Ns mainGlobals mg → BMain base mg → (∀ t ∈ tabs, PySem.W.CodeHd base t.1 t.2) → FnOk l.prog w (K) mg base CX0 13 fa fd ["_law_script"] sp := by
  have e := hfa.symm.trans (PySem.W.mg_of KX G X.ns)
  cases e
  obtain ⟨care_names, tbare_names, hare_names⟩ := T.gare_names
  obtain ⟨care_fields, tbare_fields, hare_fields⟩ := T.gare_fields
  obtain ⟨crises, tbrises, hrises⟩ := T.grises
  obtain ⟨care_things, tbare_things, hare_things⟩ := T.gare_things
  obtain ⟨cis_of_form, tbis_of_form, his_of_form⟩ := T.gis_of_form
  refine ⟨fd, [(care_names, tbare_names), (care_fields, tbare_fields), (crises, tbrises), (care_things, tbare_things), (cis_of_form, tbis_of_form)], spLaw K tbare_names tbare_fields tbrises tbare_things tbis_of_form, fun t ht => ?_, T.nt, hb, fun H a ns hl hT hS => ⟨a, ns, rfl, hS, hl, hT (care_names, tbare_names) (by simp), hT (care_fields, tbare_fields) (by simp), hT (crises, tbrises) (by simp), hT (care_things, tbare_things) (by simp), hT (cis_of_form, tbis_of_form) (by simp), fun _ => rfl⟩, fun base _ _ bm hC => law_fn KX G T X.F base bm hare_names (hC (care_names, tbare_names) (by simp)) hare_fields (hC (care_fields, tbare_fields) (by simp)) hrises (hC (crises, tbrises) (by simp)) hare_things (hC (care_things, tbare_things) (by simp)) his_of_form (hC (cis_of_form, tbis_of_form) (by simp))⟩
  simp only [List.mem_cons, List.not_mem_nil, or_false] at ht
  rcases ht with rfl | rfl | rfl | rfl | rfl
  · exact ⟨"are_names", by simp, hare_names⟩
  · exact ⟨"are_fields", by simp, hare_fields⟩
  · exact ⟨"rises", by simp, hrises⟩
  · exact ⟨"are_things", by simp, hare_things⟩
  · exact ⟨"is_of_form", by simp, his_of_form⟩
theorem walk {l : PySem.W.OpenLaw} {q : Program} {loose : List Str} {XP : (Str → Option Value) → Heap → Prop} {YP : World → Heap → Prop} {d : DefRec} {K : Params → PySem.W.Frag} (hn : l.most = some 63) (hdf : d.params.defaults = [])
    (hrec : ∀ x ∈ (["are_names", "are_fields", "rises", "are_things", "is_of_form"] : List Str), ((recsOf q).find? (fun e => e.name == x)).isSome = true) (hY : ∀ (w : World) (h : Heap), YP w h → (K w.params).In h)
    (F : ∀ (w : World) (mg : Str → Option Value) (fa : Addr) (h : Heap), (K w.params).In h → h.Ns mainGlobals mg → mg d.name = some (.ref fa) →
      ∃ (fd : FuncData) (tabs : List (Addr × Addr)) (sp : Sp), (∀ t ∈ tabs, ∃ x ∈ (["are_names", "are_fields", "rises", "are_things", "is_of_form"] : List Str), PySem.W.tabIn (K w.params) x = some t) ∧ PySem.W.noTabs (K w.params) = true ∧ (∀ (s : Shared) (v : Value), BindsTo s fd ⟨[v], []⟩ [("_law_script", v)]) ∧
      (∀ (H : Hp) (a : Addr) (ns : List Int), ns.length ≤ 63 → (∀ t ∈ tabs, H t.2 = some (.tbl #[])) → SqL (K w.params) H a (ns.map V.int) → sp [.ref a] H (fun v _ => v = .bl true) fun _ _ _ => False) ∧
      ∀ base : Heap, (K w.params).In base → base.Ns mainGlobals mg → BMain base mg → (∀ t ∈ tabs, PySem.W.CodeHd base t.1 t.2) → FnOk l.prog w (K w.params) mg base CX0 13 fa fd ["_law_script"] sp) :
    PySem.W.WalkO q loose XP YP l.row.toRowW d [] (fun f vs => PySem.call f vs) :=
  L2.walk_ofG (n := 63) (k := 13) (x := "_law_script") (xs := ["are_names", "are_fields", "rises", "are_things", "is_of_form"]) hn (by decide) hdf ⟨rfl, by decide, by decide⟩ hY hrec F
end K02
end
open PySem PySem.W PyProof.Rows
set_option maxRecDepth 100000 in
set_option maxHeartbeats 0 in
theorem PySem.Challenge.cw_heldafar_k02_pictures_let_by_holds : PySem.Challenge.rw_heldafar_k02_pictures_let_by.Holds := by
  w_on; o_law; k_head; (case hw => w_witness2)
  k_fill
  refine K02.walk (l := PySem.Challenge.rw_heldafar_k02_pictures_let_by) rfl rfl ?R (fun w h Y => PySem.W.kIn_of Y) ?F
  case R => decide +kernel
  case F =>
    intro w mg fa h KX G hmg
    refine' K02.all_mk KX G hmg ?T (KB.fx_mk ?a ?l ?c ?k) fun s v => .of_eq rfl
    (case a => k_is); (case l => k_is); (case c => k_is); (case k => k_is)
    clear hmg G KX
    constructor
    case nt => kernel_rfl
    case gare_names => exact KB.gt_mk (by kernel_rfl)
    case gare_fields => exact KB.gt_mk (by kernel_rfl)
    case grises => exact KB.gt_mk (by kernel_rfl)
    case gare_things => exact KB.gt_mk (by kernel_rfl)
    case gis_of_form => exact KB.gt_mk (by kernel_rfl)
    case eis_number => (refine' KB.fxx_mk ?a ?l ?c ?k); (case a => k_is); (case l => k_is); (case c => k_is); (case k => k_is)
    case eis_sized => (refine' KB.fxx_mk ?a ?l ?c ?k); (case a => k_is); (case l => k_is); (case c => k_is); (case k => k_is)
    case eis_pair => (refine' KB.fxx_mk ?a ?l ?c ?k); (case a => k_is); (case l => k_is); (case c => k_is); (case k => k_is)
    case eis_house => (refine' KB.fxx_mk ?a ?l ?c ?k); (case a => k_is); (case l => k_is); (case c => k_is); (case k => k_is)
    case eis_name => (refine' KB.fxx_mk ?a ?l ?c ?k); (case a => k_is); (case l => k_is); (case c => k_is); (case k => k_is)
    case eare_names => (refine' KB.fxx_mk ?a ?l ?c ?k); (case a => k_is); (case l => k_is); (case c => k_is); (case k => k_is)
    case eare_fields => (refine' KB.fxx_mk ?a ?l ?c ?k); (case a => k_is); (case l => k_is); (case c => k_is); (case k => k_is)
    case erises => (refine' KB.fxx_mk ?a ?l ?c ?k); (case a => k_is); (case l => k_is); (case c => k_is); (case k => k_is)
    case eare_hands => (refine' KB.fxx_mk ?a ?l ?c ?k); (case a => k_is); (case l => k_is); (case c => k_is); (case k => k_is)
    case eis_thing => (refine' KB.fxx_mk ?a ?l ?c ?k); (case a => k_is); (case l => k_is); (case c => k_is); (case k => k_is)
    case eare_things => (refine' KB.fxx_mk ?a ?l ?c ?k); (case a => k_is); (case l => k_is); (case c => k_is); (case k => k_is)
    case eis_part => (refine' KB.fxx_mk ?a ?l ?c ?k); (case a => k_is); (case l => k_is); (case c => k_is); (case k => k_is)
    case eis_letter => (refine' KB.fxx_mk ?a ?l ?c ?k); (case a => k_is); (case l => k_is); (case c => k_is); (case k => k_is)
    case eis_of_form => (refine' KB.fxx_mk ?a ?l ?c ?k); (case a => k_is); (case l => k_is); (case c => k_is); (case k => k_is)
    case efields_by_name => (refine' KB.fxx_mk ?a ?l ?c ?k); (case a => k_is); (case l => k_is); (case c => k_is); (case k => k_is)
    case eletter_names => (refine' KB.fxx_mk ?a ?l ?c ?k); (case a => k_is); (case l => k_is); (case c => k_is); (case k => k_is)
    case epointers => (refine' KB.fxx_mk ?a ?l ?c ?k); (case a => k_is); (case l => k_is); (case c => k_is); (case k => k_is)
    case elook_at_picture => (refine' KB.fxx_mk ?a ?l ?c ?k); (case a => k_is); (case l => k_is); (case c => k_is); (case k => k_is)
    case e_law_next => (refine' KB.fxx_mk ?a ?l ?c ?k); (case a => k_is); (case l => k_is); (case c => k_is); (case k => k_is)
    case e_law_names => (refine' KB.fxx_mk ?a ?l ?c ?k); (case a => k_is); (case l => k_is); (case c => k_is); (case k => k_is)
    case e_law_some => (refine' KB.fxx_mk ?a ?l ?c ?k); (case a => k_is); (case l => k_is); (case c => k_is); (case k => k_is)
    case e_law_thing => (refine' KB.fxx_mk ?a ?l ?c ?k); (case a => k_is); (case l => k_is); (case c => k_is); (case k => k_is)
    case e_law_letters => (refine' KB.fxx_mk ?a ?l ?c ?k); (case a => k_is); (case l => k_is); (case c => k_is); (case k => k_is)
    case e_law_picture => (refine' KB.fxx_mk ?a ?l ?c ?k); (case a => k_is); (case l => k_is); (case c => k_is); (case k => k_is)
    case e_law_full => (refine' KB.fxx_mk ?a ?l ?c ?k); (case a => k_is); (case l => k_is); (case c => k_is); (case k => k_is)
    case len => k_is
    case range => k_is
    case max => k_is
    case min => k_is
    case sorted => k_is
    case tuple => k_is
    case list => k_is
    case isi => k_is
    case int => k_is
    case bool => k_is
    case str => k_is
    case enumerate => k_is
    case reversed => k_is
    case pall => k_is
    case pzip => k_is
    case kLAST_NUMBER => (refine' KB.ns_mk ?na); (case na => k_is)
    case kHANDS => (refine' KB.ns_mk ?na); (case na => k_is)
    case kMOST_STILL => (refine' KB.ns_mk ?na); (case na => k_is)
    case kMOST_THINGS => (refine' KB.ns_mk ?na); (case na => k_is)
    case kMOST_FIELDS => (refine' KB.ns_mk ?na); (case na => k_is)
    case kMOST_HOUSES => (refine' KB.ns_mk ?na); (case na => k_is)
