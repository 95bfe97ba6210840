import PyProof.Rows.All
import Wide.All
import OpenK.AllK
import Wide.FinOn
import PyProof.EqAt
import PyProof.EqKinds
import PyProof.TupleCall
import KE.BitLaws
import KE.KLam
import KE.KNestM
import KE.KMinKey
import PyProof.SetKind
import PyProof.Rows.SetFrom
import PyProof.Rows.SortShellAny
import PyProof.CollectWalk
import PyProof.FactsAll.set_1
import PyProof.FactsAll.set_2
import Open.SpecLaws
import KE.OsHead
import KE.OsGo
import PySem.Challenge.RW_valleyposts_s01_answers
section
set_option Elab.async false
set_option linter.all false
set_option maxRecDepth 100000
namespace L2
open PySem PySem.Spec PyProof.Rows
abbrev Key := Sum Int Str
def keyIs : Key → Value → Bool
  | .inl k, v => Value.isInt k v
  | .inr x, v => Value.isStrOf x v
def keyH (w : World) : Key → Int
  | .inl k => hashInt k
  | .inr x => hashStr w x
theorem keyIs_shape : ∀ {k : Key} {v : Value}, keyIs k v = true → (∃ i t, k = Sum.inl i ∧ v = Value.int i t) ∨ (∃ x t, k = Sum.inr x ∧ v = Value.str x t)
  | .inl i, v, h => by
    obtain ⟨t, e⟩ := Value.isInt_shape (k := i) (v := v) h
    exact .inl ⟨i, t, rfl, e⟩
  | .inr x, v, h => by
    obtain ⟨t, e⟩ := Value.isStrOf_shape (x := x) (v := v) h
    exact .inr ⟨x, t, rfl, e⟩
theorem key_ll (a b : Int) : decide ((Sum.inl a : Key) = Sum.inl b) = (a == b) := by
  by_cases e : a = b
  · subst e; simp
  · have h : ¬ (Sum.inl a : Key) = Sum.inl b := fun q => e (Sum.inl.inj q)
    rw [decide_eq_false h]
    exact (beq_eq_false_iff_ne.mpr e).symm
theorem key_rr (a b : Str) : decide ((Sum.inr a : Key) = Sum.inr b) = decide (a = b) := by
  by_cases e : a = b
  · subst e; simp
  · have h : ¬ (Sum.inr a : Key) = Sum.inr b := fun q => e (Sum.inr.inj q)
    rw [decide_eq_false h, decide_eq_false e]
theorem key_lr (a : Int) (b : Str) : decide ((Sum.inl a : Key) = Sum.inr b) = false := decide_eq_false (fun q => nomatch q)
theorem key_rl (a : Str) (b : Int) : decide ((Sum.inr a : Key) = Sum.inl b) = false := decide_eq_false (fun q => nomatch q)
def mixKind (prog : Program) (w : World) : PySem.KeyKind prog w Key where
  is := keyIs
  hash := keyH w
  inj := fun v a b ha hb => by
    rcases keyIs_shape ha with ⟨i, t, rfl, rfl⟩ | ⟨x, t, rfl, rfl⟩
    · rcases keyIs_shape hb with ⟨j, u, rfl, e⟩ | ⟨y, u, rfl, e⟩
      · injection e with e1 _; rw [e1]
      · exact nomatch e
    · rcases keyIs_shape hb with ⟨j, u, rfl, e⟩ | ⟨y, u, rfl, e⟩
      · exact nomatch e
      · injection e with e1 _; rw [e1]
  byValue := fun k v h => by
    rcases keyIs_shape h with ⟨i, t, rfl, rfl⟩ | ⟨x, t, rfl, rfl⟩ <;> rfl
  pyHash := fun hv h => by
    rcases keyIs_shape hv with ⟨i, t, rfl, rfl⟩ | ⟨x, t, rfl, rfl⟩
    · exact wpAny_pyHash_int h
    · exact wpAny_pyHash_str h
  eqBool := fun hu hv h => by
    rcases keyIs_shape hu with ⟨i, t, rfl, rfl⟩ | ⟨x, t, rfl, rfl⟩
    · rcases keyIs_shape hv with ⟨j, u, rfl, rfl⟩ | ⟨y, u, rfl, rfl⟩
      · rw [key_ll] at h; exact wpAny_eqBool_int h
      · rw [key_lr] at h; exact SeqAt.EqAt.int_str i t y u _ _ _ _ h
    · rcases keyIs_shape hv with ⟨j, u, rfl, rfl⟩ | ⟨y, u, rfl, rfl⟩
      · rw [key_rl] at h; exact SeqAt.EqAt.str_int x t j u _ _ _ _ h
      · rw [key_rr] at h; exact wpAny_eqBool_str h
  «strs» := fun k x t v h => by
    rcases keyIs_shape h with ⟨i, u, rfl, e⟩ | ⟨y, u, rfl, e⟩
    · exact nomatch e
    · injection e with e1 _
      subst e1
      cases v <;> rfl
end L2
namespace L2
open PySem PySem.Spec PyProof.Rows
inductive V where
  | non | bl (b : Bool) | int (i : Int) | str (x : Str) | byt (b : Array UInt8) | flt (b : UInt64) | ref (a : Addr) | ty (n : String)
  deriving DecidableEq
def RelV : V → Value → Prop
  | .non, u => u = Value.none
  | .bl b, u => u = Value.bool b
  | .int i, u => ∃ t, u = Value.int i t
  | .str x, u => ∃ t, u = Value.str x t
  | .byt b, u => ∃ t, u = Value.bytes b t
  | .flt b, u => ∃ t, u = Value.float b t
  | .ref a, u => u = Value.ref a
  | .ty n, u => u = Value.type n
abbrev Vals : List V → List Value → Prop := Paired RelV
theorem Vals.length {xs : List V} {us : List Value} (r : Vals xs us) : xs.length = us.length := Paired.length r
theorem Vals.get : ∀ {xs : List V} {us : List Value} {i : Nat} {x : V}, Vals xs us → xs[i]? = some x → ∃ u, us[i]? = some u ∧ RelV x u
  | _, _, _, _, .nil, e => by simp at e
  | _, _, 0, _, .cons r _, e => by simp at e; subst e; exact ⟨_, rfl, r⟩
  | _, _, i + 1, x, .cons _ t, e => by
    obtain ⟨u, h1, h2⟩ := Vals.get (i := i) (x := x) t (by simpa using e)
    exact ⟨u, by simpa using h1, h2⟩
theorem Vals.set {x : V} {u : Value} (r : RelV x u) : ∀ {xs : List V} {us : List Value} (i : Nat), Vals xs us → Vals (xs.set i x) (us.set i u)
  | _, _, _, .nil => .nil
  | _, _, 0, .cons _ t => .cons r t
  | _, _, i + 1, .cons q t => .cons q (Vals.set r i t)
theorem Vals.append : ∀ {xs ys : List V} {us ws : List Value}, Vals xs us → Vals ys ws → Vals (xs ++ ys) (us ++ ws)
  | _, _, _, _, .nil, s => s
  | _, _, _, _, .cons r t, s => .cons r (Vals.append t s)
theorem Vals.take : ∀ {xs : List V} {us : List Value} (n : Nat), Vals xs us → Vals (xs.take n) (us.take n)
  | _, _, 0, _ => .nil
  | _, _, _ + 1, .nil => .nil
  | _, _, n + 1, .cons r t => .cons r (Vals.take n t)
theorem Vals.drop : ∀ {xs : List V} {us : List Value} (n : Nat), Vals xs us → Vals (xs.drop n) (us.drop n)
  | _, _, 0, r => r
  | _, _, _ + 1, .nil => .nil
  | _, _, n + 1, .cons _ t => Vals.drop n t
theorem Vals.none_of : ∀ {xs : List V} {us : List Value} {i : Nat}, Vals xs us → xs[i]? = none → us[i]? = none := fun {xs us i} r e => by
  have h1 := r.length
  have h2 : xs.length ≤ i := List.getElem?_eq_none_iff.mp e
  exact List.getElem?_eq_none_iff.mpr (by omega)
def RelO : Option V → Option Value → Prop
  | some v, some u => RelV v u
  | none, none => True
  | _, _ => False
def KV {κ : Type} : List (κ × V) → List (κ × Value) → Prop := Paired fun (p : κ × V) (q : κ × Value) => p.1 = q.1 ∧ RelV p.2 q.2
def kV : Key → V
  | .inl i => .int i
  | .inr x => .str x
inductive HO where
  | lst (xs : List V)
  | tup (xs : List V)
  | dK (kvs : List (Key × V)) | dT (kvs : List (List Key × V))
  | set (S : Int → Bool) (n : Nat)
  | ins (C dx : Addr) (fs : List (Str × V))
  | own (x : Addr)
  | xd (fs : List (Str × V))
  | met (f x : Addr)
  | rng (lo hi : Int)
  | frz (o : Obj) (u : HO)
  | tbl (ps : Array Value)
  | ext (φ : Heap → Prop)
abbrev Hp := Addr → Option HO
def upd (H : Hp) (a : Addr) (o : HO) : Hp := fun b => if b = a then some o else H b
theorem upd_same {H : Hp} {a : Addr} {o : HO} : upd H a o a = some o := by unfold upd; rw [if_pos rfl]
theorem upd_ne {H : Hp} {a b : Addr} {o : HO} (h : b ≠ a) : upd H a o b = H b := by unfold upd; rw [if_neg h]
theorem upd_upd {H : Hp} {a : Addr} {o u : HO} : upd (upd H a o) a u = upd H a u := by
  funext b; unfold upd; split <;> rfl
theorem ne_of {H : Hp} {a b : Addr} {o u : HO} (h : H a = some o) (h' : H b = some u) (d : o ≠ u) : a ≠ b := by
  intro e; subst e; rw [h] at h'; exact d (Option.some.inj h')
theorem ne_of_none {H : Hp} {a b : Addr} {o : HO} (h : H a = some o) (h' : H b = none) : a ≠ b := by
  intro e; subst e; rw [h] at h'; cases h'
section
variable (P : Program) (w : World)
def ObjOk (H : Hp) (h : Heap) (a : Addr) : HO → Prop
  | .lst xs => xs.length ≤ sizeLine ∧ ∃ (its : List Value) (n : Nat), Vals xs its ∧ h.get? a = some { cls := .type "list", data := .seq its.toArray n }
  | .tup xs => xs.length ≤ sizeLine ∧ ∃ its : List Value, Vals xs its ∧ IsTup h a its.toArray
  | .dK kvs => kvs.length ≤ sizeLine ∧ (a == sysModules) = false ∧ ∃ vs, KV kvs vs ∧ h.DictOf (mixKind P w) a vs
  | .dT kvs => kvs.length ≤ sizeLine ∧ (a == sysModules) = false ∧ ∃ xs : List (List Key × Addr × Value),
      Paired (fun (p : List Key × V) (q : List Key × Addr × Value) => p.1 = q.1 ∧ H q.2.1 = some (.tup (p.1.map kV)) ∧ RelV p.2 q.2.2) kvs xs ∧
      ∃ o es ep, h.get? a = some o ∧ o.ExactDict ∧ o.data = .dict es ep ∧ es.toList = xs.map (entryOfKey (tupleKind (mixKind P w))) ∧ (xs.map (·.1)).Nodup
  | .set S n => h.SetOf (intKind P w) a S n
  | .ins C dx fs => H dx = some (.own a) ∧ fs.length ≤ 1000 ∧ dx ≠ a ∧ h.get? a = some (PySem.W.instObj C dx) ∧
      ∃ mA, h.Ns1 dx mA ∧ (∀ f, RelO (fs.lookup f) (mA f)) ∧ PySem.Within mA (fs.map (·.1))
  | .own _ => ∃ o, h.get? a = some o
  | .xd fs => ∃ mA, h.Ns1 a mA ∧ ∀ f, RelO (fs.lookup f) (mA f)
  | .rng lo hi => ∃ t u v, h.get? a = some { cls := .type "range", data := .fields #[.int lo t, .int hi u, .int 1 v] }
  | .frz o u => h.get? a = some o ∧ ObjOk H h a u
  | .tbl ps => h.get? a = some { cls := .none, data := .fields ps }
  | .met f x => h.get? a = some (PySem.W.methodObj (.ref f) (.ref x))
  | .ext φ => φ h ∧ (∃ o, h.get? a = some o) ∧ ∀ h1 h2 : Heap, φ h1 → (∀ o, h1.get? a = some o → h2.get? a = some o) → φ h2
def HOk (H : Hp) (h : Heap) : Prop := ∀ a o, H a = some o → ObjOk P w H h a o
end
section
variable {P : Program} {w : World} {H H' : Hp} {h h' : Heap} {a : Addr} {o : HO}
theorem ObjOk.lt (x : ObjOk P w H h a o) : a < h.objs.size := by
  cases o with
  | lst xs => obtain ⟨_, _, _, _, e⟩ := x; exact Heap.lt_size e
  | tup xs => obtain ⟨_, _, _, p⟩ := x; exact p.lt
  | dK kvs => obtain ⟨_, _, _, _, o, _, _, e, _⟩ := x; exact Heap.lt_size e
  | dT kvs => obtain ⟨_, _, _, _, o, _, _, e, _⟩ := x; exact Heap.lt_size e
  | set S n => obtain ⟨o, _, _, _, e, _⟩ := x; exact Heap.lt_size e
  | ins C dx fs => obtain ⟨_, _, _, e, _⟩ := x; exact Heap.lt_size e
  | own y => obtain ⟨_, e⟩ := x; exact Heap.lt_size e
  | xd fs => obtain ⟨_, ⟨_, _, _, e, _⟩, _⟩ := x; exact Heap.lt_size e
  | rng lo hi => obtain ⟨_, _, _, e⟩ := x; exact Heap.lt_size e
  | frz ob u => obtain ⟨e, _⟩ := x; exact Heap.lt_size e
  | tbl ps => exact Heap.lt_size (show h.get? a = some _ from x)
  | met f y => exact Heap.lt_size (show h.get? a = some _ from x)
  | ext φ => obtain ⟨_, ⟨_, e⟩, _⟩ := x; exact Heap.lt_size e
theorem Paired.mapP {α β : Type} {F G : α → β → Prop} : ∀ {l₁ : List α} {l₂ : List β}, Paired F l₁ l₂ → (∀ a b, F a b → G a b) → Paired G l₁ l₂
  | _, _, .nil, _ => .nil
  | _, _, .cons r t, f => .cons (f _ _ r) (Paired.mapP t f)
theorem ObjOk.stay (x : ObjOk P w H h a o) (k : ∀ b u, (b = a ∨ H b = some (.own a)) → h.get? b = some u → h'.get? b = some u)
    (ho : ∀ b, H b = some (.own a) → H' b = some (.own a)) (ht : ∀ b xs, H b = some (.tup xs) → H' b = some (.tup xs)) : ObjOk P w H' h' a o := by
  induction o with
  | lst xs => obtain ⟨z, its, n, r, e⟩ := x; exact ⟨z, its, n, r, k _ _ (.inl rfl) e⟩
  | tup xs => obtain ⟨z, its, r, ob, e, c⟩ := x; exact ⟨z, its, r, ob, k _ _ (.inl rfl) e, c⟩
  | dK kvs => obtain ⟨z, y, vs, r, ob, es, ep, e, c⟩ := x; exact ⟨z, y, vs, r, ob, es, ep, k _ _ (.inl rfl) e, c⟩
  | dT kvs =>
    obtain ⟨z, y, xs, r, ob, es, ep, e, c⟩ := x
    exact ⟨z, y, xs, Paired.mapP r fun p q z => ⟨z.1, ht _ _ z.2.1, z.2.2⟩, ob, es, ep, k _ _ (.inl rfl) e, c⟩
  | set S n => obtain ⟨ob, es, ep, t, e, c⟩ := x; exact ⟨ob, es, ep, t, k _ _ (.inl rfl) e, c⟩
  | ins C dx fs =>
    obtain ⟨d, z, ne, e, mA, ⟨od, es, ep, e2, c⟩, r⟩ := x
    exact ⟨ho _ d, z, ne, k _ _ (.inl rfl) e, mA, ⟨od, es, ep, k _ _ (.inr d) e2, c⟩, r⟩
  | own y => obtain ⟨ob, e⟩ := x; exact ⟨ob, k _ _ (.inl rfl) e⟩
  | xd fs => obtain ⟨mA, ⟨od, es, ep, e, c⟩, r⟩ := x; exact ⟨mA, ⟨od, es, ep, k _ _ (.inl rfl) e, c⟩, r⟩
  | rng lo hi => obtain ⟨t, u, v, e⟩ := x; exact ⟨t, u, v, k _ _ (.inl rfl) e⟩
  | frz ob u ih => obtain ⟨e, q⟩ := x; exact ⟨k _ _ (.inl rfl) e, ih q⟩
  | tbl ps =>
    have e : h.get? a = some { cls := .none, data := .fields ps } := x
    show h'.get? a = some { cls := .none, data := .fields ps }
    exact k a _ (.inl rfl) e
  | met f y =>
    have e : h.get? a = some (PySem.W.methodObj (.ref f) (.ref y)) := x
    show h'.get? a = some (PySem.W.methodObj (.ref f) (.ref y))
    exact k a _ (.inl rfl) e
  | ext φ => obtain ⟨p, ⟨o, e⟩, st⟩ := x; exact ⟨st _ _ p fun o q => k _ _ (.inl rfl) q, ⟨o, k _ _ (.inl rfl) e⟩, st⟩
theorem HOk.lt (x : HOk P w H h) (e : H a = some o) : a < h.objs.size := (x a o e).lt
theorem HOk.fresh (x : HOk P w H h) (e : h.objs.size ≤ a) : H a = none := by
  cases q : H a with
  | none => rfl
  | some u => exact absurd (Nat.lt_of_lt_of_le (x.lt q) e) (Nat.lt_irrefl _)
theorem HOk.kept (x : HOk P w H h) (k : ∀ b u, h.get? b = some u → h'.get? b = some u) : HOk P w H h' := fun a o e =>
  (x a o e).stay (fun b u _ q => k b u q) (fun _ q => q) fun _ _ q => q
theorem HOk.laid (x : HOk P w H h) (k : ∀ b u, h.get? b = some u → h'.get? b = some u) (hp : h.objs.size ≤ a) (new : ObjOk P w (upd H a o) h' a o) : HOk P w (upd H a o) h' := fun b u e => by
  have hn := x.fresh hp
  by_cases hb : b = a
  · subst hb; rw [upd_same] at e; cases e; exact new
  · rw [upd_ne hb] at e
    exact (x b u e).stay (fun c v _ q => k c v q) (fun c q => by rw [upd_ne (ne_of_none q hn)]; exact q) fun c xs q => by rw [upd_ne (ne_of_none q hn)]; exact q
end
def Rd (H : Hp) (a : Addr) (u : HO) : Prop := H a = some u ∨ ∃ o, H a = some (.frz o u)
theorem Rd.of {H : Hp} {a : Addr} {u : HO} (h : H a = some u) : Rd H a u := .inl h
theorem Rd.ok {P : Program} {w : World} {H : Hp} {h : Heap} {a : Addr} {u : HO} (r : Rd H a u) (x : HOk P w H h) : ObjOk P w H h a u := by
  rcases r with r | ⟨o, r⟩
  · exact x a u r
  · obtain ⟨_, q⟩ := x a _ r
    exact q
def Mut : Option HO → Prop
  | some (.lst _) => True
  | some (.dK _) => True
  | some (.dT _) => True
  | some (.set _ _) => True
  | some (.ins _ _ _) => True
  | some (.ext _) => True
  | _ => False
section
variable {P : Program} {w : World} {H : Hp} {h h' : Heap} {x e : Addr} {o' : HO}
theorem HOk.write (ok : HOk P w H h) (mu : Mut (H x)) (he : e = x ∨ H e = some (.own x)) (k : ∀ b u, b ≠ e → h.get? b = some u → h'.get? b = some u) (heo : ∃ u, h'.get? e = some u)
    (new : ObjOk P w (upd H x o') h' x o') : HOk P w (upd H x o') h' := fun b u q => by
  have nown : ∀ c y, H c = some (.own y) → c ≠ x := fun c y r z => by subst z; rw [r] at mu; exact mu
  have ntup : ∀ c xs, H c = some (.tup xs) → c ≠ x := fun c xs r z => by subst z; rw [r] at mu; exact mu
  by_cases hb : b = x
  · subst hb; rw [upd_same] at q; cases q; exact new
  · rw [upd_ne hb] at q
    by_cases hbe : b = e
    · have q' : H b = some (.own x) := by
        rcases he with z | z
        · exact absurd (hbe.trans z) hb
        · rw [hbe]; exact z
      rw [q] at q'; cases q'
      obtain ⟨v, hv⟩ := heo
      exact ⟨v, by rw [hbe]; exact hv⟩
    · refine (ok b u q).stay (fun c v hc r => k c v ?_ r) (fun c r => by rw [upd_ne (nown c b r)]; exact r) fun c xs r => by rw [upd_ne (ntup c xs r)]; exact r
      rcases hc with rfl | hc
      · exact hbe
      · rintro rfl
        rcases he with z | z
        · exact nown c b hc z
        · rw [hc] at z; cases z; exact hb rfl
end
structure Un (fs ex : List Addr) (H H' : Hp) (h h' : Heap) : Prop where
  keep : ∀ b o, h.get? b = some o → H b = none → b ∉ fs → b ∉ ex → h'.get? b = some o
  slot : ∀ b o, h.get? b = some o → H b = none → b ∈ fs → b ∉ ex → ∃ sl, h'.get? b = some { o with slots := sl }
  free : ∀ b o, h.get? b = some o → H b = none → b ∉ ex → H' b = none
  there : ∀ b o, h.get? b = some o → b ∉ ex → ∃ o', h'.get? b = some o'
  tups : ∀ b xs, H b = some (.tup xs) → H' b = some (.tup xs)
  frzs : ∀ b o u, H b = some (.frz o u) → H' b = some (.frz o u)
  tbls : ∀ b ps, H b = some (.tbl ps) → ∃ more, H' b = some (.tbl (ps ++ more))
section
variable {fs fs' ex ex' : List Addr} {H H1 H2 : Hp} {h h1 h2 h' : Heap} {a x e : Addr} {o : HO}
theorem Un.any (u : Un fs ex H H1 h h1) {b : Addr} {ob : Obj} (q : h.get? b = some ob) (n : H b = none) (hx : b ∉ ex) : ∃ sl, h1.get? b = some { ob with slots := sl } := by
  by_cases hb : b ∈ fs
  · exact u.slot b ob q n hb hx
  · exact ⟨ob.slots, u.keep b ob q n hb hx⟩
theorem Un.trans (a : Un fs ex H H1 h h1) (b : Un fs ex H1 H2 h1 h2) : Un fs ex H H2 h h2 where
  keep := fun c ob q n hc hx => b.keep c ob (a.keep c ob q n hc hx) (a.free c ob q n hx) hc hx
  slot := fun c ob q n hc hx => by
    obtain ⟨sl, e1⟩ := a.slot c ob q n hc hx
    obtain ⟨sl', e2⟩ := b.slot c _ e1 (a.free c ob q n hx) hc hx
    exact ⟨sl', e2⟩
  free := fun c ob q n hx => by
    obtain ⟨o', e1⟩ := a.there c ob q hx
    exact b.free c o' e1 (a.free c ob q n hx) hx
  there := fun c ob q hx => by
    obtain ⟨o', e1⟩ := a.there c ob q hx
    exact b.there c o' e1 hx
  tups := fun c xs q => b.tups c xs (a.tups c xs q)
  frzs := fun c ob xs q => b.frzs c ob xs (a.frzs c ob xs q)
  tbls := fun c ps q => by
    obtain ⟨m1, e1⟩ := a.tbls c ps q
    obtain ⟨m2, e2⟩ := b.tbls c _ e1
    exact ⟨m1 ++ m2, by rw [e2, Array.append_assoc]⟩
theorem Un.kept (k : ∀ b u, h.get? b = some u → h'.get? b = some u) : Un fs ex H H h h' :=
  ⟨fun b ob q _ _ _ => k b ob q, fun b ob q _ _ _ => ⟨ob.slots, k b ob q⟩, fun _ _ _ n _ => n, fun b ob q _ => ⟨ob, k b ob q⟩, fun _ _ q => q, fun _ _ _ q => q, fun _ ps q => ⟨#[], by rw [q]; simp⟩⟩
theorem Un.refl : Un fs ex H H h h := Un.kept fun _ _ q => q
theorem Un.laid (k : ∀ b u, h.get? b = some u → h'.get? b = some u) (hp : h.objs.size ≤ a) (hn : H a = none) : Un fs ex H (upd H a o) h h' where
  keep := fun b u q _ _ _ => k b u q
  slot := fun b u q _ _ _ => ⟨u.slots, k b u q⟩
  free := fun b u q n _ => by rw [upd_ne (Nat.ne_of_lt (Nat.lt_of_lt_of_le (Heap.lt_size q) hp))]; exact n
  there := fun b u q _ => ⟨u, k b u q⟩
  tups := fun b xs q => by rw [upd_ne (ne_of_none q hn)]; exact q
  frzs := fun b u xs q => by rw [upd_ne (ne_of_none q hn)]; exact q
  tbls := fun b ps q => ⟨#[], by rw [upd_ne (ne_of_none q hn), q]; simp⟩
theorem Un.write (mu : Mut (H x)) (he : e = x ∨ H e = some (.own x)) (k : ∀ b u, b ≠ e → h.get? b = some u → h'.get? b = some u) (heo : ∃ u, h'.get? e = some u) : Un fs ex H (upd H x o) h h' := by
  have hx : ∀ b, H b = none → b ≠ x := fun b n z => by subst z; rw [n] at mu; exact mu
  have hb : ∀ b, H b = none → b ≠ e := fun b n z => by
    subst z
    rcases he with r | r
    · exact hx b n r
    · rw [n] at r; cases r
  have hm : ∀ b u, H b = some u → ¬ Mut (some u) → b ≠ x := fun b u q nm z => by subst z; rw [q] at mu; exact nm mu
  refine ⟨fun b u q n _ _ => k b u (hb b n) q, fun b u q n _ _ => ⟨u.slots, k b u (hb b n) q⟩, fun b u q n _ => by rw [upd_ne (hx b n)]; exact n, fun b u q _ => ?_,
    fun b xs q => by rw [upd_ne (hm b _ q fun z => z)]; exact q, fun b u xs q => by rw [upd_ne (hm b _ q fun z => z)]; exact q, fun b ps q => ⟨#[], by rw [upd_ne (hm b _ q fun z => z), q]; simp⟩⟩
  by_cases hbe : b = e
  · subst hbe; exact heo
  · exact ⟨u, k b u hbe q⟩
theorem Un.mono (u : Un fs ex H H1 h h1) (hs : ∀ b ∈ fs, b ∈ fs') (hx : ∀ b ∈ ex, b ∈ ex') : Un fs' ex' H H1 h h1 :=
  ⟨fun b ob q n hb he => u.keep b ob q n (fun z => hb (hs b z)) fun z => he (hx b z), fun _ _ q n _ he => u.any q n fun z => he (hx _ z), fun b ob q n he => u.free b ob q n fun z => he (hx b z), fun b ob q he => u.there b ob q fun z => he (hx b z), u.tups, u.frzs, u.tbls⟩
end
def trk (h : Heap) (H : Hp) : List Addr := (List.range h.objs.size).filter fun a => (H a).isSome
def hidT (h : Heap) (H : Hp) : Heap := PySem.W.hideAll h (trk h H)
theorem hidT_size (h : Heap) (H : Hp) : (hidT h H).objs.size = h.objs.size := PySem.W.hideAll_size _ _
theorem hidT_get {h : Heap} {H : Hp} {b : Addr} {o : Obj} (e : h.get? b = some o) (n : H b = none) : (hidT h H).get? b = some o :=
  PySem.W.hideAll_get _ e fun hm => by
    have q : (H b).isSome = true := (List.mem_filter.mp hm).2
    rw [n] at q; simp at q
theorem of_hidT {h : Heap} {H : Hp} {b : Addr} {o : Obj} (e : (hidT h H).get? b = some o) : h.get? b = some o ∧ H b = none := by
  have e' : h.get? b = some o := PySem.W.of_hideAll (trk h H) e
  refine ⟨e', ?_⟩
  cases q : H b with
  | none => rfl
  | some x =>
    have hm : b ∈ trk h H := List.mem_filter.mpr ⟨List.mem_range.mpr (Heap.lt_size e'), by simp [q]⟩
    have z : (hidT h H).get? b = none := PySem.W.hideAll_none (trk h H) hm
    rw [z] at e; cases e
def allNews (g h : Heap) (L : Addr) : List (Addr × Obj) := (List.range h.objs.size).filterMap fun a => if a = L ∨ (g.get? a).isSome = true then none else (h.get? a).map fun o => (a, o)
def rest (g h : Heap) (L d : Addr) : List (Addr × Obj) := (allNews g h L).filter fun p => decide (p.1 ≠ d)
end L2
namespace L2
open PySem PySem.Spec PyProof.Rows
structure Mod (K : PySem.W.Frag) (mg : Str → Option Value) (base : Heap) : Prop where
  kin : K.In base
  glob : base.Ns mainGlobals mg
  blt : ∃ mb, base.Ns builtinsNs mb ∧ ∀ x : Str, x ≠ "__name__" → mb x = bootBuiltins x
  nolimit : base.NoLimit
structure Cx where
  prog : Program
  w : World
  K : PySem.W.Frag
  mg : Str → Option Value
  base : Heap
  A : Around
  N : List Str
  s_0 : Shared
  H_0 : Hp
  env : Env
  outer : List Env
  stack : List Env
  ex : List Addr
  fn : Str → Bool
  calm : Bool
  pn : List (Addr × Obj)
  xe : Value → Shared → Prop
def frs (l : List Env) : List Addr := l.filterMap (·.frame)
abbrev Cx.fs (X : Cx) : List Addr := frs X.outer
def Vis (sc : Scope) (x : Str) : Prop := sc.names.lookup x = some .local ∨ sc.names.lookup x = some .cell ∨ sc.names.lookup x = some .free
def Loc (sc : Scope) (x : Str) : Prop := sc.names.lookup x = some .local ∨ sc.names.lookup x = some .cell
def Look (env : Env) (h : Heap) (m : Str → Option Value) (x : Str) (u : Value) : Prop :=
  (env.kindOf x = some .local ∧ m x = some u) ∨ ((env.kindOf x = some .cell ∨ env.kindOf x = some .free) ∧ ∃ c, env.cells.lookup x = some c ∧ h.IsCell c (some u))
structure Cx.Ok (X : Cx) : Prop where
  mod : Mod X.K X.mg X.base
  kind : X.env.scope.kind = .function
  glob : X.env.globals = mainGlobals
  blt : X.env.builtins = builtinsNs
  above : X.s_0.heap.objs.size ≤ X.env.locals
  inj : ∀ x y c, X.env.cells.lookup x = some c → X.env.cells.lookup y = some c → x = y
  has : ∀ x, (X.env.kindOf x = some .cell ∨ X.env.kindOf x = some .free) → ∃ c, X.env.cells.lookup x = some c
  cab : ∀ x c, X.fn x = true → X.env.cells.lookup x = some c → X.s_0.heap.objs.size ≤ c
  hd : X.calm = true → X.A.handled = none
  frames : X.A.frames = some X.stack
  stk : X.stack = X.outer ∨ (X.stack = X.env :: X.outer ∧ X.env.frame = some X.env.locals)
  exf : ∀ b ∈ X.ex, b ≠ X.env.locals ∧ ∀ x c, X.env.cells.lookup x = some c → c ≠ b
  bs : ∀ b o, X.base.get? b = some o → X.s_0.heap.get? b = some o ∧ X.H_0 b = none
  bsz : X.base.objs.size ≤ X.s_0.heap.objs.size
  noex : ∀ b o, X.base.get? b = some o → b ∉ X.ex
  exfs : ∀ b ∈ X.ex, b ∉ X.fs
  funs : X.s_0.heap.FunFrames X.base X.outer
  frf : ∀ b ∈ X.fs, X.H_0 b = none
structure Inv (X : Cx) (pins : List (Addr × Obj)) (σ : List (Option V)) (H : Hp) (s : Shared) : Prop where
  ok : X.Ok
  os : s.os = X.s_0.os
  bare : AllBare s.gens
  base : Un X.fs X.ex X.H_0 H X.s_0.heap s.heap
  loc : ∃ m, s.heap.Ns X.env.locals m ∧ ∀ (i : Nat) (x : Str) (v : V), X.N[i]? = some x → σ[i]? = some (some v) → Vis X.env.scope x → ∃ u, RelV v u ∧ Look X.env s.heap m x u
  cell : ∀ x c, X.env.cells.lookup x = some c → ∃ v, s.heap.IsCell c v
  free : H X.env.locals = none
  freeC : ∀ x c, X.env.cells.lookup x = some c → H c = none
  pin : ∀ p ∈ X.pn ++ pins, s.heap.get? p.1 = some p.2 ∧ H p.1 = none ∧ p.1 ≠ X.env.locals ∧ p.1 ∉ X.fs ∧ ∀ v, p.2.data ≠ .cell v
  hok : HOk X.prog X.w H s.heap
  len : σ.length = X.N.length
section
variable {X : Cx} {pins : List (Addr × Obj)} {σ : List (Option V)} {H H' : Hp} {s : Shared} {h' : Heap}
theorem Cx.Ok.nofr (ok : X.Ok) {b : Addr} {o : Obj} (e : X.base.get? b = some o) : b ∉ X.fs := fun hb => by
  have := (ok.funs.mem hb).1
  rw [e] at this; cases this
theorem Inv.bs (I : Inv X pins σ H s) : ∀ b o, X.base.get? b = some o → s.heap.get? b = some o ∧ H b = none := fun b o e =>
  ⟨I.base.keep b o (I.ok.bs b o e).1 (I.ok.bs b o e).2 (I.ok.nofr e) (I.ok.noex b o e), I.base.free b o (I.ok.bs b o e).1 (I.ok.bs b o e).2 (I.ok.noex b o e)⟩
theorem Inv.bk (I : Inv X pins σ H s) : ∀ b o, X.base.get? b = some o → s.heap.get? b = some o := fun b o e => (I.bs b o e).1
theorem Inv.mod (I : Inv X pins σ H s) : Mod X.K X.mg X.base := I.ok.mod
theorem Inv.kIn (I : Inv X pins σ H s) : X.K.In s.heap := I.ok.mod.kin.keeps I.bk
theorem Inv.nolimit (I : Inv X pins σ H s) : s.heap.NoLimit := I.ok.mod.nolimit.keeps I.bk
theorem Inv.fr (I : Inv X pins σ H s) : ∃ m, Fr X.base X.env.locals s.heap m :=
  let ⟨m, hn, _⟩ := I.loc
  ⟨m, hn, I.bk, Nat.le_trans I.ok.bsz I.ok.above⟩
theorem Inv.lt (I : Inv X pins σ H s) : X.env.locals < s.heap.objs.size := let ⟨_, hn, _⟩ := I.loc; hn.lt
theorem Inv.sz (I : Inv X pins σ H s) : X.s_0.heap.objs.size ≤ s.heap.objs.size := Nat.le_trans I.ok.above (Nat.le_of_lt I.lt)
theorem Inv.nofs (I : Inv X pins σ H s) {a : Addr} (h : s.heap.objs.size ≤ a) : a ∉ X.fs := fun hb => by
  obtain ⟨_, o, ho, _⟩ := I.ok.funs.mem hb
  exact absurd (Nat.lt_of_lt_of_le (Heap.lt_size ho) (Nat.le_trans I.sz h)) (Nat.lt_irrefl _)
theorem Inv.cne (I : Inv X pins σ H s) : ∀ x c, X.env.cells.lookup x = some c → c ≠ X.env.locals := fun x c e z => by
  obtain ⟨v, o, ho, hd⟩ := I.cell x c e
  obtain ⟨m, ⟨o', es, ep, ho', hd', _⟩, _⟩ := I.loc
  rw [z, ho'] at ho; cases ho; rw [hd'] at hd; cases hd
theorem Inv.funs (I : Inv X pins σ H s) : s.heap.FunFrames X.base X.outer := by
  have all : ∀ (l : List Env), (∀ b ∈ frs l, b ∈ X.fs) → X.s_0.heap.FunFrames X.base l → s.heap.FunFrames X.base l := by
    intro l
    induction l with
    | nil => intro _ _; trivial
    | cons env r ih =>
      intro hs hl
      obtain ⟨hk, ⟨L, o, hf, hn, ho, hd⟩, hr⟩ := hl
      have hL : L ∈ X.fs := hs L (by unfold frs; rw [List.filterMap_cons, hf]; exact List.mem_cons_self)
      obtain ⟨sl, e⟩ := I.base.slot L o ho (I.ok.frf L hL) hL fun z => I.ok.exfs L z hL
      exact ⟨hk, ⟨L, _, hf, hn, e, hd⟩, ih (fun b hb => hs b (by unfold frs; rw [List.filterMap_cons, hf]; exact List.mem_cons_of_mem _ hb)) hr⟩
  exact all X.outer (fun _ hb => hb) I.ok.funs
theorem Inv.stack (I : Inv X pins σ H s) : s.heap.FunFrames X.base X.stack := by
  rcases I.ok.stk with e | ⟨e, hf⟩
  · rw [e]; exact I.funs
  · rw [e]
    obtain ⟨m, hn, _⟩ := I.loc
    refine .cons (by rw [I.ok.kind]; decide) hf hn ?_ I.funs
    exact Heap.get?_none_of_le (Nat.le_trans I.ok.bsz I.ok.above)
theorem Inv.stkSub (I : Inv X pins σ H s) : ∀ b ∈ frs X.stack, b ∈ X.env.locals :: X.fs := fun b hb => by
  rcases I.ok.stk with e | ⟨e, hf⟩
  · rw [e] at hb; exact List.mem_cons_of_mem _ hb
  · rw [e] at hb
    unfold frs at hb
    rw [List.filterMap_cons, hf] at hb
    exact hb
theorem Inv.stkFree (I : Inv X pins σ H s) : ∀ b ∈ frs X.stack, H b = none := fun b hb => by
  rcases List.mem_cons.mp (I.stkSub b hb) with e | hb
  · rw [e]; exact I.free
  · obtain ⟨_, o, ho, _⟩ := I.ok.funs.mem hb
    exact I.base.free b o ho (I.ok.frf b hb) fun z => I.ok.exfs b z hb
theorem Inv.step {g' : Array GenState} {t' : Nat} {d' : Drawn} {ch : List Addr} (I : Inv X pins σ H s)
    (hch : ∀ b ∈ ch, (b ∈ X.ex ∨ X.s_0.heap.objs.size ≤ b) ∧ b ≠ X.env.locals ∧ (∀ x c, X.env.cells.lookup x = some c → c ≠ b) ∧ ∀ p ∈ X.pn ++ pins, p.1 ≠ b)
    (keep : ∀ b o, b ≠ X.env.locals → b ∉ X.fs → b ∉ ch → s.heap.get? b = some o → H b = none → h'.get? b = some o)
    (slot : ∀ b o, b ≠ X.env.locals → b ∈ X.fs → b ∉ ch → s.heap.get? b = some o → H b = none → ∃ sl, h'.get? b = some { o with slots := sl }) (free : ∀ b o, b ∉ ch → s.heap.get? b = some o → H b = none → H' b = none)
    (there : ∀ b o, b ∉ ch → s.heap.get? b = some o → ∃ o', h'.get? b = some o')
    (tups : ∀ b xs, H b = some (.tup xs) → H' b = some (.tup xs)) (frzs : ∀ b o u, H b = some (.frz o u) → H' b = some (.frz o u)) (tbls : ∀ b ps, H b = some (.tbl ps) → ∃ more, H' b = some (.tbl (ps ++ more)))
    (ns : ∀ m, s.heap.Ns X.env.locals m → h'.Ns X.env.locals m) (hok : HOk X.prog X.w H' h') (hg : AllBare g') :
    Inv X pins σ H' { s with heap := h', gens := g', drawn := d', toks := t' } := by
  have neL : ∀ b o, X.s_0.heap.get? b = some o → b ≠ X.env.locals := fun b o e => Nat.ne_of_lt (Nat.lt_of_lt_of_le (Heap.lt_size e) I.ok.above)
  have neC : ∀ b o, X.s_0.heap.get? b = some o → b ∉ X.ex → b ∉ ch := fun b o e hx hb => by
    rcases (hch b hb).1 with z | z
    · exact hx z
    · exact absurd (Nat.lt_of_lt_of_le (Heap.lt_size e) z) (Nat.lt_irrefl _)
  have cellK : ∀ x c, X.env.cells.lookup x = some c → ∀ v, s.heap.IsCell c v → h'.IsCell c v := fun x c e v ⟨o, ho, hd⟩ => by
    have nch : c ∉ ch := fun z => (hch c z).2.2.1 x c e rfl
    by_cases hc : c ∈ X.fs
    · obtain ⟨sl, q⟩ := slot c o (I.cne x c e) hc nch ho (I.freeC x c e)
      exact ⟨_, q, hd⟩
    · exact ⟨o, keep c o (I.cne x c e) hc nch ho (I.freeC x c e), hd⟩
  refine ⟨I.ok, I.os, hg, ⟨fun b o e n hb hx => ?_, fun b o e n hb hx => ?_, fun b o e n hx => ?_, fun b o e hx => ?_, fun b xs e => tups b xs (I.base.tups b xs e), fun b o xs e => frzs b o xs (I.base.frzs b o xs e), fun b ps e => ?_⟩, ?_, fun x c e => ?_, ?_, fun x c e => ?_, fun p hp => ?_, hok, I.len⟩
  · exact keep b o (neL b o e) hb (neC b o e hx) (I.base.keep b o e n hb hx) (I.base.free b o e n hx)
  · obtain ⟨sl, e1⟩ := I.base.slot b o e n hb hx
    obtain ⟨sl', e2⟩ := slot b _ (neL b o e) hb (neC b o e hx) e1 (I.base.free b o e n hx)
    exact ⟨sl', e2⟩
  · obtain ⟨o', e1⟩ := I.base.there b o e hx
    exact free b o' (neC b o e hx) e1 (I.base.free b o e n hx)
  · obtain ⟨o', e1⟩ := I.base.there b o e hx
    exact there b o' (neC b o e hx) e1
  · obtain ⟨m1, e1⟩ := I.base.tbls b ps e
    obtain ⟨m2, e2⟩ := tbls b _ e1
    exact ⟨m1 ++ m2, by rw [e2, Array.append_assoc]⟩
  · obtain ⟨m, hn, hl⟩ := I.loc
    refine ⟨m, ns m hn, fun i x v e1 e2 e3 => ?_⟩
    obtain ⟨u, r, l⟩ := hl i x v e1 e2 e3
    refine ⟨u, r, ?_⟩
    rcases l with l | ⟨k, c, e, z⟩
    · exact .inl l
    · exact .inr ⟨k, c, e, cellK x c e _ z⟩
  · obtain ⟨v, z⟩ := I.cell x c e
    exact ⟨v, cellK x c e v z⟩
  · obtain ⟨m, ⟨o, _, _, ho, _⟩, _⟩ := I.loc
    exact free _ o (fun z => (hch _ z).2.1 rfl) ho I.free
  · obtain ⟨v, o, ho, hd⟩ := I.cell x c e
    exact free c o (fun z => (hch c z).2.2.1 x c e rfl) ho (I.freeC x c e)
  · obtain ⟨e, n, ne, nf, d⟩ := I.pin p hp
    have nch : p.1 ∉ ch := fun z => (hch p.1 z).2.2.2 p hp rfl
    exact ⟨keep p.1 p.2 ne nf nch e n, free p.1 p.2 nch e n, ne, nf, d⟩
theorem Inv.un {t' : Nat} (I : Inv X pins σ H s) (u : Un X.fs [] H H' s.heap h') (hok : HOk X.prog X.w H' h') : Inv X pins σ H' { s with heap := h', toks := t' } := by
  obtain ⟨m, ⟨o, es, ep, ho, r⟩, _⟩ := id I.loc
  obtain ⟨sl, hL⟩ := u.any ho I.free (by simp)
  exact I.step (g' := s.gens) (d' := s.drawn) (ch := []) (fun _ z => nomatch z) (fun b o _ hb _ e n => u.keep b o e n hb (by simp)) (fun b o _ hb _ e n => u.slot b o e n hb (by simp)) (fun b o _ e n => u.free b o e n (by simp)) (fun b o _ e => u.there b o e (by simp)) u.tups u.frzs u.tbls (fun m' hm => by
    obtain ⟨o', es', ep', ho', r'⟩ := hm
    rw [ho] at ho'; cases ho'
    exact ⟨_, es', ep', hL, r'⟩) hok I.bare
theorem Inv.call {g' : Array GenState} {t' : Nat} {d' : Drawn} {ch : List Addr} (I : Inv X pins σ H s) (u : Un (frs X.stack) ch H H' s.heap h') (hok : HOk X.prog X.w H' h') (hg : AllBare g')
    (hch : ∀ b ∈ ch, (b ∈ X.ex ∨ X.s_0.heap.objs.size ≤ b) ∧ b ≠ X.env.locals ∧ (∀ x c, X.env.cells.lookup x = some c → c ≠ b) ∧ ∀ p ∈ X.pn ++ pins, p.1 ≠ b) :
    Inv X pins σ H' { s with heap := h', gens := g', drawn := d', toks := t' } := by
  obtain ⟨m, ⟨o, es, ep, ho, r⟩, _⟩ := id I.loc
  obtain ⟨sl, hL⟩ := u.any ho I.free fun z => (hch _ z).2.1 rfl
  exact I.step (ch := ch) hch (fun b o hL hb hc e n => u.keep b o e n (fun z => (List.mem_cons.mp (I.stkSub b z)).elim hL hb) hc) (fun b o _ _ hc e n => u.any e n hc) (fun b o hc e n => u.free b o e n hc) (fun b o hc e => u.there b o e hc) u.tups u.frzs u.tbls (fun m' hm => by
    obtain ⟨o', es', ep', ho', r'⟩ := hm
    rw [ho] at ho'; cases ho'
    exact ⟨_, es', ep', hL, r'⟩) hok hg
theorem Inv.turned {t' : Nat} {it : Addr} (I : Inv X pins σ H s) (k : ∀ b o, b ≠ it → s.heap.get? b = some o → h'.get? b = some o) (hn : H it = none) (hL : it ≠ X.env.locals)
    (h1 : it ∈ X.ex ∨ X.s_0.heap.objs.size ≤ it) (h2 : ∀ x c, X.env.cells.lookup x = some c → c ≠ it) (h3 : ∀ p ∈ X.pn ++ pins, p.1 ≠ it) : Inv X pins σ H { s with heap := h', toks := t' } := by
  have nit : ∀ b u, H b = some u → b ≠ it := fun b u e z => by rw [z, hn] at e; cases e
  refine I.step (g' := s.gens) (d' := s.drawn) (ch := [it]) (fun b hb => ?_) (fun b o _ _ hc e _ => k b o (fun z => hc (by simp [z])) e) (fun b o _ _ hc e _ => ⟨o.slots, k b o (fun z => hc (by simp [z])) e⟩) (fun _ _ _ _ n => n)
    (fun b o hc e => ⟨o, k b o (fun z => hc (by simp [z])) e⟩) (fun _ _ e => e) (fun _ _ _ e => e) (fun b ps e => ⟨#[], by rw [e]; simp⟩) (fun m hm => ?_) (fun b u e => ?_) I.bare
  · have e : b = it := by simpa using hb
    subst e
    exact ⟨h1, hL, h2, h3⟩
  · obtain ⟨o, es, ep, ho, r⟩ := hm
    exact ⟨o, es, ep, k _ o (Ne.symm hL) ho, r⟩
  · refine (I.hok b u e).stay (fun c v hc q => k c v ?_ q) (fun _ q => q) fun _ _ q => q
    rcases hc with z | z
    · rw [z]; exact nit b u e
    · exact nit c _ z
theorem Inv.tok (I : Inv X pins σ H s) (t : Nat) : Inv X pins σ H { s with toks := t } := I.un (h' := s.heap) (t' := t) Un.refl I.hok
theorem Inv.kept {t' : Nat} (I : Inv X pins σ H s) (k : ∀ b u, s.heap.get? b = some u → h'.get? b = some u) : Inv X pins σ H { s with heap := h', toks := t' } := I.un (Un.kept k) (I.hok.kept k)
theorem Inv.laid {a : Addr} {o : HO} {t' : Nat} (I : Inv X pins σ H s) (k : ∀ b u, s.heap.get? b = some u → h'.get? b = some u) (hp : s.heap.objs.size ≤ a) (new : ObjOk X.prog X.w (upd H a o) h' a o) :
    Inv X pins σ (upd H a o) { s with heap := h', toks := t' } := I.un (Un.laid k hp (I.hok.fresh hp)) (I.hok.laid k hp new)
theorem Inv.write {x e : Addr} {o : HO} {t' : Nat} (I : Inv X pins σ H s) (mu : Mut (H x)) (he : e = x ∨ H e = some (.own x)) (k : ∀ b u, b ≠ e → s.heap.get? b = some u → h'.get? b = some u) (heo : ∃ u, h'.get? e = some u)
    (new : ObjOk X.prog X.w (upd H x o) h' x o) : Inv X pins σ (upd H x o) { s with heap := h', toks := t' } := I.un (Un.write mu he k heo) (I.hok.write mu he k heo new)
theorem Inv.weak {σ' : List (Option V)} (I : Inv X pins σ H s) (hl : σ'.length = σ.length) (w : ∀ (i : Nat) v, σ'[i]? = some (some v) → σ[i]? = some (some v)) : Inv X pins σ' H s :=
  ⟨I.ok, I.os, I.bare, I.base, let ⟨m, hn, hl'⟩ := I.loc; ⟨m, hn, fun i x v e1 e2 e3 => hl' i x v e1 (w i v e2) e3⟩, I.cell, I.free, I.freeC, I.pin, I.hok, hl.trans I.len⟩
theorem Inv.pins_of {pins' : List (Addr × Obj)} (I : Inv X pins σ H s) (h : ∀ p ∈ pins', s.heap.get? p.1 = some p.2 ∧ H p.1 = none ∧ p.1 ≠ X.env.locals ∧ p.1 ∉ X.fs ∧ ∀ v, p.2.data ≠ .cell v) : Inv X pins' σ H s :=
  ⟨I.ok, I.os, I.bare, I.base, I.loc, I.cell, I.free, I.freeC, fun p hp => (List.mem_append.mp hp).elim (fun z => I.pin p (List.mem_append_left _ z)) (h p), I.hok, I.len⟩
theorem nodup_ix {N : List Str} (hN : N.Nodup) {i j : Nat} {x : Str} (a : N[i]? = some x) (b : N[j]? = some x) : i = j := by
  obtain ⟨h1, e1⟩ := List.getElem?_eq_some_iff.mp a
  obtain ⟨h2, e2⟩ := List.getElem?_eq_some_iff.mp b
  exact (List.getElem_inj hN).mp (e1.trans e2.symm)
theorem store_ok2 {M : Model} {A : Around} {E : Value → Shared → Prop} {i : Nat} {x : Str} {v : V} {u : Value} {Q : Unit → Shared → Prop} (I : Inv X pins σ H s) (hN : X.N.Nodup) (hi : X.N[i]? = some x) (hx : Loc X.env.scope x) (r : RelV v u)
    (h : ∀ s', Inv X pins (σ.set i (some v)) H s' → (∃ a, Heap.SameBut a s.heap s'.heap ∧ (a = X.env.locals ∨ X.env.cells.lookup x = some a)) → Q () s') (hf : X.fn x = true ∨ X.env.scope.names.lookup x = some .local := by first | exact .inl rfl | exact .inr rfl | assumption) : wpAny M A (storeName X.env x u) Q E s := by
  obtain ⟨m, hn, hl⟩ := id I.loc
  have hcls : (X.env.scope.kind == .class || (X.env.scope.kind == .module && X.env.locals != X.env.globals)) = false := by rw [I.ok.kind]; rfl
  have hiσ : i < σ.length := by rw [I.len]; exact (List.getElem?_eq_some_iff.mp hi).1
  have cne := I.cne
  have tracked : ∀ {a : Addr} {h' : Heap}, (∃ o, s.heap.get? a = some o ∧ H a = none) → Heap.SameBut a s.heap h' → HOk X.prog X.w H h' := fun {a h'} ha hs b ob e => by
    obtain ⟨_, _, hfree⟩ := ha
    refine (I.hok b ob e).stay (fun c w' hc q => (hs.2 c ?_).trans q) (fun _ q => q) fun _ _ q => q
    rintro rfl
    rcases hc with rfl | hc
    · rw [hfree] at e; cases e
    · rw [hfree] at hc; cases hc
  rcases hx with hk | hk
  · refine wpAny_storeName_local hk hn (fun h' hn' hs => ?_) hcls
    obtain ⟨oL, _, _, hoL, _⟩ := id hn
    refine h _ ⟨I.ok, I.os, I.bare, ⟨fun b o e n hb hx => ?_, fun b o e n hb hx => ?_, I.base.free, fun b o e hx => ?_, I.base.tups, I.base.frzs, I.base.tbls⟩, ⟨_, hn', fun j y v' e1 e2 e3 => ?_⟩, fun y c e => ?_, I.free, I.freeC, fun p hp => ?_, tracked ⟨oL, hoL, I.free⟩ hs, by simpa using I.len⟩ ⟨_, hs, .inl rfl⟩
    · exact (hs.2 b (Nat.ne_of_lt (Nat.lt_of_lt_of_le (Heap.lt_size e) I.ok.above))).trans (I.base.keep b o e n hb hx)
    · obtain ⟨sl, e1⟩ := I.base.slot b o e n hb hx
      exact ⟨sl, (hs.2 b (Nat.ne_of_lt (Nat.lt_of_lt_of_le (Heap.lt_size e) I.ok.above))).trans e1⟩
    · obtain ⟨o', e1⟩ := I.base.there b o e hx
      exact ⟨o', (hs.2 b (Nat.ne_of_lt (Nat.lt_of_lt_of_le (Heap.lt_size e) I.ok.above))).trans e1⟩
    · by_cases hj : j = i
      · subst hj
        rw [hi] at e1; cases e1
        rw [List.getElem?_set_self hiσ] at e2
        cases e2
        exact ⟨u, r, .inl ⟨hk, by simp⟩⟩
      · rw [List.getElem?_set_ne (Ne.symm hj)] at e2
        obtain ⟨u', r', q⟩ := hl j y v' e1 e2 e3
        refine ⟨u', r', ?_⟩
        rcases q with ⟨k, e⟩ | ⟨k, c, e, z⟩
        · refine .inl ⟨k, ?_⟩
          have : y ≠ x := fun e => hj (nodup_ix hN e1 (e ▸ hi))
          simp [this, e]
        · exact .inr ⟨k, c, e, z.sameBut hs (cne y c e)⟩
    · obtain ⟨w', z⟩ := I.cell y c e
      exact ⟨w', z.sameBut hs (cne y c e)⟩
    · obtain ⟨e, n, ne, nf, d⟩ := I.pin p hp
      exact ⟨(hs.2 p.1 ne).trans e, n, ne, nf, d⟩
  · have hfn : X.fn x = true := by
      rcases hf with z | z
      · exact z
      · rw [z] at hk; cases hk
    obtain ⟨c, hc⟩ := I.ok.has x (.inl hk)
    obtain ⟨w', z⟩ := I.cell x c hc
    refine wpAny_storeName_cell I.ok.kind hk hc z (fun h' hc' hs => ?_)
    obtain ⟨oc, hoc, hocd⟩ := id z
    refine h { s with heap := h' } ⟨I.ok, I.os, I.bare, ⟨fun b o e n hb hx => ?_, fun b o e n hb hx => ?_, I.base.free, fun b o e hx => ?_, I.base.tups, I.base.frzs, I.base.tbls⟩, ⟨m, hn.sameBut hs (Ne.symm (cne x c hc)), fun j y v' e1 e2 e3 => ?_⟩, fun y c' e => ?_, I.free, I.freeC, fun p hp => ?_, tracked ⟨oc, hoc, I.freeC x c hc⟩ hs, by simpa using I.len⟩ ⟨c, hs, .inr hc⟩
    · exact (hs.2 b (Nat.ne_of_lt (Nat.lt_of_lt_of_le (Heap.lt_size e) (I.ok.cab x c hfn hc)))).trans (I.base.keep b o e n hb hx)
    · obtain ⟨sl, e1⟩ := I.base.slot b o e n hb hx
      exact ⟨sl, (hs.2 b (Nat.ne_of_lt (Nat.lt_of_lt_of_le (Heap.lt_size e) (I.ok.cab x c hfn hc)))).trans e1⟩
    · obtain ⟨o', e1⟩ := I.base.there b o e hx
      exact ⟨o', (hs.2 b (Nat.ne_of_lt (Nat.lt_of_lt_of_le (Heap.lt_size e) (I.ok.cab x c hfn hc)))).trans e1⟩
    · by_cases hj : j = i
      · subst hj
        rw [hi] at e1; cases e1
        rw [List.getElem?_set_self hiσ] at e2
        cases e2
        exact ⟨u, r, .inr ⟨.inl hk, c, hc, hc'⟩⟩
      · rw [List.getElem?_set_ne (Ne.symm hj)] at e2
        obtain ⟨u', r', q⟩ := hl j y v' e1 e2 e3
        refine ⟨u', r', ?_⟩
        rcases q with q | ⟨k, c', e, z'⟩
        · exact .inl q
        · refine .inr ⟨k, c', e, z'.sameBut hs ?_⟩
          rintro rfl
          exact hj (nodup_ix hN e1 (I.ok.inj _ _ _ e hc ▸ hi))
    · by_cases hcc : c' = c
      · subst hcc; exact ⟨_, hc'⟩
      · obtain ⟨w2, z2⟩ := I.cell y c' e
        exact ⟨w2, z2.sameBut hs hcc⟩
    · obtain ⟨e, n, ne, nf, d⟩ := I.pin p hp
      refine ⟨(hs.2 p.1 ?_).trans e, n, ne, nf, d⟩
      intro q
      rw [q, hoc] at e
      have q' : oc = p.2 := Option.some.inj e
      exact d w' (by rw [← q']; exact hocd)
theorem store_ok {M : Model} {A : Around} {E : Value → Shared → Prop} {i : Nat} {x : Str} {v : V} {u : Value} {Q : Unit → Shared → Prop} (I : Inv X pins σ H s) (hN : X.N.Nodup) (hi : X.N[i]? = some x) (hx : Loc X.env.scope x) (r : RelV v u)
    (h : ∀ s', Inv X pins (σ.set i (some v)) H s' → Q () s') (hf : X.fn x = true ∨ X.env.scope.names.lookup x = some .local := by first | exact .inl rfl | exact .inr rfl | assumption) : wpAny M A (storeName X.env x u) Q E s :=
  store_ok2 I hN hi hx r (fun s' I' _ => h s' I') hf
theorem Inv.call' {s' : Shared} {ch : List Addr} (I : Inv X pins σ H s) (ho : s'.os = s.os) (u : Un (frs X.stack) ch H H' s.heap s'.heap) (hok : HOk X.prog X.w H' s'.heap) (hg : AllBare s'.gens)
    (hch : ∀ b ∈ ch, (b ∈ X.ex ∨ X.s_0.heap.objs.size ≤ b) ∧ b ≠ X.env.locals ∧ (∀ x c, X.env.cells.lookup x = some c → c ≠ b) ∧ ∀ p ∈ X.pn ++ pins, p.1 ≠ b) : Inv X pins σ H' s' := by
  obtain ⟨h', g', d', t', o'⟩ := s'
  have e : o' = s.os := ho
  subst e
  exact I.call (g' := g') (t' := t') (d' := d') u hok hg hch
end
abbrev XK := Value → Option Addr → Hp → Prop
abbrev St := List (Option V)
abbrev VK := V → Hp → Prop
abbrev TE := St → Hp → VK → Prop
abbrev TT := St → Hp → (Bool → Hp → Prop) → Prop
abbrev TA := St → Hp → (List V → Hp → Prop) → Prop
structure Ends where
  nx : St → Hp → Prop
  rt : VK
  bk : St → Hp → Prop := fun _ _ => False
  ct : St → Hp → Prop := fun _ _ => False
abbrev TS := Ends → St → Hp → Prop
def EP (X : Cx) (pins : List (Addr × Obj)) (σ : St) (Q : VK) (u : Value) (s' : Shared) : Prop := ∃ v H', Inv X pins σ H' s' ∧ RelV v u ∧ Q v H'
def TP (X : Cx) (pins : List (Addr × Obj)) (σ : St) (Q : Bool → Hp → Prop) (b : Bool) (s' : Shared) : Prop := ∃ H', Inv X pins σ H' s' ∧ Q b H'
def AP (X : Cx) (pins : List (Addr × Obj)) (σ : St) (Q : List V → Hp → Prop) (us : List Value) (s' : Shared) : Prop := ∃ vs H', Inv X pins σ H' s' ∧ Vals vs us ∧ Q vs H'
def SP (X : Cx) (pins : List (Addr × Obj)) (D : Ends) (f : Flow) (s' : Shared) : Prop :=
  match f with
  | .next => ∃ σ' H', Inv X pins σ' H' s' ∧ D.nx σ' H'
  | .brk => ∃ σ' H', Inv X pins σ' H' s' ∧ D.bk σ' H'
  | .cont => ∃ σ' H', Inv X pins σ' H' s' ∧ D.ct σ' H'
  | .ret u => ∃ v σ' H', Inv X pins σ' H' s' ∧ RelV v u ∧ D.rt v H'
def PE (X : Cx) (e : Expr) (t : TE) : Prop :=
  ∀ (pins : List (Addr × Obj)) (s : Shared) (σ : St) (H : Hp) (Q : VK), Inv X pins σ H s → t σ H Q → wpAny (model X.prog X.w) X.A (eval e X.env) (EP X pins σ Q) X.xe s
def PT (X : Cx) (e : Expr) (t : TT) : Prop :=
  ∀ (pins : List (Addr × Obj)) (s : Shared) (σ : St) (H : Hp) (Q : Bool → Hp → Prop), Inv X pins σ H s → t σ H Q → wpAny (model X.prog X.w) X.A (isTrue e X.env (eval e X.env)) (TP X pins σ Q) X.xe s
def PW (X : Cx) (e : Expr) (t : TT) : Prop :=
  ∀ (whole : Sem Value) (pins : List (Addr × Obj)) (s : Shared) (σ : St) (H : Hp) (Q : Bool → Hp → Prop), Inv X pins σ H s → t σ H Q → wpAny (model X.prog X.w) X.A (isTrue e X.env whole) (TP X pins σ Q) X.xe s
theorem PW.pt {X : Cx} {e : Expr} {t : TT} (h : PW X e t) : PT X e t := h _
def PA (X : Cx) (es : List Expr) (t : TA) : Prop :=
  ∀ (pos : Pos) (pins : List (Addr × Obj)) (s : Shared) (σ : St) (H : Hp) (Q : List V → Hp → Prop), Inv X pins σ H s → t σ H Q → wpAny (model X.prog X.w) X.A (spliced (backTo pos (starEach es X.env))) (AP X pins σ Q) X.xe s
def PS (X : Cx) (st : Stmt) (t : TS) : Prop :=
  ∀ (pins : List (Addr × Obj)) (s : Shared) (σ : St) (H : Hp) (D : Ends), Inv X pins σ H s → t D σ H → wpAny (model X.prog X.w) X.A (exec st X.env) (SP X pins D) X.xe s
def PSs (X : Cx) (st : List Stmt) (t : TS) : Prop :=
  ∀ (pins : List (Addr × Obj)) (s : Shared) (σ : St) (H : Hp) (D : Ends), Inv X pins σ H s → t D σ H → wpAny (model X.prog X.w) X.A (execs st X.env) (SP X pins D) X.xe s
theorem thn {α : Type} {t : Sem α} {Q Q' : α → Shared → Prop} {M : Model} {A : Around} {E : Value → Shared → Prop} {s : Shared} (h : wpAny M A t Q E s) (hQ : ∀ a s, Q a s → Q' a s) : wpAny M A t Q' E s := wpAny_mono h hQ fun _ _ x => x
end L2
namespace L2
open PySem PySem.Spec PyProof.Rows
section
variable {X : Cx}
def tVar (i : Nat) : TE := fun σ H Q => ∃ v, σ[i]? = some (some v) ∧ Q v H
def tC (v : V) : TE := fun _ H Q => Q v H
theorem pe_var {i : Nat} {x : Str} {pos : Pos} (hN : X.N[i]? = some x) (hv : Vis X.env.scope x) (hd : (x == ("__debug__" : Str)) = false := by decide) (hcd : (x == ("__classdict__" : Str)) = false := by decide) : PE X (.Name x pos) (tVar i) := by
  intro pins s σ H Q I h
  obtain ⟨v, e, h⟩ := h
  obtain ⟨m, hn, hl⟩ := I.loc
  obtain ⟨u, r, l⟩ := hl i x v hN e hv
  have fin : EP X pins σ Q u s := ⟨v, H, I, r, h⟩
  rcases l with ⟨hk, hm⟩ | ⟨hk, c, hc, hcell⟩
  · exact wpAny_Name (wpAny_loadName_local I.ok.kind hk hn hm fin) hd
  · rcases hk with hk | hk
    · exact wpAny_Name (wpAny_loadName_cell I.ok.kind hk hc hcell fin) hd
    · exact wpAny_Name (wpAny_loadName_free I.ok.kind hk hc hcell fin hcd) hd
theorem pe_int {i j pos} : PE X (.Constant (.int i) j pos) (tC (.int i)) := fun _ _ _ H _ I h => wpAny_Constant_int ⟨.int i, H, I.tok _, ⟨_, rfl⟩, h⟩
def Gl (X : Cx) (x : Str) : Prop := X.env.kindOf x = some .globalImplicit
theorem ld_glob {E : Value → Shared → Prop} {pins : List (Addr × Obj)} {s : Shared} {σ : St} {H : Hp} {x : Str} {u : Value} {pos : Pos} {Q : Value → Shared → Prop} (I : Inv X pins σ H s) (hg : Gl X x) (hm : X.mg x = some u) (h : Q u s)
    (hd : (x == ("__debug__" : Str)) = false := by decide) : wpAny (model X.prog X.w) X.A (eval (.Name x pos) X.env) Q E s :=
  Calls.Name_function_global I.ok.kind hg (Calls.loadGlobal_global (by rw [I.ok.glob]; exact I.mod.glob.keeps I.bk) hm h) hd
theorem ld_blt {E : Value → Shared → Prop} {pins : List (Addr × Obj)} {s : Shared} {σ : St} {H : Hp} {x : Str} {u : Value} {pos : Pos} {Q : Value → Shared → Prop} (I : Inv X pins σ H s) (hg : Gl X x) (hm : X.mg x = none) (hv : bootBuiltins x = some u) (h : Q u s)
    (hn : x ≠ "__name__" := by decide) (hd : (x == ("__debug__" : Str)) = false := by decide) : wpAny (model X.prog X.w) X.A (eval (.Name x pos) X.env) Q E s := by
  obtain ⟨mb, h1, h2⟩ := I.mod.blt
  exact Calls.Name_function_global I.ok.kind hg (Calls.loadGlobal_builtin (by rw [I.ok.glob]; exact I.mod.glob.keeps I.bk) hm (by rw [I.ok.blt]; exact h1.keeps I.bk) ((h2 x hn).trans hv) h) hd
theorem pe_glob {x : Str} {v : V} {u : Value} {pos : Pos} (hg : Gl X x) (hm : X.mg x = some u) (r : RelV v u) (hd : (x == ("__debug__" : Str)) = false := by decide) : PE X (.Name x pos) (tC v) :=
  fun _ _ _ H _ I h => ld_glob I hg hm ⟨v, H, I, r, h⟩ hd
variable {a b : Expr} {ta tb : TE} {pos : Pos}
def tB (t : TE) : TT := fun σ H Q => t σ H fun x H1 => ∃ c, x = .bl c ∧ Q c H1
theorem pt_val {e : Expr} {t : TE} (h : PE X e t) (he : ∀ whole, isTrue e X.env whole = (do let v ← whole; standAt e.pos; holding [v] (truthy v)) := by intro _; rfl) : PT X e (tB t) := by
  intro pins s σ H Q I hw
  refine isTrue_plain (thn (h pins s σ H _ I hw) fun v s1 ⟨x, H1, I1, r1, q1⟩ => ?_) (he _)
  obtain ⟨d, rfl, q⟩ := q1
  cases r1
  exact wpAny_truthy_bool ⟨H1, I1, q⟩
variable {tA tB' : TT} {rest : List Expr}
def tAnd (t u : TT) : TT := fun σ H Q => t σ H fun c H1 => if c = true then u σ H1 Q else Q false H1
def tOr (t u : TT) : TT := fun σ H Q => t σ H fun c H1 => if c = true then Q true H1 else u σ H1 Q
def tNot (t : TT) : TT := fun σ H Q => t σ H fun c H1 => Q (!c) H1
theorem pw_and1 (ha : PT X a tA) : PW X (.BoolOp .And [a] pos) tA := by
  intro wh pins s σ H Q I h
  refine isTrue_and (thn (ha pins s σ H Q I h) fun c s1 e => ?_)
  cases c with
  | true => exact isTrue_and_nil e
  | false => exact e
theorem pw_or1 (ha : PT X a tA) : PW X (.BoolOp .Or [a] pos) tA := by
  intro wh pins s σ H Q I h
  refine isTrue_or (thn (ha pins s σ H Q I h) fun c s1 e => ?_)
  cases c with
  | false => exact isTrue_or_nil e
  | true => exact e
theorem pw_and (ha : PT X a tA) (hb : PW X (.BoolOp .And (b :: rest) pos) tB') : PW X (.BoolOp .And (a :: b :: rest) pos) (tAnd tA tB') := by
  intro wh pins s σ H Q I h
  refine isTrue_and (thn (ha pins s σ H _ I h) fun c s1 ⟨H1, I1, q1⟩ => ?_)
  cases c with
  | true => exact hb wh pins s1 σ H1 Q I1 q1
  | false => exact ⟨H1, I1, q1⟩
theorem pw_or (ha : PT X a tA) (hb : PW X (.BoolOp .Or (b :: rest) pos) tB') : PW X (.BoolOp .Or (a :: b :: rest) pos) (tOr tA tB') := by
  intro wh pins s σ H Q I h
  refine isTrue_or (thn (ha pins s σ H _ I h) fun c s1 ⟨H1, I1, q1⟩ => ?_)
  cases c with
  | true => exact ⟨H1, I1, q1⟩
  | false => exact hb wh pins s1 σ H1 Q I1 q1
theorem pt_not (ha : PT X a tA) : PT X (.UnaryOp .Not a pos) (tNot tA) := by
  intro pins s σ H Q I h
  exact isTrue_not (ha pins s σ H (fun c H1 => Q (!c) H1) I h)
def tOrV (ta tb : TE) : TE := fun σ H Q => ta σ H fun x H1 => ∃ c, x = .bl c ∧ if c = true then Q (.bl true) H1 else tb σ H1 Q
theorem pe_one {op} {t : TE} (h : PE X a t) : PE X (.BoolOp op [a] pos) t := fun pins s σ H Q I hw => BoolOp_one (h pins s σ H Q I hw)
theorem pe_or (ha : PE X a ta) (hb : PE X (.BoolOp .Or (b :: rest) pos) tb) : PE X (.BoolOp .Or (a :: b :: rest) pos) (tOrV ta tb) := by
  intro pins s σ H Q I h
  refine BoolOp_or (thn (ha pins s σ H _ I h) fun v s1 ⟨x, H1, I1, r1, q1⟩ => ?_)
  obtain ⟨c, rfl, q1⟩ := q1
  cases r1
  refine wpAny_truthy_bool ?_
  cases c with
  | false => exact hb pins s1 σ H1 Q I1 q1
  | true => exact ⟨.bl true, H1, I1, rfl, q1⟩
def tIf (t : TT) (ta tb : TE) : TE := fun σ H Q => t σ H fun c H1 => if c = true then ta σ H1 Q else tb σ H1 Q
theorem pe_ifExp {c : Expr} (hc : PT X c tA) (ha : PE X a ta) (hb : PE X b tb) : PE X (.IfExp c a b pos) (tIf tA ta tb) := by
  intro pins s σ H Q I h
  refine wpAny_IfExp (thn (hc pins s σ H _ I h) fun d s1 ⟨H1, I1, q1⟩ => ?_)
  cases d with
  | true => exact ha pins s1 σ H1 Q I1 q1
  | false => exact hb pins s1 σ H1 Q I1 q1
end
end L2
namespace L2
open PySem PySem.Spec PyProof.Rows
def SqL (K : PySem.W.Frag) (H : Hp) (a : Addr) (xs : List V) : Prop :=
  Rd H a (.lst xs) ∨
    ∃ (o : Obj) (its : Array Value) (n : Nat), K.lookup a = some o ∧ o.cls = .type "list" ∧ o.dict = none ∧ o.data = .seq its n ∧ its.size ≤ sizeLine ∧ Vals xs its.toList
def SqT (K : PySem.W.Frag) (H : Hp) (a : Addr) (xs : List V) : Prop :=
  Rd H a (.tup xs) ∨
    ∃ (o : Obj) (its : Array Value) (n : Nat), K.lookup a = some o ∧ o.cls = .type "tuple" ∧ o.data = .seq its n ∧ its.size ≤ sizeLine ∧ Vals xs its.toList
def absV : Value → Option V
  | .none => some .non
  | .bool b => some (.bl b)
  | .int i _ => some (.int i)
  | .str x _ => some (.str x)
  | .bytes b _ => some (.byt b)
  | .float b _ => some (.flt b)
  | .ref a => some (.ref a)
  | .type n => some (.ty n)
  | _ => none
theorem RelV.abs {x : V} {u : Value} (r : RelV x u) : absV u = some x := by
  cases x with
  | non => cases r; rfl
  | bl _ => cases r; rfl
  | int _ => obtain ⟨t, rfl⟩ := r; rfl
  | str _ => obtain ⟨t, rfl⟩ := r; rfl
  | byt _ => obtain ⟨t, rfl⟩ := r; rfl
  | flt _ => obtain ⟨t, rfl⟩ := r; rfl
  | ref _ => cases r; rfl
  | ty _ => cases r; rfl
theorem RelV.inj {x y : V} {u : Value} (r : RelV x u) (q : RelV y u) : x = y := Option.some.inj (r.abs.symm.trans q.abs)
theorem Vals.inj : ∀ {xs ys : List V} {us : List Value}, Vals xs us → Vals ys us → xs = ys
  | _, _, _, .nil, .nil => rfl
  | _, _, _, .cons r t, .cons r' t' => by rw [r.inj r', Vals.inj t t']
section
variable {X : Cx} {pins : List (Addr × Obj)} {σ : St} {H : Hp} {s : Shared} {a : Addr} {xs ys : List V}
theorem SqL.of {K : PySem.W.Frag} (h : H a = some (.lst xs)) : SqL K H a xs := .inl (.inl h)
theorem SqT.of {K : PySem.W.Frag} (h : H a = some (.tup xs)) : SqT K H a xs := .inl (.inl h)
theorem Inv.list (I : Inv X pins σ H s) (h : SqL X.K H a xs) : ∃ its : List Value, Vals xs its ∧ PlainL s.heap a its.toArray ∧ xs.length ≤ sizeLine := by
  rcases h with h | ⟨o, its, n, hk, hc, hd, hs, hz, r⟩
  · obtain ⟨z, its, n, r, e⟩ := h.ok I.hok
    exact ⟨its, r, ⟨_, n, e, rfl, rfl, rfl⟩, z⟩
  · refine ⟨its.toList, r, ⟨o, n, I.kIn a o hk, hc, hd, by simpa using hs⟩, ?_⟩
    have e := r.length
    simp only [Array.length_toList] at e
    omega
theorem Inv.tuple (I : Inv X pins σ H s) (h : SqT X.K H a xs) : ∃ its : List Value, Vals xs its ∧ IsTup s.heap a its.toArray ∧ xs.length ≤ sizeLine := by
  rcases h with h | ⟨o, its, n, hk, hc, hs, hz, r⟩
  · obtain ⟨z, its, r, p⟩ := h.ok I.hok
    exact ⟨its, r, p, z⟩
  · refine ⟨its.toList, r, ⟨o, I.kIn a o hk, hc, n, by simpa using hs⟩, ?_⟩
    have e := r.length
    simp only [Array.length_toList] at e
    omega
theorem Inv.list_inj (I : Inv X pins σ H s) (h : SqL X.K H a xs) (h' : SqL X.K H a ys) : xs = ys := by
  obtain ⟨its, r, ⟨o, n, e, _, _, d⟩, _⟩ := I.list h
  obtain ⟨its', r', ⟨o', n', e', _, _, d'⟩, _⟩ := I.list h'
  rw [e] at e'; cases e'
  rw [d] at d'
  injection d' with d1 _
  have : its = its' := by simpa using congrArg Array.toList d1
  subst this
  exact r.inj r'
end
abbrev Cx.wish (X : Cx) (E : Value → Shared → Prop) : Cx := { X with xe := E }
abbrev Cx.nox (X : Cx) : Cx := X.wish fun _ _ => False
theorem Cx.Ok.wish {X : Cx} (ok : X.Ok) (E : Value → Shared → Prop) : (X.wish E).Ok :=
  ⟨ok.mod, ok.kind, ok.glob, ok.blt, ok.above, ok.inj, ok.has, ok.cab, ok.hd, ok.frames, ok.stk, ok.exf, ok.bs, ok.bsz, ok.noex, ok.exfs, ok.funs, ok.frf⟩
theorem Cx.Ok.unwish {X : Cx} {E : Value → Shared → Prop} (ok : (X.wish E).Ok) : X.Ok :=
  ⟨ok.mod, ok.kind, ok.glob, ok.blt, ok.above, ok.inj, ok.has, ok.cab, ok.hd, ok.frames, ok.stk, ok.exf, ok.bs, ok.bsz, ok.noex, ok.exfs, ok.funs, ok.frf⟩
section
variable {X : Cx} {pins : List (Addr × Obj)} {σ : St} {H : Hp} {s : Shared} {E : Value → Shared → Prop}
theorem Inv.wish (I : Inv X pins σ H s) (E : Value → Shared → Prop) : Inv (X.wish E) pins σ H s := ⟨I.ok.wish E, I.os, I.bare, I.base, I.loc, I.cell, I.free, I.freeC, I.pin, I.hok, I.len⟩
theorem Inv.unwish (I : Inv (X.wish E) pins σ H s) : Inv X pins σ H s := ⟨I.ok.unwish, I.os, I.bare, I.base, I.loc, I.cell, I.free, I.freeC, I.pin, I.hok, I.len⟩
theorem SP.unwish {D : Ends} {f : Flow} {s' : Shared} (h : SP (X.wish E) pins D f s') : SP X pins D f s' := by
  cases f with
  | next => obtain ⟨σ', H', I, q⟩ := h; exact ⟨σ', H', I.unwish, q⟩
  | brk => obtain ⟨σ', H', I, q⟩ := h; exact ⟨σ', H', I.unwish, q⟩
  | cont => obtain ⟨σ', H', I, q⟩ := h; exact ⟨σ', H', I.unwish, q⟩
  | ret u => obtain ⟨v, σ', H', I, r, q⟩ := h; exact ⟨v, σ', H', I.unwish, r, q⟩
theorem PE.nox {e : Expr} {t : TE} (h : PE X.nox e t) : PE X e t := fun pins s σ H Q I hw =>
  wpAny_mono (h pins s σ H Q (I.wish _) hw) (fun _ _ ⟨v, H', I', r, q⟩ => ⟨v, H', I'.unwish, r, q⟩) fun _ _ z => False.elim z
theorem PT.nox {e : Expr} {t : TT} (h : PT X.nox e t) : PT X e t := fun pins s σ H Q I hw =>
  wpAny_mono (h pins s σ H Q (I.wish _) hw) (fun _ _ ⟨H', I', q⟩ => ⟨H', I'.unwish, q⟩) fun _ _ z => False.elim z
theorem PSs.nox {st : List Stmt} {t : TS} (h : PSs X.nox st t) : PSs X st t := fun pins s σ H D I hw =>
  wpAny_mono (h pins s σ H D (I.wish _) hw) (fun _ _ q => q.unwish) fun _ _ z => False.elim z
end
section
variable {X : Cx} {st : Stmt} {rest : List Stmt} {t u : TS} {e : Expr} {te : TE} {pos : Pos}
def tNext : TS := fun D σ H => D.nx σ H
def tSeq (t u : TS) : TS := fun D σ H => t { D with nx := u D } σ H
theorem pss_nil : PSs X [] tNext := fun _ _ σ H _ I h => wpAny_execs_nil ⟨σ, H, I, h⟩
theorem pss_cons (h1 : PS X st t) (h2 : PSs X rest u) : PSs X (st :: rest) (tSeq t u) := by
  intro pins s σ H D I h
  refine wpAny_execs_cons (thn (h1 pins s σ H { D with nx := u D } I h) fun f s1 q => ?_)
  cases f with
  | next =>
    obtain ⟨σ', H', I', q⟩ := q
    exact h2 pins s1 σ' H' D I' q
  | ret v => exact q
  | brk => exact q
  | cont => exact q
theorem pss_one (h1 : PS X st t) : PSs X [st] t := by
  intro pins s σ H D I h
  refine wpAny_execs_cons (thn (h1 pins s σ H D I h) fun f s1 q => ?_)
  cases f with
  | next => exact wpAny_execs_nil q
  | ret v => exact q
  | brk => exact q
  | cont => exact q
theorem Inv.quiet {pins : List (Addr × Obj)} {σ : St} {H : Hp} {s : Shared} (I : Inv X pins σ H s) : interactive X.env = false := by simp [interactive, I.ok.kind]
def tDrop (te : TE) : TS := fun D σ H => te σ H fun _ H1 => D.nx σ H1
theorem ps_expr (he : PE X e te) (hs : swapsWith e none pos.line X.env = pure false := by rfl) : PS X (.Expr e pos) (tDrop te) := by
  intro pins s σ H D I h
  exact wpAny_Expr_any (thn (he pins s σ H _ I h) fun v s1 ⟨x, H1, I1, r1, q1⟩ => ⟨σ, H1, I1, q1⟩) I.quiet hs
def tRet (te : TE) : TS := fun D σ H => te σ H D.rt
theorem ps_ret (he : PE X e te) : PS X (.Return (some e) pos) (tRet te) := by
  intro pins s σ H D I h
  exact wpAny_Return_some (thn (he pins s σ H _ I h) fun v s1 ⟨x, H1, I1, r1, q1⟩ => ⟨x, σ, H1, I1, r1, q1⟩)
def tIfS (c : TT) (t u : TS) : TS := fun D σ H => c σ H fun b H1 => if b = true then t D σ H1 else u D σ H1
theorem ps_if {c : Expr} {a b : List Stmt} {tc : TT} (hc : PT X c tc) (ha : PSs X a t) (hb : PSs X b u) : PS X (.If c a b pos) (tIfS tc t u) := by
  intro pins s σ H D I h
  refine wpAny_If (thn (hc pins s σ H _ I h) fun d s1 ⟨H1, I1, q1⟩ => ?_)
  cases d with
  | true => exact ha pins s1 σ H1 D I1 q1
  | false => exact hb pins s1 σ H1 D I1 q1
end
abbrev TG := V → St → Hp → (St → Hp → Prop) → Prop
def PG (X : Cx) (target : Expr) (t : TG) : Prop :=
  ∀ (pins : List (Addr × Obj)) (s : Shared) (σ : St) (H : Hp) (v : V) (u : Value) (Q : St → Hp → Prop), Inv X pins σ H s → RelV v u → t v σ H Q →
    wpAny (model X.prog X.w) X.A (assign target X.env u) (fun _ s' => ∃ σ' H', Inv X pins σ' H' s' ∧ Q σ' H') X.xe s
section
variable {X : Cx} {pos : Pos}
def gName (i : Nat) : TG := fun v σ H Q => Q (σ.set i (some v)) H
theorem pg_name {i : Nat} {x : Str} (hN : X.N.Nodup) (hi : X.N[i]? = some x) (hx : Loc X.env.scope x) (hf : X.fn x = true ∨ X.env.scope.names.lookup x = some .local := by first | exact .inl rfl | exact .inr rfl | assumption) : PG X (.Name x pos) (gName i) := by
  intro pins s σ H v u Q I r h
  exact wpAny_assign_Name (store_ok I hN hi hx r (fun s' I' => ⟨_, H, I', h⟩) hf)
def tAsg (te : TE) (g : TG) : TS := fun D σ H => te σ H fun x H1 => g x σ H1 D.nx
theorem ps_set {i : Nat} {x : Str} {e : Expr} {te : TE} {pos' : Pos} (hN : X.N.Nodup) (hi : X.N[i]? = some x) (hx : Loc X.env.scope x) (he : PE X e te) (hs : swapsWith e (some (.Name x pos')) pos.line X.env = pure false := by rfl) (hf : X.fn x = true ∨ X.env.scope.names.lookup x = some .local := by first | exact .inl rfl | exact .inr rfl | assumption) :
    PS X (.Assign [.Name x pos'] e pos) (tAsg te (gName i)) := by
  intro pins s σ H D I h
  refine wpAny_Assign_Name (thn (he pins s σ H _ I h) fun v s1 ⟨y, H1, I1, r1, q1⟩ => ?_) hs
  exact store_ok I1 hN hi hx r1 (fun s2 I2 => ⟨_, H1, I2, q1⟩) hf
end
section
variable {X : Cx} {pos : Pos}
def tWhile (c : TT) (tb : TS) : TS := fun D σ H => ∃ W : Nat → St → Hp → Prop, (∃ m, W m σ H) ∧ ∀ m σ H, W m σ H →
  c σ H fun b H1 => if b = true then ∃ N : St → Hp → Prop, (∀ σ' H', N σ' H' → ∃ m', m' < m ∧ W m' σ' H') ∧ tb { D with nx := N, ct := N, bk := D.nx } σ H1 else D.nx σ H1
theorem ps_while {c : Expr} {body : List Stmt} {tc : TT} {tb : TS} (hp : PassesOwn (model X.prog X.w) X.A X.env X.xe) (hc : PT X c tc) (hb : PSs X body tb) : PS X (.While c body [] pos) (tWhile tc tb) := by
  intro pins s σ H D I h
  obtain ⟨W, ⟨m0, w0⟩, turn⟩ := h
  refine wpAny_While (codeAny_whileLoop (fun n s' => ∃ σ' H', Inv X pins σ' H' s' ∧ W n σ' H') ?_ m0 ⟨σ, H, I, w0⟩)
  rintro n s1 ⟨σ1, H1, I1, w1⟩
  refine wpAny_passesOwn hp (thn (hc pins s1 σ1 H1 _ I1 (turn n σ1 H1 w1)) fun b s2 ⟨H2, I2, q2⟩ => ?_)
  cases b with
  | true =>
    obtain ⟨N, hN, q2⟩ := q2
    rw [if_pos rfl]
    refine wpAny_passesOwn hp (thn (hb pins s2 σ1 H2 _ I2 q2) fun f s3 q3 => ?_)
    cases f with
    | next =>
      obtain ⟨σ3, H3, I3, n3⟩ := q3
      obtain ⟨m', hm, w3⟩ := hN σ3 H3 n3
      exact ⟨m', hm, σ3, H3, I3, w3⟩
    | cont =>
      obtain ⟨σ3, H3, I3, n3⟩ := q3
      obtain ⟨m', hm, w3⟩ := hN σ3 H3 n3
      exact ⟨m', hm, σ3, H3, I3, w3⟩
    | brk => exact q3
    | ret v => exact q3
  | false =>
    rw [if_neg Bool.false_ne_true]
    exact wpAny_execs_nil ⟨σ1, H2, I2, q2⟩
end
structure It where
  go : Nat → Hp → Prop
  yld : Nat → Hp → V → Hp → Prop
  stop : Nat → Hp → Prop
def FpOk (X : Cx) (pins : List (Addr × Obj)) (H : Hp) (b : Addr) : Prop :=
  H b = none ∧ b ≠ X.env.locals ∧ b ∉ X.fs ∧ (b ∈ X.ex ∨ X.s_0.heap.objs.size ≤ b) ∧ (∀ x c, X.env.cells.lookup x = some c → c ≠ b) ∧ ∀ p ∈ X.pn ++ pins, p.1 ≠ b
theorem Inv.fpOk {X : Cx} {pins : List (Addr × Obj)} {σ : St} {H H' : Hp} {s : Shared} {b : Addr} (I : Inv X pins σ H s) (hb : s.heap.objs.size ≤ b) (hn : H' b = none) : FpOk X pins H' b := by
  refine ⟨hn, Nat.ne_of_gt (Nat.lt_of_lt_of_le I.lt hb), I.nofs hb, .inr (Nat.le_trans I.sz hb), fun x c e z => ?_, fun p hp z => ?_⟩
  · obtain ⟨v, q⟩ := I.cell x c e
    exact absurd (Nat.lt_of_lt_of_le q.lt (by rw [z]; exact hb)) (Nat.lt_irrefl _)
  · exact absurd (Nat.lt_of_lt_of_le (Heap.lt_size (I.pin p hp).1) (by rw [z]; exact hb)) (Nat.lt_irrefl _)
structure Turn (P : Program) (w : World) (K : PySem.W.Frag) (tg : Expr) (J : It) (fp : List Addr) (it : Addr) (tn : Nat → Heap → Prop) : Prop where
  mem : it ∈ fp
  obj : ∀ i h, tn i h → ∀ b ∈ fp, ∃ o, h.get? b = some o ∧ ∀ v, o.data ≠ .cell v
  keep : ∀ i h h', tn i h → (∀ b ∈ fp, ∀ o, h.get? b = some o → h'.get? b = some o) → tn i h'
  item : ∀ (X : Cx), X.prog = P → X.w = w → X.K = K → X.calm = true → ∀ (i : Nat) (pins : List (Addr × Obj)) (s : Shared) (σ : St) (H : Hp) (E : Value → Shared → Prop), Inv X pins σ H s → (∀ b ∈ fp, FpOk X pins H b) → tn i s.heap → J.go i H →
    wpAny (model P w) X.A (pyNext (.ref it)) (fun r s1 => ∃ u, r = some u ∧
      wpAny (model P w) X.A (letOwnedTupleGo tg (.ref it) u) (fun _ s2 => ∃ x H', Inv X pins σ H' s2 ∧ RelV x u ∧ J.yld i H x H' ∧ tn (i + 1) s2.heap ∧ ∀ b ∈ fp, H' b = none) E s1) E s
  done : ∀ (X : Cx), X.prog = P → X.w = w → X.K = K → X.calm = true → ∀ (i : Nat) (pins : List (Addr × Obj)) (s : Shared) (σ : St) (H : Hp) (E : Value → Shared → Prop), Inv X pins σ H s → (∀ b ∈ fp, FpOk X pins H b) → tn i s.heap → J.stop i H →
    wpAny (model P w) X.A (pyNext (.ref it)) (fun r s1 => r = none ∧ Inv X pins σ H s1) E s
  self : ∀ (A : Around) (i : Nat) (s : Shared) (Q : Value → Shared → Prop) (E : Value → Shared → Prop), tn i s.heap → Q (.ref it) s → wpAny (model P w) A (pyIter (.ref it)) Q E s
abbrev TI := St → Hp → (It → Hp → Prop) → Prop
def PIE (X : Cx) (pins : List (Addr × Obj)) (σ : St) (tg : Expr) (R : It → Hp → Prop) (itv : Value) (s2 : Shared) : Prop :=
  ∃ (it : Addr) (fp : List Addr) (tn : Nat → Heap → Prop) (J : It) (H' : Hp), itv = .ref it ∧ Inv X pins σ H' s2 ∧ Turn X.prog X.w X.K tg J fp it tn ∧ tn 0 s2.heap ∧ (∀ b ∈ fp, FpOk X pins H' b) ∧ R J H'
def PI (X : Cx) (tg iter : Expr) (wi : TI) : Prop :=
  ∀ (pins : List (Addr × Obj)) (s : Shared) (σ : St) (H : Hp) (R : It → Hp → Prop), Inv X pins σ H s → wi σ H R →
    wpAny (model X.prog X.w) X.A (eval iter X.env) (fun v s1 => wpAny (model X.prog X.w) X.A (pyIter v) (PIE X pins σ tg R) X.xe s1) X.xe s
theorem go_of {M : Model} {A : Around} {E : Value → Shared → Prop} {s : Shared} {tg : Expr} {it : Addr} {u : Value} {o : Obj} {n : String} {vs : Array Value} {Q : Unit → Shared → Prop} (ho : s.heap.get? it = some o) (hc : o.cls = .type n) (hd : o.data = .fields vs)
    (hn : ["enumerate", "zip", "dict_itemiterator", "dict_reverseitemiterator", "odict_iterator", "itertools.zip_longest", "itertools.pairwise"].contains n = false) (hQ : Q () s) : wpAny M A (letOwnedTupleGo tg (.ref it) u) Q E s := by
  unfold letOwnedTupleGo
  cases tg <;> first
    | exact wpAny_pure hQ
    | (cases u <;> first
        | exact wpAny_pure hQ
        | (refine wpAny_bind (wpAny_load ho ?_)
           rw [hc, hd]
           show wpAny M A (if (["enumerate", "zip", "dict_itemiterator", "dict_reverseitemiterator", "odict_iterator", "itertools.zip_longest", "itertools.pairwise"].contains n && vs[0]? == some (rawInt _)) = true then _ else _) Q E s
           rw [if_neg (by intro h; rw [hn, Bool.false_and] at h; cases h)]
           exact wpAny_pure hQ))
def Itl (K : PySem.W.Frag) (a : Addr) : It :=
  ⟨fun i H => ∃ xs x, SqL K H a xs ∧ xs[i]? = some x, fun i H x H' => H' = H ∧ ∀ xs, SqL K H a xs → xs[i]? = some x, fun i H => ∃ xs, SqL K H a xs ∧ xs.length ≤ i⟩
def Itr (lo : Int) (n : Nat) : It := ⟨fun i _ => i < n, fun i H x H' => H' = H ∧ x = .int (lo + i), fun i _ => n ≤ i⟩
theorem turn_list {P : Program} {w : World} {K : PySem.W.Frag} {tg : Expr} (a it : Addr) : Turn P w K tg (Itl K a) [it] it (fun i h => h.IsListIter it a i) where
  mem := by simp
  obj := fun i h st b hb => by
    have e : b = it := by simpa using hb
    subst e
    obtain ⟨o, e, c, d⟩ := st
    exact ⟨o, e, fun v z => by rw [d] at z; cases z⟩
  keep := fun i h h' st k => st.at fun o e => k it (by simp) o e
  item := by
    intro X hP hw hK hc i pins s σ H E I hf st hg
    subst hP hw hK
    obtain ⟨xs, x, hq, hx⟩ := hg
    obtain ⟨its, rv, p, hz⟩ := I.list hq
    obtain ⟨u, hu, ru⟩ := rv.get hx
    obtain ⟨f0, f1, f2, f3, f4, f5⟩ := hf it (by simp)
    refine wpAny_pyNext_list_item st p.isList (x := u) (by simpa using hu) fun h' st' sb => ?_
    have I1 : Inv X pins σ H { s with heap := h' } := I.turned (t' := s.toks) (fun b o hb e => (sb.2 b hb).trans e) f0 f1 f3 f4 f5
    obtain ⟨o, e, c, d⟩ := id st'
    exact ⟨u, rfl, go_of (s := { s with heap := h' }) e c d (by decide) ⟨x, H, I1, ru, ⟨rfl, fun ys hy => by rw [I.list_inj hy hq]; exact hx⟩, st', fun b hb => (hf b hb).1⟩⟩
  done := by
    intro X hP hw hK hc i pins s σ H E I hf st hg
    subst hP hw hK
    obtain ⟨xs, hq, hx⟩ := hg
    obtain ⟨its, rv, p, hz⟩ := I.list hq
    obtain ⟨f0, f1, f2, f3, f4, f5⟩ := hf it (by simp)
    have hl := rv.length
    exact wpAny_pyNext_list_end (I.ok.hd hc) st p.isList (by simp; omega) fun h' eb => ⟨rfl, I.turned (t' := s.toks) (fun b o hb e => eb b o hb e) f0 f1 f3 f4 f5⟩
  self := fun _ _ _ _ _ st h => wpAny_pyIter_listiter st h
theorem turn_range {P : Program} {w : World} {K : PySem.W.Frag} {tg : Expr} (it : Addr) (lo : Int) (n : Nat) : Turn P w K tg (Itr lo n) [it] it (fun i h => IsRangeIter h it (lo + (i : Nat) * 1) ((n : Int) - (i : Nat)) 1) where
  mem := by simp
  obj := fun i h st b hb => by
    have e : b = it := by simpa using hb
    subst e
    exact ⟨_, st, fun v z => by
      have z' : Data.fields _ = Data.cell v := z
      cases z'⟩
  keep := fun i h h' st k => k it (by simp) _ st
  item := by
    intro X hP hw hK hc i pins s σ H E I hf st hg
    subst hP hw hK
    obtain ⟨f0, f1, f2, f3, f4, f5⟩ := hf it (by simp)
    have W := Walks.range (prog := X.prog) (w := X.w) (I.ok.hd hc) it lo 1 n
    refine W.item i s _ _ hg st fun v h' tk hv st' kk => ?_
    obtain ⟨t, rfl⟩ := hv
    have I1 : Inv X pins σ H { s with heap := h', toks := tk } := I.turned (fun b o hb e => kk b o (by simpa using hb) e) f0 f1 f3 f4 f5
    refine ⟨_, rfl, go_of (s := { s with heap := h', toks := tk }) (n := "range_iterator") st' rfl rfl (by decide) ⟨.int (lo + i), H, I1, ⟨t, ?_⟩, ⟨rfl, rfl⟩, st', fun b hb => (hf b hb).1⟩⟩
    rw [Int.mul_one]
  done := by
    intro X hP hw hK hc i pins s σ H E I hf st hg
    subst hP hw hK
    obtain ⟨f0, f1, f2, f3, f4, f5⟩ := hf it (by simp)
    exact wpAny_pyNext_range_end (I.ok.hd hc) st (by have : n ≤ i := hg; omega) fun h' eb => ⟨rfl, I.turned (t' := s.toks) (fun b o hb e => eb b o hb e) f0 f1 f3 f4 f5⟩
  self := fun _ _ _ _ _ st h => wpAny_pyIter_rangeiter st h
end L2
namespace L2
open PySem PySem.Spec PyProof.Rows
section
variable {X : Cx} {tg : Expr}
def iList (K : PySem.W.Frag) (tl : TE) : TI := fun σ H R => tl σ H fun x H1 => ∃ a, x = .ref a ∧ (∃ xs, SqL K H1 a xs) ∧ R (Itl K a) H1
theorem pi_list {l : Expr} {tl : TE} (hl : PE X l tl) : PI X tg l (iList X.K tl) := by
  intro pins s σ H R I h
  refine thn (hl pins s σ H _ I h) fun v s1 ⟨x, H1, I1, r1, q1⟩ => ?_
  obtain ⟨a, e, ⟨xs, hq⟩, q⟩ := q1
  subst e
  cases r1
  obtain ⟨its, rv, p, hz⟩ := I1.list hq
  refine wpAny_pyIter_list p.isList ?_
  refine ⟨s1.heap.objs.size, [s1.heap.objs.size], _, _, H1, rfl, I1.kept (t' := s1.toks) fun b o e => Heap.get?_push_of_some _ e, turn_list a _, ⟨_, Heap.get?_push_size _ rfl, rfl, rfl⟩, fun b hb => ?_, q⟩
  have e : b = s1.heap.objs.size := by simpa using hb
  subst e
  exact I1.fpOk (Nat.le_refl _) (I1.hok.fresh (Nat.le_refl _))
theorem range_it {pins : List (Addr × Obj)} {σ : St} {H : Hp} {s : Shared} {R : It → Hp → Prop} {E : Value → Shared → Prop} {lo hi : Int} {t u v : Tok} {tk : Nat} (I : Inv X pins σ H s) (h1 : -(2 ^ 62) ≤ lo) (h2 : lo < 2 ^ 62) (h3 : -(2 ^ 62) ≤ hi) (h4 : hi < 2 ^ 62)
    (q : R (Itr lo (hi - lo).toNat) H) : wpAny (model X.prog X.w) X.A (pyIter (.ref s.heap.objs.size)) (PIE X pins σ tg R) E { s with heap := s.heap.push { cls := .type "range", data := .fields #[.int lo t, .int hi u, .int 1 v] }, toks := tk } := by
  refine wpAny_pyIter_range (IsRange.new ..) (small_one h1 h2 h3 h4) ?_
  have I1 : Inv X pins σ H { s with heap := s.heap.push { cls := .type "range", data := .fields #[.int lo t, .int hi u, .int 1 v] }, toks := tk } := I.kept fun b o e => Heap.get?_push_of_some _ e
  refine ⟨(s.heap.push { cls := .type "range", data := .fields #[.int lo t, .int hi u, .int 1 v] }).objs.size, [(s.heap.push { cls := .type "range", data := .fields #[.int lo t, .int hi u, .int 1 v] }).objs.size], _, _, H, rfl,
    I1.kept (t' := tk) fun b o e => Heap.get?_push_of_some _ e, turn_range _ lo (hi - lo).toNat, ?_, fun b hb => ?_, q⟩
  · have e1 : lo + ((0 : Nat) : Int) * 1 = lo := by simp
    have e2 : (((hi - lo).toNat : Nat) : Int) - ((0 : Nat) : Int) = Builtin.Range.rangeSize lo hi 1 := by rw [rangeSize_one]; split <;> omega
    show IsRangeIter _ _ (lo + ((0 : Nat) : Int) * 1) ((((hi - lo).toNat : Nat) : Int) - ((0 : Nat) : Int)) 1
    rw [e1, e2]
    exact Heap.get?_push_size _ rfl
  · have e : b = (s.heap.push { cls := .type "range", data := .fields #[.int lo t, .int hi u, .int 1 v] }).objs.size := by simpa using hb
    subst e
    exact I1.fpOk (Nat.le_refl _) (I1.hok.fresh (Nat.le_refl _))
def iRng1 (ta : TA) : TI := fun σ H R => ta σ H fun vs H1 => ∃ j : Int, vs = [.int j] ∧ -(2 ^ 62) ≤ j ∧ j < 2 ^ 62 ∧ R (Itr 0 j.toNat) H1
def iRng2 (ta : TA) : TI := fun σ H R => ta σ H fun vs H1 => ∃ i j : Int, vs = [.int i, .int j] ∧ (-(2 ^ 62) ≤ i ∧ i < 2 ^ 62 ∧ -(2 ^ 62) ≤ j ∧ j < 2 ^ 62) ∧ R (Itr i (j - i).toNat) H1
theorem pi_range1 {a : Expr} {ta : TA} {p pos : Pos} (hg : Gl X "range") (hm : X.mg "range" = none) (ha : PA X [a] ta) (hs : starEach [a] X.env = [(false, eval a X.env)] := by rfl) : PI X tg (.Call (.Name "range" p) [a] [] pos) (iRng1 ta) := by
  intro pins s σ H R I h
  refine Call_ (ld_blt I hg hm boot_range (PyProof.Rows.callWith_type1 (thn (ha pos pins s σ H _ I h) fun us s1 ⟨vs, H1, I1, r1, q1⟩ => ?_) hs rfl))
  obtain ⟨j, e, q1, q2, q⟩ := q1
  subst e
  cases r1 with
  | cons r rr =>
    cases rr
    obtain ⟨t, rfl⟩ := r
    exact call_range_1 (range_it I1 (by omega) (by omega) q1 q2 (by simpa using q))
theorem pi_range2 {a b : Expr} {ta : TA} {p pos : Pos} (hg : Gl X "range") (hm : X.mg "range" = none) (ha : PA X [a, b] ta) (hs : starEach [a, b] X.env = [(false, eval a X.env), (false, eval b X.env)] := by rfl) (hs2 : starEach [b] X.env = [(false, eval b X.env)] := by rfl) :
    PI X tg (.Call (.Name "range" p) [a, b] [] pos) (iRng2 ta) := by
  intro pins s σ H R I h
  refine Call_ (ld_blt I hg hm boot_range (PyProof.Rows.callWith_type1 (thn (ha pos pins s σ H _ I h) fun us s1 ⟨vs, H1, I1, r1, q1⟩ => ?_) (by rw [hs, hs2]) (by rw [hs2]; rfl)))
  obtain ⟨i, j, e, ⟨q1, q2, q3, q4⟩, q⟩ := q1
  subst e
  cases r1 with
  | cons r rr =>
    cases rr with
    | cons r' rr =>
      cases rr
      obtain ⟨t, rfl⟩ := r
      obtain ⟨t', rfl⟩ := r'
      exact call_range_2 (range_it I1 q1 q2 q3 q4 q)
def tFor (wi : TI) (g : TG) (tb : TS) : TS := fun D σ H => wi σ H fun J H1 => ∃ W : Nat → Nat → St → Hp → Prop, (∃ m, W 0 m σ H1) ∧ ∀ i m σ H, W i m σ H →
  (J.stop i H ∧ D.nx σ H) ∨ (J.go i H ∧ ∃ N : St → Hp → Prop, (∀ σ' H', N σ' H' → ∃ m', m' < m ∧ W (i + 1) m' σ' H') ∧ ∀ x H', J.yld i H x H' → g x σ H' fun σ2 H2 => tb { D with nx := N, ct := N, bk := D.nx } σ2 H2)
def pinsAt (fp : List Addr) (h : Heap) : List (Addr × Obj) := fp.filterMap fun b => (h.get? b).map fun o => (b, o)
theorem mem_pinsAt {fp : List Addr} {h : Heap} {b : Addr} {o : Obj} (hb : b ∈ fp) (e : h.get? b = some o) : (b, o) ∈ pinsAt fp h := List.mem_filterMap.mpr ⟨b, hb, by rw [e]; rfl⟩
theorem of_pinsAt {fp : List Addr} {h : Heap} {p : Addr × Obj} (hp : p ∈ pinsAt fp h) : p.1 ∈ fp ∧ h.get? p.1 = some p.2 := by
  obtain ⟨b, hb, e⟩ := List.mem_filterMap.mp hp
  cases q : h.get? b with
  | none => rw [q] at e; cases e
  | some o =>
    rw [q] at e
    have e' : (b, o) = p := Option.some.inj e
    subst e'
    exact ⟨hb, q⟩
theorem Inv.pinned {pins : List (Addr × Obj)} {σ : St} {H : Hp} {s : Shared} {fp : List Addr} (I : Inv X pins σ H s) (hf : ∀ b ∈ fp, FpOk X pins H b) (ho : ∀ b ∈ fp, ∃ o, s.heap.get? b = some o ∧ ∀ v, o.data ≠ .cell v) : Inv X (pins ++ pinsAt fp s.heap) σ H s :=
  I.pins_of fun p hp => (List.mem_append.mp hp).elim (fun z => I.pin p (List.mem_append_right _ z)) fun z => by
    obtain ⟨hb, e⟩ := of_pinsAt z
    obtain ⟨f0, f1, f2, _⟩ := hf p.1 hb
    obtain ⟨o, e', d⟩ := ho p.1 hb
    rw [e] at e'; cases e'
    exact ⟨e, f0, f1, f2, d⟩
theorem Inv.unpinned {pins pl : List (Addr × Obj)} {σ : St} {H : Hp} {s : Shared} (I : Inv X (pins ++ pl) σ H s) : Inv X pins σ H s := I.pins_of fun p hp => I.pin p (List.mem_append_right _ (List.mem_append_left _ hp))
theorem ps_for {iter : Expr} {body : List Stmt} {wi : TI} {g : TG} {tb : TS} {pos : Pos} (hp : PassesOwn (model X.prog X.w) X.A X.env X.xe) (hc : X.calm = true) (hi : PI X tg iter wi) (hg : PG X tg g) (hb : PSs X body tb)
    (hs : ∀ x, foldedSetIterable iter X.env x = pure x := by intro _; rfl) : PS X (.For tg iter body [] pos) (tFor wi g tb) := by
  intro pins s σ H D I h
  refine wpAny_For (thn (hi pins s σ H _ I h) fun v s1 h1 => thn h1 fun itv s2 h2 => ?_) hs
  obtain ⟨it, fp, tn, J, H2, e, I2, T, st2, f2, W, ⟨m0, w0⟩, turn⟩ := h2
  subst e
  have stat : ∀ {H' : Hp}, (∀ b ∈ fp, H' b = none) → ∀ b ∈ fp, FpOk X pins H' b := fun hn b hb => ⟨hn b hb, (f2 b hb).2⟩
  refine codeAny_forLoop_any (fun n s' => ∃ i σ' H', Inv X pins σ' H' s' ∧ tn i s'.heap ∧ (∀ b ∈ fp, H' b = none) ∧ W i n σ' H') ?_ m0 ⟨0, σ, H2, I2, st2, fun b hb => (f2 b hb).1, w0⟩
  rintro n s3 ⟨i, σ3, H3, I3, st3, fr3, w3⟩
  rcases turn i n σ3 H3 w3 with ⟨stop, qn⟩ | ⟨go, N, hN, step⟩
  · refine wpAny_passesOwn hp (thn (T.done X rfl rfl rfl hc i pins s3 σ3 H3 X.xe I3 (stat fr3) st3 stop) fun r s4 ⟨hr, I4⟩ => ?_)
    subst hr
    exact wpAny_execs_nil ⟨σ3, H3, I4, qn⟩
  · refine wpAny_passesOwn hp (thn (T.item X rfl rfl rfl hc i pins s3 σ3 H3 X.xe I3 (stat fr3) st3 go) fun r s4 ⟨u, hr, h4⟩ => ?_)
    subst hr
    refine wpAny_passesOwn hp (thn h4 fun _ s5 ⟨x, H5, I5, r5, y5, st5, fr5⟩ => ?_)
    have I5' := I5.pinned (stat fr5) (T.obj _ _ st5)
    refine wpAny_passesOwn hp (thn (hg _ s5 σ3 H5 x u _ I5' r5 (step x H5 y5)) fun _ s6 ⟨σ6, H6, I6, q6⟩ => ?_)
    refine wpAny_passesOwn hp (thn (hb _ s6 σ6 H6 _ I6 q6) fun f s7 q7 => ?_)
    have again : ∀ {σ7 : St} {H7 : Hp}, Inv X (pins ++ pinsAt fp s5.heap) σ7 H7 s7 → N σ7 H7 → ∃ m, m < n ∧ ∃ i σ' H', Inv X pins σ' H' s7 ∧ tn i s7.heap ∧ (∀ b ∈ fp, H' b = none) ∧ W i m σ' H' := fun {σ7 H7} I7 n7 => by
      obtain ⟨m', hm, w7⟩ := hN σ7 H7 n7
      refine ⟨m', hm, i + 1, σ7, H7, I7.unpinned, T.keep _ _ _ st5 fun b hb o e => (I7.pin (b, o) (List.mem_append_right _ (List.mem_append_right _ (mem_pinsAt hb e)))).1, fun b hb => ?_, w7⟩
      obtain ⟨o, e, d⟩ := T.obj _ _ st5 b hb
      exact (I7.pin (b, o) (List.mem_append_right _ (List.mem_append_right _ (mem_pinsAt hb e)))).2.1
    cases f with
    | next => obtain ⟨σ7, H7, I7, n7⟩ := q7; exact again I7 n7
    | cont => obtain ⟨σ7, H7, I7, n7⟩ := q7; exact again I7 n7
    | brk => obtain ⟨σ7, H7, I7, q7⟩ := q7; exact ⟨σ7, H7, I7.unpinned, q7⟩
    | ret v => obtain ⟨x7, σ7, H7, I7, r7, q7⟩ := q7; exact ⟨x7, σ7, H7, I7.unpinned, r7, q7⟩
end
theorem for_list {K : PySem.W.Frag} {a : Addr} {xs : List V} {g : TG} {tb : TS} {D : Ends} {σ : St} {H : Hp} (Pv : Nat → St → Hp → Prop) (h0 : Pv 0 σ H) (hl : ∀ i σ H, i ≤ xs.length → Pv i σ H → SqL K H a xs)
    (hs : ∀ i x σ H, xs[i]? = some x → Pv i σ H → g x σ H fun σ2 H2 => tb { D with nx := Pv (i + 1), ct := Pv (i + 1), bk := D.nx } σ2 H2) (hd : ∀ σ H, Pv xs.length σ H → D.nx σ H) :
    ∃ W : Nat → Nat → St → Hp → Prop, (∃ m, W 0 m σ H) ∧ ∀ i m σ H, W i m σ H →
      ((Itl K a).stop i H ∧ D.nx σ H) ∨ ((Itl K a).go i H ∧ ∃ N : St → Hp → Prop, (∀ σ' H', N σ' H' → ∃ m', m' < m ∧ W (i + 1) m' σ' H') ∧ ∀ x H', (Itl K a).yld i H x H' → g x σ H' fun σ2 H2 => tb { D with nx := N, ct := N, bk := D.nx } σ2 H2) := by
  refine ⟨fun i m σ H => m = xs.length - i ∧ i ≤ xs.length ∧ Pv i σ H, ⟨xs.length, by simp, Nat.zero_le _, h0⟩, ?_⟩
  rintro i m σ H ⟨rfl, hi, p⟩
  have q := hl i σ H hi p
  by_cases hlt : i < xs.length
  · refine .inr ⟨⟨xs, xs[i], q, by simp [hlt]⟩, Pv (i + 1), fun σ' H' p' => ⟨xs.length - (i + 1), by omega, rfl, hlt, p'⟩, fun x H' y => ?_⟩
    obtain ⟨e, y⟩ := y
    subst e
    exact hs i x σ _ (y xs q) p
  · have e : i = xs.length := by omega
    subst e
    exact .inl ⟨⟨xs, q, Nat.le_refl _⟩, hd σ H p⟩
theorem for_range {lo : Int} {n : Nat} {g : TG} {tb : TS} {D : Ends} {σ : St} {H : Hp} (Pv : Nat → St → Hp → Prop) (h0 : Pv 0 σ H)
    (hs : ∀ i σ H, i < n → Pv i σ H → g (.int (lo + i)) σ H fun σ2 H2 => tb { D with nx := Pv (i + 1), ct := Pv (i + 1), bk := D.nx } σ2 H2) (hd : ∀ σ H, Pv n σ H → D.nx σ H) :
    ∃ W : Nat → Nat → St → Hp → Prop, (∃ m, W 0 m σ H) ∧ ∀ i m σ H, W i m σ H →
      ((Itr lo n).stop i H ∧ D.nx σ H) ∨ ((Itr lo n).go i H ∧ ∃ N : St → Hp → Prop, (∀ σ' H', N σ' H' → ∃ m', m' < m ∧ W (i + 1) m' σ' H') ∧ ∀ x H', (Itr lo n).yld i H x H' → g x σ H' fun σ2 H2 => tb { D with nx := N, ct := N, bk := D.nx } σ2 H2) := by
  refine ⟨fun i m σ H => m = n - i ∧ i ≤ n ∧ Pv i σ H, ⟨n, by simp, Nat.zero_le _, h0⟩, ?_⟩
  rintro i m σ H ⟨rfl, hi, p⟩
  by_cases hlt : i < n
  · refine .inr ⟨hlt, Pv (i + 1), fun σ' H' p' => ⟨n - (i + 1), by omega, rfl, hlt, p'⟩, fun x H' y => ?_⟩
    obtain ⟨e, y⟩ := y
    subst e y
    exact hs i σ _ hlt p
  · have e : i = n := by omega
    subst e
    exact .inl ⟨Nat.le_refl _, hd σ H p⟩
theorem while_by {c : TT} {tb : TS} {D : Ends} {σ : St} {H : Hp} (Pv : St → Hp → Prop) (μ : St → Hp → Nat) (h0 : Pv σ H)
    (hs : ∀ σ H, Pv σ H → c σ H fun b H1 => if b = true then tb { D with nx := fun σ' H' => Pv σ' H' ∧ μ σ' H' < μ σ H, ct := fun σ' H' => Pv σ' H' ∧ μ σ' H' < μ σ H, bk := D.nx } σ H1 else D.nx σ H1)
    (mono : ∀ σ H Q Q', (∀ b H1, Q b H1 → Q' b H1) → c σ H Q → c σ H Q') : tWhile c tb D σ H := by
  refine ⟨fun m σ H => m = μ σ H ∧ Pv σ H, ⟨_, rfl, h0⟩, ?_⟩
  rintro m σ H ⟨rfl, p⟩
  refine mono σ H _ _ (fun b H1 q => ?_) (hs σ H p)
  cases b with
  | true => exact ⟨_, fun σ' H' ⟨p', l⟩ => ⟨_, l, rfl, p'⟩, q⟩
  | false => exact q
end L2
namespace L2
open PySem PySem.Spec PyProof.Rows
abbrev R2 := V → V → Hp → VK → Prop
def OpR (X : Cx) (f : Value → Value → Sem Value) (r : R2) : Prop :=
  ∀ (pins : List (Addr × Obj)) (s : Shared) (σ : St) (H : Hp) (x y : V) (v u : Value) (Q : VK), Inv X pins σ H s → RelV x v → RelV y u → r x y H Q →
    wpAny (model X.prog X.w) X.A (f v u) (EP X pins σ Q) X.xe s
def UnR (X : Cx) (f : Value → Sem Value) (r : V → Hp → VK → Prop) : Prop :=
  ∀ (pins : List (Addr × Obj)) (s : Shared) (σ : St) (H : Hp) (x : V) (v : Value) (Q : VK), Inv X pins σ H s → RelV x v → r x H Q →
    wpAny (model X.prog X.w) X.A (f v) (EP X pins σ Q) X.xe s
def CallR (X : Cx) (f : Value) (r : List V → Hp → VK → Prop) : Prop :=
  ∀ (pins : List (Addr × Obj)) (s : Shared) (σ : St) (H : Hp) (xs : List V) (us : List Value) (Q : VK), Inv X pins σ H s → Vals xs us → r xs H Q →
    wpAny (model X.prog X.w) X.A (call f us) (EP X pins σ Q) X.xe s
def TruR (X : Cx) (r : V → Hp → (Bool → Hp → Prop) → Prop) : Prop :=
  ∀ (pins : List (Addr × Obj)) (s : Shared) (σ : St) (H : Hp) (x : V) (v : Value) (Q : Bool → Hp → Prop), Inv X pins σ H s → RelV x v → r x H Q →
    wpAny (model X.prog X.w) X.A (truthy v) (TP X pins σ Q) X.xe s
def tOp (r : R2) (ta tb : TE) : TE := fun σ H Q => ta σ H fun x H1 => tb σ H1 fun y H2 => r x y H2 Q
def tUn (r : V → Hp → VK → Prop) (ta : TE) : TE := fun σ H Q => ta σ H fun x H1 => r x H1 Q
def rI (C : Int → Int → Prop) (g : Int → Int → V) : R2 := fun x y H Q => ∃ i j, x = .int i ∧ y = .int j ∧ C i j ∧ Q (g i j) H
def rI0 (g : Int → Int → V) : R2 := fun x y H Q => ∃ i j, x = .int i ∧ y = .int j ∧ Q (g i j) H
def rU (g : Int → V) : V → Hp → VK → Prop := fun x H Q => ∃ i, x = .int i ∧ Q (g i) H
section
variable {X : Cx} {a b c : Expr} {ta tb tc : TE} {pos : Pos}
theorem binT (ha : PE X a ta) (hb : PE X b tb) {pins : List (Addr × Obj)} {s : Shared} {σ : St} {H : Hp} {R : V → V → Hp → Prop} (I : Inv X pins σ H s)
    (h : ta σ H fun x H1 => tb σ H1 fun y H2 => R x y H2) {Q : Value → Shared → Prop} {f : Value → Value → Sem Value}
    (hf : ∀ v u s2 x y H2, Inv X pins σ H2 s2 → RelV x v → RelV y u → R x y H2 → wpAny (model X.prog X.w) X.A (f v u) Q X.xe s2) :
    wpAny (model X.prog X.w) X.A (eval a X.env) (fun v s₁ => wpAny (model X.prog X.w) X.A (eval b X.env) (fun u s₂ => wpAny (model X.prog X.w) X.A (f v u) Q X.xe s₂) X.xe s₁) X.xe s := by
  refine thn (ha pins s σ H _ I h) fun v s1 ⟨x, H1, I1, r1, q1⟩ => ?_
  refine thn (hb pins s1 σ H1 _ I1 q1) fun u s2 ⟨y, H2, I2, r2, q2⟩ => ?_
  exact hf v u s2 x y H2 I2 r1 r2 q2
theorem pe_op {op : Operator} {r : R2} (ho : OpR X (binaryOp op) r) (ha : PE X a ta) (hb : PE X b tb) : PE X (.BinOp a op b pos) (tOp r ta tb) := by
  intro pins s σ H Q I h
  exact wpAny_BinOp (binT ha hb I h fun v u s2 x y H2 I2 rx ry q => ho pins s2 σ H2 x y v u Q I2 rx ry q)
theorem pe_un {op : UnaryOp} {r : V → Hp → VK → Prop} (ho : UnR X (unaryOp op) r) (ha : PE X a ta) : PE X (.UnaryOp op a pos) (tUn r ta) := by
  intro pins s σ H Q I h
  exact UnaryOp_ (thn (ha pins s σ H _ I h) fun v s1 ⟨x, H1, I1, r1, q1⟩ => ho pins s1 σ H1 x v Q I1 r1 q1)
theorem opI {f : Value → Value → Sem Value} {C : Int → Int → Prop} {g : Int → Int → Int}
    (rule : ∀ (i j : Int) (t u : Tok) (s : Shared) (Q : Value → Shared → Prop) (E : Value → Shared → Prop), C i j → Q (.int (g i j) s.toks) { s with toks := s.toks + 1 } → wpAny (model X.prog X.w) X.A (f (.int i t) (.int j u)) Q E s) :
    OpR X f (rI C fun i j => .int (g i j)) := by
  intro pins s σ H x y v u Q I rx ry h
  obtain ⟨i, j, rfl, rfl, hc, q⟩ := h
  obtain ⟨t, rfl⟩ := rx
  obtain ⟨t', rfl⟩ := ry
  exact rule i j t t' s _ _ hc ⟨.int (g i j), H, I.tok _, ⟨_, rfl⟩, q⟩
theorem opI0 {f : Value → Value → Sem Value} {g : Int → Int → Int}
    (rule : ∀ (i j : Int) (t u : Tok) (s : Shared) (Q : Value → Shared → Prop) (E : Value → Shared → Prop), Q (.int (g i j) s.toks) { s with toks := s.toks + 1 } → wpAny (model X.prog X.w) X.A (f (.int i t) (.int j u)) Q E s) :
    OpR X f (rI0 fun i j => .int (g i j)) := by
  intro pins s σ H x y v u Q I rx ry h
  obtain ⟨i, j, rfl, rfl, q⟩ := h
  obtain ⟨t, rfl⟩ := rx
  obtain ⟨t', rfl⟩ := ry
  exact rule i j t t' s _ _ ⟨.int (g i j), H, I.tok _, ⟨_, rfl⟩, q⟩
theorem opB0 {f : Value → Value → Sem Value} {g : Int → Int → Bool}
    (rule : ∀ (i j : Int) (t u : Tok) (s : Shared) (Q : Value → Shared → Prop) (E : Value → Shared → Prop), Q (.bool (g i j)) s → wpAny (model X.prog X.w) X.A (f (.int i t) (.int j u)) Q E s) :
    OpR X f (rI0 fun i j => .bl (g i j)) := by
  intro pins s σ H x y v u Q I rx ry h
  obtain ⟨i, j, rfl, rfl, q⟩ := h
  obtain ⟨t, rfl⟩ := rx
  obtain ⟨t', rfl⟩ := ry
  exact rule i j t t' s _ _ ⟨.bl (g i j), H, I, rfl, q⟩
def CDiv (i j : Int) : Prop := 0 < j ∧ j < 1073741824
def CPow (i j : Int) : Prop := 0 ≤ j ∧ j ≤ 1000000 ∧ i.natAbs < 2 ^ 64
def CMul (i j : Int) : Prop := (-(2 ^ 64) < i ∧ i < 2 ^ 64) ∨ (-(2 ^ 64) < j ∧ j < 2 ^ 64)
theorem CMul.ok {i j : Int} (h : CMul i j) : IntMulOk i j := by
  rcases h with ⟨h1, h2⟩ | ⟨h1, h2⟩
  · exact .of_left (intBits_le_64 h1 h2)
  · exact .of_right (intBits_le_64 h1 h2)
theorem two_pow_nn (k : Nat) : (0 : Int) ≤ 2 ^ k := by
  rw [two_pow_cast]
  exact Int.natCast_nonneg _
theorem op_add : OpR X (binaryOp .Add) (rI0 fun i j => .int (i + j)) := opI0 fun _ _ _ _ _ _ _ q => add_int q
theorem op_sub : OpR X (binaryOp .Sub) (rI0 fun i j => .int (i - j)) := opI0 fun _ _ _ _ _ _ _ q => sub_int q
theorem op_fdiv : OpR X (binaryOp .FloorDiv) (rI CDiv fun i j => .int (i / j)) := opI fun i j _ _ _ _ _ hc q => by
  have h1 : (0 : Int) < j := hc.1
  have h2 : j < 1073741824 := hc.2
  exact floordiv_int (by omega) (by rw [Int.fdiv_eq_ediv_of_nonneg i (by omega)]; exact q) (.inl (PyProof.noPylong_small (by omega)))
theorem op_shl : OpR X (binaryOp .LShift) (rI CPow fun i j => .int (i * 2 ^ j.toNat)) := opI fun _ _ _ _ _ _ _ hc q => lshift_int_small hc.1 hc.2.1 hc.2.2 q
theorem op_shr : OpR X (binaryOp .RShift) (rI (fun _ j => 0 ≤ j) fun i j => .int (i / 2 ^ j.toNat)) := opI fun i j _ _ _ _ _ hc q =>
  rshift_int hc (by rw [Int.fdiv_eq_ediv_of_nonneg i (two_pow_nn _)]; exact q)
theorem op_and : OpR X (binaryOp .BitAnd) (rI0 fun i j => .int (Builtin.bitAnd i j)) := opI0 fun _ _ _ _ _ _ _ q => and_int q
theorem op_or : OpR X (binaryOp .BitOr) (rI0 fun i j => .int (Builtin.bitOr i j)) := opI0 fun _ _ _ _ _ _ _ q => or_int q
theorem op_xor : OpR X (binaryOp .BitXor) (rI0 fun i j => .int (Builtin.bitXor i j)) := opI0 fun _ _ _ _ _ _ _ q => xor_int q
theorem unI {f : Value → Sem Value} {g : Int → Int}
    (rule : ∀ (i : Int) (t : Tok) (s : Shared) (Q : Value → Shared → Prop) (E : Value → Shared → Prop), Q (.int (g i) s.toks) { s with toks := s.toks + 1 } → wpAny (model X.prog X.w) X.A (f (.int i t)) Q E s) :
    UnR X f (rU fun i => .int (g i)) := by
  intro pins s σ H x v Q I rx h
  obtain ⟨i, rfl, q⟩ := h
  obtain ⟨t, rfl⟩ := rx
  exact rule i t s _ _ ⟨.int (g i), H, I.tok _, ⟨_, rfl⟩, q⟩
theorem un_neg : UnR X (unaryOp .USub) (rU fun i => .int (-i)) := unI fun _ _ _ _ _ q => neg_int q
end
def scal : V → V → Bool
  | .non, .non => true | .non, .int _ => true | .int _, .non => true | .non, .bl _ => true | .bl _, .non => true | .non, .str _ => true | .str _, .non => true
  | .int _, .int _ => true | .bl _, .bl _ => true | .str _, .str _ => true | .byt _, .byt _ => true
  | .int _, .str _ => true | .str _, .int _ => true | .bl _, .str _ => true | .str _, .bl _ => true
  | _, _ => false
def rEq : R2 := fun x y H Q => scal x y = true ∧ Q (.bl (decide (x = y))) H
def rNe : R2 := fun x y H Q => scal x y = true ∧ Q (.bl (!decide (x = y))) H
theorem dec_int {i j : Int} : decide (V.int i = V.int j) = (i == j) := by
  rw [Bool.eq_iff_iff]
  simp
theorem dec_bl {i j : Bool} : decide (V.bl i = V.bl j) = (i == j) := by
  rw [Bool.eq_iff_iff]
  simp
theorem dec_str {i j : Str} : decide (V.str i = V.str j) = (i == j) := by
  rw [Bool.eq_iff_iff]
  simp
theorem dec_byt {i j : Array UInt8} : decide (V.byt i = V.byt j) = (i.toList == j.toList) := by
  rw [Bool.eq_iff_iff]
  cases i
  cases j
  simp
section
variable {X : Cx} {a b c : Expr} {ta tb tc : TE} {pos : Pos}
theorem fin_bl {pins : List (Addr × Obj)} {σ : St} {H : Hp} {s : Shared} {Q : VK} {k k' : Bool} (I : Inv X pins σ H s) (q : Q (.bl k) H) (e : k = k') : EP X pins σ Q (.bool k') s := by
  subst e
  exact ⟨.bl k, H, I, rfl, q⟩
theorem op_eq : OpR X (compareOp .Eq) rEq := by
  intro pins s σ H x y v u Q I rx ry h
  obtain ⟨hs, q⟩ := h
  cases x with
  | non =>
    cases rx
    cases y with
    | non => cases ry; exact PySem.EqNone.eq_none_none (fin_bl I q (by simp))
    | bl j => cases ry; exact PySem.EqNone.eq_none_bool (fin_bl I q (by simp))
    | int j => obtain ⟨t', rfl⟩ := ry; exact PySem.EqNone.eq_none_int (fin_bl I q (by simp))
    | str j => obtain ⟨t', rfl⟩ := ry; exact PySem.EqNone.eq_none_str (fin_bl I q (by simp))
    | _ => exact absurd (show false = true from hs) Bool.false_ne_true
  | bl i =>
    cases rx
    cases y with
    | non => cases ry; exact PySem.EqNone.eq_bool_none (fin_bl I q (by simp))
    | bl j => cases ry; exact eq_bool (fin_bl I q dec_bl)
    | str j => obtain ⟨t', rfl⟩ := ry; exact PySem.EqMixed.eq_bool_str (fin_bl I q (by simp))
    | _ => exact absurd (show false = true from hs) Bool.false_ne_true
  | int i =>
    obtain ⟨t, rfl⟩ := rx
    cases y with
    | non => cases ry; exact PySem.EqNone.eq_int_none (fin_bl I q (by simp))
    | int j => obtain ⟨t', rfl⟩ := ry; exact eq_int (fin_bl I q dec_int)
    | str j => obtain ⟨t', rfl⟩ := ry; exact PySem.EqMixed.eq_int_str (fin_bl I q (by simp))
    | _ => exact absurd (show false = true from hs) Bool.false_ne_true
  | str i =>
    obtain ⟨t, rfl⟩ := rx
    cases y with
    | non => cases ry; exact PySem.EqNone.eq_str_none (fin_bl I q (by simp))
    | bl j => cases ry; exact PySem.EqMixed.eq_str_bool (fin_bl I q (by simp))
    | int j => obtain ⟨t', rfl⟩ := ry; exact PySem.EqMixed.eq_str_int (fin_bl I q (by simp))
    | str j => obtain ⟨t', rfl⟩ := ry; exact eq_str (fin_bl I q dec_str)
    | _ => exact absurd (show false = true from hs) Bool.false_ne_true
  | byt i =>
    obtain ⟨t, rfl⟩ := rx
    cases y with
    | byt j => obtain ⟨t', rfl⟩ := ry; exact PySem.W.eq_bytes (fin_bl I q dec_byt)
    | _ => exact absurd (show false = true from hs) Bool.false_ne_true
  | _ => cases y <;> exact absurd (show false = true from hs) Bool.false_ne_true
theorem op_ne : OpR X (compareOp .NotEq) rNe := by
  intro pins s σ H x y v u Q I rx ry h
  obtain ⟨hs, q⟩ := h
  cases x with
  | non =>
    cases rx
    cases y with
    | non => cases ry; exact PySem.EqNone.ne_none_none (fin_bl I q (by simp))
    | bl j => cases ry; exact PySem.EqNone.ne_none_bool (fin_bl I q (by simp))
    | int j => obtain ⟨t', rfl⟩ := ry; exact PySem.EqNone.ne_none_int (fin_bl I q (by simp))
    | str j => obtain ⟨t', rfl⟩ := ry; exact PySem.EqNone.ne_none_str (fin_bl I q (by simp))
    | _ => exact absurd (show false = true from hs) Bool.false_ne_true
  | bl i =>
    cases rx
    cases y with
    | non => cases ry; exact PySem.EqNone.ne_bool_none (fin_bl I q (by simp))
    | bl j => cases ry; exact ne_bool (fin_bl I q (congrArg not dec_bl))
    | str j => obtain ⟨t', rfl⟩ := ry; exact PySem.EqMixed.ne_bool_str (fin_bl I q (by simp))
    | _ => exact absurd (show false = true from hs) Bool.false_ne_true
  | int i =>
    obtain ⟨t, rfl⟩ := rx
    cases y with
    | non => cases ry; exact PySem.EqNone.ne_int_none (fin_bl I q (by simp))
    | int j => obtain ⟨t', rfl⟩ := ry; exact ne_int (fin_bl I q (congrArg not dec_int))
    | str j => obtain ⟨t', rfl⟩ := ry; exact PySem.EqMixed.ne_int_str (fin_bl I q (by simp))
    | _ => exact absurd (show false = true from hs) Bool.false_ne_true
  | str i =>
    obtain ⟨t, rfl⟩ := rx
    cases y with
    | non => cases ry; exact PySem.EqNone.ne_str_none (fin_bl I q (by simp))
    | bl j => cases ry; exact PySem.EqMixed.ne_str_bool (fin_bl I q (by simp))
    | int j => obtain ⟨t', rfl⟩ := ry; exact PySem.EqMixed.ne_str_int (fin_bl I q (by simp))
    | str j => obtain ⟨t', rfl⟩ := ry; exact ne_str (fin_bl I q (congrArg not dec_str))
    | _ => exact absurd (show false = true from hs) Bool.false_ne_true
  | byt i =>
    obtain ⟨t, rfl⟩ := rx
    cases y with
    | byt j => obtain ⟨t', rfl⟩ := ry; exact PySem.W.ne_bytes (fin_bl I q (congrArg not dec_byt))
    | _ => exact absurd (show false = true from hs) Bool.false_ne_true
  | _ => cases y <;> exact absurd (show false = true from hs) Bool.false_ne_true
theorem op_lt : OpR X (compareOp .Lt) (rI0 fun i j => .bl (decide (i < j))) := opB0 fun _ _ _ _ _ _ _ q => lt_int q
theorem op_le : OpR X (compareOp .LtE) (rI0 fun i j => .bl (decide (i ≤ j))) := opB0 fun _ _ _ _ _ _ _ q => le_int q
theorem op_gt : OpR X (compareOp .Gt) (rI0 fun i j => .bl (decide (j < i))) := opB0 fun _ _ _ _ _ _ _ q => gt_int q
theorem op_ge : OpR X (compareOp .GtE) (rI0 fun i j => .bl (decide (j ≤ i))) := opB0 fun _ _ _ _ _ _ _ q => ge_int q
theorem nomark (b : Expr) {op : CmpOp} (h : op ≠ .In := by decide) (h2 : op ≠ .NotIn := by decide) : behindInMarks op b = false := by
  have e1 : (op == CmpOp.In) = false := by cases op <;> first | rfl | exact absurd rfl h
  have e2 : (op == CmpOp.NotIn) = false := by cases op <;> first | rfl | exact absurd rfl h2
  cases b <;> simp [behindInMarks, e1, e2]
theorem pe_cmpR {op : CmpOp} {r : R2} (ho : OpR X (compareOp op) r) (ha : PE X a ta) (hb : PE X b tb) (hm : behindInMarks op b = false) : PE X (.Compare a [op] [b] pos) (tOp r ta tb) := by
  intro pins s σ H Q I h
  exact wpAny_Compare1 (binT ha hb I h fun v u s2 x y H2 I2 rx ry q => ho pins s2 σ H2 x y v u Q I2 rx ry q) hm
def tTest (t : TE) : TT := fun σ H Q => t σ H fun x H' => ∃ k, x = .bl k ∧ Q k H'
theorem pt_cmpR {op : CmpOp} {r : R2} (ho : OpR X (compareOp op) r) (ha : PE X a ta) (hb : PE X b tb) (hm : behindInMarks op b = false) : PT X (.Compare a [op] [b] pos) (tTest (tOp r ta tb)) := by
  intro pins s σ H Q I h
  refine wpAny_isTrue_Compare1 (thn (ha pins s σ H _ I h) fun v s1 ⟨x, H1, I1, r1, q1⟩ => thn (hb pins s1 σ H1 _ I1 q1) fun u s2 ⟨y, H2, I2, r2, q2⟩ =>
    thn (ho pins s2 σ H2 x y v u _ I2 r1 r2 q2) fun c s3 ⟨z, H3, I3, r3, k, e, q3⟩ => ?_) hm
  subst e
  cases r3
  exact wpAny_truthy_bool ⟨H3, I3, q3⟩
def TruV (K : PySem.W.Frag) (x : V) (H : Hp) (k : Bool) : Prop :=
  match x with
  | .non => k = false
  | .bl b => k = b
  | .int i => k = (i != 0)
  | .str y => y.length ≤ sizeLine ∧ k = ((y.length : Int) != 0)
  | .byt y => y.size ≤ sizeLine ∧ k = ((y.size : Int) != 0)
  | .ref p => (∃ xs, SqL K H p xs ∧ k = !xs.isEmpty) ∨ (∃ xs, SqT K H p xs ∧ k = !xs.isEmpty) ∨ ∃ kvs, H p = some (.dK kvs) ∧ k = !kvs.isEmpty
  | _ => False
theorem isEmpty_kv {κ : Type} {kvs : List (κ × V)} {vs : List (κ × Value)} (r : KV kvs vs) : (!vs.isEmpty) = !kvs.isEmpty := by
  cases r <;> rfl
theorem isEmpty_of {xs : List V} {its : List Value} (r : Vals xs its) : (!its.toArray.isEmpty) = !xs.isEmpty := by
  cases r <;> simp
theorem line63 : (sizeLine : Nat) < 2 ^ 63 := by rw [sizeLine_eq]; decide
theorem tru_ok : TruR X (fun x H Q => ∃ k, TruV X.K x H k ∧ Q k H) := by
  intro pins s σ H x v Q I rx h
  obtain ⟨k, e, q⟩ := h
  have hl := line63
  have hs : sizeLine = 16777216 := sizeLine_eq
  cases x with
  | non =>
    cases rx
    have e' : k = false := e
    subst e'
    exact truthy_none ⟨H, I, q⟩
  | bl b =>
    cases rx
    have e' : k = b := e
    subst e'
    exact wpAny_truthy_bool ⟨H, I, q⟩
  | int i =>
    obtain ⟨t, rfl⟩ := rx
    have e' : k = (i != 0) := e
    subst e'
    exact PySem.P.truthy_int ⟨H, I, q⟩
  | str y =>
    obtain ⟨t, rfl⟩ := rx
    obtain ⟨hy, e'⟩ : y.length ≤ sizeLine ∧ k = ((y.length : Int) != 0) := e
    subst e'
    exact PySem.P.truthy_str (by omega) ⟨H, I.tok _, q⟩
  | byt y =>
    obtain ⟨t, rfl⟩ := rx
    obtain ⟨hy, e'⟩ : y.size ≤ sizeLine ∧ k = ((y.size : Int) != 0) := e
    subst e'
    exact PySem.W.truthy_bytes (by omega) ⟨H, I.tok _, q⟩
  | ref p =>
    cases rx
    have e' : (∃ xs, SqL X.K H p xs ∧ k = !xs.isEmpty) ∨ (∃ xs, SqT X.K H p xs ∧ k = !xs.isEmpty) ∨ ∃ kvs, H p = some (.dK kvs) ∧ k = !kvs.isEmpty := e
    rcases e' with ⟨xs, hx, e'⟩ | ⟨xs, hx, e'⟩ | ⟨kvs, hx, e'⟩
    · subst e'
      obtain ⟨its, r, pl, hz⟩ := I.list hx
      have hlen := r.length
      exact wpAny_truthy_list pl.isList (by simp only [List.size_toArray]; omega) ⟨H, I.tok _, by rw [isEmpty_of r]; exact q⟩
    · subst e'
      obtain ⟨its, r, pl, hz⟩ := I.tuple hx
      have hlen := r.length
      exact truthy_tuple pl (by simp only [List.size_toArray]; omega) ⟨H, I.tok _, by rw [isEmpty_of r]; exact q⟩
    · subst e'
      obtain ⟨hz, hS, vs, r, m⟩ : kvs.length ≤ sizeLine ∧ (p == sysModules) = false ∧ ∃ vs, KV kvs vs ∧ s.heap.DictOf (mixKind X.prog X.w) p vs := I.hok p _ hx
      have hlen : kvs.length = vs.length := Paired.length r
      exact wpAny_truthy_dict hS m (by omega) ⟨H, I.tok _, by rw [isEmpty_kv r]; exact q⟩
  | _ => exact (show False from e).elim
theorem pt_truth (ha : PE X a ta) (he : ∀ whole, isTrue a X.env whole = (do let v ← whole; standAt a.pos; holding [v] (truthy v))) :
    PT X a (fun σ H Q => ta σ H fun x H' => ∃ k, TruV X.K x H' k ∧ Q k H') := by
  intro pins s σ H Q I h
  exact isTrue_plain (thn (ha pins s σ H _ I h) fun v s1 ⟨x, H1, I1, r1, q1⟩ => tru_ok pins s1 σ H1 x v Q I1 r1 q1) (he _)
theorem vals1 {x : V} {us : List Value} (r : Vals [x] us) : ∃ u, us = [u] ∧ RelV x u := by
  cases r with
  | cons r1 r2 => cases r2; exact ⟨_, rfl, r1⟩
end
end L2
namespace L2
open PySem PySem.Spec PyProof.Rows
structure ObjM (h : Heap) (x dx C : Addr) (mA : Str → Option Value) : Prop where
  obj : h.get? x = some (PySem.W.instObj C dx)
  ns : h.Ns1 dx mA
  ne : dx ≠ x
theorem lookIn_ns {h : Heap} {dx : Addr} {mA : Str → Option Value} (n : h.Ns1 dx mA) : ∃ od, h.get? dx = some od ∧ ∀ name, PySem.W.lookIn name od = some (mA name) := by
  obtain ⟨o, es, ep, ho, hd, hk, _, hm⟩ := n
  refine ⟨o, ho, fun name => ?_⟩
  have e := hm name
  unfold nsFind findBy at e
  rw [← Array.find?_toList] at e
  unfold PySem.W.lookIn
  rw [hd]
  dsimp only
  split
  · rename_i y q
    rw [q] at e
    exact congrArg some e
  · rename_i q
    rw [q] at e
    have a : es.toList.any (·.refKey) = false := by
      rw [List.any_eq_false]
      intro y hy
      obtain ⟨z, t, hkey⟩ := hk y (Array.mem_toList_iff.mp hy)
      simp [DictEntry.refKey, hkey]
    have a' : ¬ es.toList.any (·.refKey) = true := by rw [a]; exact Bool.false_ne_true
    rw [if_neg a']
    exact congrArg some e
theorem ObjM.look {h : Heap} {x dx C : Addr} {mA : Str → Option Value} (I : ObjM h x dx C mA) : ∃ od, PySem.W.InstAt h x (PySem.W.instObj C dx) C (some od) ∧ ∀ name, PySem.W.lookIn name od = some (mA name) :=
  let ⟨od, ho, hl⟩ := lookIn_ns I.ns
  ⟨od, ⟨I.obj, rfl, rfl, ho⟩, hl⟩
section
variable {prog : Program} {w : World} {A : Around} {E : Value → Shared → Prop} {s : Shared} {K : PySem.W.Frag} {x dx C f : Addr} {mA : Str → Option Value} {name : Str} {v : Value}
theorem get_map {expr : Bool} {Q : Value → Shared → Prop} (X : K.In s.heap) (I : ObjM s.heap x dx C mA) (hg : PySem.W.plainGet K C name = true) (hh : PySem.W.hasDictIn K C = true)
    (ha : PySem.W.findIn K (.ref C) name = some none) (hv : mA name = some v) (hv' : PySem.W.handedIn v = true) (h : Q v { s with toks := s.toks + 1 }) :
    wpAny (model prog w) A (getAttr (.ref x) name expr) Q E s := by
  obtain ⟨od, J, hl⟩ := I.look
  exact PySem.W.get_value X J (PySem.W.plainGet_of hg).1 (PySem.W.findObj_own hh ha rfl (by rw [hl, hv])) hv' h
theorem get_meth {pl : Sem Bool} {Q : Value × List Value → Shared → Prop} (X : K.In s.heap) (I : ObjM s.heap x dx C mA) (hg : PySem.W.plainGet K C name = true)
    (hf : PySem.W.findIn K (.ref C) name = some (some (.ref f))) (ht : PySem.W.isFn K (.ref f) = true) (hv : mA name = none) (h : Q (.ref f, [.ref x]) s) :
    wpAny (model prog w) A (getMethod (.ref x) name pl) Q E s := by
  obtain ⟨od, J, hl⟩ := I.look
  exact PySem.W.method_fn X J (PySem.W.plainGet_of hg).1 (PySem.W.plainGet_of hg).2 hf (beq_iff_eq.mp ht) (by show (PySem.W.lookIn name od).map (·.isSome) = some false; rw [hl, hv]; rfl) h
theorem set_map {ns : List Str} {Q : Unit → Shared → Prop} (X : K.In s.heap) (I : ObjM s.heap x dx C mA)
    (hs : PySem.W.findIn K (.ref C) "__setattr__" = some (some (.builtin "object.__setattr__"))) (hp : PySem.W.plainOver K C = true) (ht : PySem.W.takerIn K C name = some none) (hh : PySem.W.hasDictIn K C = true)
    (hw : PySem.Within mA ns) (hsz : ns.length ≤ sizeLine)
    (h : ∀ h', ObjM h' x dx C (fun y => if y = name then some v else mA y) → Heap.SameBut dx s.heap h' → Q () { s with heap := h', toks := s.toks + 2 }) :
    wpAny (model prog w) A (setAttr (.ref x) name v) Q E s := by
  obtain ⟨od, J, hl⟩ := I.look
  refine PySem.W.set_plain X J hs (PySem.W.osa_open (s := { s with toks := s.toks + 1 }) (r := none) X J hp ht fun b => ?_)
  obtain ⟨cd, hc, hd'⟩ := PySem.W.any_some hh
  have hx : s.heap.get? x = some ⟨.ref C, some dx, .plain, #[]⟩ := I.obj
  refine wpAny_bind (wpAny_pure (wpAny_bind (wpAny_bind (wpAny_loadPart hx (wpAny_bind (PySem.W.Looks.here (s := { s with toks := s.toks + 1 }) (PySem.W.looks_clsIn X hc) ?_))))))
  rw [hd']
  refine wpAny_pure (a := some dx) (wpAny_bind (wpAny_pure (wpAny_bind ?_)))
  refine wpAny_nsSet1 (s := { s with toks := s.toks + 1 }) I.ns fun h' hn2 hs2 => ?_
  obtain ⟨oD, esD, epD, hoD, hdD, hcD⟩ := hn2.count (PySem.Within.cons name v hw)
  refine wpAny_bind (wpAny_lookBehind hoD (by rw [hdD]; exact pastItsLine_dict (Nat.le_trans hcD (by rw [List.length_cons]; omega))) ?_)
  exact wpAny_pure (h _ ⟨(hs2.2 _ (Ne.symm I.ne)).trans I.obj, hn2, I.ne⟩ hs2)
theorem make_map {R : Result → Shared → Prop} {vs : List Value} {kw : List (Str × Value)} (X : K.In s.heap) (hm : PySem.W.makesIn K C = true)
    (hi : PySem.W.findIn K (.ref C) "__init__" = some (some (.ref f))) (hf : PySem.W.typeIn K (.ref f) = some (.type "function"))
    (h : codeAny (model prog w) (A.under (.builtin "type.__call__" ⟨.ref C :: vs, kw⟩)) (.call (.ref f) ⟨.ref (s.heap.objs.size + 1) :: vs, kw⟩) (PySem.W.InitBack (s.heap.objs.size + 1) R)
      { s with heap := (s.heap.push PySem.W.emptyDict).push (PySem.W.instObj C s.heap.objs.size) }) :
    codeAny (model prog w) A (.call (.ref C) ⟨vs, kw⟩) R s := by
  obtain ⟨hh, g, d, t, os⟩ := s
  exact PySem.W.make_core (PySem.W.makes_of X hm) (PySem.W.looks_findIn X hi) (fun self => PySem.W.bind_fn X self hf) (.inl rfl) h
end
def putF (f : Str) (v : V) : List (Str × V) → List (Str × V)
  | [] => [(f, v)]
  | (g, x) :: r => if g = f then (g, v) :: r else (g, x) :: putF f v r
theorem lookup_putF (f g : Str) (v : V) : ∀ fs : List (Str × V), (putF f v fs).lookup g = if g = f then some v else fs.lookup g
  | [] => by
    show List.lookup g [(f, v)] = _
    by_cases h : g = f
    · have hb : (g == f) = true := beq_iff_eq.mpr h
      simp only [List.lookup, hb, if_pos h]
    · have hb : (g == f) = false := beq_eq_false_iff_ne.mpr h
      simp only [List.lookup, hb, if_neg h]
  | (k, x) :: r => by
    have ih := lookup_putF f g v r
    rw [show putF f v ((k, x) :: r) = (if k = f then (k, v) :: r else (k, x) :: putF f v r) from rfl]
    by_cases hk : k = f
    · rw [if_pos hk]
      by_cases h : g = k
      · have hb : (g == k) = true := beq_iff_eq.mpr h
        simp only [List.lookup, hb, if_pos (h.trans hk)]
      · have hb : (g == k) = false := beq_eq_false_iff_ne.mpr h
        simp only [List.lookup, hb, if_neg (fun e : g = f => h (e.trans hk.symm))]
    · rw [if_neg hk]
      by_cases h : g = k
      · have hb : (g == k) = true := beq_iff_eq.mpr h
        simp only [List.lookup, hb, if_neg (fun e : g = f => hk (h.symm.trans e))]
      · have hb : (g == k) = false := beq_eq_false_iff_ne.mpr h
        simp only [List.lookup, hb]
        exact ih
theorem keys_putF (f : Str) (v : V) : ∀ fs : List (Str × V), f ∈ (putF f v fs).map (·.1) ∧ ∀ g, g ∈ fs.map (·.1) → g ∈ (putF f v fs).map (·.1)
  | [] => ⟨by simp [putF], fun g h => by simp at h⟩
  | (k, x) :: r => by
    obtain ⟨i1, i2⟩ := keys_putF f v r
    rw [show putF f v ((k, x) :: r) = (if k = f then (k, v) :: r else (k, x) :: putF f v r) from rfl]
    by_cases hk : k = f
    · rw [if_pos hk]
      subst hk
      exact ⟨by simp, fun g h => by simpa using h⟩
    · rw [if_neg hk]
      refine ⟨?_, fun g h => ?_⟩
      · rw [List.map_cons]
        exact List.mem_cons_of_mem _ i1
      · rw [List.map_cons] at h ⊢
        rcases List.mem_cons.mp h with e | e
        · exact List.mem_cons.mpr (.inl e)
        · exact List.mem_cons_of_mem _ (i2 g e)
theorem length_putF (f : Str) (v : V) : ∀ fs : List (Str × V), (putF f v fs).length ≤ fs.length + 1
  | [] => by simp [putF]
  | (k, x) :: r => by
    have ih := length_putF f v r
    rw [show putF f v ((k, x) :: r) = (if k = f then (k, v) :: r else (k, x) :: putF f v r) from rfl]
    by_cases hk : k = f
    · rw [if_pos hk, List.length_cons, List.length_cons]; omega
    · rw [if_neg hk, List.length_cons, List.length_cons]; omega
theorem RelO.some_of {v : V} {o : Option Value} (r : RelO (some v) o) : ∃ u, o = some u ∧ RelV v u := by
  cases o with
  | none => exact (show False from r).elim
  | some u => exact ⟨u, rfl, r⟩
theorem RelO.none_of {o : Option Value} (r : RelO none o) : o = none := by
  cases o with
  | none => rfl
  | some u => exact (show False from r).elim
theorem handed_of {v : V} {u : Value} (r : RelV v u) : PySem.W.handedIn u = true := by
  cases v with
  | non => cases (show u = Value.none from r); rfl
  | bl b => cases (show u = Value.bool b from r); rfl
  | int i => obtain ⟨t, e⟩ := (show ∃ t, u = Value.int i t from r); cases e; rfl
  | str x => obtain ⟨t, e⟩ := (show ∃ t, u = Value.str x t from r); cases e; rfl
  | byt b => obtain ⟨t, e⟩ := (show ∃ t, u = Value.bytes b t from r); cases e; rfl
  | flt b => obtain ⟨t, e⟩ := (show ∃ t, u = Value.float b t from r); cases e; rfl
  | ref a => cases (show u = Value.ref a from r); rfl
  | ty n => cases (show u = Value.type n from r); rfl
section
variable {P : Program} {w : World} {H H' : Hp} {h h' : Heap} {a C dx : Addr} {fs fs' : List (Str × V)}
theorem ins_get (hok : HOk P w H h) (e : H a = some (.ins C dx fs)) : ∃ mA, ObjM h a dx C mA ∧ (∀ f, RelO (fs.lookup f) (mA f)) ∧ PySem.Within mA (fs.map (·.1)) ∧ fs.length ≤ 1000 ∧ H dx = some (.own a) := by
  obtain ⟨d, z, ne, ob, mA, n, r, q⟩ := (show ObjOk P w H h a (.ins C dx fs) from hok a _ e)
  exact ⟨mA, ⟨ob, n, ne⟩, r, q, z, d⟩
end
structure Cls (K : PySem.W.Frag) (C : Addr) : Prop where
  pg : PySem.W.plainGet K C Str.empty = true
  hd : PySem.W.hasDictIn K C = true
  po : PySem.W.plainOver K C = true
  sa : PySem.W.findIn K (.ref C) "__setattr__" = some (some (.builtin "object.__setattr__"))
theorem Cls.get {K : PySem.W.Frag} {C : Addr} (c : Cls K C) (f : Str) : PySem.W.plainGet K C f = true := c.pg
def NoAttr (K : PySem.W.Frag) (C : Addr) (f : Str) : Prop := PySem.W.findIn K (.ref C) f = some none
theorem NoAttr.taker {K : PySem.W.Frag} {C : Addr} {f : Str} (n : NoAttr K C f) : PySem.W.takerIn K C f = some none := by
  unfold PySem.W.takerIn
  rw [show PySem.W.findIn K (.ref C) f = some none from n]
  rfl
structure Con (K : PySem.W.Frag) (C : Addr) (f : Str) (v : V) (u : Value) : Prop where
  at_ : PySem.W.findIn K (.ref C) f = some (some u)
  rel : RelV v u
  get : PySem.W.specialIn K u "__get__" = some none
  cp : PySem.W.copiedNames.contains f = false
structure Meth (K : PySem.W.Frag) (C : Addr) (m : Str) (f : Addr) : Prop where
  at_ : PySem.W.findIn K (.ref C) m = some (some (.ref f))
  fn : PySem.W.isFn K (.ref f) = true
  kp : PySem.W.keepIn K (.ref f) = true
section
variable {X : Cx} {pins : List (Addr × Obj)} {σ : St} {H : Hp} {s : Shared} {a C dx : Addr} {fs : List (Str × V)} {f : Str} {v : V} {A : Around} {E : Value → Shared → Prop}
theorem getattr_ok {b : Bool} {Q : Value → Shared → Prop} (I : Inv X pins σ H s) (e : H a = some (.ins C dx fs)) (c : Cls X.K C) (n : NoAttr X.K C f) (l : fs.lookup f = some v)
    (h : ∀ u s', Inv X pins σ H s' → RelV v u → Q u s') : wpAny (model X.prog X.w) A (getAttr (.ref a) f b) Q E s := by
  obtain ⟨mA, O, r, _, _, _⟩ := ins_get I.hok e
  obtain ⟨u, hu, ru⟩ := RelO.some_of (v := v) (o := mA f) (by rw [← l]; exact r f)
  exact get_map I.kIn O (c.get f) c.hd n hu (handed_of ru) (h u _ (I.tok _) ru)
theorem getmeth_ok {m : Str} {g : Addr} {pl : Sem Bool} {Q : Value × List Value → Shared → Prop} (I : Inv X pins σ H s) (e : H a = some (.ins C dx fs)) (c : Cls X.K C) (k : Meth X.K C m g) (l : fs.lookup m = none)
    (h : Q (.ref g, [.ref a]) s) : wpAny (model X.prog X.w) A (getMethod (.ref a) m pl) Q E s := by
  obtain ⟨mA, O, r, _, _, _⟩ := ins_get I.hok e
  have hn : mA m = none := RelO.none_of (by rw [← l]; exact r m)
  exact get_meth I.kIn O (c.get m) k.at_ k.fn hn h
theorem setattr_ok {y : V} {u : Value} {Q : Unit → Shared → Prop} (I : Inv X pins σ H s) (e : H a = some (.ins C dx fs)) (c : Cls X.K C) (n : NoAttr X.K C f) (hl : fs.length < 1000) (ry : RelV y u)
    (h : ∀ s', Inv X pins σ (upd H a (.ins C dx (putF f y fs))) s' → Q () s') : wpAny (model X.prog X.w) A (setAttr (.ref a) f u) Q E s := by
  obtain ⟨mA, O, r, wi, _, ho⟩ := ins_get I.hok e
  have hz : (fs.map (·.1)).length ≤ sizeLine := by rw [List.length_map, sizeLine_eq]; omega
  refine set_map I.kIn O c.sa c.po n.taker c.hd wi hz fun h' O' sb => h _ ?_
  have hd : ∃ o, h'.get? dx = some o := let ⟨o, _, _, e', _⟩ := O'.ns; ⟨o, e'⟩
  refine I.write (x := a) (e := dx) (by rw [e]; exact True.intro) (.inr ho) (fun b q hb z => (sb.2 b hb).trans z) hd ?_
  refine ⟨by rw [upd_ne O.ne]; exact ho, ?_, O.ne, O'.obj, _, O'.ns, fun g => ?_, fun g hg => ?_⟩
  · have := length_putF f y fs; omega
  · show RelO ((putF f y fs).lookup g) (if g = f then some u else mA g)
    rw [lookup_putF]
    by_cases q : g = f
    · rw [if_pos q, if_pos q]; exact ry
    · rw [if_neg q, if_neg q]; exact r g
  · by_cases q : g = f
    · rw [q]; exact (keys_putF f y fs).1
    · refine (keys_putF f y fs).2 g (wi g fun z => hg ?_)
      show (if g = f then some u else mA g) = none
      rw [if_neg q]; exact z
theorem Inv.made (I : Inv X pins σ H s) : Inv X pins σ (upd (upd H s.heap.objs.size (.own (s.heap.objs.size + 1))) (s.heap.objs.size + 1) (.ins C s.heap.objs.size []))
    { s with heap := (s.heap.push PySem.W.emptyDict).push (PySem.W.instObj C s.heap.objs.size) } := by
  have e1 : (s.heap.push PySem.W.emptyDict).get? s.heap.objs.size = some PySem.W.emptyDict := Heap.get?_push_size s.heap rfl
  have e2 : ((s.heap.push PySem.W.emptyDict).push (PySem.W.instObj C s.heap.objs.size)).get? (s.heap.objs.size + 1) = some (PySem.W.instObj C s.heap.objs.size) := by
    have := Heap.get?_push_size (s.heap.push PySem.W.emptyDict) (o := PySem.W.instObj C s.heap.objs.size) rfl
    rwa [Heap.size_push] at this
  have e3 : (s.heap.push PySem.W.emptyDict).Ns s.heap.objs.size (fun _ => none) := ⟨PySem.W.emptyDict, #[], _, e1, rfl, (fun e he => absurd he (by simp)), fun _ => rfl⟩
  have I1 := I.laid (a := s.heap.objs.size) (o := .own (s.heap.objs.size + 1)) (h' := s.heap.push PySem.W.emptyDict) (t' := s.toks) (fun b u q => Heap.get?_push_of_some _ q) (Nat.le_refl _) ⟨_, e1⟩
  refine I1.laid (a := s.heap.objs.size + 1) (o := .ins C s.heap.objs.size []) (t' := s.toks) (fun b u q => Heap.get?_push_of_some _ q) (Nat.le_of_eq (Heap.size_push _ _)) ?_
  have ne : s.heap.objs.size ≠ s.heap.objs.size + 1 := Nat.ne_of_lt (Nat.lt_succ_self _)
  refine ⟨by rw [upd_ne ne, upd_same], Nat.zero_le _, ne, e2, fun _ => none, (Heap.Ns1.of_empty e3).at fun o q => Heap.get?_push_of_some _ q, fun _ => True.intro, fun y hy => absurd rfl hy⟩
theorem attr_of {prog : Program} {w : World} {env : Env} {e : Expr} {f : Str} {pos : Pos} {s : Shared} {Q : Value → Shared → Prop} (hb : attributeBase e f env (eval e env) = eval e env)
    (h : wpAny (model prog w) A (eval e env) (fun o s₁ => wpAny (model prog w) A (getAttr o f true) Q E s₁) E s) : wpAny (model prog w) A (eval (.Attribute e f pos) env) Q E s :=
  Attribute_any_ h (by rw [arm_eval_Attribute, hb])
end
def tFld (K : PySem.W.Frag) (ta : TE) (f : Str) : TE := fun σ H Q => ta σ H fun x H1 => ∃ a C dx fs v, x = .ref a ∧ H1 a = some (.ins C dx fs) ∧ Cls K C ∧ NoAttr K C f ∧ fs.lookup f = some v ∧ Q v H1
def sFld (K : PySem.W.Frag) (ta tv : TE) (f : Str) : TS := fun D σ H => tv σ H fun y H1 => ta σ H1 fun x H2 => ∃ a C dx fs, x = .ref a ∧ H2 a = some (.ins C dx fs) ∧ Cls K C ∧ NoAttr K C f ∧ fs.length < 1000 ∧
  D.nx σ (upd H2 a (.ins C dx (putF f y fs)))
section
variable {X : Cx} {o e value : Expr} {f : Str} {pos pos' tpos : Pos} {ta tv : TE}
theorem pe_fld (he : PE X e ta) (hb : attributeBase e f X.env (eval e X.env) = eval e X.env) : PE X (.Attribute e f pos) (tFld X.K ta f) := by
  intro pins s σ H Q I h
  refine attr_of hb (thn (he pins s σ H _ I h) fun u s1 ⟨x, H1, I1, rx, a, C, dx, fs, v, ex, ea, c, n, l, q⟩ => ?_)
  subst ex
  obtain rfl : u = Value.ref a := rx
  exact getattr_ok I1 ea c n l fun u' s2 I2 ru => ⟨v, H1, I2, ru, q⟩
theorem ps_fld (ha : PE X o ta) (hv : PE X value tv) (hs : swapsWith value (some (.Attribute o f pos')) pos.line X.env = pure false) : PS X (.Assign [.Attribute o f pos'] value pos) (sFld X.K ta tv f) := by
  intro pins s σ H D I h
  refine plainObj_wpAny_Assign_Attribute (thn (hv pins s σ H _ I h) fun u s1 ⟨y, H1, I1, ry, q⟩ => thn (ha pins s1 σ H1 _ I1 q) fun ov s2 ⟨x, H2, I2, rx, a, C, dx, fs, ex, ea, c, n, l, q2⟩ => ?_) hs
  subst ex
  obtain rfl : ov = Value.ref a := rx
  exact setattr_ok I2 ea c n l ry fun s3 I3 => ⟨σ, _, I3, q2⟩
end
section
variable {X : Cx} {pins : List (Addr × Obj)} {σ : St} {H : Hp} {s : Shared} {A : Around} {E : Value → Shared → Prop} {Q : Value → Shared → Prop} {c : Value} {b : Bool}
inductive TyOf (K : PySem.W.Frag) (H : Hp) : V → Value → Prop where
  | non : TyOf K H .non (.type "NoneType")
  | bl (x : Bool) : TyOf K H (.bl x) (.type "bool")
  | int (i : Int) : TyOf K H (.int i) (.type "int")
  | str (x : Str) : TyOf K H (.str x) (.type "str")
  | flt (x : UInt64) : TyOf K H (.flt x) (.type "float")
  | lst {a : Addr} {xs : List V} (e : H a = some (.lst xs)) : TyOf K H (.ref a) (.type "list")
  | frz {a : Addr} {o : Obj} {xs : List V} (e : H a = some (.frz o (.lst xs))) : TyOf K H (.ref a) (.type "list")
  | tup {a : Addr} {xs : List V} (e : H a = some (.tup xs)) : TyOf K H (.ref a) (.type "tuple")
  | dK {a : Addr} {kvs : List (Key × V)} (e : H a = some (.dK kvs)) : TyOf K H (.ref a) (.type "dict")
  | dT {a : Addr} {kvs : List (List Key × V)} (e : H a = some (.dT kvs)) : TyOf K H (.ref a) (.type "dict")
  | ins {a C dx : Addr} {fs : List (Str × V)} (e : H a = some (.ins C dx fs)) (cl : Cls K C) (ha : PySem.W.findIn K (.ref C) "__class__" = some (some (.builtin "object.__class__")))
      (hn : PySem.W.specialIn K (.builtin "object.__class__") "__get__" = some (some (.builtin "getset_descriptor.__get__"))) (htk : PySem.W.takesIn K (.builtin "object.__class__") = some true)
      (hm : PySem.W.mroIn K C (.type "object") = some true) : TyOf K H (.ref a) (.ref C)
end
end L2
namespace L2
open PySem PySem.Spec PyProof.Rows
structure Room (k : Nat) (A : Around) : Prop where
  hd : A.handled = none
  dp : A.depth + 3 * k + 5 < recursionLimit
  un : A.units + 16 * k + 200 < cLine
theorem Room.mono {j k : Nat} {A : Around} (r : Room k A) (h : j ≤ k) : Room j A := ⟨r.hd, by have := r.dp; omega, by have := r.un; omega⟩
theorem Room.deeper {k : Nat} {A : Around} (r : Room (k + 1) A) (env : Env) : Room k (A.deeper env) :=
  ⟨r.hd, by have := r.dp; show A.depth + 1 + 3 * k + 5 < _; omega, by have := r.un; show A.units + 3 + 16 * k + 200 < _; omega⟩
theorem Room.in1 {k : Nat} {A : Around} (r : Room (k + 1) A) : Room k A.in1 :=
  ⟨r.hd, by have := r.dp; show A.depth + 3 * k + 5 < _; omega, by have := r.un; show A.units + 1 + 16 * k + 200 < _; omega⟩
theorem make_depth {A : Around} {C : Addr} {us : List Value} {kw : List (Str × Value)} : (A.under (.builtin "type.__call__" ⟨.ref C :: us, kw⟩)).depth = A.depth + 1 := by
  first | rfl | simp [Around.under, Code.weight, Code.isCreation, Code.isGuard, Code.isCaller, Code.frames, Code.isFrame, guardIds]
theorem make_units {A : Around} {C : Addr} {us : List Value} {kw : List (Str × Value)} : (A.under (.builtin "type.__call__" ⟨.ref C :: us, kw⟩)).units = A.units + 1 := by
  first | rfl | simp [Around.under, Code.cUnits, Code.frames, Code.isFrame]
theorem Room.make {k : Nat} {A : Around} (r : Room (k + 1) A) (C : Addr) (us : List Value) (kw : List (Str × Value)) : Room k (A.under (.builtin "type.__call__" ⟨.ref C :: us, kw⟩)) :=
  ⟨r.hd, by have := r.dp; rw [make_depth]; omega, by have := r.un; rw [make_units]; omega⟩
theorem Room.depth {k : Nat} {A : Around} (r : Room k A) : A.depth < recursionLimit := by have := r.dp; omega
theorem Room.units {k : Nat} {A : Around} (r : Room k A) : A.units + 64 < cLine := by have := r.un; omega
theorem Room.units0 {k : Nat} {A : Around} (r : Room k A) : A.units < cLine := by have := r.un; omega
def tNil : TA := fun _ H Q => Q [] H
def tCons (ta : TE) (tr : TA) : TA := fun σ H Q => ta σ H fun x H1 => tr σ H1 fun xs H2 => Q (x :: xs) H2
section
variable {X : Cx} {e : Expr} {es : List Expr} {te : TE} {t : TA} {pos : Pos}
theorem pa_nil : PA X [] tNil := fun _ _ _ _ H Q I h => Calls.spliced_nil ⟨[], H, I, .nil, h⟩
theorem pa_cons (ha : PE X e te) (hr : PA X es t) (hs : starEach (e :: es) X.env = (false, eval e X.env) :: starEach es X.env := by rfl) : PA X (e :: es) (tCons te t) := by
  intro pos pins s σ H Q I h
  rw [hs]
  show wpAny _ _ (spliced ((false, eval e X.env) :: backTo pos (starEach es X.env))) _ _ s
  refine Calls.spliced_cons (thn (ha pins s σ H _ I h) fun u s1 ⟨x, H1, I1, r1, q1⟩ => ?_)
  exact thn (hr pos pins s1 σ H1 _ I1 q1) fun us s2 ⟨xs, H2, I2, r2, q2⟩ => ⟨x :: xs, H2, I2, .cons r1 r2, q2⟩
def tTup (t : TA) : TE := fun σ H Q => t σ H fun xs H1 => xs.length ≤ sizeLine ∧ ∀ p, H1 p = none → Q (.ref p) (upd H1 p (.tup xs))
def tLst (t : TA) : TE := fun σ H Q => t σ H fun xs H1 => xs.length ≤ sizeLine ∧ ∀ p, H1 p = none → Q (.ref p) (upd H1 p (.lst xs))
theorem pe_tup {x1} (h : PA X es t) : PE X (.Tuple es x1 pos) (tTup t) := by
  intro pins s σ H Q I hq
  refine wpAny_Tuple_spliced (thn (h pos pins s σ H _ I hq) fun us s1 ⟨xs, H1, I1, r, z, q⟩ => ⟨by rw [← r.length]; exact z, ?_⟩)
  have hf : H1 s1.heap.objs.size = none := I1.hok.fresh (Nat.le_refl _)
  refine ⟨.ref s1.heap.objs.size, upd H1 s1.heap.objs.size (.tup xs), I1.laid (t' := s1.toks) (fun b u e => Heap.get?_push_of_some _ e) (Nat.le_refl _) ?_, rfl, q _ hf⟩
  exact ⟨z, us, r, ⟨_, Heap.get?_push_size _ rfl, rfl, _, rfl⟩⟩
theorem pe_lst (h : PA X es t) : PE X (.List es pos) (tLst t) := by
  intro pins s σ H Q I hq
  refine wpAny_List_spliced (thn (h pos pins s σ H _ I hq) fun us s1 ⟨xs, H1, I1, r, z, q⟩ => ⟨by rw [← r.length]; exact z, ?_⟩)
  have hf : H1 s1.heap.objs.size = none := I1.hok.fresh (Nat.le_refl _)
  refine ⟨.ref s1.heap.objs.size, upd H1 s1.heap.objs.size (.lst xs), I1.laid (t' := s1.toks) (fun b u e => Heap.get?_push_of_some _ e) (Nat.le_refl _) ?_, rfl, q _ hf⟩
  exact ⟨z, us, 0, r, Heap.get?_push_size _ rfl⟩
end
abbrev Sp := List V → Hp → VK → XK → Prop
abbrev CXT := List Env → Hp → Shared → XK → Value → Shared → Prop
structure Env0 (P : Program) (w : World) (K : PySem.W.Frag) (mg : Str → Option Value) (base : Heap) (A : Around) (outer : List Env) (s : Shared) (H : Hp) : Prop where
  frames : A.frames = some outer
  mod : Mod K mg base
  bs : ∀ b o, base.get? b = some o → s.heap.get? b = some o ∧ H b = none
  bsz : base.objs.size ≤ s.heap.objs.size
  funs : s.heap.FunFrames base outer
  frf : ∀ b ∈ frs outer, H b = none
  hok : HOk P w H s.heap
  bare : AllBare s.gens
def CE (outer : List Env) (P : Program) (w : World) (H : Hp) (s : Shared) (Q : VK) (u : Value) (s' : Shared) : Prop :=
  ∃ v H', s'.os = s.os ∧ AllBare s'.gens ∧ Un (frs outer) [] H H' s.heap s'.heap ∧ HOk P w H' s'.heap ∧ RelV v u ∧ Q v H'
def CR (CX : CXT) (outer : List Env) (P : Program) (w : World) (H : Hp) (s : Shared) (Q : VK) (E : XK) (r : Result) (s' : Shared) : Prop :=
  match r with
  | .ok (.ret u) => CE outer P w H s Q u s'
  | .ok _ => False
  | .error e => CX outer H s E e s'
structure FnOk (P : Program) (w : World) (K : PySem.W.Frag) (mg : Str → Option Value) (base : Heap) (CX : CXT) (k : Nat) (f : Addr) (fd : FuncData) (ps : List Str) (sp : Sp) : Prop where
  len : ∀ vs H Q E, sp vs H Q E → vs.length = ps.length
  run : ∀ (A : Around) (outer : List Env) (s : Shared) (H : Hp) (args : Args) (us : List Value) (vs : List V) (Q : VK) (E : XK), Room k A → Env0 P w K mg base A outer s H → BindsTo s fd args (ps.zip us) → Vals vs us → sp vs H Q E →
    codeAny (model P w) A (.call (.ref f) args) (CR CX outer P w H s Q E) s
theorem FnOk.mono {P : Program} {w : World} {K : PySem.W.Frag} {mg : Str → Option Value} {base : Heap} {CX : CXT} {j k : Nat} {f : Addr} {fd : FuncData} {ps : List Str} {sp : Sp} (F : FnOk P w K mg base CX j f fd ps sp) (h : j ≤ k) :
    FnOk P w K mg base CX k f fd ps sp := ⟨F.len, fun A outer s H args us vs Q E hr => F.run A outer s H args us vs Q E (hr.mono h)⟩
theorem FnOk.imp {P : Program} {w : World} {K : PySem.W.Frag} {mg : Str → Option Value} {base : Heap} {CX : CXT} {k : Nat} {f : Addr} {fd : FuncData} {ps : List Str} {sp sp' : Sp} (F : FnOk P w K mg base CX k f fd ps sp)
    (h : ∀ vs H Q E, sp' vs H Q E → sp vs H Q E) : FnOk P w K mg base CX k f fd ps sp' :=
  ⟨fun vs H Q E q => F.len vs H Q E (h _ _ _ _ q), fun A outer s H args us vs Q E hr he hb hv hs => F.run A outer s H args us vs Q E hr he hb hv (h _ _ _ _ hs)⟩
theorem Env0.make {P : Program} {w : World} {K : PySem.W.Frag} {mg : Str → Option Value} {base : Heap} {A : Around} {outer : List Env} {s : Shared} {H : Hp} (e : Env0 P w K mg base A outer s H) (C : Addr) (us : List Value) (kw : List (Str × Value)) :
    Env0 P w K mg base (A.under (.builtin "type.__call__" ⟨.ref C :: us, kw⟩)) outer s H := ⟨by first | exact e.frames | (simpa [Around.under, Code.envs, Code.isFrame, pushEnvs] using e.frames), e.mod, e.bs, e.bsz, e.funs, e.frf, e.hok, e.bare⟩
theorem Env0.in1 {P : Program} {w : World} {K : PySem.W.Frag} {mg : Str → Option Value} {base : Heap} {A : Around} {outer : List Env} {s : Shared} {H : Hp} (e : Env0 P w K mg base A outer s H) :
    Env0 P w K mg base A.in1 outer s H := ⟨e.frames, e.mod, e.bs, e.bsz, e.funs, e.frf, e.hok, e.bare⟩
section
variable {X : Cx} {pins : List (Addr × Obj)} {σ : St} {H : Hp} {s s' : Shared}
theorem Inv.env0 (I : Inv X pins σ H s) : Env0 X.prog X.w X.K X.mg X.base X.A X.stack s H :=
  ⟨I.ok.frames, I.ok.mod, I.bs, Nat.le_trans I.ok.bsz I.sz, I.stack, I.stkFree, I.hok, I.bare⟩
theorem Inv.after {Q : VK} {u : Value} (I : Inv X pins σ H s) (h : CE X.stack X.prog X.w H s Q u s') : EP X pins σ Q u s' := by
  obtain ⟨v, H', os, bare, un, hok, r, q⟩ := h
  obtain ⟨hh, g, d, t, os'⟩ := s'
  obtain rfl : os' = s.os := os
  exact ⟨v, H', I.call (h' := hh) (g' := g) (d' := d) (t' := t) (ch := []) un hok bare (fun b z => absurd z (by simp)), r, q⟩
end
def tCall (sp : Sp) (dvs : List V) (E : XK) (t : TA) : TE := fun σ H Q => t σ H fun vs H1 => sp (vs ++ dvs) H1 Q E
def tMeth (C : Addr) (m : Str) (sp : Sp) (dvs : List V) (E : XK) (ta : TE) (t : TA) : TE := fun σ H Q => ta σ H fun x H1 => ∃ a dx fs, x = .ref a ∧ H1 a = some (.ins C dx fs) ∧ fs.lookup m = none ∧
  t σ H1 fun vs H2 => sp (x :: (vs ++ dvs)) H2 Q E
def tMake (C : Addr) (sp : Sp) (dvs : List V) (E : XK) (t : TA) : TE := fun σ H Q => t σ H fun vs H1 => ∀ x dx, H1 x = none → H1 dx = none → dx ≠ x →
  sp (.ref x :: (vs ++ dvs)) (upd (upd H1 dx (.own x)) x (.ins C dx [])) (fun v H2 => v = .non ∧ Q (.ref x) H2) E
def Binds (K : PySem.W.Frag) (fd : FuncData) (ps : List Str) (ds : List Value) : Prop :=
  ∀ (s : Shared) (us : List Value), K.In s.heap → (us ++ ds).length = ps.length → BindsTo s fd ⟨us, []⟩ (ps.zip (us ++ ds))
theorem Binds.all {K : PySem.W.Frag} {fd : FuncData} {ps : List Str} (h : ∀ us : List Value, us.length = ps.length → bindArgs fd ⟨us, []⟩ = pure (ps.zip us)) : Binds K fd ps [] := fun s us _ hl => by
  rw [List.append_nil] at hl ⊢
  exact .of_eq (h us hl)
def Passes (CX : CXT) (X : Cx) (E : XK) : Prop := ∀ (pins : List (Addr × Obj)) (σ : St) (H : Hp) (s : Shared) (e : Value) (s' : Shared), Inv X pins σ H s → CX X.stack H s E e s' → X.xe e s'
section
variable {X : Cx} {CX : CXT} {k : Nat} {f C : Addr} {fd : FuncData} {ps : List Str} {sp : Sp} {dvs : List V} {ds : List Value} {E : XK} {x m : Str} {p pos apos : Pos} {e o : Expr} {es : List Expr} {ta : TE} {t : TA}
theorem run_fn {pins : List (Addr × Obj)} {σ : St} {H : Hp} {s : Shared} {Q : VK} {us : List Value} {vs : List V} (F : FnOk X.prog X.w X.K X.mg X.base CX k f fd ps sp) (hr : Room k X.A) (hb : Binds X.K fd ps ds) (hd : Vals dvs ds) (hx : Passes CX X E)
    (I : Inv X pins σ H s) (r : Vals vs us) (h : sp (vs ++ dvs) H Q E) : wpAny (model X.prog X.w) X.A (call (.ref f) us) (EP X pins σ Q) X.xe s := by
  have r2 : Vals (vs ++ dvs) (us ++ ds) := r.append hd
  have hl : (us ++ ds).length = ps.length := by rw [← r2.length]; exact F.len _ _ _ _ h
  refine wpAny_call (codeAny_mono (F.run X.A X.stack s H ⟨us, []⟩ (us ++ ds) (vs ++ dvs) Q E hr I.env0 (hb s us I.kIn hl) r2 h) fun r s' hq => ?_)
  cases r with
  | error e => exact hx pins σ H s e s' I hq
  | ok fl =>
    cases fl with
    | ret u => exact I.after hq
    | next => exact False.elim hq
    | brk => exact False.elim hq
    | cont => exact False.elim hq
theorem pe_call (F : FnOk X.prog X.w X.K X.mg X.base CX k f fd ps sp) (hr : Room k X.A) (hg : Gl X x) (hm : X.mg x = some (.ref f)) (hk : PySem.W.keepIn X.K (.ref f) = true) (hb : Binds X.K fd ps ds) (hd : Vals dvs ds) (hx : Passes CX X E)
    (ha : PA X (e :: es) t) (hdb : (x == ("__debug__" : Str)) = false := by decide) (he : starEach (e :: es) X.env = (false, eval e X.env) :: starEach es X.env := by rfl) (hpl : (backTo pos (starEach es X.env)).any (·.1) = false := by rfl) :
    PE X (.Call (.Name x p) (e :: es) [] pos) (tCall sp dvs E t) := by
  intro pins s σ H Q I h
  refine wpAny_Call_Name_kw (ld_glob I hg hm ?_ hdb)
  refine PySem.W.callWith_K (h₀ := X.base) I.ok.mod.kin hk (thn (ha pos pins s σ H _ I h) fun us s1 ⟨vs, H1, I1, r, q⟩ => ⟨I1.kIn, ?_⟩) he hpl
  exact run_fn F hr hb hd hx I1 r q
theorem pe_call0 (F : FnOk X.prog X.w X.K X.mg X.base CX k f fd ps sp) (hr : Room k X.A) (hg : Gl X x) (hm : X.mg x = some (.ref f)) (hk : PySem.W.keepIn X.K (.ref f) = true) (hb : Binds X.K fd ps ds) (hd : Vals dvs ds) (hx : Passes CX X E)
    (hdb : (x == ("__debug__" : Str)) = false := by decide) : PE X (.Call (.Name x p) [] [] pos) (tCall sp dvs E tNil) := by
  intro pins s σ H Q I h
  refine wpAny_Call_Name_kw (ld_glob I hg hm ?_ hdb)
  exact PySem.W.callWith_K0 I.kIn hk (run_fn (us := []) F hr hb hd hx I .nil h)
theorem pe_meth {pl : Sem Bool} (he : PE X o ta) (c : Cls X.K C) (hm : Meth X.K C m f) (F : FnOk X.prog X.w X.K X.mg X.base CX k f fd ps sp) (hr : Room k X.A) (hb : Binds X.K fd ps ds) (hd : Vals dvs ds) (hx : Passes CX X E) (ha : PA X (e :: es) t)
    (hst : starEach (e :: es) X.env = (false, eval e X.env) :: starEach es X.env := by rfl) (hpl : (backTo pos (starEach es X.env)).any (·.1) = false := by rfl)
    (ht : eval (.Call (.Attribute o m apos) (e :: es) [] pos) X.env = (do
      let ov ← eval o X.env
      standAt apos.atName
      let (f, first) ← holding [ov] (getMethod ov m pl)
      callWith pos f first (backTo pos (starEach (e :: es) X.env)) (backToKw pos (keywordEach [] X.env))) := by rfl) :
    PE X (.Call (.Attribute o m apos) (e :: es) [] pos) (tMeth C m sp dvs E ta t) := by
  intro pins s σ H Q I h
  refine PySem.W.methodCall_KW (pl := pl) (thn (he pins s σ H _ I h) fun u s1 ⟨x, H1, I1, rx, a, dx, fs, ex, ea, l, q⟩ => ?_) ht
  subst ex
  obtain rfl : u = Value.ref a := rx
  refine getmeth_ok I1 ea c hm l ?_
  refine PySem.W.callWith_K (first := [.ref a]) (h₀ := X.base) I.ok.mod.kin hm.kp (thn (ha pos pins s1 σ H1 _ I1 q) fun us s2 ⟨vs, H2, I2, r, q2⟩ => ⟨I2.kIn, ?_⟩) hst hpl
  exact run_fn (us := .ref a :: us) (vs := .ref a :: vs) F hr hb hd hx I2 (.cons rfl r) q2
theorem pe_meth0 {pl : Sem Bool} (he : PE X o ta) (c : Cls X.K C) (hm : Meth X.K C m f) (F : FnOk X.prog X.w X.K X.mg X.base CX k f fd ps sp) (hr : Room k X.A) (hb : Binds X.K fd ps ds) (hd : Vals dvs ds) (hx : Passes CX X E)
    (ht : eval (.Call (.Attribute o m apos) [] [] pos) X.env = (do
      let ov ← eval o X.env
      standAt apos.atName
      let (f, first) ← holding [ov] (getMethod ov m pl)
      callWith pos f first (backTo pos (starEach [] X.env)) (backToKw pos (keywordEach [] X.env))) := by rfl) :
    PE X (.Call (.Attribute o m apos) [] [] pos) (tMeth C m sp dvs E ta tNil) := by
  intro pins s σ H Q I h
  refine PySem.W.methodCall_KW (pl := pl) (thn (he pins s σ H _ I h) fun u s1 ⟨x, H1, I1, rx, a, dx, fs, ex, ea, l, q⟩ => ?_) ht
  subst ex
  obtain rfl : u = Value.ref a := rx
  refine getmeth_ok I1 ea c hm l ?_
  exact PySem.W.callWith_K0 (first := [.ref a]) I1.kIn hm.kp (run_fn (us := [.ref a]) (vs := [.ref a]) F hr hb hd hx I1 (.cons rfl .nil) q)
structure Mk (K : PySem.W.Frag) (C f : Addr) : Prop where
  makes : PySem.W.makesIn K C = true
  init : PySem.W.findIn K (.ref C) "__init__" = some (some (.ref f))
  fn : PySem.W.isFn K (.ref f) = true
  kp : PySem.W.keepIn K (.ref C) = true
theorem run_make {pins : List (Addr × Obj)} {σ : St} {H : Hp} {s : Shared} {Q : VK} {us : List Value} {vs : List V} (M : Mk X.K C f) (F : FnOk X.prog X.w X.K X.mg X.base CX k f fd ps sp) (hr : Room (k + 1) X.A) (hb : Binds X.K fd ps ds) (hd : Vals dvs ds)
    (hx : Passes CX X E) (I : Inv X pins σ H s) (r : Vals vs us)
    (h : ∀ x dx, H x = none → H dx = none → dx ≠ x → sp (.ref x :: (vs ++ dvs)) (upd (upd H dx (.own x)) x (.ins C dx [])) (fun v H2 => v = .non ∧ Q (.ref x) H2) E) :
    wpAny (model X.prog X.w) X.A (call (.ref C) us) (EP X pins σ Q) X.xe s := by
  have hq := h (s.heap.objs.size + 1) s.heap.objs.size (I.hok.fresh (Nat.le_succ _)) (I.hok.fresh (Nat.le_refl _)) (Nat.ne_of_lt (Nat.lt_succ_self _))
  have I2 := Inv.made (C := C) I
  have r2 : Vals (V.ref (s.heap.objs.size + 1) :: (vs ++ dvs)) (Value.ref (s.heap.objs.size + 1) :: (us ++ ds)) := .cons rfl (r.append hd)
  have hl : (Value.ref (s.heap.objs.size + 1) :: us ++ ds).length = ps.length := by
    have e := r2.length
    rw [F.len _ _ _ _ hq] at e
    exact e.symm
  refine wpAny_call (make_map (f := f) I.kIn M.makes M.init (beq_iff_eq.mp M.fn) (codeAny_mono (F.run _ X.stack _ _ ⟨Value.ref (s.heap.objs.size + 1) :: us, []⟩ (Value.ref (s.heap.objs.size + 1) :: (us ++ ds)) _ _ E (hr.make C us [])
    (I2.env0.make C us []) (hb _ (Value.ref (s.heap.objs.size + 1) :: us) I2.kIn hl) r2 hq) fun r s' hq' => ?_))
  cases r with
  | error e => exact hx pins σ _ _ e s' I2 hq'
  | ok fl =>
    cases fl with
    | ret u =>
      obtain ⟨v, H', I3, rv, ev, q3⟩ := I2.after hq'
      subst ev
      exact ⟨rv, ⟨V.ref (s.heap.objs.size + 1), H', I3, rfl, q3⟩⟩
    | next => exact False.elim hq'
    | brk => exact False.elim hq'
    | cont => exact False.elim hq'
theorem pe_make0 (M : Mk X.K C f) (F : FnOk X.prog X.w X.K X.mg X.base CX k f fd ps sp) (hr : Room (k + 1) X.A) (hg : Gl X x) (hm : X.mg x = some (.ref C)) (hb : Binds X.K fd ps ds) (hd : Vals dvs ds) (hx : Passes CX X E)
    (hdb : (x == ("__debug__" : Str)) = false := by decide) : PE X (.Call (.Name x p) [] [] pos) (tMake C sp dvs E tNil) := by
  intro pins s σ H Q I h
  refine wpAny_Call_Name_kw (ld_glob I hg hm ?_ hdb)
  exact PySem.W.callWith_K0 I.kIn M.kp (run_make (us := []) M F hr hb hd hx I .nil h)
end
section
variable {X : Cx} {CX : CXT} {k : Nat} {f C : Addr} {fd : FuncData} {ps ks : List Str} {sp : Sp} {E : XK} {x m : Str} {p pos apos kpos : Pos} {e o : Expr} {es : List Expr} {kws : List Keyword} {te ta : TE} {t tk : TA} {nm : Option Str}
structure KBinds (K : PySem.W.Frag) (fd : FuncData) (ps ks : List Str) (g : List Value → List Value → List Value) (gV : List V → List V → List V) : Prop where
  to : ∀ (s : Shared) (us ws : List Value), K.In s.heap → (g us ws).length = ps.length → BindsTo s fd ⟨us, ks.zip ws⟩ (ps.zip (g us ws))
  rel : ∀ {vs : List V} {us : List Value} {zs : List V} {ws : List Value}, Vals vs us → Vals zs ws → Vals (gV vs zs) (g us ws)
variable {g : List Value → List Value → List Value} {gV : List V → List V → List V}
end
structure FnScope (N P : List Str) (sc : Scope) : Prop where
  kind : sc.kind = .function
  co : sc.isCoroutine = false
  gen : sc.isGenerator = false
  nd : N.Nodup
  pre : N.take P.length = P
  par : ∀ x ∈ P, sc.names.lookup x = some .local ∨ sc.names.lookup x = some .cell
  nofree : ∀ y ∈ sc.names, y.2 ≠ .free
theorem bindL_out {kindOf : Str → Option NameKind} {x : Str} : ∀ {binds : List (Str × Value)} {m : Str → Option Value}, (∀ v, (x, v) ∉ binds) → bindL kindOf binds m x = m x
  | [], _, _ => rfl
  | (n, v) :: r, m, h => by
    unfold bindL
    rw [bindL_out fun w hw => h w (List.mem_cons_of_mem _ hw)]
    split
    · have : x ≠ n := by rintro rfl; exact h v List.mem_cons_self
      simp [this]
    · rfl
theorem bindC_out {kindOf : Str → Option NameKind} {x : Str} : ∀ {binds : List (Str × Value)} {m : Str → Option Value}, (∀ v, (x, v) ∉ binds) → bindC kindOf binds m x = m x
  | [], _, _ => rfl
  | (n, v) :: r, m, h => by
    unfold bindC
    rw [bindC_out fun w hw => h w (List.mem_cons_of_mem _ hw)]
    split
    · rfl
    · have : x ≠ n := by rintro rfl; exact h v List.mem_cons_self
      simp [this]
theorem bindL_get {kindOf : Str → Option NameKind} {x : Str} {v : Value} : ∀ {P : List Str} {vs : List Value} {i : Nat} {m : Str → Option Value}, P.Nodup → P[i]? = some x → vs[i]? = some v → kindOf x = some .local →
    bindL kindOf (P.zip vs) m x = some v
  | [], _, _, _, _, h, _, _ => by simp at h
  | _ :: _, [], _, _, _, _, h, _ => by simp at h
  | p :: P, w :: vs, 0, m, nd, h1, h2, hk => by
    simp at h1 h2; subst h1; subst h2
    show bindL kindOf ((p, w) :: P.zip vs) m p = _
    unfold bindL
    rw [bindL_out fun v hv => (List.nodup_cons.mp nd).1 (List.of_mem_zip hv).1, if_pos hk]
    simp
  | p :: P, w :: vs, i + 1, m, nd, h1, h2, hk => by
    show bindL kindOf ((p, w) :: P.zip vs) m x = _
    unfold bindL
    exact bindL_get (i := i) (List.nodup_cons.mp nd).2 (by simpa using h1) (by simpa using h2) hk
theorem bindC_get {kindOf : Str → Option NameKind} {x : Str} {v : Value} : ∀ {P : List Str} {vs : List Value} {i : Nat} {m : Str → Option Value}, P.Nodup → P[i]? = some x → vs[i]? = some v → kindOf x ≠ some .local →
    bindC kindOf (P.zip vs) m x = some v
  | [], _, _, _, _, h, _, _ => by simp at h
  | _ :: _, [], _, _, _, _, h, _ => by simp at h
  | p :: P, w :: vs, 0, m, nd, h1, h2, hk => by
    simp at h1 h2; subst h1; subst h2
    show bindC kindOf ((p, w) :: P.zip vs) m p = _
    unfold bindC
    rw [bindC_out fun v hv => (List.nodup_cons.mp nd).1 (List.of_mem_zip hv).1, if_neg hk]
    simp
  | p :: P, w :: vs, i + 1, m, nd, h1, h2, hk => by
    show bindC kindOf ((p, w) :: P.zip vs) m x = _
    unfold bindC
    exact bindC_get (i := i) (List.nodup_cons.mp nd).2 (by simpa using h1) (by simpa using h2) hk
def start (N : List Str) (vs : List V) : St := vs.map some ++ List.replicate (N.length - vs.length) none
def cxOf (CX : CXT) (P : Program) (w : World) (K : PySem.W.Frag) (mg : Str → Option Value) (base : Heap) (N : List Str) (qual : Str) (scope : Scope) (f : Addr) (cd : Value) (A : Around) (outer : List Env) (s : Shared) (H : Hp) (E : XK) : Cx where
  prog := P
  w := w
  K := K
  mg := mg
  base := base
  A := A.deeper (envOfC qual scope s.heap.objs.size f cd)
  N := N
  s_0 := s
  H_0 := H
  env := envOfC qual scope s.heap.objs.size f cd
  outer := outer
  stack := envOfC qual scope s.heap.objs.size f cd :: outer
  ex := []
  calm := true
  fn := fun _ => true
  pn := []
  xe := fun e s' => wpAny (model P w) (A.deeper (envOfC qual scope s.heap.objs.size f cd)) (leaving (envOfC qual scope s.heap.objs.size f cd) e) (fun _ s'' => CX outer H s E e s'') (fun e' s'' => CX outer H s E e' s'') s'
theorem cell_has {sc : Scope} {n : Nat} {x : Str} (h : sc.names.lookup x = some .cell) : ∃ c, (cellsFrom n sc.names []).lookup x = some c := by
  have q := PySem.W.cellsFrom_some sc.names n [] (.inl h)
  exact Option.isSome_iff_exists.mp q
theorem inv_start {CX : CXT} {P : Program} {w : World} {K : PySem.W.Frag} {mg : Str → Option Value} {base : Heap} {N ps : List Str} {qual : Str} {scope : Scope} {f : Addr} {cd : Value} {A : Around} {outer : List Env} {s s1 : Shared} {H : Hp} {E : XK} {us : List Value} {vs : List V}
    (S : FnScope N ps scope) (hd : A.handled = none) (e0 : Env0 P w K mg base A outer s H) (hl : vs.length = ps.length) (r : Vals vs us)
    (x : InCallC s s.heap.objs.size (bindL (envOfC qual scope s.heap.objs.size f cd).kindOf (ps.zip us) fun _ => none) (cellsFrom (s.heap.objs.size + 1) scope.names []) (bindC (envOfC qual scope s.heap.objs.size f cd).kindOf (ps.zip us) fun _ => none) s1) :
    Inv (cxOf CX P w K mg base N qual scope f cd A outer s H E) [] (start N vs) H s1 := by
  have hpl : ps.length ≤ N.length := by have := congrArg List.length S.pre; rw [List.length_take] at this; omega
  obtain ⟨h1, tk, rfl, hk⟩ := x.done
  have noA : ∀ b : Addr, b ∉ (cxOf CX P w K mg base N qual scope f cd A outer s H E).ex := fun b z => absurd (show b ∈ ([] : List Addr) from z) (by simp)
  refine ⟨⟨e0.mod, S.kind, rfl, rfl, Nat.le_refl _, fun y z c h1 h2 => ?_, fun y hy => ?_, fun y c _ h => ?_, fun _ => hd, Around.frames_deeper e0.frames, .inr ⟨rfl, rfl⟩, fun b z => absurd z (noA b), e0.bs, e0.bsz, fun b _ _ => noA b, fun b z => absurd z (noA b), e0.funs, e0.frf⟩,
    rfl, e0.bare, Un.kept hk, ⟨_, x.toInCall.ns, fun i y v h1 h2 h3 => ?_⟩, fun y c h => ⟨_, x.cell y c h⟩, e0.hok.fresh (Nat.le_refl _), fun y c h => ?_, fun p hp => absurd (show p ∈ ([] : List (Addr × Obj)) from hp) (by simp), e0.hok.kept hk, ?_⟩
  · exact name_of_addr x.apart (PySem.mem_of_lookup h1) (PySem.mem_of_lookup h2)
  · have hy : scope.names.lookup y = some .cell ∨ scope.names.lookup y = some .free := hy
    rcases hy with hy | hy
    · exact cell_has hy
    · exact absurd rfl (S.nofree _ (PySem.mem_of_lookup hy))
  · exact Nat.le_of_lt (x.above y c (PySem.mem_of_lookup h))
  · have hi : i < vs.length := by
      unfold start at h2
      by_cases hi : i < vs.length
      · exact hi
      · rw [List.getElem?_append_right (by simpa using hi)] at h2
        rw [List.getElem?_replicate] at h2
        split at h2 <;> cases h2
    have ha : vs[i]? = some v := by
      unfold start at h2
      rw [List.getElem?_append_left (by simpa using hi), List.getElem?_map] at h2
      cases e : vs[i]? with
      | none => rw [e] at h2; cases h2
      | some a => rw [e] at h2; cases h2; rfl
    obtain ⟨u, hu, rv⟩ := r.get ha
    have hp : ps[i]? = some y := by
      rw [← S.pre, List.getElem?_take_of_lt (by omega)]; exact h1
    have ndP : ps.Nodup := by rw [← S.pre]; exact S.nd.sublist (List.take_sublist _ _)
    refine ⟨u, rv, ?_⟩
    rcases S.par y (List.mem_of_getElem? hp) with k | k
    · exact .inl ⟨k, bindL_get ndP hp hu k⟩
    · obtain ⟨c, e⟩ := cell_has (n := s.heap.objs.size + 1) k
      refine .inr ⟨.inl k, c, e, ?_⟩
      have q := x.cell y c e
      rw [bindC_get ndP hp hu (by show scope.names.lookup y ≠ _; rw [k]; decide)] at q
      exact q
  · exact e0.hok.fresh (Nat.le_of_lt (x.above y c (PySem.mem_of_lookup h)))
  · unfold start
    show _ = N.length
    rw [List.length_append, List.length_map, List.length_replicate]
    omega
theorem fn_of {CX : CXT} {P : Program} {w : World} {K : PySem.W.Frag} {mg : Str → Option Value} {base : Heap} {k : Nat} {f : Addr} {name qual : Str} {params : Arguments} {body : List Stmt} {scope : Scope} {dV kV doc pm cdv ct oc : Value} {an od : Option Addr}
    {osl : Array (Option Value)} {N ps : List Str} {sp : Sp} (lk : K.lookup f = some ⟨oc, od, .func (PySem.W.fnOf name qual params body scope dV kV doc pm an cdv ct), osl⟩) (hcd : PySem.W.codeIn K cdv qual = true) (S : FnScope N ps scope)
    (len : ∀ vs H Q E, sp vs H Q E → vs.length = ps.length)
    (hbody : ∀ (A : Around) (outer : List Env) (s : Shared) (H : Hp) (vs : List V) (Q : VK) (E : XK), Room k (A.deeper (envOfC qual scope s.heap.objs.size f cdv)) → sp vs H Q E →
      ∃ t, PSs (cxOf CX P w K mg base N qual scope f cdv A outer s H E) body t ∧ t { nx := fun _ H' => Q .non H', rt := Q } (start N vs) H) :
    FnOk P w K mg base CX (k + 1) f (PySem.W.fnOf name qual params body scope dV kV doc pm an cdv ct) ps sp := by
  refine ⟨len, fun A outer s H args us vs Q E hr e0 hb r hsp => ?_⟩
  have hl := len _ _ _ _ hsp
  have KX : K.In s.heap := e0.mod.kin.keeps fun b o e => (e0.bs b o e).1
  have lim : s.heap.NoLimit := e0.mod.nolimit.keeps fun b o e => (e0.bs b o e).1
  have hkind : ∀ y ∈ ps.zip us, scope.names.lookup y.1 = some .local ∨ (scope.names.lookup y.1 = some .cell ∧ ((cellsFrom (s.heap.objs.size + 1) scope.names []).lookup y.1).isSome = true) := fun ⟨n, v⟩ hy => by
    rcases S.par n (List.of_mem_zip hy).1 with q | q
    · exact .inl q
    · exact .inr ⟨q, PySem.W.cellsFrom_some _ _ _ (.inl q)⟩
  refine codeAny_call_function hr.depth (KX _ _ lk) rfl S.co S.gen rfl (PySem.W.codeRec_of KX hcd) (hb _ _ _ _ ?_)
  refine wpAny_newFunctionEnv_cells S.kind hkind fun env he s1 x => ?_
  subst he
  refine ⟨lim.keeps x.toInCall.keep, codeAny_func ?_⟩
  obtain ⟨t, ht, hq⟩ := hbody A outer s H vs Q E (hr.deeper _) hsp
  have I : Inv (cxOf CX P w K mg base N qual scope f cdv A outer s H E) [] (start N vs) H s1 := inv_start S hr.hd e0 hl r x
  refine wpAny_mono (ht [] s1 (start N vs) H _ I hq) (fun fl s' hs => ?_) fun e s' hs => hs
  have fin : ∀ {σ' : St} {H' : Hp} {v : V} {u : Value}, Inv (cxOf CX P w K mg base N qual scope f cdv A outer s H E) [] σ' H' s' → RelV v u → Q v H' → CE outer P w H s Q u s' :=
    fun {σ' H' v u} J rv q => ⟨v, H', J.os, J.bare, J.base, J.hok, rv, q⟩
  cases fl with
  | ret u =>
    obtain ⟨v, σ', H', J, rv, q⟩ := hs
    exact fin J rv q
  | next =>
    obtain ⟨σ', H', J, q⟩ := hs
    exact fin (v := V.non) (u := Value.none) J rfl q
  | brk =>
    obtain ⟨_, _, _, q⟩ := hs
    exact False.elim q
  | cont =>
    obtain ⟨_, _, _, q⟩ := hs
    exact False.elim q
end L2
namespace L2
open PySem PySem.Spec PyProof.Rows
section
variable {X : Cx} {x : Str} {p pos : Pos} {e : Expr} {es : List Expr} {t : TA} {id T : String} {r : List V → Hp → VK → Prop}
def tCB (r : List V → Hp → VK → Prop) (t : TA) : TE := fun σ H Q => t σ H fun vs H1 => r vs H1 Q
theorem pe_callB (hc : CallR X (.builtin id) r) (hg : Gl X x) (hm : X.mg x = none) (hv : bootBuiltins x = some (.builtin id)) (ha : PA X (e :: es) t) (hn : x ≠ "__name__" := by decide) (hdb : (x == ("__debug__" : Str)) = false := by decide)
    (he : starEach (e :: es) X.env = (false, eval e X.env) :: starEach es X.env := by rfl) (hpl : (backTo pos (starEach es X.env)).any (·.1) = false := by rfl) : PE X (.Call (.Name x p) (e :: es) [] pos) (tCB r t) := by
  intro pins s σ H Q I h
  refine wpAny_Call_Name_kw (ld_blt I hg hm hv ?_ hn hdb)
  exact PyProof.Rows.callWith_builtin1 (thn (ha pos pins s σ H _ I h) fun us s1 ⟨vs, H1, I1, r1, q1⟩ => hc pins s1 σ H1 vs us Q I1 r1 q1) he hpl
theorem pe_callTy (hc : CallR X (.type T) r) (hg : Gl X x) (hm : X.mg x = none) (hv : bootBuiltins x = some (.type T)) (ha : PA X (e :: es) t) (hn : x ≠ "__name__" := by decide) (hdb : (x == ("__debug__" : Str)) = false := by decide)
    (he : starEach (e :: es) X.env = (false, eval e X.env) :: starEach es X.env := by rfl) (hpl : (backTo pos (starEach es X.env)).any (·.1) = false := by rfl) : PE X (.Call (.Name x p) (e :: es) [] pos) (tCB r t) := by
  intro pins s σ H Q I h
  refine wpAny_Call_Name_kw (ld_blt I hg hm hv ?_ hn hdb)
  exact PyProof.Rows.callWith_type1 (thn (ha pos pins s σ H _ I h) fun us s1 ⟨vs, H1, I1, r1, q1⟩ => hc pins s1 σ H1 vs us Q I1 r1 q1) he hpl
end
end L2
namespace HT
open PySem PyProof.Rows
def lexLt : List Int → List Int → Bool
  | [], [] => false
  | [], _ :: _ => true
  | _ :: _, [] => false
  | x :: xs, y :: ys => if x = y then lexLt xs ys else decide (x < y)
theorem lexLt_cons (x y : Int) (xs ys : List Int) : lexLt (x :: xs) (y :: ys) = if x = y then lexLt xs ys else decide (x < y) := rfl
theorem lexLt_nil_nil : lexLt [] [] = false := rfl
theorem lexLt_nil_cons (y : Int) (ys : List Int) : lexLt [] (y :: ys) = true := rfl
theorem lexLt_cons_nil (x : Int) (xs : List Int) : lexLt (x :: xs) [] = false := rfl
theorem eqAt_int (A : Around) (s : Shared) (a : Int) (t : Tok) (c : Int) (u : Tok) : ∃ e, SeqAt.EqAt A s (.int a t) (.int c u) e ∧ (e = true ↔ a = c) :=
  ⟨(a == c), SeqAt.EqAt.int_int a t c u, by simp⟩
theorem rcLt_int (A : Around) (s : Shared) (a : Int) (t : Tok) (c : Int) (u : Tok) (prog : Program) (w : World) (E : Value → Shared → Prop) (Q : Value → Shared → Prop) (h : Q (.bool (decide (a < c))) s) :
    wpAny (model prog w) A (richCompare .Lt (.int a t) (.int c u)) Q E s :=
  (PyProof.Rows.lt_int h : wpAny (model prog w) A (compareOp .Lt (.int a t) (.int c u)) Q E s)
section
open PySem.SeqAt
open PySem.AutoSeq1 (wpAny_loadPart')
open PySem.MeetsSeq PySem.MeetsSeq2 PySem.MeetsSeq3
theorem tuple_lt_ints (l b : Addr) (items items2 : Array Value) (n n2 : Nat) (dd dd2 : Option Addr) (sl sl2 : Array (Option Value)) (ns ms : List Int) (hi : IntsAre items.toList ns) (hj : IntsAre items2.toList ms) :
    Meets (Builtin.«tuple.__lt__» ⟨[.ref l, .ref b], []⟩)
      (fun _ R s => s.heap.get? l = some { cls := .type "tuple", dict := dd, data := .seq items n, slots := sl } ∧ s.heap.get? b = some { cls := .type "tuple", dict := dd2, data := .seq items2 n2, slots := sl2 } ∧
        R (.ok (.ret (.bool (lexLt ns ms)))) s) :=
  .of_wp fun prog w A R s h => by
    obtain ⟨hp, g, d, tk, os⟩ := s; obtain ⟨hl, hb, h⟩ := h
    have f2 := AutoSeq1.sub_tuple_tuple
    have z1 : items.size = ns.length := by rw [← hi.length]; simp
    have z2 : items2.size = ms.length := by rw [← hj.length]; simp
    wp_walk using wpAny_loadPart' hl, wpAny_loadPart' hb, wpAny_forIn_list _ (fun rest b s' => b.1 = none ∧ s' = ⟨hp, g, d, tk, os⟩ ∧ ∃ (vs ws : List Value) (ns' ms' : List Int), rest = vs.zip ws ∧
      IntsAre vs ns' ∧ IntsAre ws ms' ∧ ns'.length + items2.size = ms'.length + items.size ∧ R (.ok (.ret (.bool (lexLt ns' ms')))) ⟨hp, g, d, tk, os⟩) _
    case turn =>
      rintro ⟨y, x⟩ rest b s' ⟨hb', rfl, vs, ws, ns', ms', hz, hvi, hwi, hlen, hR⟩
      cases hvi with
      | nil => rw [List.zip_nil_left] at hz; cases hz
      | cons a t hvi' =>
        cases hwi with
        | nil => rw [List.zip_nil_right] at hz; cases hz
        | cons c u hwi' =>
          rw [List.zip_cons_cons] at hz
          injection hz with hyx hrest
          injection hyx with hy hx
          subst hy hx
          rw [lexLt_cons] at hR
          simp only [List.length_cons] at hlen
          obtain ⟨e, he, hiff⟩ := eqAt_int A.in1 ⟨hp, g, d, tk, os⟩ a t c u
          refine wpAny_bind (he prog w _ _ ?_)
          cases e with
          | true =>
            rw [if_pos (hiff.mp rfl)] at hR
            wp_walk
            exact ⟨rfl, rfl, _, _, _, _, hrest, hvi', hwi', by omega, hR⟩
          | false =>
            rw [if_neg (fun q => absurd (hiff.mpr q) Bool.false_ne_true)] at hR
            have hri := rcLt_int A.in1 ⟨hp, g, d, tk, os⟩ a t c u prog w
            wp_walk using hri
            exact ⟨_, rfl, by simpa using hR⟩
    case fin =>
      rintro ⟨b1, b2⟩ s' ⟨hb', rfl, vs, ws, ns', ms', hz, hvi, hwi, hlen, hR⟩
      simp only at hb'
      subst hb'
      have hv : lexLt ns' ms' = decide (items.size < items2.size) := by
        cases hvi with
        | nil =>
          cases hwi with
          | nil =>
            simp only [List.length_nil] at hlen
            rw [lexLt_nil_nil]
            exact (decide_eq_false (by omega)).symm
          | cons c u hw =>
            simp only [List.length_nil, List.length_cons] at hlen
            rw [lexLt_nil_cons]
            exact (decide_eq_true (by omega)).symm
        | cons a t hv =>
          cases hwi with
          | nil =>
            simp only [List.length_nil, List.length_cons] at hlen
            rw [lexLt_cons_nil]
            exact (decide_eq_false (by omega)).symm
          | cons c u hw =>
            rw [List.zip_cons_cons] at hz
            cases hz
      rw [hv] at hR
      wp_walk
      exact ⟨_, rfl, by simpa [Builtin.Tuple.tupleCompareSizes] using hR⟩
    case h =>
      exact ⟨rfl, rfl, items.toList, items2.toList, ns, ms, rfl, hi, hj, by omega, h⟩
end
section
variable {prog : Program} {w : World} {A : Around} {E : Value → Shared → Prop} {s : Shared}
theorem lt_tupInts {l b : Addr} {items items2 : Array Value} {ns ms : List Int} {Q : Value → Shared → Prop} (hl : IsTup s.heap l items) (hb : IsTup s.heap b items2) (hi : IntsAre items.toList ns) (hj : IntsAre items2.toList ms)
    (hu : A.units < cLine) (h : Q (.bool (lexLt ns ms)) s) : wpAny (model prog w) A (compareOp .Lt (.ref l) (.ref b)) Q E s := by
  obtain ⟨⟨cls, dd, data, sl⟩, ho, hc, n, hd⟩ := id hl
  obtain ⟨⟨cls2, dd2, data2, sl2⟩, ho2, hc2, n2, hd2⟩ := id hb
  simp only at hc hd hc2 hd2
  subst hc hd hc2 hd2
  exact richCompare_meets_room (op := .Lt) ⟨_, ho, rfl⟩ ⟨_, ho2, rfl⟩ PySem.F.slot_tuple_lt PySem.F.entry_tuple_lt (PySem.F.args_tuple_lt_2 _ _) (tuple_lt_ints l b items items2 n n2 dd dd2 sl sl2 ns ms hi hj)
    ⟨ho, ho2, show Value.bool (lexLt ns ms) ≠ Value.notImplemented ∧ Q (.bool (lexLt ns ms)) s from ⟨(fun x => nomatch x), h⟩⟩ hu
theorem cat_tup {t b : Addr} {vs ws : List Value} {Q : Value → Shared → Prop} (ht : IsTup s.heap t vs.toArray) (hb : IsTup s.heap b ws.toArray) (hv : vs ≠ [])
    (h1 : ws = [] → Q (.ref t) s) (h2 : ws ≠ [] → Q (.ref s.heap.objs.size) { s with heap := s.heap.push { cls := .type "tuple", data := .seq (vs ++ ws).toArray } })
    (hsz : vs.length + ws.length ≤ sizeLine) : wpAny (model prog w) A (binaryOp .Add (.ref t) (.ref b)) Q E s := by
  obtain ⟨⟨cls, dd, data, sl⟩, ho, hc, n, hd⟩ := id ht
  obtain ⟨⟨cls2, dd2, data2, sl2⟩, ho2, hc2, n2, hd2⟩ := id hb
  simp only at hc hd hc2 hd2
  subst hc hd hc2 hd2
  have e : vs.toArray ++ ws.toArray = (vs ++ ws).toArray := by simp
  by_cases hw : ws = []
  · exact concat_meets ⟨_, ho, rfl⟩ ⟨_, ho2, rfl⟩ noFill_tuple_add seq_tuple_add PySem.F.slot_tuple_add PySem.F.entry_tuple_add (PySem.F.args_tuple_add_2 _ _)
      (tuple_addW1 t b vs.toArray ws.toArray n n2 dd dd2 sl sl2 (by simpa using hv) (by simp [hw])) ⟨ho, ho2, h1 hw⟩
  · refine concat_meets ⟨_, ho, rfl⟩ ⟨_, ho2, rfl⟩ noFill_tuple_add seq_tuple_add PySem.F.slot_tuple_add PySem.F.entry_tuple_add (PySem.F.args_tuple_add_2 _ _)
      (tuple_addW2 t b vs.toArray ws.toArray n n2 dd dd2 sl sl2 (by simpa using hv) (by simpa using hw) (by rw [List.size_toArray, List.size_toArray]; exact hsz)) ⟨ho, ho2, ?_⟩
    rw [e]
    exact h2 hw
def sIx (n d : Nat) : Option Int → Nat
  | none => d
  | some v => if v < 0 then (v + (n : Int)).toNat else min v.toNat n
theorem sIx_none (n d : Nat) : sIx n d none = d := rfl
theorem sIx_nat (n d k : Nat) : sIx n d (some (k : Int)) = min k n := by
  show (if (k : Int) < 0 then ((k : Int) + (n : Int)).toNat else min (k : Int).toNat n) = min k n
  rw [if_neg (by omega), Int.toNat_natCast]
end
end HT
namespace L2
open PySem PySem.Spec PyProof.Rows
abbrev TO := St → Hp → (Option Int → Hp → Prop) → Prop
def PO (X : Cx) (e : Option Expr) (t : TO) : Prop :=
  ∀ (pins : List (Addr × Obj)) (s : Shared) (σ : St) (H : Hp) (Q : Option Int → Hp → Prop), Inv X pins σ H s → t σ H Q →
    wpAny (model X.prog X.w) X.A (evalPart e X.env) (fun u s' => ∃ o H', Inv X pins σ H' s' ∧ IsPart u o ∧ Q o H') X.xe s
def tNoPart : TO := fun _ H Q => Q none H
def tPart (t : TE) : TO := fun σ H Q => t σ H fun x H1 => ∃ i, x = .int i ∧ Q (some i) H1
theorem intsAre_of {ns : List Int} : ∀ {us : List Value}, Vals (ns.map V.int) us → IntsAre us ns := by
  induction ns with
  | nil => intro us r; rw [List.map_nil] at r; cases r; exact .nil
  | cons n ns ih =>
    intro us r
    rw [List.map_cons] at r
    cases r with
    | cons r1 r2 =>
      obtain ⟨t, e⟩ := r1
      subst e
      exact .cons n t (ih r2)
section
variable {X : Cx} {e : Expr} {te : TE} {lo hi : Option Expr} {tl th : TO} {pos p2 : Pos}
theorem po_none : PO X none tNoPart := by
  intro pins s σ H Q I h
  rw [evalPart_none]
  exact wpAny_pure ⟨none, H, I, .none, h⟩
theorem po_some (h : PE X e te) : PO X (some e) (tPart te) := by
  intro pins s σ H Q I hw
  rw [evalPart_some]
  refine thn (h pins s σ H _ I hw) fun u s1 ⟨x, H1, I1, r1, q1⟩ => ?_
  obtain ⟨i, rfl, q⟩ := q1
  obtain ⟨t, rfl⟩ := r1
  exact ⟨some i, H1, I1, .int i t, q⟩
def SlR (X : Cx) (r : V → Option Int → Option Int → Hp → VK → Prop) : Prop :=
  ∀ (pins : List (Addr × Obj)) (s : Shared) (σ : St) (H : Hp) (x : V) (v vl vu : Value) (lo hi : Option Int) (sl : Addr) (Q : VK), Inv X pins σ H s → RelV x v → s.heap.IsSliceOf sl vl vu .none → IsPart vl lo → IsPart vu hi → r x lo hi H Q →
    ∃ T id, typeLookup (.type T) "__getitem__" = pure (some (.builtin id)) ∧ s.TypeIs v T ∧ wpAny (model X.prog X.w) X.A (getItem v (.ref sl)) (EP X pins σ Q) X.xe s
def tSl (r : V → Option Int → Option Int → Hp → VK → Prop) (te : TE) (tl th : TO) : TE := fun σ H Q => te σ H fun x H1 => tl σ H1 fun l H2 => th σ H2 fun u H3 => r x l u H3 Q
theorem pe_slice {r : V → Option Int → Option Int → Hp → VK → Prop} (hr : SlR X r) (he : PE X e te) (hl : PO X lo tl) (hu : PO X hi th) : PE X (.Subscript e (.Slice lo hi none p2) pos) (tSl r te tl th) := by
  intro pins s σ H Q I h
  refine Subscript_ (thn (he pins s σ H _ I h) fun v s1 ⟨x, H1, I1, r1, q1⟩ => ?_)
  refine wpAny_Slice (thn (hl pins s1 σ H1 _ I1 q1) fun vl s2 ⟨l, H2, I2, pl, q2⟩ => thn (hu pins s2 σ H2 _ I2 q2) fun vu s3 ⟨u, H3, I3, pu, q3⟩ => ?_)
  rw [evalPart_none]
  refine wpAny_pure ?_
  have I4 : Inv X pins σ H3 { s3 with heap := s3.heap.push { cls := .type "slice", data := .fields #[vl, vu, .none] } } := I3.kept (t' := s3.toks) fun b ob q => Heap.get?_push_of_some _ q
  obtain ⟨T, id, hT, ht, hg⟩ := hr pins { s3 with heap := s3.heap.push { cls := .type "slice", data := .fields #[vl, vu, .none] } } σ H3 x v vl vu l u s3.heap.objs.size Q I4 r1 (Heap.IsSliceOf.new ..) pl pu q3
  show wpAny (model X.prog X.w) X.A (subscriptTail e (.Slice lo hi none p2) v (.ref s3.heap.objs.size)) (EP X pins σ Q) X.xe { s3 with heap := s3.heap.push { cls := .type "slice", data := .fields #[vl, vu, .none] } }
  exact tail_any (ops := [.ref s3.heap.objs.size, v]) ht hT hg (by with_unfolding_all rfl)
def cutV (xs : List V) (lo hi : Option Int) : List V := (xs.drop (HT.sIx xs.length 0 lo)).take (HT.sIx xs.length xs.length hi - HT.sIx xs.length 0 lo)
theorem cutV_length (xs : List V) (lo hi : Option Int) : (cutV xs lo hi).length ≤ xs.length := by
  unfold cutV
  rw [List.length_take, List.length_drop]
  omega
def rCatT (K : PySem.W.Frag) : R2 := fun x y H Q => ∃ a b xs ys, x = .ref a ∧ y = .ref b ∧ SqT K H a xs ∧ SqT K H b ys ∧ xs ≠ [] ∧ xs.length + ys.length ≤ sizeLine ∧
  (ys = [] → Q (.ref a) H) ∧ (ys ≠ [] → ∀ p, H p = none → Q (.ref p) (upd H p (.tup (xs ++ ys))))
theorem Vals.nil_iff {xs : List V} {us : List Value} (r : Vals xs us) : us = [] ↔ xs = [] := by
  cases r with
  | nil => simp
  | cons _ _ => simp
theorem op_catT : OpR X (binaryOp .Add) (rCatT X.K) := by
  intro pins s σ H x y v u Q I rx ry h
  obtain ⟨a, b, xs, ys, rfl, rfl, ha, hb, hx, hz, q1, q2⟩ := h
  cases rx
  cases ry
  obtain ⟨its, r1, p1, _⟩ := I.tuple ha
  obtain ⟨its2, r2, p2, _⟩ := I.tuple hb
  refine HT.cat_tup p1 p2 (fun z => hx (r1.nil_iff.mp z)) (fun z => ⟨.ref a, H, I, rfl, q1 (r2.nil_iff.mp z)⟩) (fun z => ?_) (by rw [← r1.length, ← r2.length]; exact hz)
  refine ⟨.ref s.heap.objs.size, _, I.laid (t' := s.toks) (o := .tup (xs ++ ys)) (fun b ob q => Heap.get?_push_of_some _ q) (Nat.le_refl _) ?_, rfl, q2 (fun w => z (r2.nil_iff.mpr w)) _ (I.hok.fresh (Nat.le_refl _))⟩
  exact ⟨by rw [List.length_append]; exact hz, _, r1.append r2, IsTup.new _ _⟩
end
end L2
namespace L2
open PySem PySem.Spec PyProof.Rows
def ixN (n : Nat) (i : Int) : Option Nat := if 0 ≤ i then (if i < n then some i.toNat else none) else if -(n : Int) ≤ i then some (i + n).toNat else none
def atI {α : Type} (xs : List α) (i : Int) : Option α := (ixN xs.length i).bind fun j => xs[j]?
theorem ixN_seq {n : Nat} {i : Int} {j : Nat} (h : ixN n i = some j) : seqIndex? i n = some j ∧ j < n ∧ -(n : Int) ≤ i ∧ i < n := by
  unfold ixN at h
  by_cases h0 : 0 ≤ i
  · rw [if_pos h0] at h
    by_cases h1 : i < n
    · rw [if_pos h1] at h
      have e : i.toNat = j := Option.some.inj h
      exact ⟨by rw [seqIndex_of h0 h1, e], by omega, by omega, h1⟩
    · rw [if_neg h1] at h; cases h
  · rw [if_neg h0] at h
    by_cases h1 : -(n : Int) ≤ i
    · rw [if_pos h1] at h
      have e : (i + n).toNat = j := Option.some.inj h
      exact ⟨by rw [seqIndex_neg (by omega) h1, e], by omega, h1, by omega⟩
    · rw [if_neg h1] at h; cases h
theorem atI_get {α : Type} {xs : List α} {i : Int} {v : α} (h : atI xs i = some v) : ∃ j, seqIndex? i xs.length = some j ∧ xs[j]? = some v ∧ j < xs.length ∧ -(xs.length : Int) ≤ i ∧ i < xs.length := by
  unfold atI at h
  cases e : ixN xs.length i with
  | none => rw [e] at h; cases h
  | some j =>
    rw [e] at h
    obtain ⟨h1, h2, h3, h4⟩ := ixN_seq e
    exact ⟨j, h1, h, h2, h3, h4⟩
theorem atI_nat {α : Type} {xs : List α} {j : Nat} {v : α} (h : xs[j]? = some v) : atI xs (j : Int) = some v := by
  have hj : j < xs.length := (List.getElem?_eq_some_iff.mp h).1
  have e : ixN xs.length (j : Int) = some j := by
    unfold ixN
    rw [if_pos (by omega), if_pos (by omega)]; simp
  unfold atI; rw [e]; exact h
def PlainIx (b : Expr) : Prop := ∀ o i, subscripted b false o i = operate [o, i] (getItem o i)
def IxR (X : Cx) (r : R2) : Prop :=
  ∀ (value slice : Expr) (pins : List (Addr × Obj)) (s : Shared) (σ : St) (H : Hp) (x y : V) (v u : Value) (Q : VK), Inv X pins σ H s → RelV x v → RelV y u → r x y H Q →
    subscripted slice false v u = operate [v, u] (getItem v u) → wpAny (model X.prog X.w) X.A (subscriptTail value slice v u) (EP X pins σ Q) X.xe s
def MtR (X : Cx) (id : String) (r : V → List V → Hp → VK → Prop) : Prop :=
  ∀ (pins : List (Addr × Obj)) (s : Shared) (σ : St) (H : Hp) (x : V) (xs : List V) (v : Value) (us : List Value) (Q : VK), Inv X pins σ H s → RelV x v → Vals xs us → r x xs H Q →
    wpAny (model X.prog X.w) X.A (call (.builtin id) (v :: us)) (EP X pins σ Q) X.xe s
section
variable {X : Cx} {a b : Expr} {ta tb : TE} {pos : Pos}
theorem pe_ix {r : R2} (hr : IxR X r) (ha : PE X a ta) (hb : PE X b tb) (hs : PlainIx b) : PE X (.Subscript a b pos) (tOp r ta tb) := by
  intro pins s σ H Q I h
  exact Subscript_ (binT ha hb I h fun v u s2 x y H2 I2 rx ry q => hr a b pins s2 σ H2 x y v u Q I2 rx ry q (hs _ _))
def rIxL (K : PySem.W.Frag) : R2 := fun x y H Q => ∃ p xs i v, x = .ref p ∧ y = .int i ∧ SqL K H p xs ∧ atI xs i = some v ∧ Q v H
def rIxT (K : PySem.W.Frag) : R2 := fun x y H Q => ∃ p xs i v, x = .ref p ∧ y = .int i ∧ SqT K H p xs ∧ atI xs i = some v ∧ Q v H
theorem ix_list : IxR X (rIxL X.K) := by
  intro value slice pins s σ H x y v u Q I rx ry h hs
  obtain ⟨p, xs, i, z, rfl, rfl, hq, he, q⟩ := h
  cases rx
  obtain ⟨t, rfl⟩ := ry
  obtain ⟨its, r, pl, hz⟩ := I.list hq
  obtain ⟨j, h1, h2, h3, h4, h5⟩ := atI_get he
  obtain ⟨w, ew, rw'⟩ := r.get h2
  have hl := r.length
  have hn := line63
  have fin : EP X pins σ Q w s := ⟨z, H, I, rw', q⟩
  by_cases h0 : 0 ≤ i
  · have hj : i.toNat = j := by
      rw [seqIndex_of h0 h5] at h1
      exact Option.some.inj h1
    exact item_listR pl.isList h0 (by omega) (by rw [hj]; simpa using ew) fin hs
  · have hj : (i + (its.toArray.size : Int)).toNat = j := by
      rw [seqIndex_neg (by omega) h4] at h1
      rw [List.size_toArray, ← hl]
      exact Option.some.inj h1
    exact subscriptTail_builtinR (x := w) pl.isList.typeIs slot_list_getitem.lookup
      (wpAny_getItem_list_neg (Q := fun r s' => r = w ∧ EP X pins σ Q r s') pl.isList (by omega) (by rw [List.size_toArray] <;> omega) (by omega) (by rw [hj]; simpa using ew) ⟨rfl, fin⟩) hs
theorem ix_tup : IxR X (rIxT X.K) := by
  intro value slice pins s σ H x y v u Q I rx ry h hs
  obtain ⟨p, xs, i, z, rfl, rfl, hq, he, q⟩ := h
  cases rx
  obtain ⟨t, rfl⟩ := ry
  obtain ⟨its, r, pl, hz⟩ := I.tuple hq
  obtain ⟨j, h1, h2, h3, h4, h5⟩ := atI_get he
  obtain ⟨w, ew, rw'⟩ := r.get h2
  have hl := r.length
  have hn := line63
  have fin : EP X pins σ Q w s := ⟨z, H, I, rw', q⟩
  exact subscriptTail_builtinR (x := w) pl.typeIs slot_tuple_getitem.lookup
    (getItem_tuple (j := j) (Q := fun r s' => r = w ∧ EP X pins σ Q r s') pl (by omega) (by omega) (by rw [List.size_toArray, ← hl]; exact h1) (by simpa using ew) ⟨rfl, fin⟩) hs
theorem Inv.lst {pins : List (Addr × Obj)} {σ : St} {H : Hp} {s : Shared} {p : Addr} {xs : List V} (I : Inv X pins σ H s) (h : H p = some (.lst xs)) :
    ∃ (its : List Value) (n : Nat), Vals xs its ∧ s.heap.get? p = some { cls := .type "list", data := .seq its.toArray n } ∧ xs.length ≤ sizeLine := by
  obtain ⟨z, its, n, r, e⟩ := I.hok p _ h
  exact ⟨its, n, r, e, z⟩
theorem slice_bounds (lo hi : Option Int) (n : Nat) : (sliceBounds lo hi none n).1 = ((HT.sIx n 0 lo : Nat) : Int) ∧ (sliceBounds lo hi none n).2.1 = ((HT.sIx n n hi : Nat) : Int) ∧ (sliceBounds lo hi none n).2.2 = 1 := by
  refine ⟨?_, ?_, rfl⟩
  · cases lo with
    | none => simp [sliceBounds, HT.sIx]
    | some i =>
      simp only [sliceBounds, HT.sIx, Option.getD_none, show (1 : Int) > 0 by decide, if_true]
      by_cases h : i < 0
      · simp only [h, if_true] <;> omega
      · simp only [h, if_false] <;> omega
  · cases hi with
    | none => simp [sliceBounds, HT.sIx]
    | some i =>
      simp only [sliceBounds, HT.sIx, Option.getD_none, show (1 : Int) > 0 by decide, if_true]
      by_cases h : i < 0
      · simp only [h, if_true] <;> omega
      · simp only [h, if_false] <;> omega
theorem slicePick_cut (its : List Value) (lo hi : Option Int) : slicePick its.toArray lo hi none = ((its.drop (HT.sIx its.length 0 lo)).take (HT.sIx its.length its.length hi - HT.sIx its.length 0 lo)).toArray := by
  obtain ⟨h1, h2, h3⟩ := slice_bounds lo hi its.toArray.size
  unfold slicePick
  rw [h1, h2, h3]
  simp only [sliceRange_one, pick_run, List.size_toArray] <;> rfl
def rSlL (K : PySem.W.Frag) : V → Option Int → Option Int → Hp → VK → Prop := fun x lo hi H Q => ∃ a xs, x = .ref a ∧ SqL K H a xs ∧ ∀ p, H p = none → Q (.ref p) (upd H p (.lst (cutV xs lo hi)))
theorem sl_list : SlR X (rSlL X.K) := by
  intro pins s σ H x v vl vu lo hi sl Q I rx hs pl pu h
  obtain ⟨a, xs, rfl, hx, q⟩ := h
  cases rx
  obtain ⟨its, r, ht, hz⟩ := I.list hx
  have hlen := r.length
  refine ⟨"list", _, slot_list_getitem.lookup, ht.isList.typeIs, ?_⟩
  refine wpAny_getItem_list_slice ht.isList hs pl pu .none (by simp) ?_ (by rw [List.size_toArray] <;> omega)
  rw [slicePick_cut, ← hlen]
  refine ⟨.ref s.heap.objs.size, _, I.laid (t' := s.toks) (o := .lst (cutV xs lo hi)) (fun b ob q => Heap.get?_push_of_some _ q) (Nat.le_refl _) ?_, rfl, q _ (I.hok.fresh (Nat.le_refl _))⟩
  exact ⟨Nat.le_trans (cutV_length xs lo hi) hz, _, 0, (r.drop (HT.sIx xs.length 0 lo)).take (HT.sIx xs.length xs.length hi - HT.sIx xs.length 0 lo), Heap.get?_push_size _ rfl⟩
def flatV : V → Bool
  | .non => true
  | .bl _ => true
  | .int _ => true
  | .str _ => true
  | _ => false
def eqV : V → V → Bool
  | .non, .non => true
  | .bl a, .bl b => a == b
  | .bl a, .int b => (if a then 1 else 0) == b
  | .int a, .bl b => a == (if b then 1 else 0)
  | .int a, .int b => a == b
  | .str a, .str b => a == b
  | _, _ => false
theorem eqAt_V {A : Around} {s : Shared} {y x : V} {u v : Value} (ry : RelV y u) (rx : RelV x v) (fy : flatV y = true) (fx : flatV x = true) : SeqAt.EqAt A s u v (eqV y x) := by
  cases y with
  | non =>
    cases ry
    cases x with
    | non => cases rx; exact SeqAt.EqAt.same _
    | bl b => cases rx; exact SeqAt.EqAt.none_bool b
    | int b => obtain ⟨t, rfl⟩ := rx; exact SeqAt.EqAt.none_int b t
    | str b => obtain ⟨t, rfl⟩ := rx; exact SeqAt.EqAt.none_str b t
    | _ => exact absurd (show false = true from fx) Bool.false_ne_true
  | bl a =>
    cases ry
    cases x with
    | non => cases rx; exact SeqAt.EqAt.bool_none a
    | bl b => cases rx; exact SeqAt.EqAt.bool_bool a b
    | int b => obtain ⟨t, rfl⟩ := rx; exact SeqAt.EqAt.bool_int a b t
    | str b => obtain ⟨t, rfl⟩ := rx; exact SeqAt.EqAt.bool_str a b t
    | _ => exact absurd (show false = true from fx) Bool.false_ne_true
  | int a =>
    obtain ⟨t', rfl⟩ := ry
    cases x with
    | non => cases rx; exact SeqAt.EqAt.int_none a t'
    | bl b => cases rx; exact SeqAt.EqAt.int_bool a t' b
    | int b => obtain ⟨t, rfl⟩ := rx; exact SeqAt.EqAt.int_int a t' b t
    | str b => obtain ⟨t, rfl⟩ := rx; exact SeqAt.EqAt.int_str a t' b t
    | _ => exact absurd (show false = true from fx) Bool.false_ne_true
  | str a =>
    obtain ⟨t', rfl⟩ := ry
    cases x with
    | non => cases rx; exact SeqAt.EqAt.str_none a t'
    | bl b => cases rx; exact SeqAt.EqAt.str_bool a t' b
    | int b => obtain ⟨t, rfl⟩ := rx; exact SeqAt.EqAt.str_int a t' b t
    | str b => obtain ⟨t, rfl⟩ := rx; exact SeqAt.EqAt.str_str a t' b t
    | _ => exact absurd (show false = true from fx) Bool.false_ne_true
  | _ => exact absurd (show false = true from fy) Bool.false_ne_true
def eqU (x : V) (u : Value) : Bool := match u with
  | .none => eqV .non x
  | .bool b => eqV (.bl b) x
  | .int i _ => eqV (.int i) x
  | .str z _ => eqV (.str z) x
  | _ => false
theorem eqU_of {x y : V} {u : Value} (r : RelV y u) (f : flatV y = true) : eqU x u = eqV y x := by
  cases y with
  | non => cases r; rfl
  | bl b => cases r; rfl
  | int i => obtain ⟨t, rfl⟩ := r; rfl
  | str z => obtain ⟨t, rfl⟩ := r; rfl
  | _ => exact absurd (show false = true from f) Bool.false_ne_true
theorem mem_eqAt {A : Around} {s : Shared} {x : V} {v : Value} (rx : RelV x v) (fx : flatV x = true) : ∀ {xs : List V} {us : List Value}, Vals xs us → xs.all flatV = true → ∀ u ∈ us, SeqAt.EqAt A s u v (eqU x u)
  | _, _, .nil, _ => fun u hu => by cases hu
  | y :: xs, u :: us, .cons r t, f => fun u' hu => by
    rw [List.all_cons, Bool.and_eq_true] at f
    rcases List.mem_cons.mp hu with rfl | hu
    · rw [eqU_of r f.1]; exact eqAt_V r rx f.1 fx
    · exact mem_eqAt rx fx t f.2 u' hu
theorem call_len_seq : CallR X (.builtin "len") (fun xs H Q => ∃ p ys, xs = [.ref p] ∧ (SqL X.K H p ys ∨ SqT X.K H p ys) ∧ Q (.int ys.length) H) := by
  intro pins s σ H xs us Q I r h
  obtain ⟨p, ys, rfl, hq, q⟩ := h
  obtain ⟨u, rfl, rx⟩ := vals1 r
  cases rx
  have hn := line63
  rcases hq with hq | hq
  · obtain ⟨its, r', pl, hz⟩ := I.list hq
    have hlen := r'.length
    exact Calls.call_len_list pl.isList (by simp only [List.size_toArray] <;> omega) ⟨.int ys.length, H, I.tok _, ⟨s.toks + 1, by rw [List.size_toArray, hlen]⟩, q⟩
  · obtain ⟨its, r', pl, hz⟩ := I.tuple hq
    have hlen := r'.length
    exact len_tuple pl (by simp only [List.size_toArray] <;> omega) ⟨.int ys.length, H, I.tok _, ⟨s.toks + 1, by rw [List.size_toArray, hlen]⟩, q⟩
theorem call_list_of : CallR X (.type "list") (fun xs H Q => ∃ p ys, xs = [.ref p] ∧ (SqL X.K H p ys ∨ SqT X.K H p ys) ∧ ∀ l, H l = none → Q (.ref l) (upd H l (.lst ys))) := by
  intro pins s σ H xs us Q I r h
  obtain ⟨p, ys, rfl, hq, q⟩ := h
  obtain ⟨u, rfl, rx⟩ := vals1 r
  cases rx
  have fin : ∀ (its : List Value), Vals ys its → ys.length ≤ sizeLine → ∀ (h' : Heap) (c' : Nat), (∀ b o', s.heap.get? b = some o' → h'.get? b = some o') →
      h'.get? s.heap.objs.size = some { cls := .type "list", dict := none, data := .seq its.toArray c', slots := #[] } → EP X pins σ Q (.ref s.heap.objs.size) { s with heap := h' } := fun its r' hz h' c' kp e =>
    ⟨.ref s.heap.objs.size, _, I.laid (t' := s.toks) kp (Nat.le_refl _) (show ObjOk X.prog X.w _ h' _ (.lst ys) from ⟨hz, its, c', r', e⟩), rfl, q _ (I.hok.fresh (Nat.le_refl _))⟩
  rcases hq with hq | hq
  · obtain ⟨its, r', pl, hz⟩ := I.list hq
    have hlen := r'.length
    obtain ⟨o, ho, hc, n, hd⟩ := pl.isList
    exact call_list_seq p (.inl rfl) ho hc hd (fun h' c' kp e => fin its r' hz h' c' kp e) (by simp only [List.size_toArray] <;> omega)
  · obtain ⟨its, r', pl, hz⟩ := I.tuple hq
    have hlen := r'.length
    obtain ⟨o, ho, hc, n, hd⟩ := pl
    exact call_list_seq p (.inr rfl) ho hc hd (fun h' c' kp e => fin its r' hz h' c' kp e) (by simp only [List.size_toArray] <;> omega)
def tyV (K : PySem.W.Frag) (T : String) (x : V) (H : Hp) : Prop := match x with
  | .str _ => T = "str"
  | .int _ => T = "int"
  | .ref p => (T = "list" ∧ ∃ xs, SqL K H p xs) ∨ (T = "tuple" ∧ ∃ o, K.lookup p = some o ∧ o.cls = .type "tuple" ∧ o.dict = none) ∨
      (T = "dict" ∧ ((∃ kvs, H p = some (.dK kvs)) ∨ ∃ kvs, H p = some (.dT kvs))) ∨ (T = "set" ∧ ∃ S n, H p = some (.set S n))
  | _ => False
theorem tyV_is {pins : List (Addr × Obj)} {σ : St} {H : Hp} {s : Shared} {T : String} {x : V} {v : Value} (I : Inv X pins σ H s) (r : RelV x v) (ty : tyV X.K T x H) :
    s.TypeIs v T ∧ ∀ a, v = .ref a → ∃ ob, s.heap.get? a = some ob ∧ ob.dict = none := by
  cases x with
  | str z =>
    obtain ⟨t, rfl⟩ := r
    cases (show T = "str" from ty)
    exact ⟨typeIs_str s z t, fun _ e => nomatch e⟩
  | int i =>
    obtain ⟨t, rfl⟩ := r
    cases (show T = "int" from ty)
    exact ⟨typeIs_int s i t, fun _ e => nomatch e⟩
  | ref p =>
    cases r
    rcases ty with ⟨rfl, xs, hq⟩ | ⟨rfl, o, hk, hc, hd⟩ | ⟨rfl, hk⟩ | ⟨rfl, S, n, hk⟩
    · obtain ⟨its, _, pl, _⟩ := I.list hq
      refine ⟨pl.isList.typeIs, fun a e => ?_⟩
      cases e
      obtain ⟨o, n, e, c, hd, _⟩ := pl
      exact ⟨o, e, hd⟩
    · refine ⟨⟨o, I.kIn p o hk, hc⟩, fun a e => ?_⟩
      cases e
      exact ⟨o, I.kIn _ o hk, hd⟩
    · have z : ∃ o, s.heap.get? p = some o ∧ o.ExactDict := by
        rcases hk with ⟨kvs, hk⟩ | ⟨kvs, hk⟩
        · obtain ⟨_, _, _, _, o, _, _, e, ex, _⟩ := I.hok p _ hk
          exact ⟨o, e, ex⟩
        · obtain ⟨_, _, _, _, o, _, _, e, ex, _⟩ := I.hok p _ hk
          exact ⟨o, e, ex⟩
      obtain ⟨o, e, ex⟩ := z
      refine ⟨⟨o, e, ex.1⟩, fun a e2 => ?_⟩
      cases e2
      exact ⟨o, e, ex.2.1⟩
    · obtain ⟨o, _, _, _, e, ex, _⟩ := I.hok p _ hk
      refine ⟨⟨o, e, ex.1⟩, fun a e2 => ?_⟩
      cases e2
      exact ⟨o, e, ex.2.1⟩
  | _ => exact False.elim ty
def tBM0 (K : PySem.W.Frag) (T : String) (r : V → List V → Hp → VK → Prop) (to : TE) : TE := fun σ H Q => to σ H fun x H1 => tyV K T x H1 ∧ r x [] H1 Q
def tBM (K : PySem.W.Frag) (T : String) (r : V → List V → Hp → VK → Prop) (to : TE) (t : TA) : TE := fun σ H Q => to σ H fun x H1 => tyV K T x H1 ∧ t σ H1 fun xs H2 => r x xs H2 Q
variable {o e : Expr} {es : List Expr} {to : TE} {t : TA} {name : Str} {apos cpos : Pos} {T id : String} {r : V → List V → Hp → VK → Prop}
theorem pe_bm0 (pa : PlainAttrs T) (slot : Slot T name id) (hty : typeOf (.builtin id) = pure (.type "method_descriptor")) (hm : MtR X id r) (ho : PE X o to)
    (hbase : attributeBase o name X.env (eval o X.env) = eval o X.env := by rfl) (hline : (apos.endLine == cpos.line) = true := by rfl) : PE X (.Call (.Attribute o name apos) [] [] cpos) (tBM0 X.K T r to) := by
  intro pins s σ H Q I h
  refine wpAny_Call_method0_late hbase hline (thn (ho pins s σ H _ I h) fun v s1 ⟨x, H1, I1, r1, ty, q1⟩ => ?_)
  obtain ⟨h1, h2⟩ := tyV_is I1 r1 ty
  exact ⟨T, id, pa, slot, hty, h1, h2, Calls.callWith_builtin rfl (PySem.evalArgs_none (hm pins s1 σ H1 x [] v [] Q I1 r1 .nil q1))⟩
theorem pe_bm (pa : PlainAttrs T) (slot : Slot T name id) (hty : typeOf (.builtin id) = pure (.type "method_descriptor")) (hm : MtR X id r) (ho : PE X o to) (ha : PA X (e :: es) t)
    (hbase : attributeBase o name X.env (eval o X.env) = eval o X.env := by rfl)
    (hfew : ((backTo cpos (starEach (e :: es) X.env)).all (fun x => !x.1) && (backToKw cpos (keywordEach [] X.env)).all (fun x => x.1.isSome)
      && decide ((e :: es).length + ([] : List Keyword).length + (if ([] : List Keyword).isEmpty then 0 else 1) < 30)) = true := by rfl)
    (hline : (apos.endLine == cpos.line) = true := by rfl) (hs : starEach (e :: es) X.env = (false, eval e X.env) :: starEach es X.env := by rfl) (hplain : (backTo cpos (starEach es X.env)).any (·.1) = false := by rfl) :
    PE X (.Call (.Attribute o name apos) (e :: es) [] cpos) (tBM X.K T r to t) := by
  intro pins s σ H Q I h
  refine wpAny_Call_method_late hbase hfew hline rfl (thn (ho pins s σ H _ I h) fun v s1 ⟨x, H1, I1, r1, ty, q1⟩ => ?_)
  obtain ⟨h1, h2⟩ := tyV_is I1 r1 ty
  refine ⟨T, id, pa, slot, hty, h1, h2, ?_⟩
  have hA := ha cpos pins s1 σ H1 _ I1 q1
  rw [hs] at hA ⊢
  refine Calls.callWith_builtin (by show (false || (backTo cpos (starEach es X.env)).any (·.1)) = false; rw [hplain] <;> rfl) (Calls.evalArgs_plain ?_)
  exact thn hA fun us s2 ⟨vs, H2, I2, r2, q2⟩ => hm pins s2 σ H2 x vs v us Q I2 r1 r2 q2
end
end L2
namespace L2
open PySem PySem.Spec PyProof.Rows
def MtM (X : Cx) (id : String) (r : V → List V → Hp → VK → Prop) : Prop :=
  ∀ (pins : List (Addr × Obj)) (s : Shared) (σ : St) (H : Hp) (x : V) (xs : List V) (v : Value) (us : List Value) (Q : VK), Inv X pins σ H s → RelV x v → Vals xs us → r x xs H Q →
    wpAny (model X.prog X.w) X.A (call (.builtin id) (v :: us)) (EP X pins σ Q) X.xe s
theorem Vals.one : ∀ {x : V} {us : List Value}, Vals [x] us → ∃ u, us = [u] ∧ RelV x u
  | _, _, .cons r .nil => ⟨_, rfl, r⟩
theorem Vals.zero : ∀ {us : List Value}, Vals [] us → us = []
  | _, .nil => rfl
theorem Vals.dropLast {xs : List V} {us : List Value} (h : Vals xs us) : Vals xs.dropLast us.dropLast := by
  induction h with
  | nil => exact .nil
  | cons r t ih =>
    cases t with
    | nil => exact .nil
    | cons q t' => exact .cons r ih
theorem Vals.eraseIdx : ∀ {xs : List V} {us : List Value} (i : Nat), Vals xs us → Vals (xs.eraseIdx i) (us.eraseIdx i)
  | _, _, _, .nil => .nil
  | _, _, 0, .cons _ t => t
  | _, _, i + 1, .cons r t => .cons r (Vals.eraseIdx i t)
theorem Vals.reverse {xs : List V} {us : List Value} (h : Vals xs us) : Vals xs.reverse us.reverse := by
  induction h with
  | nil => exact .nil
  | cons r t ih => rw [List.reverse_cons, List.reverse_cons]; exact Vals.append ih (.cons r .nil)
theorem erase_last {α : Type} (l : List α) : l.eraseIdx (l.length - 1) = l.dropLast := by
  induction l with
  | nil => rfl
  | cons a r ih =>
    cases r with
    | nil => rfl
    | cons b r =>
      have e : (a :: b :: r).length - 1 = ((b :: r).length - 1) + 1 := by
        have h1 : (a :: b :: r).length = r.length + 2 := rfl
        have h2 : (b :: r).length = r.length + 1 := rfl
        omega
      rw [e, List.eraseIdx_cons_succ, ih]
      all_goals rfl
section
variable {X : Cx} {pins : List (Addr × Obj)} {σ : St} {H : Hp} {s : Shared} {l b : Addr} {xs ys zs : List V}
theorem Inv.lset {its its' : List Value} {n : Nat} {f : Array Value → Array Value} {t' : Nat} (I : Inv X pins σ H s) (hH : H l = some (.lst xs))
    (e : s.heap.get? l = some { cls := .type "list", data := .seq its.toArray n }) (hf : f its.toArray = its'.toArray) (hv : Vals ys its') (hz : ys.length ≤ sizeLine) :
    Inv X pins σ (upd H l (.lst ys)) { s with heap := s.heap.update l (Obj.mapSeq f), toks := t' } := by
  have q := PySem.IsL.update e f
  rw [hf] at q
  refine I.write (x := l) (e := l) (by rw [hH]; exact trivial) (.inl rfl) (fun b' u hb hu => (Heap.get?_update_other s.heap (Obj.mapSeq f) (Ne.symm hb)).trans hu) ⟨_, q⟩ ?_
  exact ⟨hz, its', _, hv, q⟩
theorem Inv.lnew {its : List Value} {t' : Nat} (I : Inv X pins σ H s) (hv : Vals ys its) (hz : ys.length ≤ sizeLine) :
    Inv X pins σ (upd H s.heap.objs.size (.lst ys)) { s with heap := s.heap.push { cls := .type "list", data := .seq its.toArray }, toks := t' } :=
  I.laid (fun _ _ q => Heap.get?_push_of_some _ q) (Nat.le_refl _) ⟨hz, its, 0, hv, Heap.get?_push_size _ rfl⟩
theorem Inv.fresh (I : Inv X pins σ H s) : H s.heap.objs.size = none := I.hok.fresh (Nat.le_refl _)
theorem Inv.lstM (I : Inv X pins σ H s) (hH : H l = some (.lst xs)) : xs.length ≤ sizeLine ∧ ∃ (its : List Value) (n : Nat), Vals xs its ∧ xs.length = its.length ∧ s.heap.get? l = some { cls := .type "list", data := .seq its.toArray n } := by
  obtain ⟨z, its, n, r, e⟩ := I.hok l _ hH
  exact ⟨z, its, n, r, r.length, e⟩
theorem notLongL {n : Nat} (h : n ≤ sizeLine) : Builtin.List.listTooLong n = false := by
  unfold Builtin.List.listTooLong
  exact decide_eq_false (by omega)
end
section
variable {X : Cx}
def rAppend : V → List V → Hp → VK → Prop := fun x vs H Q => ∃ l xs y, x = .ref l ∧ vs = [y] ∧ H l = some (.lst xs) ∧ xs.length < sizeLine ∧ Q .non (upd H l (.lst (xs ++ [y])))
theorem mt_append : MtM X "list.append" rAppend := by
  intro pins s σ H x vs v us Q I rx rv h
  obtain ⟨l, xs, y, rfl, rfl, hH, hz, q⟩ := h
  cases rx
  obtain ⟨u, rfl, ru⟩ := rv.one
  obtain ⟨z, its, n, r, hl, e⟩ := I.lstM hH
  refine call_meets F.slot_list_append ⟨_, e, rfl⟩ F.entry_list_append (F.args_list_append_2 _ _) (PySem.list_append l its.toArray n u (by rw [List.size_toArray]; omega)) ⟨e, ?_⟩
  refine ⟨.non, _, I.lset (its' := its ++ [u]) hH e (by simp) (r.append (.cons ru .nil)) ?_, rfl, q⟩
  rw [List.length_append, List.length_singleton]
  omega
def rExtend : V → List V → Hp → VK → Prop := fun x vs H Q => ∃ l b xs zs, x = .ref l ∧ vs = [.ref b] ∧ H l = some (.lst xs) ∧ H b = some (.lst zs) ∧ xs.length + zs.length ≤ sizeLine ∧ Q .non (upd H l (.lst (xs ++ zs)))
theorem mt_extend : MtM X "list.extend" rExtend := by
  intro pins s σ H x vs v us Q I rx rv h
  obtain ⟨l, b, xs, zs, rfl, rfl, hH, hB, hz, q⟩ := h
  cases rx
  obtain ⟨u, rfl, ru⟩ := rv.one
  cases ru
  obtain ⟨z, its, n, r, hl, e⟩ := I.lstM hH
  obtain ⟨z2, its2, n2, r2, hl2, e2⟩ := I.lstM hB
  have hsz : its.toArray.size + its2.toArray.size ≤ sizeLine := by rw [List.size_toArray, List.size_toArray]; omega
  have hlong : ¬ (!its.toArray.isEmpty && Builtin.List.listTooLong (its.toArray.size + its2.toArray.size)) = true := by
    rw [notLongL hsz, Bool.and_false]
    exact Bool.false_ne_true
  refine call_meets F.slot_list_extend ⟨_, e, rfl⟩ F.entry_list_extend (F.args_list_extend_2 _ _)
    (AutoSeq1.list_extend_list_list_0 l its.toArray n b its2.toArray n2 hlong (by rw [List.size_toArray]; omega) (by omega)) ⟨e, e2, ?_⟩
  refine ⟨.non, _, I.lset (its' := its ++ its2) hH e (by simp) (r.append r2) ?_, rfl, q⟩
  rw [List.length_append]
  omega
def rPop : V → List V → Hp → VK → Prop := fun x vs H Q => ∃ l xs y, x = .ref l ∧ vs = [] ∧ H l = some (.lst xs) ∧ xs[xs.length - 1]? = some y ∧ Q y (upd H l (.lst xs.dropLast))
theorem mt_pop : MtM X "list.pop" rPop := by
  intro pins s σ H x vs v us Q I rx rv h
  obtain ⟨l, xs, y, rfl, rfl, hH, hy, q⟩ := h
  cases rx
  have hus := rv.zero
  subst hus
  obtain ⟨z, its, n, r, hl, e⟩ := I.lstM hH
  obtain ⟨u, hu, ru⟩ := r.get hy
  have hy' : its.toArray[its.toArray.size - 1]? = some u := by
    show its.toArray[its.length - 1]? = some u
    rw [← Array.getElem?_toList, ← hl]
    exact hu
  refine call_meets F.slot_list_pop ⟨_, e, rfl⟩ F.entry_list_pop (F.args_list_pop_1 _) (MeetsSeq.list_pop_last l its.toArray n u hy' (by rw [List.size_toArray]; omega)) ⟨e, ?_⟩
  refine ⟨y, _, I.lset (its' := its.dropLast) hH e ?_ r.dropLast ?_, ru, q⟩
  · show its.toArray.eraseIdxIfInBounds (its.toArray.size - 1) = its.dropLast.toArray
    rw [List.size_toArray, List.eraseIdxIfInBounds_toArray, erase_last]
  · rw [List.length_dropLast]
    omega
def rCat : R2 := fun x y H Q => ∃ l b xs zs, x = .ref l ∧ y = .ref b ∧ H l = some (.lst xs) ∧ H b = some (.lst zs) ∧ xs.length + zs.length ≤ sizeLine ∧ ∀ p, H p = none → Q (.ref p) (upd H p (.lst (xs ++ zs)))
theorem op_cat : OpR X (binaryOp .Add) rCat := by
  intro pins s σ H x y v u Q I rx ry h
  obtain ⟨l, b, xs, zs, rfl, rfl, hH, hB, hz, q⟩ := h
  cases rx
  cases ry
  obtain ⟨z, its, n, r, hl, e⟩ := I.lstM hH
  obtain ⟨z2, its2, n2, r2, hl2, e2⟩ := I.lstM hB
  refine PySem.P.add_list e e2 ?_ (by rw [List.size_toArray, List.size_toArray]; omega)
  have ea : its.toArray ++ its2.toArray = (its ++ its2).toArray := by simp
  rw [ea]
  exact ⟨.ref _, _, I.lnew (t' := s.toks) (r.append r2) (by rw [List.length_append]; omega), rfl, q _ I.fresh⟩
end
section
variable {prog : Program} {w : World} {A : Around} {E : Value → Shared → Prop} {s : Shared}
end
section
variable {X : Cx}
end
end L2
namespace L2
open PySem PySem.Spec PyProof.Rows
theorem Vals.ints : ∀ {ns : List Int} {us : List Value}, Vals (ns.map V.int) us → IntsAre us ns
  | [], us, h => by
    rw [List.map_nil] at h
    cases h
    exact IntsAre.nil
  | n :: ns, us, h => by
    rw [List.map_cons] at h
    cases h with
    | cons r t =>
      obtain ⟨k, rfl⟩ := r
      exact IntsAre.cons n k (Vals.ints t)
theorem vals_of_ints : ∀ {us : List Value} {ns : List Int}, IntsAre us ns → Vals (ns.map V.int) us
  | _, _, .nil => by rw [List.map_nil]; exact Paired.nil
  | _, _, .cons n t h => by rw [List.map_cons]; exact Paired.cons (show RelV (V.int n) (Value.int n t) from ⟨t, rfl⟩) (vals_of_ints h)
theorem Vals.strs : ∀ {xs : List Str} {us : List Value}, Vals (xs.map V.str) us → StrsAre us xs
  | [], us, h => by
    rw [List.map_nil] at h
    cases h
    exact StrsAre.nil
  | x :: xs, us, h => by
    rw [List.map_cons] at h
    cases h with
    | cons r t =>
      obtain ⟨k, rfl⟩ := r
      exact StrsAre.cons x k (Vals.strs t)
theorem Vals.ref1 {a : Addr} {us : List Value} (r : Vals [V.ref a] us) : us = [Value.ref a] := by
  cases r with
  | cons r t =>
    cases t
    cases r
    rfl
section
variable {prog : Program} {w : World} {A : Around} {E : Value → Shared → Prop} {s : Shared} {l : Addr} {its : List Value} {ns : List Int} {Q : Value → Shared → Prop}
theorem sum_raw (hh : A.handled = none) (hl : s.heap.IsList l its.toArray) (hi : IntsAre its ns)
    (h : ∀ h' tk t', (∀ b o, s.heap.get? b = some o → h'.get? b = some o) → Q (.int ns.sum t') { s with heap := h', toks := tk }) : wpAny (model prog w) A (call (.builtin "sum") [.ref l]) Q E s := by
  obtain ⟨xs, e⟩ := hi.allInts.items
  have hn : numsOf (intItems xs).toList = ns := by rw [← e]; exact hi.numsOf
  rw [nums_intItems] at hn
  rw [e] at hl
  refine PySem.sum_intListG hh hl fun h' tk t' hk => ?_
  have := h h' tk t' hk
  rw [preSum_eq, List.take_of_length_le (by simp), hn]; exact this
theorem max_raw (hh : A.handled = none) (hl : s.heap.IsList l its.toArray) (hi : IntsAre its ns) (hne : 0 < ns.length)
    (h : ∀ h' tk M t', (∀ b o, s.heap.get? b = some o → h'.get? b = some o) → M ∈ ns → (∀ a, a ∈ ns → a ≤ M) → Q (.int M t') { s with heap := h', toks := tk }) : wpAny (model prog w) A (call (.builtin "max") [.ref l]) Q E s := by
  obtain ⟨xs, e⟩ := hi.allInts.items
  have hn : numsOf (intItems xs).toList = ns := by rw [← e]; exact hi.numsOf
  rw [nums_intItems] at hn
  subst hn
  rw [e] at hl
  have hsz : 0 < xs.size := by simpa using hne
  refine PySem.max_intList hh hl hsz fun v h' tk hv hk => ?_
  obtain ⟨t, rfl⟩ := intItems_at hv
  obtain ⟨h1, h2⟩ := argBest_gt (numAt xs) (xs.size - 1)
  refine h h' tk _ t hk ?_ fun a ha => ?_
  · rw [numAt_eq]; exact PySem.getD_mem (by rw [List.length_map, Array.length_toList]; omega)
  · obtain ⟨j, hj, rfl⟩ := mem_getD ha
    rw [List.length_map, Array.length_toList] at hj
    rw [← numAt_eq]; exact h2 j (by omega)
end
section
variable {X : Cx}
def rSum (K : PySem.W.Frag) : List V → Hp → VK → Prop := fun vs H Q => ∃ (a : Addr) (ns : List Int), vs = [V.ref a] ∧ SqL K H a (ns.map V.int) ∧ Q (.int ns.sum) H
def rMax (K : PySem.W.Frag) : List V → Hp → VK → Prop := fun vs H Q => ∃ (a : Addr) (ns : List Int), vs = [V.ref a] ∧ SqL K H a (ns.map V.int) ∧ 0 < ns.length ∧ ∀ m, m ∈ ns → (∀ y, y ∈ ns → y ≤ m) → Q (.int m) H
theorem cr_sum (hc : X.calm = true) : CallR X (.builtin "sum") (rSum X.K) := by
  intro pins s σ H vs us Q I r h
  obtain ⟨a, ns, rfl, hs, q⟩ := h
  obtain ⟨its, rv, hl, _⟩ := I.list hs
  rw [Vals.ref1 r]
  exact sum_raw (I.ok.hd hc) hl.isList rv.ints fun h' tk t' hk => ⟨.int _, H, I.kept hk, ⟨_, rfl⟩, q⟩
theorem cr_max (hc : X.calm = true) : CallR X (.builtin "max") (rMax X.K) := by
  intro pins s σ H vs us Q I r h
  obtain ⟨a, ns, rfl, hs, hne, q⟩ := h
  obtain ⟨its, rv, hl, _⟩ := I.list hs
  rw [Vals.ref1 r]
  exact max_raw (I.ok.hd hc) hl.isList rv.ints hne fun h' tk m t' hk h1 h2 => ⟨.int _, H, I.kept hk, ⟨_, rfl⟩, q m h1 h2⟩
end
section
variable {X : Cx}
def rIndex (K : PySem.W.Frag) : V → List V → Hp → VK → Prop := fun x xs H Q => ∃ (a : Addr) (ys : List V) (y : V) (j : Nat) (z : V), x = V.ref a ∧ xs = [y] ∧ SqL K H a ys ∧ flatV y = true ∧ ys.all flatV = true ∧ ys[j]? = some z ∧ eqV z y = true ∧
  (∀ (m : Nat) (z' : V), m < j → ys[m]? = some z' → eqV z' y = false) ∧ Q (.int (j : Nat)) H
theorem flat_at {ys : List V} (f : ys.all flatV = true) {j : Nat} {z : V} (h : ys[j]? = some z) : flatV z = true := List.all_eq_true.mp f z (List.mem_of_getElem? h)
theorem mt_index : MtR X "list.index" (rIndex X.K) := by
  intro pins s σ H x xs v us Q I rx rxs h
  obtain ⟨a, ys, y, j, z, rfl, rfl, hs, fy, fys, hz, hzj, hno, q⟩ := h
  cases rx
  cases rxs with
  | cons ry rt =>
    rename_i uy ut
    cases rt
    obtain ⟨its, rv, ⟨⟨cls, dd, data, sl⟩, n, ho, hc, hdn, hd⟩, hlen⟩ := I.list hs
    simp only at hc hd
    subst hc hd
    obtain ⟨u, hu, ru⟩ := rv.get hz
    obtain ⟨hjl, hje⟩ := List.getElem?_eq_some_iff.mp hu
    have hvl := rv.length
    have hj : j < its.toArray.size := by simpa using hjl
    have hsl := sizeLine_eq
    refine call_meets PySem.F.slot_list_index ⟨_, ho, rfl⟩ PySem.F.entry_list_index (PySem.F.args_list_index_2 _ _)
      (SeqAt.list_indexAt a its.toArray n dd sl uy (eqU y) j hj (by omega) ?_ ?_) ⟨ho, fun u' hu' => mem_eqAt ry fy rv fys u' (by simpa using hu'), ?_⟩
    · have e1 : its.toArray[j] = u := by simpa using hje
      rw [e1, eqU_of ru (flat_at fys hz)]
      exact hzj
    · intro m hm hmj
      have hml : m < its.length := by simpa using hm
      have hmy : m < ys.length := by omega
      have hy' : ys[m]? = some ys[m] := List.getElem?_eq_getElem hmy
      obtain ⟨u2, hu2, ru2⟩ := rv.get hy'
      obtain ⟨_, hme⟩ := List.getElem?_eq_some_iff.mp hu2
      have e1 : its.toArray[m] = u2 := by simpa using hme
      rw [e1, eqU_of ru2 (flat_at fys hy')]
      exact hno m _ hmj hy'
    · exact ⟨.int (j : Nat), H, I.tok _, ⟨_, rfl⟩, q⟩
end
section
variable {X : Cx}
end
section
variable {X : Cx}
end
mutual
inductive Dp (K : PySem.W.Frag) (H : Hp) : V → PyData → Prop
  | non : Dp K H .non .none
  | bl (b : Bool) : Dp K H (.bl b) (.bool b)
  | int (i : Int) : Dp K H (.int i) (.int i)
  | str (x : Str) : Dp K H (.str x) (.str x)
  | lst {a : Addr} {xs : List V} {ds : List PyData} : SqL K H a xs → DpAll K H xs ds → Dp K H (.ref a) (.list ds)
  | tup {a : Addr} {xs : List V} {ds : List PyData} : SqT K H a xs → DpAll K H xs ds → Dp K H (.ref a) (.tuple ds)
inductive DpAll (K : PySem.W.Frag) (H : Hp) : List V → List PyData → Prop
  | nil : DpAll K H [] []
  | cons {v : V} {vs : List V} {d : PyData} {ds : List PyData} : Dp K H v d → DpAll K H vs ds → DpAll K H (v :: vs) (d :: ds)
end
section
variable {X : Cx} {pins : List (Addr × Obj)} {σ : St} {H : Hp} {s : Shared}
mutual
theorem Dp.reads (I : Inv X pins σ H s) : ∀ (d : PyData) (v : V) (u : Value), Dp X.K H v d → RelV v u → ∃ as, Reads s.heap u d as
  | .none, _, _, h, r => by
    cases h
    cases r
    exact ⟨_, Reads.none⟩
  | .bool b, _, _, h, r => by
    cases h
    cases r
    exact ⟨_, Reads.bool b⟩
  | .int i, _, _, h, r => by
    cases h
    obtain ⟨t, rfl⟩ := r
    exact ⟨_, Reads.int i t⟩
  | .str x, _, _, h, r => by
    cases h
    obtain ⟨t, rfl⟩ := r
    exact ⟨_, Reads.str x t⟩
  | .list ds, _, _, h, r => by
    cases h with
    | lst hs ha =>
      cases r
      obtain ⟨its, rv, ⟨o, n, ho, hc, _, hd⟩, _⟩ := I.list hs
      obtain ⟨as, hr⟩ := Dp.readsAll I ds _ its ha rv
      exact ⟨_, Reads.list ho hc hd hr⟩
  | .tuple ds, _, _, h, r => by
    cases h with
    | tup hs ha =>
      cases r
      obtain ⟨its, rv, ⟨o, ho, hc, n, hd⟩, _⟩ := I.tuple hs
      obtain ⟨as, hr⟩ := Dp.readsAll I ds _ its ha rv
      exact ⟨_, Reads.tuple ho hc hd hr⟩
  | .dict _, _, _, h, _ => by cases h
theorem Dp.readsAll (I : Inv X pins σ H s) : ∀ (ds : List PyData) (vs : List V) (us : List Value), DpAll X.K H vs ds → Vals vs us → ∃ as, ReadsAll s.heap us ds as
  | [], _, _, h, r => by
    cases h
    cases r
    exact ⟨_, ReadsAll.nil⟩
  | d :: ds, _, _, h, r => by
    cases h with
    | cons h1 h2 =>
      cases r with
      | cons r1 r2 =>
        obtain ⟨as, q1⟩ := Dp.reads I d _ _ h1 r1
        obtain ⟨bs, q2⟩ := Dp.readsAll I ds _ _ h2 r2
        exact ⟨_, ReadsAll.cons q1 q2⟩
end
end
section
variable {X : Cx}
end
end L2
namespace L2
open PySem PySem.Spec PyProof.Rows
abbrev CellAt (h : Heap) (c : Addr) (v : Option Value) : Prop := h.IsCell c v
def relS (scope sc : Scope) : Scope :=
  { scope with names := scope.names.map fun (n, k) => if (k == .free && sc.kind == .function && sc.names.lookup n == some .cell) then (n, .cell) else (n, k) }
def cloFrom (cells : List (Str × Addr)) : List (Str × NameKind) → List (Str × Addr) → List (Str × Addr)
  | [], acc => acc
  | (n, k) :: r, acc => if k == .free then cloFrom cells r ((n, (cells.lookup n).getD 0) :: acc) else cloFrom cells r acc
theorem closure_loop (env : Env) (f : Str × NameKind → List (Str × Addr) → Sem (ForInStep (List (Str × Addr))))
    (hf : ∀ n k c, f (n, k) c = if k == .free then (do let a ← cellOf env n; pure (.yield ((n, a) :: c))) else pure (.yield c)) :
    ∀ (names : List (Str × NameKind)) (acc : List (Str × Addr)), (∀ y ∈ names, y.2 = .free → ∃ c, env.cells.lookup y.1 = some c) → forIn names acc f = pure (cloFrom env.cells names acc)
  | [], acc, _ => by rw [List.forIn_nil]; rfl
  | (n, k) :: r, acc, h => by
    rw [List.forIn_cons, hf]
    have ih := fun acc => closure_loop env f hf r acc fun y hy => h y (List.mem_cons_of_mem _ hy)
    unfold cloFrom
    by_cases hk : (k == NameKind.free) = true
    · rw [if_pos hk, if_pos hk]
      obtain ⟨c, hc⟩ := h (n, k) List.mem_cons_self (by simpa using hk)
      have e : cellOf env n = pure c := by unfold cellOf; rw [hc]
      rw [e]
      have e2 : (env.cells.lookup n).getD 0 = c := by rw [hc]; rfl
      rw [e2]
      exact ih _
    · rw [if_neg hk, if_neg hk]
      exact ih _
theorem closure_ok {scope : Scope} {env : Env} (h : ∀ y ∈ scope.names, y.2 = .free → ∃ c, env.cells.lookup y.1 = some c) : closureFor scope env = pure (cloFrom env.cells scope.names []) := by
  simp only [closureFor]
  rw [closure_loop env _ (fun n k c => rfl) scope.names [] h]
  rfl
theorem mem_lookup {α : Type} : ∀ {l : List (Str × α)} {n : Str} {c : α}, (n, c) ∈ l → ∃ c', l.lookup n = some c'
  | (k, v) :: r, n, c, h => by
    rw [List.lookup_cons]
    cases hb : n == k with
    | true => exact ⟨_, rfl⟩
    | false =>
      rcases List.mem_cons.mp h with e | h
      · cases e; simp at hb
      · exact mem_lookup h
theorem cloFrom_mem {cells : List (Str × Addr)} : ∀ {names : List (Str × NameKind)} {acc : List (Str × Addr)} {n : Str} {c : Addr}, (n, c) ∈ cloFrom cells names acc → (n, c) ∈ acc ∨ ((n, .free) ∈ names ∧ c = (cells.lookup n).getD 0)
  | [], _, _, _, h => .inl h
  | (m, k) :: r, acc, n, c, h => by
    unfold cloFrom at h
    split at h
    · rename_i hk
      have hk : k = .free := by simpa using hk
      rcases cloFrom_mem h with h | ⟨h1, h2⟩
      · rcases List.mem_cons.mp h with e | h
        · cases e; exact .inr ⟨hk ▸ List.mem_cons_self, rfl⟩
        · exact .inl h
      · exact .inr ⟨List.mem_cons_of_mem _ h1, h2⟩
    · rcases cloFrom_mem h with h | ⟨h1, h2⟩
      · exact .inl h
      · exact .inr ⟨List.mem_cons_of_mem _ h1, h2⟩
theorem cloFrom_acc {cells : List (Str × Addr)} : ∀ {names : List (Str × NameKind)} {acc : List (Str × Addr)} {p : Str × Addr}, p ∈ acc → p ∈ cloFrom cells names acc
  | [], _, _, h => h
  | (m, k) :: r, acc, p, h => by
    unfold cloFrom
    split
    · exact cloFrom_acc (List.mem_cons_of_mem _ h)
    · exact cloFrom_acc h
theorem cloFrom_has {cells : List (Str × Addr)} : ∀ {names : List (Str × NameKind)} {acc : List (Str × Addr)} {n : Str}, (n, .free) ∈ names → (n, (cells.lookup n).getD 0) ∈ cloFrom cells names acc
  | (m, k) :: r, acc, n, h => by
    unfold cloFrom
    rcases List.mem_cons.mp h with e | h
    · cases e
      exact cloFrom_acc List.mem_cons_self
    · split
      · exact cloFrom_has h
      · exact cloFrom_has h
theorem cells_mem : ∀ {names : List (Str × NameKind)} {h : Heap} {acc : List (Str × Addr)} {x : Str} {c : Addr}, (x, c) ∈ cellsFrom h.objs.size names acc →
    (x, c) ∈ acc ∨ ((x, .cell) ∈ names ∧ h.objs.size ≤ c ∧ CellAt (pushCells h names) c none)
  | [], _, _, _, _, h => .inl h
  | (n, k) :: r, h, acc, x, c, hm => by
    unfold cellsFrom at hm
    unfold pushCells
    split at hm
    · rename_i hk
      rw [if_pos hk]
      have hk : k = .cell := by simpa using hk
      rw [← Heap.size_push h { cls := .type "cell", data := .cell none }] at hm
      rcases cells_mem hm with hm | ⟨h1, h2, h3⟩
      · rcases List.mem_cons.mp hm with e | hm
        · cases e
          exact .inr ⟨hk ▸ List.mem_cons_self, Nat.le_refl _, _, pushCells_keeps r _ _ _ (Heap.get?_push_size _ rfl), rfl⟩
        · exact .inl hm
      · rw [Heap.size_push] at h2
        exact .inr ⟨List.mem_cons_of_mem _ h1, Nat.le_of_succ_le h2, h3⟩
    · rename_i hk
      rw [if_neg hk]
      rcases cells_mem hm with hm | ⟨h1, h2, h3⟩
      · exact .inl hm
      · exact .inr ⟨List.mem_cons_of_mem _ h1, h2, h3⟩
theorem cells_acc : ∀ {names : List (Str × NameKind)} {n : Nat} {acc : List (Str × Addr)} {p : Str × Addr}, p ∈ acc → p ∈ cellsFrom n names acc
  | [], _, _, _, h => h
  | (m, k) :: r, n, acc, p, h => by
    unfold cellsFrom
    split
    · exact cells_acc (List.mem_cons_of_mem _ h)
    · exact cells_acc h
theorem cells_has : ∀ {names : List (Str × NameKind)} {n : Nat} {acc : List (Str × Addr)} {x : Str}, (x, .cell) ∈ names → ∃ c, (x, c) ∈ cellsFrom n names acc
  | (m, k) :: r, n, acc, x, h => by
    unfold cellsFrom
    rcases List.mem_cons.mp h with e | h
    · cases e
      exact ⟨n, cells_acc List.mem_cons_self⟩
    · split
      · exact cells_has h
      · exact cells_has h
theorem cells_inj : ∀ {names : List (Str × NameKind)} {h : Heap} {acc : List (Str × Addr)} {x y : Str} {c : Addr}, (∀ p ∈ acc, p.2 < h.objs.size) → (∀ x y c, (x, c) ∈ acc → (y, c) ∈ acc → x = y) →
    (x, c) ∈ cellsFrom h.objs.size names acc → (y, c) ∈ cellsFrom h.objs.size names acc → x = y
  | [], _, _, _, _, _, _, hi, h1, h2 => hi _ _ _ h1 h2
  | (n, k) :: r, h, acc, x, y, c, hl, hi, h1, h2 => by
    unfold cellsFrom at h1 h2
    split at h1
    · rename_i hk
      rw [if_pos hk] at h2
      rw [← Heap.size_push h { cls := .type "cell", data := .cell none }] at h1 h2
      refine cells_inj (h := h.push _) (fun p hp => ?_) (fun x y c a b => ?_) h1 h2
      · rw [Heap.size_push]
        rcases List.mem_cons.mp hp with rfl | hp
        · exact Nat.lt_succ_self _
        · exact Nat.lt_succ_of_lt (hl p hp)
      · rcases List.mem_cons.mp a with e | a <;> rcases List.mem_cons.mp b with e' | b
        · cases e; cases e'; rfl
        · cases e; exact absurd (hl _ b) (Nat.lt_irrefl _)
        · cases e'; exact absurd (hl _ a) (Nat.lt_irrefl _)
        · exact hi _ _ _ a b
    · rename_i hk
      rw [if_neg hk] at h2
      exact cells_inj hl hi h1 h2
theorem newEnv_comp {M : Model} {A : Around} {E : Value → Shared → Prop} {s : Shared} {scope : Scope} {globals : Addr} {closure : List (Str × Addr)} {qual : Str} {func : Option Addr} {code : Value} {around : Env} {builtins : Addr} {Q : Env → Shared → Prop}
    (h : Q (newEnv scope s.heap.objs.size globals (cellsFrom (s.heap.objs.size + 1) scope.names closure) qual func code (some around) builtins)
      { s with heap := pushCells (s.heap.push { cls := .type "dict", data := .dict #[] }) scope.names }) :
    wpAny M A (newFunctionEnv scope globals closure [] qual func code (some around) builtins) Q E s := by
  simp only [newFunctionEnv, Option.isSome_some, if_true]
  refine wpAny_bind (wpAny_alloc ?_)
  refine wpAny_bind (wpAny_layCells _ (fun n k c => rfl) scope.names closure _ _ ?_)
  rw [show ({ s with heap := s.heap.push { cls := .type "dict", data := .dict #[] } } : Shared).heap.objs.size = s.heap.objs.size + 1 from Heap.size_push ..]
  rw [List.forIn_nil]
  exact wpAny_bind (wpAny_pure (wpAny_pure h))
theorem lookup_relS {sc : Scope} : ∀ {names : List (Str × NameKind)} {x : Str} {k : NameKind},
    (names.map fun (n, k) => if (k == NameKind.free && sc.kind == .function && sc.names.lookup n == some .cell) then (n, NameKind.cell) else (n, k)).lookup x = some k →
    ∃ k', names.lookup x = some k' ∧ (k = k' ∨ (k' = .free ∧ k = .cell))
  | [], _, _, h => by simp at h
  | (n, k₀) :: r, x, k, h => by
    have ih := @lookup_relS sc r x k
    have h' : List.lookup x ((if (k₀ == NameKind.free && sc.kind == .function && sc.names.lookup n == some .cell) = true then (n, NameKind.cell) else (n, k₀)) :: (r.map _)) = some k := h
    cases hx : x == n with
    | true =>
      simp only [List.lookup_cons, hx]
      by_cases hc : (k₀ == NameKind.free && sc.kind == .function && sc.names.lookup n == some .cell) = true
      · rw [if_pos hc] at h'
        simp only [List.lookup_cons, hx] at h'
        cases h'
        simp only [Bool.and_eq_true, beq_iff_eq] at hc
        exact ⟨k₀, rfl, .inr ⟨hc.1.1, rfl⟩⟩
      · rw [if_neg hc] at h'
        simp only [List.lookup_cons, hx] at h'
        cases h'
        exact ⟨_, rfl, .inl rfl⟩
    | false =>
      simp only [List.lookup_cons, hx]
      by_cases hc : (k₀ == NameKind.free && sc.kind == .function && sc.names.lookup n == some .cell) = true
      · rw [if_pos hc] at h'
        simp only [List.lookup_cons, hx] at h'
        exact ih h'
      · rw [if_neg hc] at h'
        simp only [List.lookup_cons, hx] at h'
        exact ih h'
structure BlkOk (N : List Str) (sc scope : Scope) (own : List (Str × Nat)) : Prop where
  kind : scope.kind = .function
  uniq : ∀ y ∈ scope.names, scope.names.lookup y.1 = some y.2
  ix : ∀ p ∈ own, N[p.2]? = some p.1
  free : ∀ y ∈ scope.names, y.2 = .free → sc.names.lookup y.1 = some .cell ∨ sc.names.lookup y.1 = some .free
  own : ∀ y ∈ scope.names, y.2 = .local ∨ y.2 = .cell → y.1 ∈ own.map (·.1) ∨ y.1 ∉ N
def wipe (σ : St) : List Nat → St
  | [] => σ
  | v :: vs => (wipe σ vs).set v none
theorem wipe_length (σ : St) : ∀ vs : List Nat, (wipe σ vs).length = σ.length
  | [] => rfl
  | v :: vs => by unfold wipe; rw [List.length_set, wipe_length σ vs]
theorem wipe_some {σ : St} {i : Nat} {x : V} : ∀ {vs : List Nat}, (wipe σ vs)[i]? = some (some x) → σ[i]? = some (some x) ∧ i ∉ vs
  | [], h => ⟨h, by simp⟩
  | v :: vs, h => by
    unfold wipe at h
    by_cases hi : v = i
    · subst hi
      by_cases hv : v < (wipe σ vs).length
      · rw [List.getElem?_set_self hv] at h; cases h
      · rw [List.getElem?_eq_none (by simpa using hv)] at h; cases h
    · rw [List.getElem?_set_ne hi] at h
      obtain ⟨h1, h2⟩ := wipe_some h
      exact ⟨h1, by simp only [List.mem_cons, not_or]; exact ⟨fun e => hi e.symm, h2⟩⟩
abbrev Cx.blk (X : Cx) (s : Shared) (H : Hp) (scope : Scope) (cenv : Env) (fp : List Addr) : Cx := { X with s_0 := s, H_0 := H, env := cenv, outer := X.stack, ex := fp, fn := fun x => scope.names.lookup x == some .cell, pn := [], xe := fun _ _ => False }
section
variable {X : Cx} {pins : List (Addr × Obj)} {σ : St} {H : Hp} {s : Shared}
theorem block_start {scope : Scope} {own : List (Str × Nat)} {fp : List Addr} (I : Inv X pins σ H s) (ok : BlkOk X.N X.env.scope scope own) (hN : X.N.Nodup) (hfp : ∀ b ∈ fp, FpOk X pins H b ∧ b < s.heap.objs.size) :
    Inv (X.blk s H scope (compEnvC scope (cellsFrom (s.heap.objs.size + 1) scope.names (cloFrom X.env.cells scope.names [])) s.heap.objs.size X.env) fp) [] (wipe σ (own.map (·.2))) H { s with heap := pushCells (s.heap.push { cls := .type "dict", data := .dict #[] }) scope.names } := by
  have hfree : ∀ y ∈ scope.names, y.2 = .free → ∃ c, X.env.cells.lookup y.1 = some c := fun y hy e => by
    rcases ok.free y hy e with k | k
    · exact I.ok.has _ (.inl k)
    · exact I.ok.has _ (.inr k)
  generalize hcenv : compEnvC scope (cellsFrom (s.heap.objs.size + 1) scope.names (cloFrom X.env.cells scope.names [])) s.heap.objs.size X.env = cenv
  have kp : ∀ b o, s.heap.get? b = some o → (pushCells (s.heap.push { cls := .type "dict", data := .dict #[] }) scope.names).get? b = some o := fun b o e => pushCells_keeps _ _ _ _ (Heap.get?_push_of_some _ e)
  have hL : cenv.locals = s.heap.objs.size := by rw [← hcenv]; rfl
  have hcl : cenv.cells = cellsFrom (s.heap.objs.size + 1) scope.names (cloFrom X.env.cells scope.names []) := by rw [← hcenv]; rfl
  have hsc : cenv.scope = relS scope X.env.scope := by rw [← hcenv]; rfl
  rw [← Heap.size_push s.heap { cls := .type "dict", data := .dict #[] }] at hcl
  have cm : ∀ {y c}, (y, c) ∈ cloFrom X.env.cells scope.names [] → X.env.cells.lookup y = some c ∧ c < s.heap.objs.size := fun {y c} hm => by
    rcases cloFrom_mem hm with hm | ⟨h1, rfl⟩
    · cases hm
    · obtain ⟨c, hc⟩ := hfree _ h1 rfl
      rw [hc]
      obtain ⟨w, z⟩ := I.cell _ _ hc
      exact ⟨rfl, z.lt⟩
  have mem : ∀ {y c}, cenv.cells.lookup y = some c → (X.env.cells.lookup y = some c ∧ c < s.heap.objs.size) ∨ (s.heap.objs.size + 1 ≤ c ∧ CellAt (pushCells (s.heap.push { cls := .type "dict", data := .dict #[] }) scope.names) c none) := fun {y c} e => by
    rw [hcl] at e
    rcases cells_mem (PySem.mem_of_lookup e) with hm | ⟨_, h2, h3⟩
    · exact .inl (cm hm)
    · rw [Heap.size_push] at h2; exact .inr ⟨h2, h3⟩
  have look : ∀ {y}, scope.names.lookup y = some .free → ∃ c, cenv.cells.lookup y = some c ∧ X.env.cells.lookup y = some c := fun {y} hl => by
    have hy : (y, NameKind.free) ∈ scope.names := PySem.mem_of_lookup hl
    obtain ⟨c', e'⟩ := mem_lookup (cells_acc (names := scope.names) (n := (s.heap.push { cls := .type "dict", data := .dict #[] }).objs.size) (cloFrom_has (cells := X.env.cells) (acc := []) hy))
    rw [← hcl] at e'
    refine ⟨c', e', ?_⟩
    rw [hcl] at e'
    rcases cells_mem (PySem.mem_of_lookup e') with hm | ⟨h1, _, _⟩
    · exact (cm hm).1
    · have := ok.uniq _ h1
      rw [hl] at this; cases this
  have okB : (X.blk s H scope cenv fp).Ok := by
    refine ⟨I.ok.mod, by show cenv.scope.kind = _; rw [hsc]; exact ok.kind, by show cenv.globals = _; rw [← hcenv]; exact I.ok.glob, by show cenv.builtins = _; rw [← hcenv]; exact I.ok.blt, by show s.heap.objs.size ≤ cenv.locals; rw [hL]; exact Nat.le_refl _,
      fun y z c e1 e2 => ?_, fun y hy => ?_, fun y c z e => ?_, I.ok.hd, I.ok.frames, .inl rfl, fun b hb => ⟨?_, fun y c e z => ?_⟩, I.bs, Nat.le_trans I.ok.bsz I.sz, fun b o e hb => ?_, fun b hb z => ?_, I.stack, I.stkFree⟩
    · have e1 : cenv.cells.lookup y = some c := e1
      have e2 : cenv.cells.lookup z = some c := e2
      rw [hcl] at e1 e2
      refine cells_inj (fun p hp => ?_) (fun y z c a b => I.ok.inj y z c (cm a).1 (cm b).1) (PySem.mem_of_lookup e1) (PySem.mem_of_lookup e2)
      rw [Heap.size_push]
      exact Nat.lt_succ_of_lt (cm (y := p.1) (c := p.2) hp).2
    · show ∃ c, cenv.cells.lookup y = some c
      have key : ∀ k, cenv.kindOf y = some k → (k = .cell ∨ k = .free) → ∃ c, cenv.cells.lookup y = some c := fun k hk hk' => by
        unfold Env.kindOf at hk
        rw [hsc] at hk
        obtain ⟨k', e, r⟩ := lookup_relS hk
        have : k' = .cell ∨ k' = .free := by
          rcases r with rfl | ⟨rfl, _⟩
          · exact hk'
          · exact .inr rfl
        rcases this with rfl | rfl
        · obtain ⟨c, hm⟩ := cells_has (n := (s.heap.push { cls := .type "dict", data := .dict #[] }).objs.size) (acc := cloFrom X.env.cells scope.names []) (PySem.mem_of_lookup e)
          obtain ⟨c', e'⟩ := mem_lookup hm
          exact ⟨c', by rw [hcl]; exact e'⟩
        · obtain ⟨c, h1, _⟩ := look e
          exact ⟨c, h1⟩
      rcases hy with hy | hy
      · exact key _ hy (.inl rfl)
      · exact key _ hy (.inr rfl)
    · have z : (scope.names.lookup y == some NameKind.cell) = true := z
      have z : scope.names.lookup y = some .cell := by simpa using z
      have e : cenv.cells.lookup y = some c := e
      rw [hcl] at e
      rcases cells_mem (PySem.mem_of_lookup e) with hm | ⟨_, h2, _⟩
      · rcases cloFrom_mem hm with hm | ⟨h1, _⟩
        · cases hm
        · have q := ok.uniq _ h1
          rw [z] at q; cases q
      · rw [Heap.size_push] at h2
        exact Nat.le_of_succ_le h2
    · show b ≠ cenv.locals
      rw [hL]; exact Nat.ne_of_lt (hfp b hb).2
    · have e : cenv.cells.lookup y = some c := e
      rcases mem e with ⟨h1, _⟩ | ⟨h1, _⟩
      · exact (hfp b hb).1.2.2.2.2.1 y c h1 z
      · have h2 : s.heap.objs.size + 1 ≤ b := by rw [← z]; exact h1
        exact absurd (Nat.lt_of_lt_of_le (hfp b hb).2 (Nat.le_of_succ_le h2)) (Nat.lt_irrefl _)
    · rcases (hfp b hb).1.2.2.2.1 with z | z
      · exact I.ok.noex b o e z
      · exact absurd (Nat.lt_of_lt_of_le (Heap.lt_size e) (Nat.le_trans I.ok.bsz z)) (Nat.lt_irrefl _)
    · rcases List.mem_cons.mp (I.stkSub b z) with z | z
      · exact (hfp b hb).1.2.1 z
      · exact (hfp b hb).1.2.2.1 z
  refine ⟨okB, rfl, I.bare, Un.kept kp, ⟨fun _ => none, ?_, fun i y av e1 e2 e3 => ?_⟩, fun y c e => ?_, ?_, fun y c e => ?_, fun p hp => ?_, I.hok.kept kp, by rw [wipe_length]; exact I.len⟩
  · show Heap.Ns _ cenv.locals _
    rw [hL]
    exact Heap.Ns.keeps (Heap.Ns.new ..) fun b o e => pushCells_keeps _ _ _ _ e
  · obtain ⟨e2, hne⟩ := wipe_some e2
    have hfr : scope.names.lookup y = some .free ∧ (cenv.kindOf y = some .cell ∨ cenv.kindOf y = some .free) := by
      have key : ∀ k, cenv.scope.names.lookup y = some k → k = .local ∨ k = .cell ∨ k = .free → scope.names.lookup y = some .free ∧ (cenv.kindOf y = some .cell ∨ cenv.kindOf y = some .free) := fun k hk hk' => by
        have hk0 := hk
        rw [hsc] at hk
        obtain ⟨k', e, r⟩ := lookup_relS hk
        have no : ¬ (k' = .local ∨ k' = .cell) := fun hh => by
          rcases ok.own _ (PySem.mem_of_lookup e) hh with e' | e'
          · obtain ⟨p, hp, hpy⟩ := List.mem_map.mp e'
            have e3 := ok.ix p hp
            have : p.1 = y := hpy
            rw [this] at e3
            exact hne (List.mem_map.mpr ⟨p, hp, nodup_ix hN e3 e1⟩)
          · exact e' (List.mem_of_getElem? e1)
        rcases r with rfl | ⟨rfl, rfl⟩
        · rcases hk' with rfl | rfl | rfl
          · exact absurd (.inl rfl) no
          · exact absurd (.inr rfl) no
          · exact ⟨e, .inr hk0⟩
        · exact ⟨e, .inl hk0⟩
      have e3 : Vis cenv.scope y := e3
      rcases e3 with e3 | e3 | e3
      · exact key _ e3 (.inl rfl)
      · exact key _ e3 (.inr (.inl rfl))
      · exact key _ e3 (.inr (.inr rfl))
    obtain ⟨m, hn, hl⟩ := I.loc
    have hvis : Vis X.env.scope y := (ok.free _ (PySem.mem_of_lookup hfr.1) rfl).elim (fun k => .inr (.inl k)) (fun k => .inr (.inr k))
    obtain ⟨w, r, q⟩ := hl i y av e1 e2 hvis
    refine ⟨w, r, .inr ⟨hfr.2, ?_⟩⟩
    obtain ⟨c, h1, h2⟩ := look hfr.1
    rcases q with ⟨k, _⟩ | ⟨_, c', e', z⟩
    · have k : X.env.scope.names.lookup y = some .local := k
      rcases ok.free _ (PySem.mem_of_lookup hfr.1) rfl with k' | k' <;> rw [show X.env.scope.names.lookup y = _ from k'] at k <;> cases k
    · rw [h2] at e'; cases e'
      exact ⟨c, h1, z.keeps kp⟩
  · have e : cenv.cells.lookup y = some c := e
    rcases mem e with ⟨h1, _⟩ | ⟨_, z⟩
    · obtain ⟨w, z⟩ := I.cell y c h1
      exact ⟨w, z.keeps kp⟩
    · exact ⟨_, z⟩
  · show H cenv.locals = none
    rw [hL]; exact I.hok.fresh (Nat.le_refl _)
  · have e : cenv.cells.lookup y = some c := e
    rcases mem e with ⟨h1, _⟩ | ⟨h1, _⟩
    · exact I.freeC y c h1
    · exact I.hok.fresh (Nat.le_of_succ_le h1)
  · exact absurd (show p ∈ ([] : List (Addr × Obj)) ++ [] from hp) (by simp)
theorem app_ok {E : Value → Shared → Prop} {D : Addr} {xs : List V} {y : V} {v : Value} {Q : Value → Shared → Prop} (I : Inv X pins σ H s) (hD : H D = some (.lst xs)) (hz : xs.length < sizeLine) (r : RelV y v)
    (h : ∀ s', Inv X pins σ (upd H D (.lst (xs ++ [y]))) s' → Q .none s') : wpAny (model X.prog X.w) X.A (call (.builtin "list.append") [.ref D, v]) Q E s := by
  obtain ⟨hz', its, n, ri, e⟩ := I.hok D _ hD
  have hl := ri.length
  refine append_at (hsz := by rw [List.size_toArray]; omega) e fun h' sb ho' => ?_
  refine h { s with heap := h' } (I.write (t' := s.toks) (by rw [hD]; trivial) (.inl rfl) (fun b u hb q => (sb.2 b hb).trans q) ⟨_, ho'⟩ ⟨by rw [List.length_append]; exact hz, its ++ [v], n + 1, ri.append (.cons r .nil), ?_⟩)
  rw [ho']
  simp
def PTs (X : Cx) (ifs : List Expr) (t : TT) : Prop :=
  ∀ (pins : List (Addr × Obj)) (s : Shared) (σ : St) (H : Hp) (Q : Bool → Hp → Prop), Inv X pins σ H s → t σ H Q →
    wpAny (model X.prog X.w) X.A (forIn ifs true fun c r => if r = true then do let ok ← isTrue c X.env (eval c X.env); pure (ForInStep.yield ok) else pure (ForInStep.yield r)) (TP X pins σ Q) X.xe s
def tYes : TT := fun _ H Q => Q true H
theorem pts_nil : PTs X [] tYes := fun _ _ _ H _ I h => wpAny_tests_nil ⟨H, I, h⟩
theorem pts_one {c : Expr} {t : TT} (h : PT X c t) : PTs X [c] t := fun pins s σ H Q I hw => wpAny_tests_one (h pins s σ H Q I hw)
end
theorem thnF {α : Type} {t : Sem α} {Q Q' : α → Shared → Prop} {M : Model} {A : Around} {E : Value → Shared → Prop} {s : Shared} (h : wpAny M A t Q (fun _ _ => False) s) (hQ : ∀ a s, Q a s → Q' a s) : wpAny M A t Q' E s := wpAny_mono h hQ fun _ _ z => False.elim z
theorem compLoop_any {prog : Program} {w : World} {A : Around} {R : Result → Shared → Prop} {s : Shared} {elt target iter : Expr} {ifs : List Expr} {scope : Scope} {pos : Pos} {it acc : Value} {env : Env} (I : Nat → Shared → Prop)
    (turn : ∀ n s, I n s → wpAny (model prog w) A (pyNext it) (fun r s₁ => match r with
      | none => R (.ok .next) s₁
      | some v => wpAny (model prog w) A (letOwnedTupleGo target it v) (fun _ s₁' => wpAny (model prog w) A (assign target env v) (fun _ s₂ =>
          wpAny (model prog w) A (forIn ifs true fun c r => if r = true then do let ok ← isTrue c env (eval c env); pure (ForInStep.yield ok) else pure (ForInStep.yield r)) (fun ok s₃ =>
            if ok = true then wpAny (model prog w) A (eval elt env) (fun x s₄ =>
              wpAny (model prog w) A (call (.builtin "list.append") [acc, x]) (fun _ s₅ => ∃ m, m < n ∧ I m s₅) (notedBy (model prog w) A env fun e s' => R (.error e) s') s₄) (notedBy (model prog w) A env fun e s' => R (.error e) s') s₃
            else ∃ m, m < n ∧ I m s₃) (notedBy (model prog w) A env fun e s' => R (.error e) s') s₂) (notedBy (model prog w) A env fun e s' => R (.error e) s') s₁') (notedBy (model prog w) A env fun e s' => R (.error e) s') s₁) (notedBy (model prog w) A env fun e s' => R (.error e) s') s)
    (n : Nat) (h : I n s) :
    codeAny (model prog w) A (.compLoop (.ListComp elt [⟨target, iter, ifs, 0⟩] scope pos) 0 it acc env) R s := by
  refine codeAny_loop rfl I (fun n s hI => ?_) n h
  show wpAny _ A ((compTurn (.ListComp elt [⟨target, iter, ifs, 0⟩] scope pos) 0 it acc env).onRaise (fun x => do noteFrame x env; theTreesLotGoes x)) _ _ s
  refine wpAny_noted ?_
  rw [compTurn_list]
  refine wpAny_bind (wpAny_standAt (wpAny_bind (wpAny_mono (turn n s hI) (fun r s₁ h₁ => ?_) fun _ _ h' => h')))
  cases r with
  | none => exact wpAny_pure h₁
  | some v =>
    refine wpAny_bind (wpAny_mono h₁ (fun _ s₁' h₁' => ?_) fun _ _ h' => h')
    refine wpAny_bind (wpAny_mono h₁' (fun _ s₂ h₂ => wpAny_bind (wpAny_mono h₂ (fun ok s₃ h₃ => ?_) fun _ _ h' => h')) fun _ _ h' => h')
    cases ok with
    | false => exact wpAny_pure ⟨rfl, h₃⟩
    | true =>
      exact wpAny_bind (wpAny_bind (wpAny_mono h₃ (fun x s₄ h₄ => wpAny_bind (wpAny_mono h₄ (fun _ s₅ h₅ => wpAny_pure (wpAny_pure ⟨rfl, h₅⟩)) fun _ _ h' => h')) fun _ _ h' => h'))
section
variable {X : Cx}
def tLc (wi : TI) (g : TG) (tt : TT) (te : TE) (vs : List Nat) : TE := fun σ H Q => wi σ H fun J H1 => ∀ D, H1 D = none → ∃ W : Nat → Nat → Hp → Prop, (∃ m, W 0 m (upd H1 D (.lst []))) ∧ ∀ i m H, W i m H →
  (J.stop i H ∧ Q (.ref D) H) ∨ (J.go i H ∧ ∃ Nx : Hp → Prop, (∀ H', Nx H' → ∃ m', m' < m ∧ W (i + 1) m' H') ∧ ∀ x H', J.yld i H x H' → g x (wipe σ vs) H' fun σ2 H2 => wipe σ2 vs = wipe σ vs ∧ tt σ2 H2 fun b H3 =>
    if b = true then te σ2 H3 fun y H4 => ∃ acc, H4 D = some (.lst acc) ∧ acc.length < sizeLine ∧ Nx (upd H4 D (.lst (acc ++ [y]))) else Nx H3)
theorem lc_core {pins : List (Addr × Obj)} {s : Shared} {σ : St} {H : Hp} {Q : VK} {elt tg iter : Expr} {ifs : List Expr} {scope : Scope} {own : List (Str × Nat)} {pos pos' : Pos} {wi : TI} {g : TG} {tt : TT} {te : TE} {use : Option (Value → Sem Unit)} {Qf : Value → Shared → Prop}
    (hc : X.calm = true) (hN : X.N.Nodup) (I : Inv X pins σ H s) (hi : PI X tg iter wi) (ok : BlkOk X.N X.env.scope scope own)
    (hg : ∀ (s : Shared) (H : Hp) (C : Addr) (cl : List (Str × Addr)) (fp : List Addr), PG (X.blk s H scope (compEnvC scope cl C X.env) fp) tg g) (ht : ∀ (s : Shared) (H : Hp) (C : Addr) (cl : List (Str × Addr)) (fp : List Addr), PTs (X.blk s H scope (compEnvC scope cl C X.env) fp) ifs tt)
    (he : ∀ (s : Shared) (H : Hp) (C : Addr) (cl : List (Str × Addr)) (fp : List Addr), PE (X.blk s H scope (compEnvC scope cl C X.env) fp) elt te) (hs : ∀ x, foldedSetIterable iter X.env x = pure x)
    (h : tLc wi g tt te (own.map (·.2)) σ H Q)
    (hRR : ∀ D C s' m H', Inv X pins σ H' s' → Q (.ref D) H' → s'.heap.Ns C m → FpOk X pins H' C → compPost (model X.prog X.w) X.A X.xe use Qf (.ref D) C (.ok .next) s') :
    wpAny (model X.prog X.w) X.A (comprehension (.ListComp elt [⟨tg, iter, ifs, 0⟩] scope pos) scope X.env pos' (newList []) false (eval iter X.env) use) Qf X.xe s := by
  have hfree : ∀ y ∈ scope.names, y.2 = .free → ∃ c, X.env.cells.lookup y.1 = some c := fun y hy e => by
    rcases ok.free y hy e with k | k
    · exact I.ok.has _ (.inl k)
    · exact I.ok.has _ (.inr k)
  refine wpAny_comprehension_free (use := use) rfl hs (closure_ok hfree) ok.kind (fun y hy e => by rw [ok.uniq y hy, e])
    (thn (hi pins s σ H _ I h) fun xv s1 hx => thn hx fun itv s2 h2 => ?_)
  obtain ⟨it, fp, tn, J, H2, e, I2, T, st2, f2, q⟩ := h2
  subst e
  refine wpAny_newObj_type (newEnv_comp ?_) (by show 0 ≤ sizeLine; decide)
  generalize hD : s2.heap.objs.size = D
  have hDn : H2 D = none := I2.hok.fresh (Nat.le_of_eq hD)
  obtain ⟨W, ⟨m0, w0⟩, turn⟩ := q D hDn
  generalize hs3 : ({ s2 with heap := s2.heap.push { cls := .type "list", data := .seq ([] : List Value).toArray } } : Shared) = s3
  have I3 : Inv X pins σ (upd H2 D (.lst [])) s3 := by
    rw [← hs3]
    refine I2.laid (t' := s2.toks) (fun b o e => Heap.get?_push_of_some _ e) (Nat.le_of_eq hD) ⟨Nat.zero_le _, [], 0, .nil, ?_⟩
    rw [← hD]
    exact Heap.get?_push_size _ rfl
  have h3 : s3.heap = s2.heap.push { cls := .type "list", data := .seq ([] : List Value).toArray } := by rw [← hs3]
  have sz : ∀ b ∈ fp, b < s2.heap.objs.size := fun b hb => by
    obtain ⟨o, e, _⟩ := T.obj _ _ st2 b hb
    exact Heap.lt_size e
  have f3 : ∀ b ∈ fp, FpOk X pins (upd H2 D (.lst [])) b ∧ b < s3.heap.objs.size := fun b hb => by
    have hlt := sz b hb
    refine ⟨⟨?_, (f2 b hb).2⟩, by rw [h3, Heap.size_push]; exact Nat.lt_succ_of_lt hlt⟩
    rw [upd_ne (by rw [← hD]; exact Nat.ne_of_lt hlt)]
    exact (f2 b hb).1
  have st3 : tn 0 s3.heap := T.keep _ _ _ st2 fun b _ o e => by rw [h3]; exact Heap.get?_push_of_some _ e
  have I4 := block_start I3 ok hN f3
  have pg := hg s3 (upd H2 D (.lst [])) s3.heap.objs.size (cellsFrom (s3.heap.objs.size + 1) scope.names (cloFrom X.env.cells scope.names [])) fp
  have pt := ht s3 (upd H2 D (.lst [])) s3.heap.objs.size (cellsFrom (s3.heap.objs.size + 1) scope.names (cloFrom X.env.cells scope.names [])) fp
  have pe := he s3 (upd H2 D (.lst [])) s3.heap.objs.size (cellsFrom (s3.heap.objs.size + 1) scope.names (cloFrom X.env.cells scope.names [])) fp
  show codeAny _ _ (.compStart (.ListComp elt [⟨tg, iter, ifs, 0⟩] scope pos) 0 (.ref it) (.ref D) (compEnvC scope (cellsFrom (s3.heap.objs.size + 1) scope.names (cloFrom X.env.cells scope.names [])) s3.heap.objs.size X.env)) (compPost (model X.prog X.w) X.A X.xe use Qf (.ref D) s3.heap.objs.size) { s3 with heap := pushCells (s3.heap.push { cls := .type "dict", data := .dict #[] }) scope.names }
  have nfp : ∀ b ∈ fp, (upd H2 D (.lst [])) b = none := fun b hb => (f3 b hb).1.1
  generalize hce : compEnvC scope (cellsFrom (s3.heap.objs.size + 1) scope.names (cloFrom X.env.cells scope.names [])) s3.heap.objs.size X.env = ce at I4 pg pt pe ⊢
  have cL : ce.locals = s3.heap.objs.size := by subst hce; rfl
  generalize hH3 : upd H2 D (.lst []) = H3 at I3 I4 pg pt pe w0 nfp f3
  generalize hs4 : ({ s3 with heap := pushCells (s3.heap.push { cls := .type "dict", data := .dict #[] }) scope.names } : Shared) = s4 at I4 ⊢
  have st4 : tn 0 s4.heap := T.keep _ _ _ st3 fun b _ o e => by rw [← hs4]; exact pushCells_keeps _ _ _ _ (Heap.get?_push_of_some _ e)
  have stat : ∀ {σ' : St} {H' : Hp} {s' : Shared}, Inv (X.blk s3 H3 scope ce fp) [] σ' H' s' → (∀ b ∈ fp, H' b = none) → ∀ b ∈ fp, FpOk (X.blk s3 H3 scope ce fp) [] H' b := fun {σ' H' s'} I' hn b hb =>
    ⟨hn b hb, (I'.ok.exf b hb).1, I'.ok.exfs b hb, .inl hb, fun x c e => (I'.ok.exf b hb).2 x c e, fun p hp => absurd (show p ∈ ([] : List (Addr × Obj)) ++ [] from hp) (by simp)⟩
  have loop : codeAny (model X.prog X.w) X.A (.compLoop (.ListComp elt [⟨tg, iter, ifs, 0⟩] scope pos) 0 (.ref it) (.ref D) ce) (compPost (model X.prog X.w) X.A X.xe use Qf (.ref D) s3.heap.objs.size) s4 := by
    refine compLoop_any (fun n s' => ∃ i H', Inv (X.blk s3 H3 scope ce fp) [] (wipe σ (own.map (·.2))) H' s' ∧ tn i s'.heap ∧ (∀ b ∈ fp, H' b = none) ∧ W i n H') ?_ m0 ⟨0, H3, I4, st4, nfp, w0⟩
    rintro n s5 ⟨i, H5, I5, st5, n5, w5⟩
    rcases turn i n H5 w5 with ⟨stop, qq⟩ | ⟨go, Nx, hNx, step⟩
    · have td := T.done (X.blk s3 H3 scope ce fp) rfl rfl rfl hc i [] s5 _ H5 (fun _ _ => False) I5 (stat I5 n5) st5 stop
      refine thnF td fun r s6 ⟨hr, I6⟩ => ?_
      subst hr
      have I7 : Inv X pins σ H5 s6 := I3.call' (ch := fp) I6.os I6.base I6.hok I6.bare fun b hb => ⟨(f3 b hb).1.2.2.2.1, (f3 b hb).1.2.1, (f3 b hb).1.2.2.2.2.1, (f3 b hb).1.2.2.2.2.2⟩
      have nC : H5 s3.heap.objs.size = none := by
        have z : H5 ce.locals = none := I6.free
        rw [cL] at z
        exact z
      obtain ⟨m, hn, _⟩ := I6.loc
      have hn : s6.heap.Ns ce.locals m := hn
      rw [cL] at hn
      exact hRR D s3.heap.objs.size s6 m H5 I7 qq hn (I3.fpOk (Nat.le_refl _) nC)
    · have ti := T.item (X.blk s3 H3 scope ce fp) rfl rfl rfl hc i [] s5 _ H5 (fun _ _ => False) I5 (stat I5 n5) st5 go
      refine thnF ti fun r s6 ⟨u, hr, h6⟩ => ?_
      subst hr
      refine thnF h6 fun _ s7 ⟨x, H7, I7, r7, y7, st7, n7⟩ => ?_
      have I7' := I7.pinned (stat I7 n7) (T.obj _ _ st7)
      refine thnF (pg _ s7 _ H7 x u _ I7' r7 (step x H7 y7)) fun _ s8 ⟨σ8, H8, I8, hw8, q8⟩ => ?_
      refine thnF (pt _ s8 σ8 H8 _ I8 q8) fun b s9 ⟨H9, I9, q9⟩ => ?_
      have fin : ∀ {s' : Shared} {H' : Hp}, Inv (X.blk s3 H3 scope ce fp) ([] ++ pinsAt fp s7.heap) σ8 H' s' → Nx H' → ∃ m, m < n ∧ ∃ i H', Inv (X.blk s3 H3 scope ce fp) [] (wipe σ (own.map (·.2))) H' s' ∧ tn i s'.heap ∧ (∀ b ∈ fp, H' b = none) ∧ W i m H' := fun {s' H'} I' nx => by
        obtain ⟨m', hm, w'⟩ := hNx H' nx
        have pin' : ∀ b ∈ fp, ∀ o, s7.heap.get? b = some o → s'.heap.get? b = some o ∧ H' b = none := fun b hb o e =>
          let z := I'.pin (b, o) (List.mem_append_right _ (List.mem_append_right _ (mem_pinsAt hb e)))
          ⟨z.1, z.2.1⟩
        have hl : (wipe σ (own.map (·.2))).length = σ8.length := by rw [← hw8, wipe_length]
        refine ⟨m', hm, i + 1, H', (I'.unpinned (pins := [])).weak hl (fun j v e => ?_), T.keep _ _ _ st7 fun b hb o e => (pin' b hb o e).1, fun b hb => ?_, w'⟩
        · rw [← hw8] at e
          exact (wipe_some e).1
        · obtain ⟨o, e, _⟩ := T.obj _ _ st7 b hb
          exact (pin' b hb o e).2
      cases b with
      | false =>
        simp only [Bool.false_eq_true, if_false] at q9 ⊢
        exact fin I9 q9
      | true =>
        simp only [if_true] at q9 ⊢
        refine thnF (pe _ s9 σ8 H9 _ I9 q9) fun z s10 ⟨yv, H10, I10, r10, acc, hD10, hz10, nx⟩ => ?_
        exact app_ok (X := X.blk s3 H3 scope ce fp) I10 hD10 hz10 r10 fun s11 I11 => fin I11 nx
  exact codeAny_compStart_list loop (T.self X.A 0 _ _ _ st4 loop)
theorem pe_lc {elt tg iter : Expr} {ifs : List Expr} {scope : Scope} {own : List (Str × Nat)} {pos : Pos} {wi : TI} {g : TG} {tt : TT} {te : TE} (hc : X.calm = true) (hN : X.N.Nodup) (hi : PI X tg iter wi) (ok : BlkOk X.N X.env.scope scope own)
    (hg : ∀ (s : Shared) (H : Hp) (C : Addr) (cl : List (Str × Addr)) (fp : List Addr), PG (X.blk s H scope (compEnvC scope cl C X.env) fp) tg g) (ht : ∀ (s : Shared) (H : Hp) (C : Addr) (cl : List (Str × Addr)) (fp : List Addr), PTs (X.blk s H scope (compEnvC scope cl C X.env) fp) ifs tt)
    (he : ∀ (s : Shared) (H : Hp) (C : Addr) (cl : List (Str × Addr)) (fp : List Addr), PE (X.blk s H scope (compEnvC scope cl C X.env) fp) elt te) (hs : ∀ x, foldedSetIterable iter X.env x = pure x := by intro _; rfl) :
    PE X (.ListComp elt [⟨tg, iter, ifs, 0⟩] scope pos) (tLc wi g tt te (own.map (·.2))) := by
  intro pins s σ H Q I h
  rw [eval_ListComp]
  refine lc_core hc hN I hi ok hg ht he hs h fun D C s' m H' I' q hn f => ⟨m, hn, fun h'' sb => ?_⟩
  obtain ⟨f0, f1, f2, f3, f4, f5⟩ := f
  exact ⟨.ref D, H', I'.turned (t' := s'.toks) (fun b o hb e => (sb.2 b hb).trans e) f0 f1 f3 f4 f5, rfl, q⟩
theorem ps_setLc {i : Nat} {y : Str} {py : Pos} {elt tg iter : Expr} {ifs : List Expr} {scope : Scope} {own : List (Str × Nat)} {pos spos : Pos} {wi : TI} {g : TG} {tt : TT} {te : TE} (hc : X.calm = true) (hN : X.N.Nodup) (hy : X.N[i]? = some y) (hyl : X.env.scope.names.lookup y = some .local)
    (hsw : swapsWith (.ListComp elt [⟨tg, iter, ifs, 0⟩] scope pos) (some (.Name y py)) spos.line X.env = pure true) (hi : PI X tg iter wi) (ok : BlkOk X.N X.env.scope scope own)
    (hg : ∀ (s : Shared) (H : Hp) (C : Addr) (cl : List (Str × Addr)) (fp : List Addr), PG (X.blk s H scope (compEnvC scope cl C X.env) fp) tg g) (ht : ∀ (s : Shared) (H : Hp) (C : Addr) (cl : List (Str × Addr)) (fp : List Addr), PTs (X.blk s H scope (compEnvC scope cl C X.env) fp) ifs tt)
    (he : ∀ (s : Shared) (H : Hp) (C : Addr) (cl : List (Str × Addr)) (fp : List Addr), PE (X.blk s H scope (compEnvC scope cl C X.env) fp) elt te) (hs : ∀ x, foldedSetIterable iter X.env x = pure x := by intro _; rfl) :
    PS X (.Assign [.Name y py] (.ListComp elt [⟨tg, iter, ifs, 0⟩] scope pos) spos) (tAsg (tLc wi g tt te (own.map (·.2))) (gName i)) := by
  intro pins s σ H D I h
  rw [exec_Assign_Name_used _ _ _ _ hsw]
  refine wpAny_bind (wpAny_standAt (wpAny_bind ?_))
  show wpAny _ X.A (do let _ ← comprehension (.ListComp elt [⟨tg, iter, ifs, 0⟩] scope pos) scope X.env (firstIterPos [⟨tg, iter, ifs, 0⟩] pos) (newList []) false (eval iter X.env) (some (assign (.Name y py) X.env))) _ _ s
  have h : tLc wi g tt te (own.map (·.2)) σ H (fun x H1 => gName i x σ H1 D.nx) := h
  refine wpAny_bind (thn (lc_core (Qf := fun _ s' => SP X pins D .next s') hc hN I hi ok hg ht he hs h fun L C s' m H' I' q hn f => ?_) fun _ s' hq => wpAny_pure (wpAny_pure hq))
  show wpAny _ _ (assign (.Name y py) X.env (.ref L)) _ _ _
  refine wpAny_assign_Name (store_ok2 (v := V.ref L) I' hN hy (.inl hyl) rfl (fun s2 I2 ⟨a, sb, ha⟩ => ?_) (.inr hyl))
  obtain ⟨f0, f1, f2, f3, f4, f5⟩ := f
  have haC : C ≠ a := by
    rcases ha with z | z
    · rw [z]; exact f1
    · exact fun e => f4 y a z e.symm
  refine ⟨m, hn.sameBut sb haC, fun h3 sb3 => ?_⟩
  exact ⟨_, H', I2.turned (t' := s2.toks) (fun b o hb e => (sb3.2 b hb).trans e) f0 f1 f3 f4 f5, q⟩
theorem sw_true {elt : Expr} {gs : List Comprehension} {scope : Scope} {pos py : Pos} {y : Str} {l : Nat} {env : Env} (hk : env.scope.kind = .function) (hy : env.scope.names.lookup y = some .local) (hl : (py.line == pos.line) = true)
    (ha : (scope.names.any fun (n, k) => n == y && (k == .local || k == .cell)) = false) : swapsWith (.ListComp elt gs scope pos) (some (.Name y py)) l env = pure true := by
  have ky : env.kindOf y = some .local := hy
  have hb : env.blockKind = .function := by unfold Env.blockKind; rw [hk]; rfl
  unfold swapsWith
  simp only [hb, ky, ha, Expr.pos, hl]
  rfl
end
theorem lc_range {lo : Int} {n : Nat} {g : TG} {tt : TT} {te : TE} {vs : List Nat} {σ : St} {H1 : Hp} {D : Addr} {Qd : Hp → Prop} (Pv : Nat → Hp → Prop) (h0 : Pv 0 (upd H1 D (.lst [])))
    (hs : ∀ i H, i < n → Pv i H → g (.int (lo + i)) (wipe σ vs) H fun σ2 H2 => wipe σ2 vs = wipe σ vs ∧ tt σ2 H2 fun b H3 =>
      if b = true then te σ2 H3 fun y H4 => ∃ acc, H4 D = some (.lst acc) ∧ acc.length < sizeLine ∧ Pv (i + 1) (upd H4 D (.lst (acc ++ [y]))) else Pv (i + 1) H3) (hd : ∀ H, Pv n H → Qd H) :
    ∃ W : Nat → Nat → Hp → Prop, (∃ m, W 0 m (upd H1 D (.lst []))) ∧ ∀ i m H, W i m H →
      ((Itr lo n).stop i H ∧ Qd H) ∨ ((Itr lo n).go i H ∧ ∃ Nx : Hp → Prop, (∀ H', Nx H' → ∃ m', m' < m ∧ W (i + 1) m' H') ∧ ∀ x H', (Itr lo n).yld i H x H' → g x (wipe σ vs) H' fun σ2 H2 => wipe σ2 vs = wipe σ vs ∧ tt σ2 H2 fun b H3 =>
        if b = true then te σ2 H3 fun y H4 => ∃ acc, H4 D = some (.lst acc) ∧ acc.length < sizeLine ∧ Nx (upd H4 D (.lst (acc ++ [y]))) else Nx H3) := by
  refine ⟨fun i m H => m = n - i ∧ i ≤ n ∧ Pv i H, ⟨n, by simp, Nat.zero_le _, h0⟩, ?_⟩
  rintro i m H ⟨rfl, hi, p⟩
  by_cases hlt : i < n
  · refine .inr ⟨hlt, Pv (i + 1), fun H' p' => ⟨n - (i + 1), by omega, rfl, hlt, p'⟩, fun x H' y => ?_⟩
    obtain ⟨e, y⟩ := y
    subst e y
    exact hs i _ hlt p
  · have e : i = n := by omega
    subst e
    exact .inl ⟨Nat.le_refl _, hd H p⟩
theorem lc_list {K : PySem.W.Frag} {a : Addr} {xs : List V} {g : TG} {tt : TT} {te : TE} {vs : List Nat} {σ : St} {H1 : Hp} {D : Addr} {Qd : Hp → Prop} (Pv : Nat → Hp → Prop) (h0 : Pv 0 (upd H1 D (.lst []))) (hl : ∀ i H, i ≤ xs.length → Pv i H → SqL K H a xs)
    (hs : ∀ i x H, xs[i]? = some x → Pv i H → g x (wipe σ vs) H fun σ2 H2 => wipe σ2 vs = wipe σ vs ∧ tt σ2 H2 fun b H3 =>
      if b = true then te σ2 H3 fun y H4 => ∃ acc, H4 D = some (.lst acc) ∧ acc.length < sizeLine ∧ Pv (i + 1) (upd H4 D (.lst (acc ++ [y]))) else Pv (i + 1) H3) (hd : ∀ H, Pv xs.length H → Qd H) :
    ∃ W : Nat → Nat → Hp → Prop, (∃ m, W 0 m (upd H1 D (.lst []))) ∧ ∀ i m H, W i m H →
      ((Itl K a).stop i H ∧ Qd H) ∨ ((Itl K a).go i H ∧ ∃ Nx : Hp → Prop, (∀ H', Nx H' → ∃ m', m' < m ∧ W (i + 1) m' H') ∧ ∀ x H', (Itl K a).yld i H x H' → g x (wipe σ vs) H' fun σ2 H2 => wipe σ2 vs = wipe σ vs ∧ tt σ2 H2 fun b H3 =>
        if b = true then te σ2 H3 fun y H4 => ∃ acc, H4 D = some (.lst acc) ∧ acc.length < sizeLine ∧ Nx (upd H4 D (.lst (acc ++ [y]))) else Nx H3) := by
  refine ⟨fun i m H => m = xs.length - i ∧ i ≤ xs.length ∧ Pv i H, ⟨xs.length, by simp, Nat.zero_le _, h0⟩, ?_⟩
  rintro i m H ⟨rfl, hi, p⟩
  have q := hl i H hi p
  by_cases hlt : i < xs.length
  · refine .inr ⟨⟨xs, xs[i], q, by simp [hlt]⟩, Pv (i + 1), fun H' p' => ⟨xs.length - (i + 1), by omega, rfl, hlt, p'⟩, fun x H' y => ?_⟩
    obtain ⟨e, y⟩ := y
    subst e
    exact hs i x _ (y xs q) p
  · have e : i = xs.length := by omega
    subst e
    exact .inl ⟨⟨xs, q, Nat.le_refl _⟩, hd H p⟩
def blkC (N : List Str) (sc scope : Scope) (own : List (Str × Nat)) : Bool :=
  (match scope.kind with | .function => true | _ => false) && (scope.names.all fun y => decide (scope.names.lookup y.1 = some y.2)) && (own.all fun p => decide (N[p.2]? = some p.1)) &&
    (scope.names.all fun y => match y.2 with
      | .free => (match sc.names.lookup y.1 with | some .cell => true | some .free => true | _ => false)
      | .local => decide (y.1 ∈ own.map (·.1)) || decide (y.1 ∉ N)
      | .cell => decide (y.1 ∈ own.map (·.1)) || decide (y.1 ∉ N)
      | _ => true)
theorem blkOk_by {N : List Str} {sc scope : Scope} {own : List (Str × Nat)} (h : blkC N sc scope own = true) : BlkOk N sc scope own := by
  unfold blkC at h
  simp only [Bool.and_eq_true, List.all_eq_true, decide_eq_true_eq] at h
  obtain ⟨⟨⟨h1, h2⟩, h3⟩, h4⟩ := h
  refine ⟨?_, h2, h3, fun y hy e => ?_, fun y hy e => ?_⟩
  · split at h1
    · assumption
    · cases h1
  · have q := h4 y hy
    simp only [e] at q
    split at q <;> first | exact .inl (by assumption) | exact .inr (by assumption) | cases q
  · have q := h4 y hy
    rcases e with e | e <;> (simp only [e, Bool.or_eq_true, decide_eq_true_eq] at q; exact q)
end L2
namespace L2
open PySem PySem.Spec PyProof.Rows
section
variable {prog : Program} {w : World} {A : Around} {R : Result → Shared → Prop} {s : Shared} {elt t0 i0 t1 i1 : Expr} {ifs0 ifs1 : List Expr} {scope : Scope} {pos : Pos} {it acc : Value} {env : Env}
end
section
variable {X : Cx}
end
end L2
namespace L2
open PySem PySem.Spec PyProof.Rows
section
variable {κ : Type} [DecidableEq κ]
def valV (kvs : List (κ × V)) (k : κ) : Option V := (kvs.find? fun kv => decide (kv.1 = k)).map (·.2)
def putK (kvs : List (κ × V)) (k : κ) (v : V) : List (κ × V) :=
  if (kvs.any fun kv => decide (kv.1 = k)) = true then kvs.map (fun kv => if kv.1 = k then (kv.1, v) else kv) else kvs ++ [(k, v)]
def dropK (kvs : List (κ × V)) (k : κ) : List (κ × V) := kvs.filter fun kv => decide (kv.1 ≠ k)
theorem valV_pos {p : κ × V} {r : List (κ × V)} {k : κ} (e : p.1 = k) : valV (p :: r) k = some p.2 := by simp [valV, List.find?_cons, e]
theorem valV_neg {p : κ × V} {r : List (κ × V)} {k : κ} (e : ¬ p.1 = k) : valV (p :: r) k = valV r k := by simp [valV, List.find?_cons, e]
theorem valV_any (k : κ) : ∀ kvs : List (κ × V), (kvs.any fun kv => decide (kv.1 = k)) = (valV kvs k).isSome
  | [] => rfl
  | p :: r => by
    rw [List.any_cons]
    by_cases e : p.1 = k
    · simp only [valV_pos e, decide_eq_true e, Bool.true_or, Option.isSome_some]
    · rw [valV_neg e, decide_eq_false e, Bool.false_or]; exact valV_any k r
theorem RelO.isSome_eq {o : Option V} {u : Option Value} (r : RelO o u) : o.isSome = u.isSome := by
  cases o with
  | none => cases u with
    | none => rfl
    | some _ => exact (show False from r).elim
  | some _ => cases u with
    | none => exact (show False from r).elim
    | some _ => rfl
theorem RelO.getD {o : Option V} {u : Option Value} {d : V} {d' : Value} (r : RelO o u) (rd : RelV d d') : RelV (o.getD d) (u.getD d') := by
  cases o with
  | none => cases u with
    | none => exact rd
    | some _ => exact (show False from r).elim
  | some _ => cases u with
    | none => exact (show False from r).elim
    | some _ => exact r
theorem KV.val {kvs : List (κ × V)} {vs : List (κ × Value)} (r : KV kvs vs) (k : κ) : RelO (valV kvs k) (valueAt vs k) := by
  unfold KV at r
  induction r with
  | nil => exact True.intro
  | @cons p q ps qs h t ih =>
    obtain ⟨h1, h2⟩ := h
    by_cases e : p.1 = k
    · have e' : q.1 = k := h1.symm.trans e
      have b : valueAt (q :: qs) k = some q.2 := by simp [valueAt, List.find?_cons, e']
      rw [valV_pos e, b]; exact h2
    · have e' : ¬ q.1 = k := fun z => e (h1.trans z)
      have b : valueAt (q :: qs) k = valueAt qs k := by simp [valueAt, List.find?_cons, e']
      rw [valV_neg e, b]; exact ih
theorem KV.any {kvs : List (κ × V)} {vs : List (κ × Value)} (r : KV kvs vs) (k : κ) : (kvs.any fun kv => decide (kv.1 = k)) = vs.any fun kv => decide (kv.1 = k) := by
  unfold KV at r
  induction r with
  | nil => rfl
  | cons h t ih => rw [List.any_cons, List.any_cons, ih, h.1]
theorem KV.repl {kvs : List (κ × V)} {vs : List (κ × Value)} (r : KV kvs vs) (k : κ) {y : V} {u : Value} (ry : RelV y u) :
    KV (kvs.map fun kv => if kv.1 = k then (kv.1, y) else kv) (vs.map fun kv => if kv.1 = k then (kv.1, u) else kv) := by
  unfold KV at r ⊢
  induction r with
  | nil => exact .nil
  | @cons p q ps qs h t ih =>
    rw [List.map_cons, List.map_cons]
    refine .cons ?_ ih
    obtain ⟨h1, h2⟩ := h
    by_cases e : p.1 = k
    · rw [if_pos e, if_pos (h1.symm.trans e)]; exact ⟨h1, ry⟩
    · rw [if_neg e, if_neg (fun z => e (h1.trans z))]; exact ⟨h1, h2⟩
theorem KV.put {kvs : List (κ × V)} {vs : List (κ × Value)} (r : KV kvs vs) (k : κ) {y : V} {u : Value} (ry : RelV y u) : KV (putK kvs k y) (stored vs k u) := by
  unfold putK stored
  rw [r.any k]
  by_cases e : (vs.any fun kv => decide (kv.1 = k)) = true
  · rw [if_pos e, if_pos e]; exact r.repl k ry
  · rw [if_neg e, if_neg e]; exact Paired.snoc r ⟨rfl, ry⟩
theorem KV.drop {kvs : List (κ × V)} {vs : List (κ × Value)} (r : KV kvs vs) (k : κ) : KV (dropK kvs k) (without vs k) := by
  unfold KV at r ⊢
  unfold dropK without
  induction r with
  | nil => exact .nil
  | @cons p q ps qs h t ih =>
    obtain ⟨h1, h2⟩ := h
    rw [List.filter_cons, List.filter_cons]
    by_cases e : p.1 = k
    · have a : ¬ decide (p.1 ≠ k) = true := by simp [e]
      have b : ¬ decide (q.1 ≠ k) = true := by simp [h1.symm.trans e]
      rw [if_neg a, if_neg b]; exact ih
    · have e' : ¬ q.1 = k := fun z => e (h1.trans z)
      have a : decide (p.1 ≠ k) = true := by simp [e]
      have b : decide (q.1 ≠ k) = true := by simp [e']
      rw [if_pos a, if_pos b]; exact .cons ⟨h1, h2⟩ ih
theorem KV.length {kvs : List (κ × V)} {vs : List (κ × Value)} (r : KV kvs vs) : kvs.length = vs.length := Paired.length r
end
abbrev KT (H : Hp) : List (List Key × V) → List (List Key × Addr × Value) → Prop := Paired fun p q => p.1 = q.1 ∧ H q.2.1 = some (.tup (p.1.map kV)) ∧ RelV p.2 q.2.2
theorem KT.val {H : Hp} {kvs : List (List Key × V)} {xs : List (List Key × Addr × Value)} (r : KT H kvs xs) (k : List Key) : RelO (valV kvs k) ((atKey xs k).map (·.2)) := by
  induction r with
  | nil => exact True.intro
  | @cons p q ps qs h t ih =>
    obtain ⟨h1, _, h2⟩ := h
    by_cases e : p.1 = k
    · have e' : q.1 = k := h1.symm.trans e
      have b : atKey (q :: qs) k = some q.2 := by simp [atKey, List.find?_cons, e']
      rw [valV_pos e, b]; exact h2
    · have e' : ¬ q.1 = k := fun z => e (h1.trans z)
      have b : atKey (q :: qs) k = atKey qs k := by simp [atKey, List.find?_cons, e']
      rw [valV_neg e, b]; exact ih
theorem KT.repl {H : Hp} {kvs : List (List Key × V)} {xs : List (List Key × Addr × Value)} (r : KT H kvs xs) (k : List Key) {y : V} {u : Value} (ry : RelV y u) :
    KT H (kvs.map fun kv => if kv.1 = k then (kv.1, y) else kv) (xs.map (putAt k u)) := by
  induction r with
  | nil => exact .nil
  | @cons p q ps qs h t ih =>
    rw [List.map_cons, List.map_cons]
    refine .cons ?_ ih
    obtain ⟨h1, h2, h3⟩ := h
    unfold putAt
    by_cases e : p.1 = k
    · rw [if_pos e, if_pos (h1.symm.trans e)]; exact ⟨h1, h2, ry⟩
    · rw [if_neg e, if_neg (fun z => e (h1.trans z))]; exact ⟨h1, h2, h3⟩
theorem KT.put {H : Hp} {kvs : List (List Key × V)} {xs : List (List Key × Addr × Value)} (r : KT H kvs xs) (k : List Key) {b : Addr} {y : V} {u : Value} (hb : H b = some (.tup (k.map kV))) (ry : RelV y u) :
    KT H (putK kvs k y) (storedH xs k b u) := by
  have e : (kvs.any fun kv => decide (kv.1 = k)) = (atKey xs k).isSome := by
    rw [valV_any, (r.val k).isSome_eq, Option.isSome_map]
  unfold putK storedH
  rw [e]
  by_cases q : (atKey xs k).isSome = true
  · rw [if_pos q, if_pos q]; exact r.repl k ry
  · rw [if_neg q, if_neg q]; exact Paired.snoc r ⟨rfl, hb, ry⟩
theorem KT.keeps {H H' : Hp} {kvs : List (List Key × V)} {xs : List (List Key × Addr × Value)} (r : KT H kvs xs) (ht : ∀ b ys, H b = some (.tup ys) → H' b = some (.tup ys)) : KT H' kvs xs :=
  Paired.mapP r fun _ _ z => ⟨z.1, ht _ _ z.2.1, z.2.2⟩
section
variable {P : Program} {w : World} {H : Hp} {h : Heap} {a : Addr}
end
def DGet (H : Hp) (a : Addr) (y : V) (r : Option V) : Prop :=
  (∃ kvs k, Rd H a (.dK kvs) ∧ y = kV k ∧ r = valV kvs k) ∨ ∃ kvs k b, Rd H a (.dT kvs) ∧ y = .ref b ∧ H b = some (.tup (k.map kV)) ∧ r = valV kvs k
def DPut (H : Hp) (a : Addr) (y v : V) (H' : Hp) : Prop :=
  (∃ kvs k, H a = some (.dK kvs) ∧ y = kV k ∧ kvs.length < sizeLine ∧ H' = upd H a (.dK (putK kvs k v))) ∨
  ∃ kvs k b, H a = some (.dT kvs) ∧ y = .ref b ∧ H b = some (.tup (k.map kV)) ∧ kvs.length < sizeLine ∧ H' = upd H a (.dT (putK kvs k v))
theorem DGet.k {H : Hp} {a : Addr} {kvs : List (Key × V)} {k : Key} (e : H a = some (.dK kvs)) : DGet H a (kV k) (valV kvs k) := .inl ⟨kvs, k, .inl e, rfl, rfl⟩
theorem DGet.t {H : Hp} {a b : Addr} {kvs : List (List Key × V)} {k : List Key} (e : H a = some (.dT kvs)) (eb : H b = some (.tup (k.map kV))) : DGet H a (.ref b) (valV kvs k) := .inr ⟨kvs, k, b, .inl e, rfl, eb, rfl⟩
theorem DPut.k {H : Hp} {a : Addr} {kvs : List (Key × V)} {k : Key} {v : V} (e : H a = some (.dK kvs)) (hl : kvs.length < sizeLine) : DPut H a (kV k) v (upd H a (.dK (putK kvs k v))) := .inl ⟨kvs, k, e, rfl, hl, rfl⟩
theorem DPut.t {H : Hp} {a b : Addr} {kvs : List (List Key × V)} {k : List Key} {v : V} (e : H a = some (.dT kvs)) (eb : H b = some (.tup (k.map kV))) (hl : kvs.length < sizeLine) :
    DPut H a (.ref b) v (upd H a (.dT (putK kvs k v))) := .inr ⟨kvs, k, b, e, rfl, eb, hl, rfl⟩
section
variable {X : Cx} {pins : List (Addr × Obj)} {σ : St} {H : Hp} {s : Shared} {a : Addr} {y v : V} {u r : Value} {o : Option V} {A : Around} {E : Value → Shared → Prop}
end
section
variable {X : Cx} {pins : List (Addr × Obj)} {σ : St} {H : Hp} {s : Shared} {a : Addr} {kvs : List (Key × V)} {k : Key} {u : Value} {A : Around} {E : Value → Shared → Prop}
end
section
variable {X : Cx} {o i e value : Expr} {pos pos' tpos : Pos} {td ty tv : TE}
end
section
variable {X : Cx} {pos : Pos}
end
structure M1 (X : Cx) (o : Expr) (m : Str) (apos : Pos) (e : Expr) (cpos : Pos) : Prop where
  base : attributeBase o m X.env (eval o X.env) = eval o X.env
  few : ((backTo cpos (starEach [e] X.env)).all (fun x => !x.1) && (backToKw cpos (keywordEach [] X.env)).all (fun x => x.1.isSome)
    && decide (([e] : List Expr).length + ([] : List Keyword).length + (if ([] : List Keyword).isEmpty then 0 else 1) < 30)) = true
  line : (apos.endLine == cpos.line) = true
  trees : backTo cpos (starEach [e] X.env) = [(false, eval e X.env)]
structure M2 (X : Cx) (o : Expr) (m : Str) (apos : Pos) (e f : Expr) (cpos : Pos) : Prop where
  base : attributeBase o m X.env (eval o X.env) = eval o X.env
  few : ((backTo cpos (starEach [e, f] X.env)).all (fun x => !x.1) && (backToKw cpos (keywordEach [] X.env)).all (fun x => x.1.isSome)
    && decide (([e, f] : List Expr).length + ([] : List Keyword).length + (if ([] : List Keyword).isEmpty then 0 else 1) < 30)) = true
  line : (apos.endLine == cpos.line) = true
  trees : backTo cpos (starEach [e, f] X.env) = [(false, eval e X.env), (false, eval f X.env)]
section
variable {X : Cx} {pins : List (Addr × Obj)} {σ : St} {H : Hp} {s : Shared} {a : Addr} {y d : V} {u r : Value} {o : Option V} {A : Around} {E : Value → Shared → Prop}
end
section
variable {X : Cx} {o e f : Expr} {apos cpos : Pos} {td ty tx : TE}
end
section
variable {X : Cx} {pins : List (Addr × Obj)} {σ : St} {H : Hp} {s : Shared} {a : Addr} {kvs : List (Key × V)} {A : Around} {E : Value → Shared → Prop}
end
section
variable {X : Cx} {pins : List (Addr × Obj)} {σ : St} {H : Hp} {s : Shared} {a : Addr} {y : V} {u : Value} {A : Around} {E : Value → Shared → Prop}
end
end L2
namespace L2
open PySem PySem.Spec PyProof.Rows
section
variable {prog : Program} {w : World} {A : Around} {E : Value → Shared → Prop}
end
section
variable {X : Cx}
end
end L2
namespace L2
open PySem PySem.Spec PyProof.Rows
section
variable {X : Cx} {pins : List (Addr × Obj)} {σ : St} {H : Hp} {s : Shared} {h' : Heap}
end
section
variable {X : Cx}
theorem pi_one {tg : Expr} {pins : List (Addr × Obj)} {σ : St} {H : Hp} {s : Shared} {R : It → Hp → Prop} {J : It} {tn : Nat → Heap → Prop} {tk : Nat} (I : Inv X pins σ H s) (o : Obj)
    (T : Turn X.prog X.w X.K tg J [s.heap.objs.size] s.heap.objs.size tn) (st : tn 0 (s.heap.push o)) (q : R J H) : PIE X pins σ tg R (.ref s.heap.objs.size) { s with heap := s.heap.push o, toks := tk } := by
  refine ⟨s.heap.objs.size, [s.heap.objs.size], tn, J, H, rfl, I.kept fun b ob e => Heap.get?_push_of_some _ e, T, st, fun b hb => ?_, q⟩
  have e : b = s.heap.objs.size := by simpa using hb
  subst e
  exact I.fpOk (Nat.le_refl _) (I.hok.fresh (Nat.le_refl _))
end
def Itc (lo c : Int) (n : Nat) : It := ⟨fun i _ => i < n, fun i H x H' => H' = H ∧ x = .int (lo + (i : Nat) * c), fun i _ => n ≤ i⟩
theorem turn_rangeC {P : Program} {w : World} {K : PySem.W.Frag} {tg : Expr} (it : Addr) (lo c : Int) (n : Nat) : Turn P w K tg (Itc lo c n) [it] it (fun i h => IsRangeIter h it (lo + (i : Nat) * c) ((n : Int) - (i : Nat)) c) where
  mem := by simp
  obj := fun i h st b hb => by
    have e : b = it := by simpa using hb
    subst e
    exact ⟨_, st, fun v z => nomatch z⟩
  keep := fun i h h' st k => k it (by simp) _ st
  item := by
    intro X hP hw hK hc i pins s σ H E I hf st hg
    subst hP hw hK
    obtain ⟨f0, f1, f2, f3, f4, f5⟩ := hf it (by simp)
    have W := Walks.range (prog := X.prog) (w := X.w) (I.ok.hd hc) it lo c n
    refine W.item i s _ _ hg st fun v h' tk hv st' kk => ?_
    obtain ⟨t, rfl⟩ := hv
    have I1 : Inv X pins σ H { s with heap := h', toks := tk } := I.turned (fun b o hb e => kk b o (by simpa using hb) e) f0 f1 f3 f4 f5
    exact ⟨_, rfl, go_of (s := { s with heap := h', toks := tk }) (n := "range_iterator") st' rfl rfl (by decide) ⟨.int (lo + (i : Nat) * c), H, I1, ⟨t, rfl⟩, ⟨rfl, rfl⟩, st', fun b hb => (hf b hb).1⟩⟩
  done := by
    intro X hP hw hK hc i pins s σ H E I hf st hg
    subst hP hw hK
    obtain ⟨f0, f1, f2, f3, f4, f5⟩ := hf it (by simp)
    exact wpAny_pyNext_range_end (I.ok.hd hc) st (by have : n ≤ i := hg; omega) fun h' eb => ⟨rfl, I.turned (t' := s.toks) (fun b o hb e => eb b o hb e) f0 f1 f3 f4 f5⟩
  self := fun A i s Q E st h => wpAny_pyIter_rangeiter st h
def RgC (i j c : Int) (n : Nat) : Prop := c ≠ 0 ∧ c.natAbs < 1073741824 ∧ Builtin.Range.small i j c = true ∧ Builtin.Range.rangeSize i j c = n
theorem RgC.neg {i j : Int} (ha : -(2 ^ 62) ≤ i) (ha' : i < 2 ^ 62) (hb : -(2 ^ 62) ≤ j) (hb' : j < 2 ^ 62) : RgC i j (-1) (i - j).toNat :=
  ⟨by decide, by decide, PySem.W.small_down ha ha' hb hb', PySem.W.rangeSize_downNat i j⟩
def iRng3 (ta : TA) : TI := fun σ H R => ta σ H fun vs H1 => ∃ (i j c : Int) (n : Nat), vs = [.int i, .int j, .int c] ∧ RgC i j c n ∧ R (Itc i c n) H1
section
variable {X : Cx} {tg : Expr}
theorem pi_range3 {a b c : Expr} {ta : TA} {p pos : Pos} (hg : Gl X "range") (hm : X.mg "range" = none) (ha : PA X [a, b, c] ta)
    (hs : starEach [a, b, c] X.env = (false, eval a X.env) :: starEach [b, c] X.env := by rfl) (hpl : (backTo pos (starEach [b, c] X.env)).any (·.1) = false := by rfl) :
    PI X tg (.Call (.Name "range" p) [a, b, c] [] pos) (iRng3 ta) := by
  intro pins s σ H R I h
  refine Call_ (ld_blt I hg hm boot_range (PyProof.Rows.callWith_type1 (thn (ha pos pins s σ H _ I h) fun us s1 ⟨vs, H1, I1, r1, q1⟩ => ?_) hs hpl))
  obtain ⟨i, j, k, n, e, ⟨c0, c1, c2, c3⟩, q⟩ := q1
  subst e
  cases r1 with
  | cons r rr =>
    cases rr with
    | cons r' rr =>
      cases rr with
      | cons r'' rr =>
        cases rr
        obtain ⟨t, rfl⟩ := r
        obtain ⟨t', rfl⟩ := r'
        obtain ⟨t'', rfl⟩ := r''
        refine call_range_3 c0 ?_ (.inl (PyProof.noPylong_small c1))
        refine wpAny_pyIter_range (IsRange.new ..) c2 ?_
        have I2 : Inv X pins σ H1 { s1 with heap := s1.heap.push { cls := .type "range", data := .fields #[.int i t, .int j t', .int k t''] } } := I1.kept (t' := s1.toks) fun b o e => Heap.get?_push_of_some _ e
        refine pi_one (tk := s1.toks) I2 _ (turn_rangeC _ i k n) ?_ q
        have e1 : i + ((0 : Nat) : Int) * k = i := by simp
        have e2 : (n : Int) - ((0 : Nat) : Int) = Builtin.Range.rangeSize i j k := by rw [c3]; simp
        show IsRangeIter _ _ (i + ((0 : Nat) : Int) * k) ((n : Int) - ((0 : Nat) : Int)) k
        rw [e1, e2]
        exact Heap.get?_push_size _ rfl
end
theorem for_rangeC {lo c : Int} {n : Nat} {g : TG} {tb : TS} {D : Ends} {σ : St} {H : Hp} (Pv : Nat → St → Hp → Prop) (h0 : Pv 0 σ H)
    (hs : ∀ i σ H, i < n → Pv i σ H → g (.int (lo + (i : Nat) * c)) σ H fun σ2 H2 => tb { D with nx := Pv (i + 1), ct := Pv (i + 1), bk := D.nx } σ2 H2) (hd : ∀ σ H, Pv n σ H → D.nx σ H) :
    ∃ W : Nat → Nat → St → Hp → Prop, (∃ m, W 0 m σ H) ∧ ∀ i m σ H, W i m σ H →
      ((Itc lo c n).stop i H ∧ D.nx σ H) ∨ ((Itc lo c n).go i H ∧ ∃ N : St → Hp → Prop, (∀ σ' H', N σ' H' → ∃ m', m' < m ∧ W (i + 1) m' σ' H') ∧ ∀ x H', (Itc lo c n).yld i H x H' → g x σ H' fun σ2 H2 => tb { D with nx := N, ct := N, bk := D.nx } σ2 H2) := by
  refine ⟨fun i m σ H => m = n - i ∧ i ≤ n ∧ Pv i σ H, ⟨n, by simp, Nat.zero_le _, h0⟩, ?_⟩
  rintro i m σ H ⟨rfl, hi, p⟩
  by_cases hlt : i < n
  · refine .inr ⟨hlt, Pv (i + 1), fun σ' H' p' => ⟨n - (i + 1), by omega, rfl, hlt, p'⟩, fun x H' y => ?_⟩
    obtain ⟨e, y⟩ := y
    subst e y
    exact hs i σ _ hlt p
  · have e : i = n := by omega
    subst e
    exact .inl ⟨Nat.le_refl _, hd σ H p⟩
section
variable {X : Cx} {tg : Expr}
end
section
variable {prog : Program} {w : World} {A : Around} {E : Value → Shared → Prop} {s : Shared}
end
section
variable {X : Cx} {pins : List (Addr × Obj)} {σ : St} {H : Hp} {s : Shared} {d : Addr} {o : Obj}
end
section
variable {P : Program} {w : World} {K : PySem.W.Frag} {tg : Expr} {d : Addr} {o : Obj} {es : Array DictEntry} {ep : Nat}
end
section
variable {X : Cx} {tg e : Expr} {td : TE} {apos cpos : Pos}
end
end L2
section
namespace Bits
open PySem PyProof.Rows
theorem nat_xor_add_and (m : Nat) : ∀ n : Nat, (m ^^^ n) + 2 * (m &&& n) = m + n := by
  induction m using Nat.strongRecOn with
  | _ m ih =>
    intro n
    by_cases h0 : m = 0
    · subst h0
      simp
    · have ih' := ih (m / 2) (by omega) (n / 2)
      rw [← Nat.xor_div_two, ← Nat.and_div_two] at ih'
      have o1 := @Nat.xor_mod_two_eq_one m n
      have a1 := @Nat.and_mod_two_eq_one m n
      omega
theorem bitXor_pp {x y : Int} (hx : 0 ≤ x) (hy : 0 ≤ y) : Builtin.bitXor x y = ((x.toNat ^^^ y.toNat : Nat) : Int) := by
  have e := nat_xor_add_and x.toNat y.toNat
  rw [bitXor_and, bitAnd_pp hx hy]
  omega
theorem bitOr_pp {x y : Int} (hx : 0 ≤ x) (hy : 0 ≤ y) : Builtin.bitOr x y = ((x.toNat ||| y.toNat : Nat) : Int) := by
  have e := nat_or_add_and x.toNat y.toNat
  rw [bitOr_and, bitAnd_pp hx hy]
  omega
end Bits
end
section
namespace TL
open PySem PySem.Builtin PySem.Builtin.Str PySem.StrLaws
abbrev tl (x : Str) : List Nat := x.cps.toList
theorem len_tl (x : Str) : x.length = (tl x).length := by simp [tl, Str.length]
def pre (S l : List Nat) : Bool := l.take S.length == S
def par (S : List Nat) : List Nat → List Nat → Option (List Nat × List Nat)
  | _, [] => none
  | acc, c :: r => if pre S (c :: r) = true then some (acc, (c :: r).drop S.length) else par S (acc ++ [c]) r
theorem len1 {y : Str} (hy : tl y ≠ []) : 1 ≤ y.length := by
  have e2 : 0 < (tl y).length := List.length_pos_iff.mpr hy
  rw [len_tl y]
  exact e2
end TL
end
namespace L2
open PySem PySem.Spec PyProof.Rows
section
variable {X : Cx} {pins : List (Addr × Obj)} {σ : St} {H : Hp} {s : Shared} {Q : VK}
end
section
variable {X : Cx}
end
section
variable {X : Cx} {o e : Expr} {to te : TE}
end
end L2
namespace L2
open PySem PySem.Spec PyProof.Rows
section
variable {X : Cx}
end
theorem IsPart.raw {v : Value} {o : Option Int} (p : IsPart v o) : ∃ l : Option (Int × Tok), v = partValue l ∧ l.map (·.1) = o := by
  cases p with
  | none => exact ⟨none, rfl, rfl⟩
  | int i t => exact ⟨some (i, t), rfl, rfl⟩
end L2
namespace Att
open PySem PySem.W PySem.Calls PyProof.Rows
section
variable {prog : Program} {w : World} {A : Around} {E : Value → Shared → Prop} {s : Shared} {K : Frag}
end
end Att
namespace L2
open PySem PySem.Spec PyProof.Rows
end L2
namespace L2
open PySem PySem.Spec PyProof.Rows
end L2
namespace L2
open PySem PySem.Spec PyProof.Rows
def inClass (s : Stmt) (j : Nat) : Stmt := match s with
  | .ClassDef _ _ _ body _ _ _ _ _ _ _ => body.getD j (.Pass ⟨0, 0, 0, 0⟩)
  | _ => .Pass ⟨0, 0, 0, 0⟩
def defArgs (s : Stmt) : Arguments := match s with
  | .FunctionDef _ a _ _ _ _ _ _ _ _ => a
  | _ => { posonlyargs := [], args := [], vararg := none, kwonlyargs := [], kw_defaults := [], kwarg := none, defaults := [] }
def defBody (s : Stmt) : List Stmt := match s with
  | .FunctionDef _ _ b _ _ _ _ _ _ _ => b
  | _ => []
def defScope (s : Stmt) : Scope := match s with
  | .FunctionDef _ _ _ _ _ _ sc _ _ _ => sc
  | _ => { kind := .function, names := [], isGenerator := false, isCoroutine := false }
abbrev CX0 : CXT := fun _ _ _ _ _ _ => False
abbrev E0 : XK := fun _ _ _ => False
theorem pass0 {X : Cx} : Passes CX0 X E0 := fun _ _ _ _ _ _ _ h => h.elim
structure Fun (K : PySem.W.Frag) (x qual : Str) (st : Stmt) (f : Addr) (fd : FuncData) : Prop where
  ex : ∃ (oc : Value) (od : Option Addr) (kV doc pm : Value) (an : Option Addr) (cdv ct : Value) (osl : Array (Option Value)),
    fd = PySem.W.fnOf x qual (defArgs st) (defBody st) (defScope st) .none kV doc pm an cdv ct ∧ K.lookup f = some ⟨oc, od, .func fd, osl⟩ ∧ PySem.W.codeIn K cdv qual = true
  kp : PySem.W.keepIn K (.ref f) = true
section
variable {P : Program} {w : World} {K : PySem.W.Frag} {mg : Str → Option Value} {base : Heap}
theorem Fun.ok {x qual : Str} {st : Stmt} {f : Addr} {fd : FuncData} {N ps : List Str} {k : Nat} {sp : Sp} (F : Fun K x qual st f fd) (S : FnScope N ps (defScope st)) (len : ∀ vs H Q E, sp vs H Q E → vs.length = ps.length)
    (hbody : ∀ (cdv : Value) (A : Around) (outer : List Env) (s : Shared) (H : Hp) (vs : List V) (Q : VK) (E : XK), Room k (A.deeper (envOfC qual (defScope st) s.heap.objs.size f cdv)) → sp vs H Q E →
      ∃ t, PSs (cxOf CX0 P w K mg base N qual (defScope st) f cdv A outer s H E).nox (defBody st) t ∧ t { nx := fun _ H' => Q .non H', rt := Q } (start N vs) H) : FnOk P w K mg base CX0 (k + 1) f fd ps sp := by
  obtain ⟨oc, od, kV, doc, pm, an, cdv, ct, osl, rfl, lk, hcd⟩ := F.ex
  refine fn_of lk hcd S len fun A outer s H vs Q E hr hsp => ?_
  obtain ⟨t, h, q⟩ := hbody cdv A outer s H vs Q E hr hsp
  exact ⟨t, h.nox, q⟩
theorem Fun.binds {x qual : Str} {st : Stmt} {f : Addr} {fd : FuncData} {ps : List Str} (F : Fun K x qual st f fd)
    (h : ∀ (kV doc pm : Value) (an : Option Addr) (cdv ct : Value) (us : List Value), us.length = ps.length → bindArgs (PySem.W.fnOf x qual (defArgs st) (defBody st) (defScope st) .none kV doc pm an cdv ct) ⟨us, []⟩ = pure (ps.zip us)) : Binds K fd ps [] := by
  obtain ⟨oc, od, kV, doc, pm, an, cdv, ct, osl, rfl, lk, hcd⟩ := F.ex
  exact .all (h kV doc pm an cdv ct)
end
theorem small1000 {n : Nat} (h : n ≤ 1000) : n < sizeLine := Nat.lt_of_le_of_lt h (by decide)
section
variable {X : Cx}
theorem pv (i : Nat) {x : Str} {pos : Pos} (hN : X.N[i]? = some x := by rfl) (hv : Vis X.env.scope x := by first | exact Or.inl rfl | exact Or.inr (Or.inl rfl) | exact Or.inr (Or.inr rfl)) (hd : (x == ("__debug__" : Str)) = false := by decide)
    (hcd : (x == ("__classdict__" : Str)) = false := by decide) : PE X (.Name x pos) (tVar i) := pe_var hN hv hd hcd
end
theorem ite2 {c A B : Prop} [Decidable c] (h1 : c → A) (h2 : ¬ c → B) : if c then A else B := by
  by_cases h : c
  · rw [if_pos h]
    exact h1 h
  · rw [if_neg h]
    exact h2 h
def Same (H H' : Hp) : Prop := ∀ b o, H b = some o → H' b = some o
theorem Same.refl (H : Hp) : Same H H := fun _ _ h => h
theorem Same.trans {H H1 H2 : Hp} (a : Same H H1) (b : Same H1 H2) : Same H H2 := fun c o h => b c o (a c o h)
theorem Same.free {H H' : Hp} (e : Same H H') {l : Addr} (h : H' l = Option.none) : H l = Option.none := by
  cases q : H l with
  | none => rfl
  | some o =>
    rw [e l o q] at h
    cases h
theorem Same.seq {K : PySem.W.Frag} {H H' : Hp} {a : Addr} {xs : List V} (e : Same H H') (h : SqL K H a xs) : SqL K H' a xs := by
  rcases h with (h | ⟨o, h⟩) | h
  · exact .inl (.inl (e _ _ h))
  · exact .inl (.inr ⟨o, e _ _ h⟩)
  · exact .inr h
section
variable {κ : Type} [DecidableEq κ]
end
theorem at_of {xs : List V} {z : Int} {j : Nat} {v : V} (e : z = (j : Int)) (h : xs[j]? = some v) : atI xs z = some v := by
  rw [e]
  exact atI_nat h
theorem Same.made {H H1 : Hp} {x dx C : Addr} (nx : H x = Option.none) (nd : H dx = Option.none) (k : ∀ b o, (upd (upd H dx (.own x)) x (.ins C dx [])) b = some o → b ≠ x → H1 b = some o) : Same H H1 := fun b o e =>
  k b o (by rw [upd_ne (ne_of_none e nx), upd_ne (ne_of_none e nd)]; exact e) (ne_of_none e nx)
end L2
end
section
set_option Elab.async false
set_option linter.all false
set_option maxRecDepth 100000
namespace L2
open PySem PySem.Spec PyProof.Rows
section
variable {X : Cx} {pins : List (Addr × Obj)} {σ : St} {H : Hp} {s : Shared}
theorem lam_call {E : Value → Shared → Prop} {f c' : Addr} {name qual : Str} {params : Arguments} {body : Expr} {scope : Scope} {pm ctv : Value} {N ps : List Str} {vs : List V} {us : List Value} {Q : VK} {k : Nat}
    (I : Inv X pins σ H s) (hr : Room (k + 1) X.A.in1) (hf : s.heap.get? f = some (PySem.W.kla_obj name qual params body scope [] pm c' ctv)) (hcd : s.heap.CodeRec (.ref c') qual)
    (S : FnScope N ps scope) (hl : vs.length = ps.length) (r : Vals vs us)
    (hb : bindArgs (PySem.W.kla_fn name qual params body scope [] pm (.ref c') ctv) ⟨us, []⟩ = pure (ps.zip us))
    (h : ∃ t, PE (cxOf CX0 X.prog X.w X.K X.mg X.base N qual scope f (.ref c') X.A.in1 X.stack s H E0).nox body t ∧ t (start N vs) H Q) :
    wpAny (model X.prog X.w) X.A.in1 (call (.ref f) us) (EP X pins σ Q) E s := by
  have e0 : Env0 X.prog X.w X.K X.mg X.base X.A.in1 X.stack s H := I.env0.in1
  have lim : s.heap.NoLimit := I.nolimit
  have hkind : ∀ y ∈ ps.zip us, scope.names.lookup y.1 = some .local ∨ (scope.names.lookup y.1 = some .cell ∧ ((cellsFrom (s.heap.objs.size + 1) scope.names []).lookup y.1).isSome = true) := fun ⟨n, v⟩ hy => by
    rcases S.par n (List.of_mem_zip hy).1 with q | q
    · exact .inl q
    · exact .inr ⟨q, PySem.W.cellsFrom_some _ _ _ (.inl q)⟩
  have run : codeAny (model X.prog X.w) X.A.in1 (.call (.ref f) ⟨us, []⟩) (CR CX0 X.stack X.prog X.w H s Q E0) s := by
    refine PySem.W.kla_callFunE hr.depth hf rfl S.co S.gen rfl hcd ?_
    show wpAny _ _ (bindArgs (PySem.W.kla_fn name qual params body scope [] pm (.ref c') ctv) ⟨us, []⟩) _ _ _
    rw [hb]
    refine wpAny_pure (wpAny_newFunctionEnv_cells S.kind hkind fun env he s1 x => ?_)
    subst he
    refine ⟨lim.keeps x.toInCall.keep, PySem.W.kla_codeExpr ?_⟩
    obtain ⟨t, ht, hq⟩ := h
    have J : Inv (cxOf CX0 X.prog X.w X.K X.mg X.base N qual scope f (.ref c') X.A.in1 X.stack s H E0) [] (start N vs) H s1 := inv_start S hr.hd e0 hl r x
    refine wpAny_mono (ht.nox [] s1 (start N vs) H _ J hq) (fun u s' hs => ?_) fun e s' hs => hs
    obtain ⟨v, H', J', rv, q⟩ := hs
    exact ⟨v, H', J'.os, J'.bare, J'.base, J'.hok, rv, q⟩
  refine wpAny_call (codeAny_mono run fun r s' hq => ?_)
  cases r with
  | error e => exact False.elim hq
  | ok fl =>
    cases fl with
    | ret u => exact I.after hq
    | next => exact False.elim hq
    | brk => exact False.elim hq
    | cont => exact False.elim hq
theorem Inv.pin1 (I : Inv X pins σ H s) {b : Addr} {o : Obj} (hb : FpOk X pins H b) (e : s.heap.get? b = some o) (hc : ∀ v, o.data ≠ .cell v) : Inv X (pins ++ [(b, o)]) σ H s :=
  I.pins_of fun p hp => by
    rcases List.mem_append.mp hp with z | z
    · exact I.pin p (List.mem_append_right _ z)
    · obtain rfl : p = (b, o) := by simpa using z
      exact ⟨e, hb.1, hb.2.1, hb.2.2.1, hc⟩
theorem Inv.pinsub {more : List (Addr × Obj)} (I : Inv X (pins ++ more) σ H s) : Inv X pins σ H s := I.unpinned
def KeyR (X : Cx) (pins : List (Addr × Obj)) (σ : St) (H : Hp) (q : Addr) (xs : List V) (kf : Nat → Int) : Prop :=
  ∀ (i : Nat) (v : V) (u : Value) (s : Shared) (more : List (Addr × Obj)), xs[i]? = some v → RelV v u → Inv X (pins ++ more) σ H s →
    wpAny (model X.prog X.w) X.A.in1 (call (.ref q) [u]) (fun r s' => (∃ t, r = .int (kf i) t) ∧ Inv X (pins ++ more) σ H s') (fun _ _ => False) s
def FirstMin (n : Nat) (kf : Nat → Int) (i : Nat) : Prop := ∀ j, j < n → kf i ≤ kf j ∧ (j < i → kf i < kf j)
def FirstMax (n : Nat) (kf : Nat → Int) (i : Nat) : Prop := ∀ j, j < n → kf j ≤ kf i ∧ (j < i → kf j < kf i)
theorem Inv.turnJ {S J : Addr} {oS oJ oJ' : Obj} {h' : Heap} {tk : Nat} (I : Inv X (pins ++ [(S, oS), (J, oJ)]) σ H s) (fS : FpOk X pins H S) (fJ : FpOk X pins H J) (hSJ : S ≠ J)
    (k : ∀ b o, b ∉ [J] → s.heap.get? b = some o → h'.get? b = some o) (e : h'.get? J = some oJ') (hc : ∀ v, oJ'.data ≠ .cell v) : Inv X (pins ++ [(S, oS), (J, oJ')]) σ H { s with heap := h', toks := tk } := by
  have pS := I.pin (S, oS) (by simp)
  have I1 : Inv X (pins ++ [(S, oS)]) σ H s := I.pinsub.pin1 fS pS.1 pS.2.2.2.2
  have I2 : Inv X (pins ++ [(S, oS)]) σ H { s with heap := h', toks := tk } := I1.turned (it := J) (fun b o hb q => k b o (by simpa using hb) q) fJ.1 fJ.2.1 fJ.2.2.2.1 fJ.2.2.2.2.1 fun p hp => by
    rw [← List.append_assoc] at hp
    rcases List.mem_append.mp hp with z | z
    · exact fJ.2.2.2.2.2 p z
    · obtain rfl : p = (S, oS) := by simpa using z
      exact hSJ
  have fJ2 : FpOk X (pins ++ [(S, oS)]) H J := ⟨fJ.1, fJ.2.1, fJ.2.2.1, fJ.2.2.2.1, fJ.2.2.2.2.1, fun p hp => by
    rw [← List.append_assoc] at hp
    rcases List.mem_append.mp hp with z | z
    · exact fJ.2.2.2.2.2 p z
    · obtain rfl : p = (S, oS) := by simpa using z
      exact hSJ⟩
  have I3 := I2.pin1 fJ2 e hc
  rw [List.append_assoc] at I3
  exact I3
theorem Inv.turnS {S J : Addr} {oS oS' oJ : Obj} {h' : Heap} {tk : Nat} (I : Inv X (pins ++ [(S, oS), (J, oJ)]) σ H s) (fS : FpOk X pins H S) (fJ : FpOk X pins H J) (hSJ : S ≠ J)
    (k : ∀ b o, b ≠ S → s.heap.get? b = some o → h'.get? b = some o) (e : h'.get? S = some oS') (hc : ∀ v, oS'.data ≠ .cell v) : Inv X (pins ++ [(S, oS'), (J, oJ)]) σ H { s with heap := h', toks := tk } := by
  have pJ := I.pin (J, oJ) (by simp)
  have I0 := I.pinsub
  have I2 : Inv X pins σ H { s with heap := h', toks := tk } := I0.turned (it := S) (fun b o hb q => k b o hb q) fS.1 fS.2.1 fS.2.2.2.1 fS.2.2.2.2.1 fS.2.2.2.2.2
  have I3 := I2.pin1 fS e hc
  have fJ2 : FpOk X (pins ++ [(S, oS')]) H J := ⟨fJ.1, fJ.2.1, fJ.2.2.1, fJ.2.2.2.1, fJ.2.2.2.2.1, fun p hp => by
    rw [← List.append_assoc] at hp
    rcases List.mem_append.mp hp with z | z
    · exact fJ.2.2.2.2.2 p z
    · obtain rfl : p = (S, oS') := by simpa using z
      exact hSJ⟩
  have I4 := I3.pin1 fJ2 (k J oJ (Ne.symm hSJ) pJ.1) pJ.2.2.2.2
  rw [List.append_assoc] at I4
  exact I4
end
end L2
end
section
set_option Elab.async false
set_option linter.all false
set_option maxRecDepth 100000
set_option maxHeartbeats 4000000
namespace L2
open PySem PySem.Spec PyProof.Rows
section
variable {X : Cx} {pins : List (Addr × Obj)} {σ : St} {H : Hp}
theorem list_ne_own {K : PySem.W.Frag} {l J : Addr} {xs : List V} {s : Shared} (I : Inv X pins σ H s) (hK : K = X.K) (hs : SqL K H l xs) (hn : H J = none) (hJ : X.s_0.heap.objs.size ≤ J) : l ≠ J := fun e => by
  subst e hK
  rcases hs with (q | ⟨o, q⟩) | ⟨o, its, n, hk, _⟩
  · rw [hn] at q; cases q
  · rw [hn] at q; cases q
  · have e1 := I.ok.mod.kin l o hk
    have e2 := (I.ok.bs l o e1).1
    exact absurd (Nat.lt_of_lt_of_le (Heap.lt_size e2) hJ) (Nat.lt_irrefl _)
theorem min_loopI {kf : Nat → Int} {q l S J : Addr} {xs : List V} {R : Result → Shared → Prop} (hc : X.calm = true) (hs : SqL X.K H l xs) (hk : KeyR X pins σ H q xs kf) (fS : FpOk X pins H S) (fJ : FpOk X pins H J) (hSJ : S ≠ J) (hlJ : l ≠ J)
    (hR : ∀ i v vb s', xs[i]? = some v → RelV v vb → FirstMin xs.length kf i → Inv X pins σ H s' → R (.ok (.ret vb)) s') :
    ∀ (r j i : Nat) (s : Shared) (v : V) (vb : Value) (tb : Tok) (c : Nat) (oJ : Obj), xs.length - (j + 1) = r → j + 1 ≤ xs.length → Inv X (pins ++ [(S, seqObj "list" #[vb, .int (kf i) tb] c), (J, oJ)]) σ H s →
      oJ.cls = .type "list_iterator" → oJ.data = .fields #[.ref l, .int ((j + 1 : Nat) : Int) 0] → xs[i]? = some v → RelV v vb → i ≤ j → FirstMin (j + 1) kf i →
      codeAny (model X.prog X.w) X.A (.builtin "min.loop" ⟨[.ref J, .ref q, .ref S], []⟩) R s := by
  have hname : (toString "min" ++ toString ".loop" : String) = "min.loop" := by decide
  intro r
  induction r with
  | zero =>
    intro j i s v vb tb c oJ hr hj I h1 h2 hv rv hij hbest
    have hin : j + 1 = xs.length := by omega
    have pS := I.pin (S, seqObj "list" #[vb, .int (kf i) tb] c) (by simp)
    have pJ := I.pin (J, oJ) (by simp)
    obtain ⟨its, ri, hl, _⟩ := I.list hs
    have hh : X.A.in1.handled = none := I.ok.hd hc
    have hn := ri.length
    have W := Walks.list (prog := X.prog) (w := X.w) (A := X.A.in1) hh J l hlJ its.toArray
    have hsz : its.toArray.size = j + 1 := by rw [List.size_toArray]; omega
    refine codeAny_builtin PySem.F.entry_min_loop (by
      rw [Around.under_plainId PySem.F.plain_min_loop _]
      show wpAny _ X.A.in1 (seqItems? (.ref S) >>= _) _ _ _
      refine wpAny_bind (wpAny_seqItems pS.1 rfl ?_)
      show wpAny _ X.A.in1 (tryCatch (pyNext (.ref J)) _ >>= _) _ _ _
      refine wpAny_bind (wpAny_tryCatch (W.done s _ _ ⟨⟨oJ, pJ.1, h1, by rw [hsz]; exact h2⟩, hl.isList⟩ fun h' tk' hk' => ?_))
      have hS' : h'.get? S = some (seqObj "list" #[vb, .int (kf i) tb] c) := hk' S _ (by simpa using hSJ) pS.1
      show wpAny _ X.A.in1 (updateSeq S (fun _ => #[]) >>= _) _ _ _
      refine wpAny_bind (wpAny_updateSeq hS' rfl (wpAny_bind (wpAny_letGo (wpAny_pure ?_))))
      have I1 : Inv X pins σ H { s with heap := h', toks := tk' } := I.pinsub.turned (it := J) (fun b o hb e => hk' b o (by simpa using hb) e) fJ.1 fJ.2.1 fJ.2.2.2.1 fJ.2.2.2.2.1 fJ.2.2.2.2.2
      have sb := Heap.SameBut.update h' S (Obj.mapSeq fun _ => (#[] : Array Value))
      have I2 := I1.turned (it := S) (h' := h'.update S (Obj.mapSeq fun _ => #[])) (t' := tk') (fun b o hb e => (sb.2 b hb).trans e) fS.1 fS.2.1 fS.2.2.2.1 fS.2.2.2.2.1 fS.2.2.2.2.2
      exact hR i v vb _ hv rv (by rw [← hin]; exact hbest) I2)
  | succ r ih =>
    intro j i s v vb tb c oJ hr hj I h1 h2 hv rv hij hbest
    have hlt : j + 1 < xs.length := by omega
    have pS := I.pin (S, seqObj "list" #[vb, .int (kf i) tb] c) (by simp)
    have pJ := I.pin (J, oJ) (by simp)
    obtain ⟨its, ri, hl, _⟩ := I.list hs
    have hh : X.A.in1.handled = none := I.ok.hd hc
    have hn := ri.length
    have W := Walks.list (prog := X.prog) (w := X.w) (A := X.A.in1) hh J l hlJ its.toArray
    have hsz : j + 1 < its.toArray.size := by rw [List.size_toArray]; omega
    refine codeAny_builtin PySem.F.entry_min_loop (by
      rw [Around.under_plainId PySem.F.plain_min_loop _]
      show wpAny _ X.A.in1 (seqItems? (.ref S) >>= _) _ _ _
      refine wpAny_bind (wpAny_seqItems pS.1 rfl ?_)
      show wpAny _ X.A.in1 (tryCatch (pyNext (.ref J)) _ >>= _) _ _ _
      refine wpAny_bind (wpAny_tryCatch (W.item (j + 1) s _ _ hsz ⟨⟨oJ, pJ.1, h1, h2⟩, hl.isList⟩ fun u h' tk' hP hst' hk' => ?_))
      have hu : its[j + 1]? = some u := by simpa using hP
      obtain ⟨y, hy, ry⟩ : ∃ y, xs[j + 1]? = some y ∧ RelV y u := by
        obtain ⟨u2, e1, e2⟩ := ri.get (List.getElem?_eq_getElem hlt)
        rw [hu] at e1; cases e1
        exact ⟨_, List.getElem?_eq_getElem hlt, e2⟩
      obtain ⟨oJ', hoJ', g1, g2⟩ := hst'.1
      have I1 : Inv X (pins ++ [(S, seqObj "list" #[vb, .int (kf i) tb] c), (J, oJ')]) σ H { s with heap := h', toks := tk' } := I.turnJ fS fJ hSJ hk' hoJ' (fun w z => by rw [g2] at z; cases z)
      show wpAny _ X.A.in1 (tryCatch (holding [u] (call (.ref q) [u])) _ >>= _) _ _ _
      refine wpAny_bind (wpAny_tryCatch (wpAny_holding (wpAny_mono (hk (j + 1) y u _ _ hy ry I1) (fun x s2 he => ?_) fun _ _ hF => hF.elim)))
      obtain ⟨⟨t2, rfl⟩, I2⟩ := he
      have pS2 := I2.pin (S, seqObj "list" #[vb, .int (kf i) tb] c) (by simp)
      have pJ2 := I2.pin (J, oJ') (by simp)
      show wpAny _ X.A.in1 (tryCatch (holding [u, .int (kf (j + 1)) t2] (richCompare .Lt (.int (kf (j + 1)) t2) (.int (kf i) tb) >>= _)) _ >>= _) _ _ _
      refine wpAny_bind (wpAny_tryCatch (wpAny_holding (wpAny_bind (CmpOf.ints_lt (prog := X.prog) (w := X.w) (A := X.A.in1) (P := fun i v => ∃ t, v = .int (kf i) t) kf (fun i v h => h) (j + 1) i _ _ _ _ _ ⟨t2, rfl⟩ ⟨tb, rfl⟩ ?_))))
      refine wpAny_bind (wpAny_holding (wpAny_truthy_bool ?_))
      refine wpAny_bind (wpAny_letGo (wpAny_pure ?_))
      by_cases hb : kf (j + 1) < kf i
      · have sb := Heap.SameBut.update s2.heap S (Obj.mapSeq fun _ => #[u, .int (kf (j + 1)) t2])
        obtain ⟨c2, hc2⟩ : ∃ c2, (s2.heap.update S (Obj.mapSeq fun _ => #[u, .int (kf (j + 1)) t2])).get? S = some (seqObj "list" #[u, .int (kf (j + 1)) t2] c2) := ⟨_, get?_update_seq pS2.1 fun _ => #[u, .int (kf (j + 1)) t2]⟩
        simp only [hb, decide_true, if_true]
        refine wpAny_bind (wpAny_updateSeq pS2.1 rfl (wpAny_bind (wpAny_letGo ?_)))
        rw [hname]
        have I3 := I2.turnS (oS' := seqObj "list" #[u, .int (kf (j + 1)) t2] c2) (tk := s2.toks) fS fJ hSJ (fun b o hb e => (sb.2 b hb).trans e) hc2 (fun w z => by cases z)
        refine wpAny_pure ⟨plainId_quiet PySem.F.plain_min_loop _, ih (j + 1) (j + 1) _ y u t2 c2 oJ' (by omega) hlt I3 g1 g2 hy ry (Nat.le_refl _) fun j' hj' => ?_⟩
        by_cases e : j' = j + 1
        · subst e; exact ⟨by omega, fun _ => by omega⟩
        · have hb1 := hbest j' (by omega)
          exact ⟨by omega, fun _ => by omega⟩
      · simp only [hb, decide_false, Bool.false_eq_true, if_false]
        refine wpAny_bind (wpAny_letGo ?_)
        rw [hname]
        refine wpAny_pure ⟨plainId_quiet PySem.F.plain_min_loop _, ih (j + 1) i _ v vb tb c oJ' (by omega) hlt I2 g1 g2 hv rv (by omega) fun j' hj' => ?_⟩
        by_cases e : j' = j + 1
        · subst e; exact ⟨by omega, fun _ => by omega⟩
        · exact hbest j' (by omega))
theorem call_minI {kf : Nat → Int} {q l : Addr} {xs : List V} {s : Shared} {Q : VK} (hc : X.calm = true) (I : Inv X pins σ H s) (hs : SqL X.K H l xs) (hk : KeyR X pins σ H q xs kf) (hne : 0 < xs.length)
    (h : ∀ i v, xs[i]? = some v → FirstMin xs.length kf i → Q v H) :
    wpAny (model X.prog X.w) X.A (call (.builtin "min") [.ref l] [(Str.ofString "key", .ref q)]) (EP X pins σ Q) X.xe s := by
  have hname : (toString "min" ++ toString ".loop" : String) = "min.loop" := by decide
  obtain ⟨its, ri, hl, _⟩ := I.list hs
  have hls := hl.isList
  have hn := ri.length
  refine kmk_tree PySem.F.kind_min PySem.F.plain_min PySem.F.entry_min (kmk_min_key _ _) ?_
  show wpAny _ X.A.in1 (Builtin.Builtins.bindParams "min" ["key", "default"] 0 ⟨[], [(Str.ofString "key", .ref q)]⟩ >>= _) _ _ s
  refine wpAny_bind (wpAny_of_eq (show Builtin.Builtins.bindParams "min" ["key", "default"] 0 ⟨[], [(Str.ofString "key", .ref q)]⟩ = pure [some (.ref q), none] from rfl) ?_)
  refine wpAny_bind (wpAny_pure (wpAny_bind (wpAny_pyIter_list hls ?_)))
  refine wpAny_bind (wpAny_newList ?_ (Nat.zero_le _))
  rw [hname]
  generalize hJ : s.heap.objs.size = J
  generalize hS : (s.heap.push { cls := .type "list_iterator", data := .fields #[.ref l, .int 0 0] }).objs.size = S
  have hSz : S = J + 1 := by rw [← hS, Heap.size_push, hJ]
  have gJ : ((s.heap.push { cls := .type "list_iterator", data := .fields #[.ref l, .int 0 0] }).push (seqObj "list" #[] 0)).get? J = some { cls := .type "list_iterator", data := .fields #[.ref l, .int 0 0] } := by
    rw [← hJ]; exact Heap.get?_push_of_some _ (Heap.get?_push_size _ rfl)
  have gS : ((s.heap.push { cls := .type "list_iterator", data := .fields #[.ref l, .int 0 0] }).push (seqObj "list" #[] 0)).get? S = some (seqObj "list" #[] 0) := by rw [← hS]; exact Heap.get?_push_size _ rfl
  have nJ : H J = none := I.hok.fresh (Nat.le_of_eq hJ)
  have nS : H S = none := I.hok.fresh (by omega)
  have fJ : FpOk X pins H J := I.fpOk (Nat.le_of_eq hJ) nJ
  have fS : FpOk X pins H S := I.fpOk (by omega) nS
  have hSJ : S ≠ J := by omega
  have hlJ : l ≠ J := list_ne_own I rfl hs nJ (by have := I.sz; omega)
  have I0 : Inv X pins σ H { s with heap := (s.heap.push { cls := .type "list_iterator", data := .fields #[.ref l, .int 0 0] }).push (seqObj "list" #[] 0) } := I.kept (t' := s.toks) fun b u e => Heap.get?_push_of_some _ (Heap.get?_push_of_some _ e)
  have I1 := I0.pin1 fS gS (fun w z => by cases z)
  have fJ2 : FpOk X (pins ++ [(S, seqObj "list" #[] 0)]) H J := ⟨fJ.1, fJ.2.1, fJ.2.2.1, fJ.2.2.2.1, fJ.2.2.2.2.1, fun p hp => by
    rw [← List.append_assoc] at hp
    rcases List.mem_append.mp hp with z | z
    · exact fJ.2.2.2.2.2 p z
    · obtain rfl : p = (S, seqObj "list" #[] 0) := by simpa using z
      exact hSJ⟩
  have I2 := I1.pin1 fJ2 gJ (fun w z => by cases z)
  rw [List.append_assoc] at I2
  have hl2 : ((s.heap.push { cls := .type "list_iterator", data := .fields #[.ref l, .int 0 0] }).push (seqObj "list" #[] 0)).IsList l its.toArray := (hls.push _).push _
  have hh : X.A.in1.handled = none := I.ok.hd hc
  have W := Walks.list (prog := X.prog) (w := X.w) (A := X.A.in1) hh J l hlJ its.toArray
  have hsz : 0 < its.toArray.size := by rw [List.size_toArray]; omega
  refine wpAny_pure ⟨plainId_quiet PySem.F.plain_min_loop _, codeAny_builtin PySem.F.entry_min_loop ?_⟩
  rw [Around.under_plainId PySem.F.plain_min_loop _]
  show wpAny _ X.A.in1 (seqItems? (.ref S) >>= _) _ _ _
  refine wpAny_bind (wpAny_seqItems gS rfl ?_)
  show wpAny _ X.A.in1 (tryCatch (pyNext (.ref J)) _ >>= _) _ _ _
  refine wpAny_bind (wpAny_tryCatch (W.item 0 _ _ _ hsz ⟨⟨_, gJ, rfl, rfl⟩, hl2⟩ fun u h' tk' hP hst' hk' => ?_))
  have hu : its[0]? = some u := by simpa using hP
  obtain ⟨y, hy, ry⟩ : ∃ y, xs[0]? = some y ∧ RelV y u := by
    obtain ⟨u2, e1, e2⟩ := ri.get (List.getElem?_eq_getElem hne)
    rw [hu] at e1; cases e1
    exact ⟨_, List.getElem?_eq_getElem hne, e2⟩
  obtain ⟨oJ', hoJ', g1, g2⟩ := hst'.1
  have I3 := I2.turnJ (tk := tk') fS fJ hSJ hk' hoJ' (fun w z => by rw [g2] at z; cases z)
  show wpAny _ X.A.in1 (tryCatch (holding [u] (call (.ref q) [u])) _ >>= _) _ _ _
  refine wpAny_bind (wpAny_tryCatch (wpAny_holding (wpAny_mono (hk 0 y u _ _ hy ry I3) (fun x s2 he => ?_) fun _ _ hF => hF.elim)))
  obtain ⟨⟨t2, rfl⟩, I4⟩ := he
  have pS2 := I4.pin (S, seqObj "list" #[] 0) (by simp)
  have sb := Heap.SameBut.update s2.heap S (Obj.mapSeq fun _ => #[u, .int (kf 0) t2])
  obtain ⟨c2, hc2⟩ : ∃ c2, (s2.heap.update S (Obj.mapSeq fun _ => #[u, .int (kf 0) t2])).get? S = some (seqObj "list" #[u, .int (kf 0) t2] c2) := ⟨_, get?_update_seq pS2.1 fun _ => #[u, .int (kf 0) t2]⟩
  show wpAny _ X.A.in1 (updateSeq S (fun _ => #[u, .int (kf 0) t2]) >>= _) _ _ _
  refine wpAny_bind (wpAny_updateSeq pS2.1 rfl ?_)
  rw [hname]
  have I5 := I4.turnS (oS' := seqObj "list" #[u, .int (kf 0) t2] c2) (tk := s2.toks) fS fJ hSJ (fun b o hb e => (sb.2 b hb).trans e) hc2 (fun w z => by cases z)
  refine wpAny_pure ⟨plainId_quiet PySem.F.plain_min_loop _, min_loopI hc hs hk fS fJ hSJ hlJ (fun i v vb s' e1 e2 e3 I' => ?_) _ 0 0 _ y u t2 c2 oJ' rfl hne I5 g1 g2 hy ry (Nat.le_refl _) fun j' hj' => ?_⟩
  · exact ⟨v, H, I', e2, h i v e1 e3⟩
  · have e : j' = 0 := by omega
    subst e
    exact ⟨Int.le_refl _, fun h => absurd h (Nat.lt_irrefl _)⟩
theorem max_loopI {kf : Nat → Int} {q l S J : Addr} {xs : List V} {R : Result → Shared → Prop} (hc : X.calm = true) (hs : SqL X.K H l xs) (hk : KeyR X pins σ H q xs kf) (fS : FpOk X pins H S) (fJ : FpOk X pins H J) (hSJ : S ≠ J) (hlJ : l ≠ J)
    (hR : ∀ i v vb s', xs[i]? = some v → RelV v vb → FirstMax xs.length kf i → Inv X pins σ H s' → R (.ok (.ret vb)) s') :
    ∀ (r j i : Nat) (s : Shared) (v : V) (vb : Value) (tb : Tok) (c : Nat) (oJ : Obj), xs.length - (j + 1) = r → j + 1 ≤ xs.length → Inv X (pins ++ [(S, seqObj "list" #[vb, .int (kf i) tb] c), (J, oJ)]) σ H s →
      oJ.cls = .type "list_iterator" → oJ.data = .fields #[.ref l, .int ((j + 1 : Nat) : Int) 0] → xs[i]? = some v → RelV v vb → i ≤ j → FirstMax (j + 1) kf i →
      codeAny (model X.prog X.w) X.A (.builtin "max.loop" ⟨[.ref J, .ref q, .ref S], []⟩) R s := by
  have hname : (toString "max" ++ toString ".loop" : String) = "max.loop" := by decide
  intro r
  induction r with
  | zero =>
    intro j i s v vb tb c oJ hr hj I h1 h2 hv rv hij hbest
    have hin : j + 1 = xs.length := by omega
    have pS := I.pin (S, seqObj "list" #[vb, .int (kf i) tb] c) (by simp)
    have pJ := I.pin (J, oJ) (by simp)
    obtain ⟨its, ri, hl, _⟩ := I.list hs
    have hh : X.A.in1.handled = none := I.ok.hd hc
    have hn := ri.length
    have W := Walks.list (prog := X.prog) (w := X.w) (A := X.A.in1) hh J l hlJ its.toArray
    have hsz : its.toArray.size = j + 1 := by rw [List.size_toArray]; omega
    refine codeAny_builtin PySem.F.entry_max_loop (by
      rw [Around.under_plainId PySem.F.plain_max_loop _]
      show wpAny _ X.A.in1 (seqItems? (.ref S) >>= _) _ _ _
      refine wpAny_bind (wpAny_seqItems pS.1 rfl ?_)
      show wpAny _ X.A.in1 (tryCatch (pyNext (.ref J)) _ >>= _) _ _ _
      refine wpAny_bind (wpAny_tryCatch (W.done s _ _ ⟨⟨oJ, pJ.1, h1, by rw [hsz]; exact h2⟩, hl.isList⟩ fun h' tk' hk' => ?_))
      have hS' : h'.get? S = some (seqObj "list" #[vb, .int (kf i) tb] c) := hk' S _ (by simpa using hSJ) pS.1
      show wpAny _ X.A.in1 (updateSeq S (fun _ => #[]) >>= _) _ _ _
      refine wpAny_bind (wpAny_updateSeq hS' rfl (wpAny_bind (wpAny_letGo (wpAny_pure ?_))))
      have I1 : Inv X pins σ H { s with heap := h', toks := tk' } := I.pinsub.turned (it := J) (fun b o hb e => hk' b o (by simpa using hb) e) fJ.1 fJ.2.1 fJ.2.2.2.1 fJ.2.2.2.2.1 fJ.2.2.2.2.2
      have sb := Heap.SameBut.update h' S (Obj.mapSeq fun _ => (#[] : Array Value))
      have I2 := I1.turned (it := S) (h' := h'.update S (Obj.mapSeq fun _ => #[])) (t' := tk') (fun b o hb e => (sb.2 b hb).trans e) fS.1 fS.2.1 fS.2.2.2.1 fS.2.2.2.2.1 fS.2.2.2.2.2
      exact hR i v vb _ hv rv (by rw [← hin]; exact hbest) I2)
  | succ r ih =>
    intro j i s v vb tb c oJ hr hj I h1 h2 hv rv hij hbest
    have hlt : j + 1 < xs.length := by omega
    have pS := I.pin (S, seqObj "list" #[vb, .int (kf i) tb] c) (by simp)
    have pJ := I.pin (J, oJ) (by simp)
    obtain ⟨its, ri, hl, _⟩ := I.list hs
    have hh : X.A.in1.handled = none := I.ok.hd hc
    have hn := ri.length
    have W := Walks.list (prog := X.prog) (w := X.w) (A := X.A.in1) hh J l hlJ its.toArray
    have hsz : j + 1 < its.toArray.size := by rw [List.size_toArray]; omega
    refine codeAny_builtin PySem.F.entry_max_loop (by
      rw [Around.under_plainId PySem.F.plain_max_loop _]
      show wpAny _ X.A.in1 (seqItems? (.ref S) >>= _) _ _ _
      refine wpAny_bind (wpAny_seqItems pS.1 rfl ?_)
      show wpAny _ X.A.in1 (tryCatch (pyNext (.ref J)) _ >>= _) _ _ _
      refine wpAny_bind (wpAny_tryCatch (W.item (j + 1) s _ _ hsz ⟨⟨oJ, pJ.1, h1, h2⟩, hl.isList⟩ fun u h' tk' hP hst' hk' => ?_))
      have hu : its[j + 1]? = some u := by simpa using hP
      obtain ⟨y, hy, ry⟩ : ∃ y, xs[j + 1]? = some y ∧ RelV y u := by
        obtain ⟨u2, e1, e2⟩ := ri.get (List.getElem?_eq_getElem hlt)
        rw [hu] at e1; cases e1
        exact ⟨_, List.getElem?_eq_getElem hlt, e2⟩
      obtain ⟨oJ', hoJ', g1, g2⟩ := hst'.1
      have I1 : Inv X (pins ++ [(S, seqObj "list" #[vb, .int (kf i) tb] c), (J, oJ')]) σ H { s with heap := h', toks := tk' } := I.turnJ fS fJ hSJ hk' hoJ' (fun w z => by rw [g2] at z; cases z)
      show wpAny _ X.A.in1 (tryCatch (holding [u] (call (.ref q) [u])) _ >>= _) _ _ _
      refine wpAny_bind (wpAny_tryCatch (wpAny_holding (wpAny_mono (hk (j + 1) y u _ _ hy ry I1) (fun x s2 he => ?_) fun _ _ hF => hF.elim)))
      obtain ⟨⟨t2, rfl⟩, I2⟩ := he
      have pS2 := I2.pin (S, seqObj "list" #[vb, .int (kf i) tb] c) (by simp)
      have pJ2 := I2.pin (J, oJ') (by simp)
      show wpAny _ X.A.in1 (tryCatch (holding [u, .int (kf (j + 1)) t2] (richCompare .Gt (.int (kf (j + 1)) t2) (.int (kf i) tb) >>= _)) _ >>= _) _ _ _
      refine wpAny_bind (wpAny_tryCatch (wpAny_holding (wpAny_bind (CmpOf.ints_gt (prog := X.prog) (w := X.w) (A := X.A.in1) (P := fun i v => ∃ t, v = .int (kf i) t) kf (fun i v h => h) (j + 1) i _ _ _ _ _ ⟨t2, rfl⟩ ⟨tb, rfl⟩ ?_))))
      refine wpAny_bind (wpAny_holding (wpAny_truthy_bool ?_))
      refine wpAny_bind (wpAny_letGo (wpAny_pure ?_))
      by_cases hb : kf (j + 1) > kf i
      · have sb := Heap.SameBut.update s2.heap S (Obj.mapSeq fun _ => #[u, .int (kf (j + 1)) t2])
        obtain ⟨c2, hc2⟩ : ∃ c2, (s2.heap.update S (Obj.mapSeq fun _ => #[u, .int (kf (j + 1)) t2])).get? S = some (seqObj "list" #[u, .int (kf (j + 1)) t2] c2) := ⟨_, get?_update_seq pS2.1 fun _ => #[u, .int (kf (j + 1)) t2]⟩
        simp only [hb, decide_true, if_true]
        refine wpAny_bind (wpAny_updateSeq pS2.1 rfl (wpAny_bind (wpAny_letGo ?_)))
        rw [hname]
        have I3 := I2.turnS (oS' := seqObj "list" #[u, .int (kf (j + 1)) t2] c2) (tk := s2.toks) fS fJ hSJ (fun b o hb e => (sb.2 b hb).trans e) hc2 (fun w z => by cases z)
        refine wpAny_pure ⟨plainId_quiet PySem.F.plain_max_loop _, ih (j + 1) (j + 1) _ y u t2 c2 oJ' (by omega) hlt I3 g1 g2 hy ry (Nat.le_refl _) fun j' hj' => ?_⟩
        by_cases e : j' = j + 1
        · subst e; exact ⟨by omega, fun _ => by omega⟩
        · have hb1 := hbest j' (by omega)
          exact ⟨by omega, fun _ => by omega⟩
      · simp only [hb, decide_false, Bool.false_eq_true, if_false]
        refine wpAny_bind (wpAny_letGo ?_)
        rw [hname]
        refine wpAny_pure ⟨plainId_quiet PySem.F.plain_max_loop _, ih (j + 1) i _ v vb tb c oJ' (by omega) hlt I2 g1 g2 hv rv (by omega) fun j' hj' => ?_⟩
        by_cases e : j' = j + 1
        · subst e; exact ⟨by omega, fun _ => by omega⟩
        · exact hbest j' (by omega))
theorem call_maxI {kf : Nat → Int} {q l : Addr} {xs : List V} {s : Shared} {Q : VK} (hc : X.calm = true) (I : Inv X pins σ H s) (hs : SqL X.K H l xs) (hk : KeyR X pins σ H q xs kf) (hne : 0 < xs.length)
    (h : ∀ i v, xs[i]? = some v → FirstMax xs.length kf i → Q v H) :
    wpAny (model X.prog X.w) X.A (call (.builtin "max") [.ref l] [(Str.ofString "key", .ref q)]) (EP X pins σ Q) X.xe s := by
  have hname : (toString "max" ++ toString ".loop" : String) = "max.loop" := by decide
  obtain ⟨its, ri, hl, _⟩ := I.list hs
  have hls := hl.isList
  have hn := ri.length
  refine kmk_tree PySem.F.kind_max PySem.F.plain_max PySem.F.entry_max (kmk_max_key _ _) ?_
  show wpAny _ X.A.in1 (Builtin.Builtins.bindParams "max" ["key", "default"] 0 ⟨[], [(Str.ofString "key", .ref q)]⟩ >>= _) _ _ s
  refine wpAny_bind (wpAny_of_eq (show Builtin.Builtins.bindParams "max" ["key", "default"] 0 ⟨[], [(Str.ofString "key", .ref q)]⟩ = pure [some (.ref q), none] from rfl) ?_)
  refine wpAny_bind (wpAny_pure (wpAny_bind (wpAny_pyIter_list hls ?_)))
  refine wpAny_bind (wpAny_newList ?_ (Nat.zero_le _))
  rw [hname]
  generalize hJ : s.heap.objs.size = J
  generalize hS : (s.heap.push { cls := .type "list_iterator", data := .fields #[.ref l, .int 0 0] }).objs.size = S
  have hSz : S = J + 1 := by rw [← hS, Heap.size_push, hJ]
  have gJ : ((s.heap.push { cls := .type "list_iterator", data := .fields #[.ref l, .int 0 0] }).push (seqObj "list" #[] 0)).get? J = some { cls := .type "list_iterator", data := .fields #[.ref l, .int 0 0] } := by
    rw [← hJ]; exact Heap.get?_push_of_some _ (Heap.get?_push_size _ rfl)
  have gS : ((s.heap.push { cls := .type "list_iterator", data := .fields #[.ref l, .int 0 0] }).push (seqObj "list" #[] 0)).get? S = some (seqObj "list" #[] 0) := by rw [← hS]; exact Heap.get?_push_size _ rfl
  have nJ : H J = none := I.hok.fresh (Nat.le_of_eq hJ)
  have nS : H S = none := I.hok.fresh (by omega)
  have fJ : FpOk X pins H J := I.fpOk (Nat.le_of_eq hJ) nJ
  have fS : FpOk X pins H S := I.fpOk (by omega) nS
  have hSJ : S ≠ J := by omega
  have hlJ : l ≠ J := list_ne_own I rfl hs nJ (by have := I.sz; omega)
  have I0 : Inv X pins σ H { s with heap := (s.heap.push { cls := .type "list_iterator", data := .fields #[.ref l, .int 0 0] }).push (seqObj "list" #[] 0) } := I.kept (t' := s.toks) fun b u e => Heap.get?_push_of_some _ (Heap.get?_push_of_some _ e)
  have I1 := I0.pin1 fS gS (fun w z => by cases z)
  have fJ2 : FpOk X (pins ++ [(S, seqObj "list" #[] 0)]) H J := ⟨fJ.1, fJ.2.1, fJ.2.2.1, fJ.2.2.2.1, fJ.2.2.2.2.1, fun p hp => by
    rw [← List.append_assoc] at hp
    rcases List.mem_append.mp hp with z | z
    · exact fJ.2.2.2.2.2 p z
    · obtain rfl : p = (S, seqObj "list" #[] 0) := by simpa using z
      exact hSJ⟩
  have I2 := I1.pin1 fJ2 gJ (fun w z => by cases z)
  rw [List.append_assoc] at I2
  have hl2 : ((s.heap.push { cls := .type "list_iterator", data := .fields #[.ref l, .int 0 0] }).push (seqObj "list" #[] 0)).IsList l its.toArray := (hls.push _).push _
  have hh : X.A.in1.handled = none := I.ok.hd hc
  have W := Walks.list (prog := X.prog) (w := X.w) (A := X.A.in1) hh J l hlJ its.toArray
  have hsz : 0 < its.toArray.size := by rw [List.size_toArray]; omega
  refine wpAny_pure ⟨plainId_quiet PySem.F.plain_max_loop _, codeAny_builtin PySem.F.entry_max_loop ?_⟩
  rw [Around.under_plainId PySem.F.plain_max_loop _]
  show wpAny _ X.A.in1 (seqItems? (.ref S) >>= _) _ _ _
  refine wpAny_bind (wpAny_seqItems gS rfl ?_)
  show wpAny _ X.A.in1 (tryCatch (pyNext (.ref J)) _ >>= _) _ _ _
  refine wpAny_bind (wpAny_tryCatch (W.item 0 _ _ _ hsz ⟨⟨_, gJ, rfl, rfl⟩, hl2⟩ fun u h' tk' hP hst' hk' => ?_))
  have hu : its[0]? = some u := by simpa using hP
  obtain ⟨y, hy, ry⟩ : ∃ y, xs[0]? = some y ∧ RelV y u := by
    obtain ⟨u2, e1, e2⟩ := ri.get (List.getElem?_eq_getElem hne)
    rw [hu] at e1; cases e1
    exact ⟨_, List.getElem?_eq_getElem hne, e2⟩
  obtain ⟨oJ', hoJ', g1, g2⟩ := hst'.1
  have I3 := I2.turnJ (tk := tk') fS fJ hSJ hk' hoJ' (fun w z => by rw [g2] at z; cases z)
  show wpAny _ X.A.in1 (tryCatch (holding [u] (call (.ref q) [u])) _ >>= _) _ _ _
  refine wpAny_bind (wpAny_tryCatch (wpAny_holding (wpAny_mono (hk 0 y u _ _ hy ry I3) (fun x s2 he => ?_) fun _ _ hF => hF.elim)))
  obtain ⟨⟨t2, rfl⟩, I4⟩ := he
  have pS2 := I4.pin (S, seqObj "list" #[] 0) (by simp)
  have sb := Heap.SameBut.update s2.heap S (Obj.mapSeq fun _ => #[u, .int (kf 0) t2])
  obtain ⟨c2, hc2⟩ : ∃ c2, (s2.heap.update S (Obj.mapSeq fun _ => #[u, .int (kf 0) t2])).get? S = some (seqObj "list" #[u, .int (kf 0) t2] c2) := ⟨_, get?_update_seq pS2.1 fun _ => #[u, .int (kf 0) t2]⟩
  show wpAny _ X.A.in1 (updateSeq S (fun _ => #[u, .int (kf 0) t2]) >>= _) _ _ _
  refine wpAny_bind (wpAny_updateSeq pS2.1 rfl ?_)
  rw [hname]
  have I5 := I4.turnS (oS' := seqObj "list" #[u, .int (kf 0) t2] c2) (tk := s2.toks) fS fJ hSJ (fun b o hb e => (sb.2 b hb).trans e) hc2 (fun w z => by cases z)
  refine wpAny_pure ⟨plainId_quiet PySem.F.plain_max_loop _, max_loopI hc hs hk fS fJ hSJ hlJ (fun i v vb s' e1 e2 e3 I' => ?_) _ 0 0 _ y u t2 c2 oJ' rfl hne I5 g1 g2 hy ry (Nat.le_refl _) fun j' hj' => ?_⟩
  · exact ⟨v, H, I', e2, h i v e1 e3⟩
  · have e : j' = 0 := by omega
    subst e
    exact ⟨Int.le_refl _, fun h => absurd h (Nat.lt_irrefl _)⟩
end
end L2
end
section
set_option Elab.async false
set_option linter.all false
set_option maxRecDepth 100000
set_option maxHeartbeats 4000000
namespace L2
open PySem PySem.Spec PyProof.Rows
def CodeO (c : Addr) (qual : Str) : HO := .ext fun h => h.CodeRec (.ref c) qual
def TabAt (P : Addr) (L : List (Pos × Str)) (H : Hp) : Prop :=
  ∃ ps, H P = some (.tbl ps) ∧ TriplesOk ps.toList ∧ ∀ q ∈ L, codeAmong q.1 ps.toList = none ∨ ∃ c, codeAmong q.1 ps.toList = some (.ref c) ∧ H c = some (CodeO c q.2)
def KeepT (P : Addr) (H H' : Hp) : Prop := ∀ b o, b ≠ P → H b = some o → H' b = some o
def BMain (mg : Str → Option Value) (h : Heap) : Prop := ∃ bm ob, mg "__builtins__" = some (.ref bm) ∧ bm ≠ builtinsNs ∧ bm ≠ mainGlobals ∧ h.get? bm = some ob ∧ ob.cls = .type "module" ∧ ob.dict = some builtinsNs ∧ ob.data = .plain
theorem among_more {pos : Pos} {c : Value} (m : List Value) : ∀ (l : List Value), codeAmong pos l = some c → codeAmong pos (l ++ m) = some c := by
  intro l
  fun_induction codeAmong pos l with
  | case1 line t col u x rest h =>
    intro e
    cases e
    simp only [List.cons_append, codeAmong]
    rw [if_pos h]
  | case2 line t col u x rest h ih =>
    intro e
    simp only [List.cons_append, codeAmong]
    rw [if_neg h]
    exact ih e
  | case3 l h => intro e; cases e
theorem among_other {pos pos' : Pos} {c : Value} (hne : ¬ (pos'.line = pos.line ∧ pos'.col = pos.col)) (l : List Value) (h : TriplesOk l) (hn : codeAmong pos l = none) : codeAmong pos (l ++ [rawInt pos'.line, rawInt pos'.col, c]) = none := by
  fun_induction TriplesOk l with
  | case1 =>
    simp only [List.nil_append, codeAmong, rawInt]
    rw [if_neg (fun z => by
      simp only [Bool.and_eq_true, beq_iff_eq] at z
      exact hne ⟨by omega, by omega⟩)]
  | case2 a t b u x rest ih =>
    simp only [List.cons_append, codeAmong] at hn ⊢
    split at hn
    · cases hn
    · rename_i hc; rw [if_neg hc]; exact ih h hn
  | case3 l h1 h2 => exact h.elim
section
variable {X : Cx} {pins : List (Addr × Obj)} {σ : St} {H : Hp} {s : Shared}
theorem eval_lam {E : Value → Shared → Prop} {Q : Value → Shared → Prop} {c P : Addr} {L : List (Pos × Str)} {params : Arguments} {body : Expr} {scope : Scope} {lpos : Pos} (I : Inv X pins σ H s) (hcode : X.env.code = .ref c) (hC : PySem.W.codeHdIn X.K c P = true) (hB : BMain X.mg X.base)
    (hT : TabAt P L H) (hq : (lpos, X.env.qual ++ "<lambda>") ∈ L) (hdis : ∀ q ∈ L, q ≠ (lpos, X.env.qual ++ "<lambda>") → ¬ (lpos.line = q.1.line ∧ lpos.col = q.1.col)) (hdef : defaultsOf params X.env = ([], [])) (hcl : closureFor scope X.env = pure [])
    (h : ∀ (H' : Hp) (f c' : Addr) (pm ctv : Value) (s' : Shared), TabAt P L H' → KeepT P H H' → Inv X pins σ H' s' → FpOk X pins H' f → s'.heap.get? f = some (PySem.W.kla_obj "<lambda>" (X.env.qual ++ "<lambda>") params body scope [] pm c' ctv) → H' c' = some (CodeO c' (X.env.qual ++ "<lambda>")) → Q (.ref f) s') :
    wpAny (model X.prog X.w) X.A (eval (.Lambda params body scope lpos) X.env) Q E s := by
  obtain ⟨ps, hP, htr, hall⟩ := hT
  have gP : s.heap.get? P = some (PySem.W.tabObj ps) := I.hok P _ hP
  have C : PySem.W.CodeHd s.heap c P := PySem.W.codeHd_of_K I.kIn hC
  have hg : s.heap.Ns mainGlobals X.mg := I.mod.glob.keeps I.bk
  have nb : ∀ b o, X.base.get? b = some o → b ≠ P := fun b o e z => by
    have := (I.bs b o e).2
    rw [z, hP] at this
    cases this
  have hgP : mainGlobals ≠ P := by
    obtain ⟨o, es, ep, e, _⟩ := I.mod.glob
    exact nb _ o e
  obtain ⟨bm, ob, b1, b2, b3, b4, b5, b6, b7⟩ := hB
  have hb : s.heap.BuiltinsAt X.mg P := ⟨bm, ob, b1, b2, b3, nb _ _ b4, I.bk _ _ b4, b5, b6, b7⟩
  refine PySem.W.kla_eval hdef ?_
  rcases hall _ hq with hnone | ⟨c', hsome, hc'⟩
  · refine PySem.W.kla_makeFunction (mg := X.mg) hcl I.ok.glob hg hcode C gP htr hnone hgP hb fun c' ctv h' tk hx hge hlt hrec htb => ?_
    have nc : H c' = none := I.hok.fresh hge
    have hcP : c' ≠ P := fun z => by rw [z, hP] at nc; cases nc
    have hfs : s.heap.objs.size ≤ h'.objs.size := Nat.le_of_lt (Nat.lt_of_le_of_lt hge hlt)
    generalize hob : PySem.W.kla_obj "<lambda>" (X.env.qual ++ "<lambda>") params body scope [] ((X.mg "__name__").getD .none) c' ctv = fo
    have hfo : fo.isFreed = false := by rw [← hob]; rfl
    have kp : ∀ b o, b ≠ P → s.heap.get? b = some o → (h'.push fo).get? b = some o := fun b o hb e => Heap.get?_push_of_some _ (hx b o hb e)
    have gP2 : (h'.push fo).get? P = some (PySem.W.tabObj (ps ++ #[rawInt lpos.line, rawInt lpos.col, .ref c'])) := Heap.get?_push_of_some _ htb
    have hrec2 : (h'.push fo).CodeRec (.ref c') (X.env.qual ++ "<lambda>") := hrec.push _
    have nP : ∀ b, H b = none → b ≠ P := fun b e z => by rw [z, hP] at e; cases e
    have at' : ∀ b o, b ≠ P → H b = some o → (upd (upd H c' (CodeO c' (X.env.qual ++ "<lambda>"))) P (.tbl (ps ++ #[rawInt lpos.line, rawInt lpos.col, .ref c']))) b = some o := fun b o hb e => by
      rw [upd_ne hb, upd_ne (ne_of_none e nc)]; exact e
    have noneP : ∀ b, H b = none → b < s.heap.objs.size → (upd (upd H c' (CodeO c' (X.env.qual ++ "<lambda>"))) P (.tbl (ps ++ #[rawInt lpos.line, rawInt lpos.col, .ref c']))) b = none := fun b e hb => by
      rw [upd_ne (nP b e), upd_ne (Nat.ne_of_lt (Nat.lt_of_lt_of_le hb hge))]; exact e
    have hok : HOk X.prog X.w (upd (upd H c' (CodeO c' (X.env.qual ++ "<lambda>"))) P (.tbl (ps ++ #[rawInt lpos.line, rawInt lpos.col, .ref c']))) (h'.push fo) := fun b u e => by
      by_cases hbP : b = P
      · subst hbP
        rw [upd_same] at e
        cases e
        exact gP2
      · rw [upd_ne hbP] at e
        by_cases hbc : b = c'
        · subst hbc
          rw [upd_same] at e
          cases e
          obtain ⟨c2, o, vs, t, e1, e2, e3, e4⟩ := id hrec2
          cases e1
          exact ⟨hrec2, ⟨o, e2⟩, fun h1 h2 ⟨c3, o3, vs3, t3, f1, f2, f3, f4⟩ k => ⟨c3, o3, vs3, t3, f1, by cases f1; exact k _ f2, f3, f4⟩⟩
        · rw [upd_ne hbc] at e
          refine (I.hok b u e).stay (fun d v hd q => kp d v (fun z => ?_) q) (fun d q => at' d _ (fun z => ?_) q) fun d xs q => at' d _ (fun z => ?_) q
          · rcases hd with rfl | hd
            · exact hbP z
            · rw [z, hP] at hd; cases hd
          · rw [z, hP] at q; cases q
          · rw [z, hP] at q; cases q
    have I2 : Inv X pins σ (upd (upd H c' (CodeO c' (X.env.qual ++ "<lambda>"))) P (.tbl (ps ++ #[rawInt lpos.line, rawInt lpos.col, .ref c']))) { s with heap := h'.push fo, toks := tk } :=
      I.step (g' := s.gens) (d' := s.drawn) (ch := []) (fun _ z => nomatch z) (fun b o _ _ _ e n => kp b o (nP b n) e) (fun b o _ _ _ e n => ⟨o.slots, kp b o (nP b n) e⟩) (fun b o _ e n => noneP b n (Heap.lt_size e))
        (fun b o _ e => by
          by_cases hbP : b = P
          · exact ⟨_, by rw [hbP]; exact gP2⟩
          · exact ⟨o, kp b o hbP e⟩)
        (fun b xs e => at' b _ (fun z => by rw [z, hP] at e; cases e) e) (fun b o u e => at' b _ (fun z => by rw [z, hP] at e; cases e) e)
        (fun b qs e => by
          by_cases hbP : b = P
          · subst hbP
            rw [hP] at e
            cases e
            exact ⟨_, upd_same⟩
          · exact ⟨#[], by rw [at' b _ hbP e]; simp⟩)
        (fun m hm => by
          obtain ⟨o, es, ep, e, r⟩ := hm
          exact ⟨o, es, ep, kp _ o (nP _ I.free) e, r⟩) hok I.bare
    have nf : (upd (upd H c' (CodeO c' (X.env.qual ++ "<lambda>"))) P (.tbl (ps ++ #[rawInt lpos.line, rawInt lpos.col, .ref c']))) h'.objs.size = none := by
      have hfn : H h'.objs.size = none := I.hok.fresh hfs
      rw [upd_ne (nP _ hfn), upd_ne (Nat.ne_of_gt hlt)]; exact hfn
    refine h _ h'.objs.size c' _ ctv _ ⟨_, upd_same, by simpa using TriplesOk_snoc _ _ _ _ htr, fun q hqL => ?_⟩ (fun b o hb e => at' b o hb e) I2 (I.fpOk hfs nf) (by rw [hob]; exact Heap.get?_push_size _ hfo) (by rw [upd_ne hcP, upd_same])
    by_cases hqe : q = (lpos, X.env.qual ++ "<lambda>")
    · subst hqe
      exact .inr ⟨c', by simpa using codeAmong_snoc _ htr hnone, by rw [upd_ne hcP, upd_same]⟩
    · rcases hall q hqL with z | ⟨d, z1, z2⟩
      · exact .inl (by simpa using among_other (hdis q hqL hqe) _ htr z)
      · exact .inr ⟨d, by simpa using among_more _ _ z1, at' d _ (fun y => by rw [y, hP] at z2; cases z2) z2⟩
  · refine PySem.W.kla_makeFunctionHit (mg := X.mg) hcl I.ok.glob hg hcode C gP htr hsome hb fun ctv h' tk hk hz => ?_
    generalize hob : ({ cls := .type "function", data := .func (PySem.W.kla_fn "<lambda>" (X.env.qual ++ "<lambda>") params body scope [] ((X.mg "__name__").getD .none) (.ref c') ctv) } : Obj) = fo
    have hfo : fo.isFreed = false := by rw [← hob]; rfl
    have I2 : Inv X pins σ H { s with heap := h'.push fo, toks := tk } := I.kept fun b u e => Heap.get?_push_of_some _ (hk b u e)
    exact h H h'.objs.size c' _ ctv _ ⟨ps, hP, htr, hall⟩ (fun b o _ e => e) I2 (I.fpOk hz (I.hok.fresh hz)) (by rw [← hob]; exact Heap.get?_push_size _ rfl) hc'
def tKeyLam (First : Nat → (Nat → Int) → Nat → Prop) (K : PySem.W.Frag) (P : Addr) (L : List (Pos × Str)) (N : List Str) (ta : TA) (tb : TE) : TE := fun σ H Q => ta σ H fun vs H1 => ∃ a xs, ∃ kf : Nat → Int, vs = [.ref a] ∧ SqL K H1 a xs ∧ 0 < xs.length ∧ TabAt P L H1 ∧
  ∀ H2, KeepT P H1 H2 → TabAt P L H2 → (∀ i v, xs[i]? = some v → tb (start N [v]) H2 fun y H3 => y = .int (kf i) ∧ H3 = H2) ∧ ∀ i v, xs[i]? = some v → First xs.length kf i → Q v H2
theorem SqL.keepT {K : PySem.W.Frag} {P : Addr} {ps : Array Value} {H H2 : Hp} {a : Addr} {xs : List V} (h : SqL K H a xs) (hP : H P = some (.tbl ps)) (k : KeepT P H H2) : SqL K H2 a xs := by
  rcases h with (q | ⟨o, q⟩) | q
  · exact .inl (.inl (k a _ (fun z => by rw [z, hP] at q; cases q) q))
  · exact .inl (.inr ⟨o, k a _ (fun z => by rw [z, hP] at q; cases q) q⟩)
  · exact .inr q
end
section
variable {X : Cx} {e : Expr} {p pos kpos lpos : Pos} {ta : TA} {tb : TE} {c P : Addr} {L : List (Pos × Str)} {params : Arguments} {body : Expr} {scope : Scope} {N : List Str} {x : Str} {k : Nat}
theorem lamkey_of {pins : List (Addr × Obj)} {σ : St} {H : Hp} {s : Shared} {f c' : Addr} {pm ctv : Value} {xs : List V} {kf : Nat → Int} (hr : Room (k + 1) X.A.in1) (S : FnScope N [x] scope)
    (hb : ∀ (pm ctv u : Value), bindArgs (PySem.W.kla_fn "<lambda>" (X.env.qual ++ "<lambda>") params body scope [] pm (.ref c') ctv) ⟨[u], []⟩ = pure [(x, u)])
    (hbody : ∀ (f c' : Addr) (s : Shared) (H : Hp), PE (cxOf CX0 X.prog X.w X.K X.mg X.base N (X.env.qual ++ "<lambda>") scope f (.ref c') X.A.in1 X.stack s H E0).nox body tb)
    (hpin : (f, PySem.W.kla_obj "<lambda>" (X.env.qual ++ "<lambda>") params body scope [] pm c' ctv) ∈ pins) (hc : H c' = some (CodeO c' (X.env.qual ++ "<lambda>")))
    (h : ∀ i v, xs[i]? = some v → tb (start N [v]) H fun y H3 => y = .int (kf i) ∧ H3 = H) : KeyR X pins σ H f xs kf := by
  intro i v u s2 more hv ru I2
  have pf := I2.pin _ (List.mem_append_right _ (List.mem_append_left _ hpin))
  have hrec : s2.heap.CodeRec (.ref c') (X.env.qual ++ "<lambda>") := (I2.hok c' _ hc).1
  refine thnF (lam_call (E := fun _ _ => False) I2 hr pf.1 hrec S rfl (.cons ru .nil) (hb pm ctv u) ⟨tb, hbody f c' s2 H, h i v hv⟩) fun r s3 ⟨y, H3, I3, ry, ey, eH⟩ => ?_
  subst ey eH
  obtain ⟨t, rfl⟩ := ry
  exact ⟨⟨t, rfl⟩, I3⟩
theorem pe_minLam (hc : X.calm = true) (hg : Gl X "min") (hm : X.mg "min" = none) (hcode : X.env.code = .ref c) (hC : PySem.W.codeHdIn X.K c P = true) (hB : BMain X.mg X.base) (hq : (lpos, X.env.qual ++ "<lambda>") ∈ L)
    (hdis : ∀ q ∈ L, q ≠ (lpos, X.env.qual ++ "<lambda>") → ¬ (lpos.line = q.1.line ∧ lpos.col = q.1.col)) (hr : Room (k + 1) X.A.in1) (S : FnScope N [x] scope) (ha : PA X [e] ta)
    (hbody : ∀ (f c' : Addr) (s : Shared) (H : Hp), PE (cxOf CX0 X.prog X.w X.K X.mg X.base N (X.env.qual ++ "<lambda>") scope f (.ref c') X.A.in1 X.stack s H E0).nox body tb)
    (hb : ∀ (c' : Addr) (pm ctv u : Value), bindArgs (PySem.W.kla_fn "<lambda>" (X.env.qual ++ "<lambda>") params body scope [] pm (.ref c') ctv) ⟨[u], []⟩ = pure [(x, u)] := by intro _ _ _ _; rfl)
    (hdef : defaultsOf params X.env = ([], []) := by rfl) (hcl : closureFor scope X.env = pure [] := by rfl)
    (he : backTo pos (starEach [e] X.env) = (false, eval e X.env) :: backTo pos (starEach [] X.env) := by rfl) (hpl : (backTo pos (starEach [e] X.env)).any (·.1) = false := by rfl) :
    PE X (.Call (.Name "min" p) [e] [⟨some "key", .Lambda params body scope lpos, kpos⟩] pos) (tKeyLam FirstMin X.K P L N ta tb) := by
  intro pins s σ H Q I h
  refine wpAny_Call_Name_kw (ld_blt (u := .builtin "min") I hg hm (by decide +kernel) ?_ (by decide) (by decide))
  refine PyProof.Rows.callWith_kw (thn (ha pos pins s σ H _ I h) fun us s1 ⟨vs, H1, I1, r1, a, xs, kf, ev, hs, hne, hT, q⟩ => ?_) he hpl
  subst ev
  rw [Vals.ref1 r1]
  show wpAny _ _ (evalAll [do let v ← eval (.Lambda params body scope lpos) X.env; standAt pos; pure v]) _ _ _
  refine wpAny_evalAll_cons (wpAny_bind (eval_lam I1 hcode hC hB hT hq hdis hdef hcl fun H2 f c' pm ctv s2 t2 k2 I2 ff gf hc' => wpAny_bind (wpAny_standAt (wpAny_pure (wpAny_evalAll_nil ?_)))))
  obtain ⟨ps, hP, _⟩ := hT
  obtain ⟨q1, q2⟩ := q H2 k2 t2
  have I3 := I2.pin1 ff gf (fun w z => by cases z)
  have hk := lamkey_of (f := f) (pm := pm) (ctv := ctv) (s := s2) (kf := kf) (xs := xs) (σ := σ) hr S (hb c') hbody (List.mem_append_right pins (List.mem_singleton.mpr rfl)) hc' q1
  refine thn (call_minI hc I3 (hs.keepT hP k2) hk hne q2) fun v s3 ⟨y, H3, I4, ry, qq⟩ => ⟨y, H3, I4.pinsub, ry, qq⟩
theorem pe_maxLam (hc : X.calm = true) (hg : Gl X "max") (hm : X.mg "max" = none) (hcode : X.env.code = .ref c) (hC : PySem.W.codeHdIn X.K c P = true) (hB : BMain X.mg X.base) (hq : (lpos, X.env.qual ++ "<lambda>") ∈ L)
    (hdis : ∀ q ∈ L, q ≠ (lpos, X.env.qual ++ "<lambda>") → ¬ (lpos.line = q.1.line ∧ lpos.col = q.1.col)) (hr : Room (k + 1) X.A.in1) (S : FnScope N [x] scope) (ha : PA X [e] ta)
    (hbody : ∀ (f c' : Addr) (s : Shared) (H : Hp), PE (cxOf CX0 X.prog X.w X.K X.mg X.base N (X.env.qual ++ "<lambda>") scope f (.ref c') X.A.in1 X.stack s H E0).nox body tb)
    (hb : ∀ (c' : Addr) (pm ctv u : Value), bindArgs (PySem.W.kla_fn "<lambda>" (X.env.qual ++ "<lambda>") params body scope [] pm (.ref c') ctv) ⟨[u], []⟩ = pure [(x, u)] := by intro _ _ _ _; rfl)
    (hdef : defaultsOf params X.env = ([], []) := by rfl) (hcl : closureFor scope X.env = pure [] := by rfl)
    (he : backTo pos (starEach [e] X.env) = (false, eval e X.env) :: backTo pos (starEach [] X.env) := by rfl) (hpl : (backTo pos (starEach [e] X.env)).any (·.1) = false := by rfl) :
    PE X (.Call (.Name "max" p) [e] [⟨some "key", .Lambda params body scope lpos, kpos⟩] pos) (tKeyLam FirstMax X.K P L N ta tb) := by
  intro pins s σ H Q I h
  refine wpAny_Call_Name_kw (ld_blt (u := .builtin "max") I hg hm (by decide +kernel) ?_ (by decide) (by decide))
  refine PyProof.Rows.callWith_kw (thn (ha pos pins s σ H _ I h) fun us s1 ⟨vs, H1, I1, r1, a, xs, kf, ev, hs, hne, hT, q⟩ => ?_) he hpl
  subst ev
  rw [Vals.ref1 r1]
  show wpAny _ _ (evalAll [do let v ← eval (.Lambda params body scope lpos) X.env; standAt pos; pure v]) _ _ _
  refine wpAny_evalAll_cons (wpAny_bind (eval_lam I1 hcode hC hB hT hq hdis hdef hcl fun H2 f c' pm ctv s2 t2 k2 I2 ff gf hc' => wpAny_bind (wpAny_standAt (wpAny_pure (wpAny_evalAll_nil ?_)))))
  obtain ⟨ps, hP, _⟩ := hT
  obtain ⟨q1, q2⟩ := q H2 k2 t2
  have I3 := I2.pin1 ff gf (fun w z => by cases z)
  have hk := lamkey_of (f := f) (pm := pm) (ctv := ctv) (s := s2) (kf := kf) (xs := xs) (σ := σ) hr S (hb c') hbody (List.mem_append_right pins (List.mem_singleton.mpr rfl)) hc' q1
  refine thn (call_maxI hc I3 (hs.keepT hP k2) hk hne q2) fun v s3 ⟨y, H3, I4, ry, qq⟩ => ⟨y, H3, I4.pinsub, ry, qq⟩
end
end L2
end
section
set_option linter.all false
set_option Elab.async false
namespace Vp
open PySem PySem.SetTable
def Rise (xs : Array Nat) : Prop := ∀ i j a b : Nat, xs[i]? = some a → xs[j]? = some b → i < j → a < b
theorem getD_of {xs : Array Nat} {i d a : Nat} (h : xs[i]? = some a) : xs.getD i d = a := by
  rw [Array.getD_eq_getD_getElem?, h]; rfl
theorem some_of {xs : Array Nat} {i : Nat} (h : i < xs.size) : ∃ a, xs[i]? = some a := ⟨xs[i], Array.getElem?_eq_getElem h⟩
theorem lt_of {xs : Array Nat} {i a : Nat} (h : xs[i]? = some a) : i < xs.size := by
  rcases Nat.lt_or_ge i xs.size with q | q
  · exact q
  · rw [Array.getElem?_eq_none q] at h; cases h
theorem below_go {xs : Array Nat} (R : Rise xs) (j : Nat) : ∀ (f lo hi : Nat), hi - lo ≤ f → lo ≤ hi → hi ≤ xs.size → (∀ i a, i < lo → xs[i]? = some a → a < j) → (∀ i a, hi ≤ i → xs[i]? = some a → j ≤ a) →
    below.go xs j f lo hi ≤ xs.size ∧ (∀ i a, i < below.go xs j f lo hi → xs[i]? = some a → a < j) ∧ (∀ i a, below.go xs j f lo hi ≤ i → xs[i]? = some a → j ≤ a)
  | 0, lo, hi, h1, h2, h3, h4, h5 => by
    have e : lo = hi := by omega
    subst e
    exact ⟨h3, h4, h5⟩
  | f + 1, lo, hi, h1, h2, h3, h4, h5 => by
    unfold below.go
    by_cases hl : lo < hi
    · rw [if_pos hl]
      obtain ⟨m, hm⟩ := some_of (xs := xs) (i := (lo + hi) / 2) (by omega)
      dsimp only
      rw [getD_of hm]
      by_cases hq : m < j
      · rw [if_pos hq]
        refine below_go R j f _ _ (by omega) (by omega) h3 (fun i a hi' ha => ?_) h5
        rcases Nat.lt_or_ge i ((lo + hi) / 2) with z | z
        · have := R i ((lo + hi) / 2) a m ha hm z; omega
        · have : i = (lo + hi) / 2 := by omega
          subst this
          rw [hm] at ha; cases ha; exact hq
      · rw [if_neg hq]
        refine below_go R j f _ _ (by omega) (by omega) (by omega) h4 (fun i a hi' ha => ?_)
        rcases Nat.lt_or_ge ((lo + hi) / 2) i with z | z
        · have := R _ i m a hm ha z; omega
        · have : i = (lo + hi) / 2 := by omega
          subst this
          rw [hm] at ha; cases ha; omega
    · rw [if_neg hl]
      have e : lo = hi := by omega
      subst e
      exact ⟨h3, h4, h5⟩
theorem below_spec {xs : Array Nat} (R : Rise xs) (j : Nat) : below xs j ≤ xs.size ∧ (∀ i a, i < below xs j → xs[i]? = some a → a < j) ∧ (∀ i a, below xs j ≤ i → xs[i]? = some a → j ≤ a) :=
  below_go R j xs.size 0 xs.size (by omega) (Nat.zero_le _) (Nat.le_refl _) (fun i a h => by omega) (fun i a h ha => by have := lt_of ha; omega)
theorem below_zero {xs : Array Nat} (R : Rise xs) : below xs 0 = 0 := by
  obtain ⟨h1, h2, h3⟩ := below_spec R 0
  rcases Nat.eq_zero_or_pos (below xs 0) with e | e
  · exact e
  · obtain ⟨a, ha⟩ := some_of (xs := xs) (i := 0) (by omega)
    have := h2 0 a e ha
    omega
theorem below_next {xs : Array Nat} (R : Rise xs) {i a : Nat} (h : xs[i]? = some a) : below xs (a + 1) = i + 1 := by
  obtain ⟨h1, h2, h3⟩ := below_spec R (a + 1)
  have hi := lt_of h
  have l1 : i < below xs (a + 1) := by
    rcases Nat.lt_or_ge i (below xs (a + 1)) with z | z
    · exact z
    · have := h3 i a z h; omega
  rcases Nat.lt_or_ge (i + 1) (below xs (a + 1)) with z | z
  · obtain ⟨b, hb⟩ := some_of (xs := xs) (i := i + 1) (by omega)
    have := h2 (i + 1) b z hb
    have := R i (i + 1) a b h hb (Nat.lt_succ_self _)
    omega
  · omega
theorem insert_rise {xs : Array Nat} (R : Rise xs) {j : Nat} (hn : xs[below xs j]? ≠ some j) : Rise (insertAt xs (below xs j) j) := by
  obtain ⟨h1, h2, h3⟩ := below_spec R j
  generalize hp : below xs j = p at *
  have hl := SetTable.toList_insertAt xs p j
  have get : ∀ i, (insertAt xs p j)[i]? = (xs.toList.take p ++ j :: xs.toList.drop p)[i]? := fun i => by rw [← hl, Array.getElem?_toList]
  have lp : (xs.toList.take p).length = p := by rw [List.length_take, Array.length_toList]; omega
  have g1 : ∀ i, i < p → (insertAt xs p j)[i]? = xs[i]? := fun i hi => by
    rw [get, List.getElem?_append_left (by omega), List.getElem?_take_of_lt hi, Array.getElem?_toList]
  have g2 : (insertAt xs p j)[p]? = some j := by
    rw [get, List.getElem?_append_right (by omega), lp, Nat.sub_self]; rfl
  have g3 : ∀ i, p < i → (insertAt xs p j)[i]? = xs[i - 1]? := fun i hi => by
    rw [get, List.getElem?_append_right (by omega), lp, show i - p = (i - 1 - p) + 1 by omega, List.getElem?_cons_succ, List.getElem?_drop, Array.getElem?_toList]
    congr 1; omega
  have up : ∀ i a, p ≤ i → xs[i]? = some a → j < a := fun i a hi ha => by
    have h := h3 i a hi ha
    rcases Nat.lt_or_ge j a with z | z
    · exact z
    · have e : a = j := by omega
      subst e
      rcases Nat.lt_or_ge p i with q | q
      · obtain ⟨b, hb⟩ := some_of (xs := xs) (i := p) (by have := lt_of ha; omega)
        have k1 := h3 p b (Nat.le_refl _) hb
        have k2 := R p i b a hb ha q
        omega
      · have e2 : i = p := by omega
        subst e2
        exact absurd ha hn
  intro i k a b ha hb hik
  rcases Nat.lt_trichotomy i p with z | z | z
  · rw [g1 i z] at ha
    rcases Nat.lt_trichotomy k p with y | y | y
    · rw [g1 k y] at hb
      exact R i k a b ha hb hik
    · subst y; rw [g2] at hb; cases hb
      exact h2 i a z ha
    · rw [g3 k y] at hb
      have := h2 i a z ha
      have := up (k - 1) b (by omega) hb
      omega
  · subst z; rw [g2] at ha; cases ha
    rw [g3 k hik] at hb
    exact up (k - 1) b (by omega) hb
  · rw [g3 i z] at ha
    rw [g3 k (by omega)] at hb
    exact R (i - 1) (k - 1) a b ha hb (by omega)
theorem rise_empty : Rise #[] := fun i j a b h => by simp at h
theorem rise_of_sorted {l : List Nat} (h : l.Pairwise (· < ·)) : Rise l.toArray := by
  intro i j a b ha hb hij
  rw [List.getElem?_toArray] at ha hb
  obtain ⟨hi, ei⟩ := List.getElem?_eq_some_iff.mp ha
  obtain ⟨hj, ej⟩ := List.getElem?_eq_some_iff.mp hb
  rw [← ei, ← ej]
  exact List.pairwise_iff_getElem.mp h i j hi hj hij
theorem laid_rise {mask finger moves : Nat} {led plain : Bool} {hs : Array Int} {t : SetTable} {o : Array Nat} (h : laid mask finger moves led plain hs = some (t, o)) : Rise t.place ∧ t.led = led ∧ t.plain = plain ∧ t.dummies = #[] := by
  unfold laid at h
  cases e : layClean mask hs with
  | none => rw [e] at h; cases h
  | some owner =>
    rw [e] at h
    cases h
    refine ⟨rise_of_sorted ?_, rfl, rfl, rfl⟩
    have key : ∀ (l : List Nat), l.Pairwise (· < ·) → ((l.filterMap fun j => (owner.getD j none).map (j, ·)).map (·.1)).Pairwise (· < ·) ∧ ∀ x ∈ (l.filterMap fun j => (owner.getD j none).map (j, ·)).map (·.1), x ∈ l := by
      intro l
      induction l with
      | nil => intro _; simp
      | cons y l ih =>
        intro hl
        obtain ⟨q1, q2⟩ := List.pairwise_cons.mp hl
        obtain ⟨k1, k2⟩ := ih q2
        cases ey : owner.getD y none with
        | none =>
          rw [List.filterMap_cons_none (by rw [ey]; rfl)]
          exact ⟨k1, fun x hx => by simp [k2 x hx]⟩
        | some z =>
          rw [List.filterMap_cons_some (b := (y, z)) (by rw [ey]; rfl), List.map_cons]
          refine ⟨List.pairwise_cons.mpr ⟨fun x hx => q1 x (k2 x hx), k1⟩, fun x hx => ?_⟩
          rcases List.mem_cons.mp hx with rfl | hx
          · simp
          · simp [k2 x hx]
    exact (key _ List.pairwise_lt_range).1
structure TG (byText : Bool) (t : SetTable) : Prop where
  led : byText = false → t.led = true
  rise : t.plain = true → Rise t.place ∧ t.dummies = #[]
theorem TG.standIn {b : Bool} {t : SetTable} (g : TG b t) (n : Nat) : TG b (t.standIn n) := ⟨g.led, fun h => by cases h⟩
theorem has_empty (j : Nat) : has #[] j = false := by
  unfold has
  simp
theorem slot_empty {t : SetTable} {j : Nat} (h : t.slot j = .empty) : t.place[below t.place j]? ≠ some j := by
  unfold slot at h
  dsimp only at h
  split at h
  · cases h
  · rename_i q
    intro e
    exact q (by rw [e]; simp)
theorem probe_empty {t : SetTable} (hd : t.dummies = #[]) {hashAt : Nat → Int} {h : Int} {j : Nat} {d : Option Nat} : ∀ (f : Nat) (p : Probe), p.dummy = none → probe.go t hashAt h f p = some (.empty j d) → d = none ∧ t.slot j = .empty
  | 0, p, _, e => by cases e
  | f + 1, p, hp, e => by
    unfold probe.go at e
    cases q : t.slot p.j with
    | empty =>
      rw [q] at e
      dsimp only at e
      cases e
      exact ⟨hp, q⟩
    | dummy =>
      unfold slot at q
      dsimp only at q
      rw [hd, has_empty] at q
      split at q
      · cases q
      · cases q
    | live i =>
      rw [q] at e
      dsimp only at e
      have hadv : (t.advance p).dummy = none := by
        unfold advance
        split
        · exact hp
        · exact hp
      split at e
      · cases e
      · exact probe_empty hd f _ hadv e
theorem layNew_tg {b : Bool} {t : SetTable} (g : TG b t) (es : Array (Int × Value)) (h : Int) (x : Value) : TG b (layNew t es h x).2.1 := by
  unfold layNew
  cases e : t.freeSlot h with
  | none => exact g.standIn _
  | some sd =>
    obtain ⟨slot, wd⟩ := sd
    dsimp only
    unfold SetTable.orStandIn
    have gp : TG b (t.put slot).1 := by
      refine ⟨g.led, fun hp => ?_⟩
      have hp' : t.plain = true := hp
      obtain ⟨r1, r2⟩ := g.rise hp'
      unfold SetTable.freeSlot at e
      split at e
      · rename_i j dm hpr
        obtain ⟨hdm, hsl⟩ := probe_empty r2 _ _ rfl hpr
        subst hdm
        cases e
        refine ⟨insert_rise r1 (slot_empty hsl), ?_⟩
        show (if has t.dummies _ then _ else t.dummies) = _
        rw [r2, has_empty]; rfl
      · cases e
    split
    · exact gp
    · exact gp.standIn _
theorem relay_tg {b : Bool} {t : SetTable} (g : TG b t) (es : Array (Int × Value)) (n : Nat) : TG b (relayAll t es n).2.1 := by
  unfold relayAll
  cases e : t.relaid (es.map (·.1)) n with
  | none => exact g.standIn _
  | some r =>
    obtain ⟨t', order⟩ := r
    dsimp only
    split
    · obtain ⟨q1, q2, q3, q4⟩ := laid_rise e
      exact ⟨fun hb => by rw [q2]; exact g.led hb, fun _ => ⟨q1, q4⟩⟩
    · exact g.standIn _
theorem fresh_tg {b : Bool} : TG b (.fresh 0 0 (!b)) := ⟨fun h => by rw [h]; rfl, fun _ => ⟨rise_empty, rfl⟩⟩
end Vp
end
section
set_option linter.all false
set_option Elab.async false
set_option maxRecDepth 100000
namespace Vp
open PySem PySem.Spec PyProof.Rows
def valI : Value → Int
  | .int n _ => n
  | _ => 0
def byText (w : World) : Bool := w.params.followText "set-order"
def SetG (prog : Program) (w : World) (h : Heap) (a : Addr) (ns : List Int) : Prop :=
  ∃ o es ep t, h.get? a = some o ∧ o.ExactSet ∧ o.data = .set es ep t ∧ ElemsOf (PySem.intKind prog w) es.toList ∧ (es.toList.map fun e => valI e.2).Perm ns ∧ es.size < scanBound ∧ t.fits es.size = true ∧ TG (byText w) t
section
variable {prog : Program} {w : World} {A : Around} {E : Value → Shared → Prop} {s : Shared}
theorem isInt_val {k : Int} {v : Value} (h : (PySem.intKind prog w).is k v = true) : valI v = k := by
  obtain ⟨t, rfl⟩ := Value.isInt_shape (k := k) (v := v) h
  rfl
theorem int_is (k : Int) (t : Tok) : (PySem.intKind prog w).is k (.int k t) = true := intKind_is _ _ _ _
theorem elem_int {es : List (Int × Value)} (h : ElemsOf (PySem.intKind prog w) es) {e : Int × Value} (he : e ∈ es) : ∃ t, e.2 = .int (valI e.2) t := by
  obtain ⟨⟨k, hk, _⟩, _⟩ := h e he
  obtain ⟨t, q⟩ := Value.isInt_shape (k := k) (v := e.2) hk
  exact ⟨t, by rw [q]; rfl⟩
theorem has_iff {es : List (Int × Value)} (h : ElemsOf (PySem.intKind prog w) es) {ns : List Int} (p : (es.map fun e => valI e.2).Perm ns) (k : Int) : (∃ e ∈ es, (PySem.intKind prog w).is k e.2 = true) ↔ k ∈ ns := by
  rw [← p.mem_iff, List.mem_map]
  constructor
  · rintro ⟨e, he, q⟩
    exact ⟨e, he, isInt_val q⟩
  · rintro ⟨e, he, rfl⟩
    obtain ⟨t, q⟩ := elem_int h he
    exact ⟨e, he, by rw [q]; exact int_is _ _⟩
theorem stores {g : Bool → Sem Unit} (hg : ∀ (b : Bool) (s₁ : Shared) (Q' : Unit → Shared → Prop), Q' () s₁ → wpAny (model prog w) A (g b) Q' E s₁)
    {a : Addr} {o : Obj} {es es1 : Array (Int × Value)} {ep : Nat} {t t1 : SetTable} {ns : List Int} (ho : s.heap.get? a = some o) (hex : o.ExactSet) (hd : o.data = .set es ep t)
    (hel : ElemsOf (PySem.intKind prog w) es1.toList) (hp : (es1.toList.map fun e => valI e.2).Perm ns) (hb : es1.size < scanBound) (hf : t1.fits es1.size = true) (ht : TG (byText w) t1) {wd : Bool} {R : Option Bool → Shared → Prop}
    (h : ∀ h', Heap.SameBut a s.heap h' → SetG prog w h' a ns → R (some true) { s with heap := h' }) :
    wpAny (model prog w) A (do
        storeSet a es1 t1
        if (!wd && t1.tooFull) = true then do
            g (relayAll t1 es1 (SetTable.grown es1.size)).2.2
            storeSet a (relayAll t1 es1 (SetTable.grown es1.size)).1 (relayAll t1 es1 (SetTable.grown es1.size)).2.1
            pure (some true)
          else pure (some true)) R E s := by
  have get : ∀ {h : Heap} {oo : Obj} {e0 : Array (Int × Value)} {p0 : Nat} {t0 : SetTable} (e' : Array (Int × Value)) (t' : SetTable), h.get? a = some oo → oo.data = .set e0 p0 t0 → (h.update a (Obj.putSet e' t')).get? a = some { oo with data := .set e' (p0 + 1) t' } := fun {h oo e0 p0 t0} e' t' q1 q2 => by
    have := Heap.get?_update_self (Obj.putSet e' t') q1 (by rw [putSet_of e' t' q2]; rfl)
    rw [putSet_of e' t' q2] at this
    exact this
  refine wpAny_bind (wpAny_storeSet_of ho hd ?_ (fits_of_scanBound hb))
  have g1 := get es1 t1 ho hd
  have sb1 := Heap.SameBut.update s.heap a (Obj.putSet es1 t1)
  split
  · have pp := relayAll_perm t1 es1 (SetTable.grown es1.size)
    have ff := relayAll_fits t1 es1 (SetTable.grown es1.size)
    have tt := relay_tg ht es1 (SetTable.grown es1.size)
    generalize relayAll t1 es1 (SetTable.grown es1.size) = Z at pp ff tt ⊢
    obtain ⟨es2, t2, gv⟩ := Z
    dsimp only at pp ff tt ⊢
    have hz : es2.size = es1.size := by rw [← Array.length_toList, pp.length_eq, Array.length_toList]
    have hb2 : es2.size < scanBound := by rw [hz]; exact hb
    refine wpAny_bind (hg _ _ _ (wpAny_bind (wpAny_storeSet_of g1 rfl (wpAny_pure ?_) (fits_of_scanBound hb2))))
    exact h _ (sb1.trans (Heap.SameBut.update _ a _)) ⟨_, es2, _, t2, get es2 t2 g1 rfl, hex, rfl, hel.perm pp, (pp.map _).trans hp, hb2, ff, tt⟩
  · exact wpAny_pure (h _ sb1 ⟨_, es1, _, t1, g1, hex, rfl, hel, hp, hb, hf, ht⟩)
theorem add_int {a : Addr} {ns : List Int} {k : Int} {tk : Tok} {Q : Bool → Shared → Prop} (hS : SetG prog w s.heap a ns) (hroom : ns.length + 1 < scanBound)
    (h : ∀ (c : Bool) h', Heap.SameBut a s.heap h' → SetG prog w h' a (if k ∈ ns then ns else ns ++ [k]) → Q c { s with heap := h' }) :
    wpAny (model prog w) A (setAddHashed a (.int k tk) ((PySem.intKind prog w).hash k)) Q E s := by
  obtain ⟨o, es, ep, t, ho, hex, hd, hel, hp, hb, hf, ht⟩ := hS
  have hlen : es.size = ns.length := by rw [← hp.length_eq, List.length_map, Array.length_toList]
  have hkey := int_is (prog := prog) (w := w) k tk
  have hsc : (Value.int k tk).scannable = true := rfl
  unfold setAddHashed setAddHashedIn
  refine wpAny_holding (wpAny_bind (wpAny_setState_of ho hd hf ?_))
  dsimp only
  rw [byScan_of hsc hb hel]
  simp only [↓reduceIte]
  unfold setAddByScan
  refine wpAny_bind (wpAny_bind (wpAny_rule (wpAny_bind (wpAny_setScan_of hkey ho hd hf hel ?_))))
  have hin := has_iff hel hp k
  cases hr : List.findIdx? (fun e => (PySem.intKind prog w).is k e.2) es.toList with
  | some j =>
    dsimp only
    obtain ⟨hj, hpj, _⟩ := List.findIdx?_eq_some_iff_getElem.mp hr
    have hm : k ∈ ns := hin.mp ⟨es.toList[j], List.getElem_mem hj, hpj⟩
    refine wpAny_pure (wpAny_pure ?_)
    have q := h false s.heap (Heap.SameBut.refl a s.heap)
    rw [if_pos hm] at q
    exact q ⟨o, es, ep, t, ho, hex, hd, hel, hp, hb, hf, ht⟩
  | none =>
    dsimp only
    have hm : k ∉ ns := fun z => by
      obtain ⟨e, he, q⟩ := hin.mpr z
      have := List.findIdx?_eq_none_iff.mp hr e he
      rw [q] at this
      cases this
    have hgw : ∀ (b : Bool) (s₁ : Shared) (Q' : Unit → Shared → Prop), Q' () s₁ → wpAny (model prog w) A (match b with | true => rule "set.scan.the-table-gave-way" | false => pure ()) Q' E s₁ := fun b s₁ Q' hq => by
      cases b
      · exact wpAny_pure hq
      · exact wpAny_rule hq
    have pp := layNew_perm t es ((PySem.intKind prog w).hash k) (.int k tk)
    have ff := layNew_fits t es ((PySem.intKind prog w).hash k) (.int k tk)
    have tt := layNew_tg ht es ((PySem.intKind prog w).hash k) (.int k tk)
    generalize layNew t es ((PySem.intKind prog w).hash k) (.int k tk) = Z at pp ff tt ⊢
    obtain ⟨es1, t1, wd, gv⟩ := Z
    dsimp only at pp ff tt ⊢
    rw [Array.toList_push] at pp
    have hel1 : ElemsOf (PySem.intKind prog w) es1.toList := (hel.push hkey hsc).perm pp
    have hp1 : (es1.toList.map fun e => valI e.2).Perm (ns ++ [k]) := (pp.map _).trans (by
      rw [List.map_append]
      exact hp.append_right _)
    have hb1 : es1.size < scanBound := by
      rw [← Array.length_toList, pp.length_eq, List.length_append, Array.length_toList, hlen]
      exact hroom
    refine wpAny_bind (hgw _ _ _ ?_)
    have fin : ∀ h', Heap.SameBut a s.heap h' → SetG prog w h' a (ns ++ [k]) → Q true { s with heap := h' } := fun h' sb q => by
      have z := h true h' sb
      rw [if_neg hm] at z
      exact z q
    split
    · refine wpAny_bind ?_
      rw [hashByValue_scannable 8 hsc]
      refine wpAny_pure ?_
      refine stores (fun b s₁ Q' hq => ?_) ho hex hd hel1 hp1 hb1 (t1 := if plainKind (.int k tk) = true then t1 else { t1 with plain := false }) ff tt fun h' sb q => ?_
      · cases b
        · exact wpAny_pure hq
        · exact wpAny_rule hq
      · exact wpAny_pure (fin h' sb q)
    · refine wpAny_bind (wpAny_pure ?_)
      simp only [↓reduceIte]
      refine stores (fun b s₁ Q' hq => ?_) ho hex hd hel1 hp1 hb1 ff tt fun h' sb q => ?_
      · cases b
        · exact wpAny_pure hq
        · exact wpAny_rule hq
      · exact wpAny_pure (fin h' sb q)
end
end Vp
end
section
set_option linter.all false
set_option Elab.async false
set_option maxRecDepth 100000
set_option maxHeartbeats 3200000
namespace Vp
open PySem PySem.Spec PyProof.Rows
def ded (l : List Int) : List Int := l.foldl (fun a k => if k ∈ a then a else a ++ [k]) []
theorem ded_snoc (l : List Int) (k : Int) : ded (l ++ [k]) = if k ∈ ded l then ded l else ded l ++ [k] := by
  unfold ded; rw [List.foldl_append]; rfl
theorem ded_go : ∀ (l a : List Int), a.Nodup → (l.foldl (fun a k => if k ∈ a then a else a ++ [k]) a).Nodup ∧ (∀ x, x ∈ l.foldl (fun a k => if k ∈ a then a else a ++ [k]) a ↔ x ∈ a ∨ x ∈ l) ∧ (l.foldl (fun a k => if k ∈ a then a else a ++ [k]) a).length ≤ a.length + l.length
  | [], a, h => ⟨h, fun x => by simp, by simp⟩
  | k :: l, a, h => by
    rw [List.foldl_cons]
    by_cases hk : k ∈ a
    · rw [if_pos hk]
      obtain ⟨h1, h2, h3⟩ := ded_go l a h
      refine ⟨h1, fun x => ?_, by rw [List.length_cons]; omega⟩
      rw [h2, List.mem_cons]
      constructor
      · rintro (q | q) <;> simp [q]
      · rintro (q | q | q)
        · exact .inl q
        · exact .inl (by rw [q]; exact hk)
        · exact .inr q
    · rw [if_neg hk]
      obtain ⟨h1, h2, h3⟩ := ded_go l (a ++ [k]) (by
        rw [List.nodup_append]
        exact ⟨h, by simp, fun x hx y hy e => hk (by simp at hy; rw [← hy, ← e]; exact hx)⟩)
      refine ⟨h1, fun x => ?_, by rw [List.length_append] at h3; rw [List.length_cons]; simp at h3; omega⟩
      simp only [h2, List.mem_append, List.mem_cons, List.not_mem_nil, or_false]
      constructor
      · rintro ((q | q) | q)
        · exact .inl q
        · exact .inr (.inl q)
        · exact .inr (.inr q)
      · rintro (q | q | q)
        · exact .inl (.inl q)
        · exact .inl (.inr q)
        · exact .inr q
theorem ded_nodup (l : List Int) : (ded l).Nodup := (ded_go l [] (by simp)).1
theorem mem_ded {l : List Int} {x : Int} : x ∈ ded l ↔ x ∈ l := by
  have := (ded_go l [] (by simp)).2.1 x
  simpa [ded] using this
theorem ded_len (l : List Int) : (ded l).length ≤ l.length := by
  have := (ded_go l [] (by simp)).2.2
  simpa [ded] using this
section
variable {prog : Program} {w : World} {A : Around} {E : Value → Shared → Prop} {s : Shared}
theorem SetG.at {h h' : Heap} {a : Addr} {ns : List Int} (x : SetG prog w h a ns) (k : ∀ o, h.get? a = some o → h'.get? a = some o) : SetG prog w h' a ns := by
  obtain ⟨o, es, ep, t, ho, q⟩ := x
  exact ⟨o, es, ep, t, k o ho, q⟩
theorem set_loop {R : Result → Shared → Prop} {S I l : Addr} {its : List Value} {ns : List Int} (hh : A.in1.handled = none) (hlI : l ≠ I) (hSI : S ≠ I) (hSl : S ≠ l) (hi : IntsAre its ns) (hb : its.length + 1 < scanBound) :
    ∀ (r i : Nat) (s : Shared), its.length - i = r → i ≤ its.length → s.heap.IsListIter I l i → s.heap.IsList l its.toArray → SetG prog w s.heap S (ded (ns.take i)) →
      (∀ h' tk, (∀ b o, b ≠ S → b ≠ I → s.heap.get? b = some o → h'.get? b = some o) → SetG prog w h' S (ded ns) → R (.ok (.ret .none)) { s with heap := h', toks := tk }) →
      codeAny (model prog w) A (.builtin "set.update.loop" ⟨[.ref S, .ref I], []⟩) R s := by
  have W := Walks.list (prog := prog) (w := w) (A := A.in1) hh I l hlI its.toArray
  have hsz : its.toArray.size = its.length := List.size_toArray ..
  have hln : its.length = ns.length := hi.length
  intro r
  induction r with
  | zero =>
    intro i s hr hle hit hl hS hR
    have hin : i = its.length := by omega
    subst hin
    refine codeAny_builtin F.entry_set_update_loop (by
      rw [Around.under_plainId F.plain_set_update_loop _]
      show wpAny _ A.in1 (pyNext (.ref I) >>= _) _ _ s
      refine wpAny_bind (W.done s _ _ ⟨by rw [hsz]; exact hit, hl⟩ fun h' tk hk => ?_)
      show wpAny _ A.in1 (ret Value.none) _ _ _
      refine wpAny_pure (hR h' tk (fun b o _ hbI e => hk b o (by simpa using hbI) e) ?_)
      rw [hln, List.take_length] at hS
      exact hS.at fun o e => hk S o (by simpa using hSI) e)
  | succ r ih =>
    intro i s hr hle hit hl hS hR
    have hlt : i < its.length := by omega
    refine codeAny_builtin F.entry_set_update_loop (by
      rw [Around.under_plainId F.plain_set_update_loop _]
      show wpAny _ A.in1 (pyNext (.ref I) >>= _) _ _ s
      refine wpAny_bind (W.item i s _ _ (by rw [hsz]; exact hlt) ⟨hit, hl⟩ fun v h' tk hP hst hk => ?_)
      have hv : its[i]? = some v := by simpa using hP
      obtain ⟨t, rfl⟩ := IntsAre.int_at hi i v hv
      have hni : i < ns.length := by omega
      have hS1 : SetG prog w h' S (ded (ns.take i)) := hS.at fun o e => hk S o (by simpa using hSI) e
      have hts : ns.take (i + 1) = ns.take i ++ [ns.getD i 0] := by
        rw [List.take_succ, List.getD_eq_getElem?_getD, List.getElem?_eq_getElem hni]; rfl
      show wpAny _ A.in1 (holding [Value.int (ns.getD i 0) t] (setAdd S (.int (ns.getD i 0) t)) >>= _) _ _ _
      refine wpAny_bind (wpAny_holding ?_)
      unfold setAdd
      refine wpAny_holding (wpAny_bind ((PySem.intKind prog w).pyHash (k := ns.getD i 0) (intKind_is _ _ _ _) ?_))
      have hroom : (ded (ns.take i)).length + 1 < scanBound := by
        have := ded_len (ns.take i)
        rw [List.length_take] at this
        omega
      refine add_int (s := { s with heap := h', toks := tk + 1 }) hS1 hroom fun c h2 sb hS2 => ?_
      rw [← ded_snoc, ← hts] at hS2
      have hit2 : h2.IsListIter I l (i + 1) := by
        obtain ⟨oI, e1, e2⟩ := hst.1
        exact ⟨oI, (sb.2 I hSI.symm).trans e1, e2⟩
      have hl2 : h2.IsList l its.toArray := by
        obtain ⟨ol, e1, e2⟩ := hst.2
        exact ⟨ol, (sb.2 l hSl.symm).trans e1, e2⟩
      refine wpAny_pure ⟨plainId_quiet F.plain_set_update_loop _, ih (i + 1) _ (by omega) hlt hit2 hl2 hS2 fun h3 tk3 hk3 hS3 => ?_⟩
      exact hR h3 tk3 (fun b o h1 h2' e => hk3 b o h1 h2' ((sb.2 b h1).trans (hk b o (by simpa using h2') e))) hS3)
abbrev setNew (b : Bool) : Obj := { cls := .type "set", dict := none, data := .set #[] 0 (.fresh 0 0 b) }
theorem set_new {a : Value} {Q₁ : Value → Shared → Prop}
    (h : Q₁ (.ref s.heap.objs.size) { s with heap := s.heap.push (setNew (!byText w)) }) :
    codeAny (model prog w) A (.call (.builtin "set.__new__") ⟨[.type "set", a], []⟩) (wants Q₁ E) s := by
  refine codeAny_of_tree ?_
  show wpAny _ A.in1 (do checkBuiltinCall "set.__new__" ⟨[.type "set", a], []⟩; again (.builtin "set.__new__" ⟨[.type "set", a], []⟩)) _ _ s
  refine wpAny_bind (wpAny_of_eq (F.newCall_set_1 a) (wpAny_pure ⟨plainId_quiet F.plain_set_new _, codeAny_builtin F.entry_set_new ?_⟩))
  rw [Around.under_plainId F.plain_set_new _]
  unfold Builtin.«set.__new__» Builtin.Frozenset.newClass
  have hsub := sub_set_self
  obtain ⟨hp, g, d, tk, os⟩ := s
  dsimp only
  wp_walk
  refine wpAny_askSetting (wpAny_pure ?_)
  dsimp only
  simp only [newObj]
  refine wpAny_bind (wpAny_alloc (wpAny_pure ?_))
  exact wpAny_pure h
theorem fresh_setG (b : Heap) {h : Heap} (e : h.get? b.objs.size = some (setNew (!byText w))) : SetG prog w h b.objs.size [] :=
  ⟨_, #[], 0, _, e, ⟨rfl, rfl, rfl⟩, rfl, fun e he => by simp at he, by simp, by decide, by rfl, fresh_tg⟩
theorem call_set_ints {l : Addr} {its : List Value} {ns : List Int} {Q : Value → Shared → Prop} (hh : A.handled = none) (hl : s.heap.IsList l its.toArray) (hi : IntsAre its ns) (hb : its.length + 1 < scanBound)
    (h : ∀ (h' : Heap) (tk : Nat), SetG prog w h' s.heap.objs.size (ded ns) → (∀ b o, s.heap.get? b = some o → h'.get? b = some o) → s.heap.objs.size < h'.objs.size → Q (.ref s.heap.objs.size) { s with heap := h', toks := tk }) :
    wpAny (model prog w) A (call (.type "set") [.ref l]) Q E s := by
  obtain ⟨c, tl, hmro⟩ := F.called_set.mro
  have hmade := F.called_set.made
  have hsub := F.called_set.sub
  refine wpAny_call (codeAny_of_tree ?_)
  show wpAny _ _ (callAny (.type "set") _) _ _ _
  refine wpAny_pure ⟨Code.quiet_builtin _ (by decide +kernel), codeAny_builtin F.entry_type_call ?_⟩
  rw [Around.under_plain (weight_type_call_type "set" [.ref l] []) rfl]
  have h1 := F.called_set.notType
  have h2 := F.called_set.canCreate
  have hct := F.typeCall_set_1 (.ref l)
  repeat (any_goals (first | assumption | wp_step))
  refine codeAny_mono (set_new (a := .ref l) (E := E) (Q₁ := fun obj s₁ => obj = .ref s.heap.objs.size ∧ s₁ = { s with heap := s.heap.push (setNew (!byText w)) }) ⟨rfl, rfl⟩) fun r s₁ hr => ?_
  cases r with
  | error e => exact hr
  | ok fl =>
    cases fl with
    | ret obj =>
      obtain ⟨rfl, rfl⟩ := hr
      have hS : (s.heap.push (setNew (!byText w))).get? s.heap.objs.size = some (setNew (!byText w)) := Heap.get?_push_size _ rfl
      have hT : Shared.TypeIs { s with heap := s.heap.push (setNew (!byText w)) } (.ref s.heap.objs.size) "set" := ⟨_, hS, rfl⟩
      have hli := F.called_set.init.lookup
      have hbi := F.called_set.init.bind (.ref s.heap.objs.size)
      repeat (any_goals (first | assumption | wp_step))
      refine codeAny_mono (codeAny_call_builtin (R := wants (fun r s₂ => r = .none ∧ ∃ h' tk, s₂ = { s with heap := h', toks := tk } ∧ SetG prog w h' s.heap.objs.size (ded ns) ∧
          (∀ b o, s.heap.get? b = some o → h'.get? b = some o) ∧ s.heap.objs.size < h'.objs.size) E) F.called_set.init.plain F.entry_set_init (check_set_init_1 hT ?_)) fun r₂ s₂ hr₂ => ?_
      · obtain ⟨ol, hol, hcl, nl, hdl⟩ := hl
        obtain ⟨ocls, odict, odata, oslots⟩ := ol
        simp only at hcl hdl
        subst hcl; subst hdl
        have hol' : (s.heap.push (setNew (!byText w))).get? l = some { cls := .type "list", dict := odict, data := .seq its.toArray nl, slots := oslots } := Heap.get?_push_of_some _ hol
        have hsls := F.sub_list_set
        have hslf := F.sub_list_frozenset
        have hne : (Value.type "list" == Value.type "dict") = false := by decide
        have hl1 : (s.heap.push (setNew (!byText w))).IsList l its.toArray := ⟨_, hol', rfl, nl, rfl⟩
        unfold Builtin.«set.__init__» noKeywords Builtin.Frozenset.updateFrom
        generalize hPI : pyIter = PI
        wp_walk
        subst hPI
        refine wpAny_pyIter_list hl1 ?_
        refine wpAny_bind (wpAny_runValue ?_)
        have hlS : l < s.heap.objs.size := Heap.lt_size hol
        have hh3 : A.in1.in1.in1.handled = none := by simp [hh]
        have hI : (s.heap.push (setNew (!byText w))).objs.size = s.heap.objs.size + 1 := Heap.size_push _ _
        have gS2 : ((s.heap.push (setNew (!byText w))).push { cls := .type "list_iterator", data := .fields #[.ref l, .int 0 0] }).get? s.heap.objs.size = some (setNew (!byText w)) := Heap.get?_push_of_some _ hS
        refine set_loop (S := s.heap.objs.size) (I := (s.heap.push (setNew (!byText w))).objs.size) (l := l) hh3 (by rw [hI]; exact Nat.ne_of_lt (Nat.lt_succ_of_lt hlS)) (by rw [hI]; exact Nat.ne_of_lt (Nat.lt_succ_self _)) (Nat.ne_of_gt hlS) hi hb _ 0 _ rfl (Nat.zero_le _)
          ⟨_, Heap.get?_push_size _ rfl, rfl, rfl⟩ (hl1.push _) (fresh_setG s.heap gS2) fun h' tk hk hS' => ?_
        show wpAny _ _ _ _ _ _
        refine wpAny_pure ?_
        show wpAny _ _ (ret Value.none) _ _ _
        refine wpAny_pure ⟨rfl, h', tk, rfl, hS', fun b o e => ?_, ?_⟩
        · have hb1 := Heap.lt_size e
          exact hk b o (Nat.ne_of_lt hb1) (by rw [hI]; exact Nat.ne_of_lt (Nat.lt_succ_of_lt hb1)) (Heap.get?_push_of_some _ (Heap.get?_push_of_some _ e))
        · obtain ⟨o, _, _, _, e, _⟩ := hS'
          exact Heap.lt_size e
      · cases r₂ with
        | error e => exact hr₂
        | ok fl₂ =>
          cases fl₂ with
          | ret r =>
            obtain ⟨rfl, h', tk, rfl, hS', hk', hz⟩ := hr₂
            repeat (any_goals (first | assumption | wp_step))
            exact h _ _ hS' hk' hz
          | _ => exact hr₂.elim
    | _ => exact hr.elim
end
end Vp
end
section
set_option linter.all false
set_option Elab.async false
set_option maxRecDepth 100000
set_option maxHeartbeats 3200000
namespace Vp
open PySem PySem.Spec PyProof.Rows
theorem slot_sit_next : Slot "set_iterator" "__next__" "set_iterator.__next__" :=
  .of (owner := "set_iterator") (n := "__next__") (by rw [typeLookup_type, builtinLookup_eq_fast]; kernel_rfl) (by decide +kernel) (by decide +kernel) (by decide +kernel)
    (by first | exact .inl (by decide +kernel) | exact .inr (by decide +kernel)) (by rw [isSubtype_type]; kernel_rfl)
theorem entry_sit_next : entryFor table "set_iterator.__next__" = some Builtin.«set_iterator.__next__» := entryFor_of_tree (by kernel_rfl)
theorem args_sit_next (a : Value) : argsOk "set_iterator.__next__" ⟨[a], []⟩ := by unfold argsOk; kernel_rfl
theorem entry_set_iter : entryFor table "set.__iter__" = some Builtin.«frozenset.__iter__» :=
  entryFor_alias (id' := "frozenset.__iter__") (by kernel_rfl) rfl (by decide +kernel) (by kernel_rfl)
def IsSetIter (h : Heap) (I : Addr) (first : Value) (i : Nat) (a : Addr) (n ep : Nat) : Prop :=
  ∃ o, h.get? I = some o ∧ o.cls = .type "set_iterator" ∧ o.data = .fields #[first, .int (i : Nat) 0, .ref a, .int (n : Nat) 0, .int (ep : Nat) 0]
theorem IsSetIter.typeIs {s : Shared} {I : Addr} {first : Value} {i : Nat} {a : Addr} {n ep : Nat} (x : IsSetIter s.heap I first i a n ep) : s.TypeIs (.ref I) "set_iterator" := let ⟨o, h1, h2, _⟩ := x; ⟨o, h1, h2⟩
section
variable {prog : Program} {w : World} {A : Around} {E : Value → Shared → Prop} {s : Shared}
theorem sit_item {I a : Addr} {slot i n ep nx : Nat} {x : Value} {oa : Obj} {es : Array (Int × Value)} {t : SetTable} {Q : Option Value → Shared → Prop} (hit : IsSetIter s.heap I (.int (slot : Nat) 0) i a n ep) (ha : s.heap.get? a = some oa) (hd : oa.data = .set es ep t) (hf : t.fits es.size = true) (hn : es.size = n)
    (hnext : ∀ (A : Around) (E : Value → Shared → Prop) (Q' : Option (Value × Nat) → Shared → Prop), Q' (some (x, nx)) s → wpAny (model prog w) A (setNext a slot i ep) Q' E s)
    (hQ : ∀ h', IsSetIter h' I (.int (nx : Nat) 0) (i + 1) a n ep → Heap.SameBut I s.heap h' → Q (some x) { s with heap := h' }) : wpAny (model prog w) A (pyNext (.ref I)) Q E s := by
  obtain ⟨o, ho, hc, hdat⟩ := id hit
  unfold pyNext
  refine wpAny_bind (wpAny_attempt (wpAny_callSpecial?_slot (name := Str.ofString "__next__") hit.typeIs slot_sit_next (wpAny_call_entry slot_sit_next hit.typeIs entry_sit_next ?_ (args_sit_next _))))
  refine wpAny_bind (wpAny_pure ?_)
  refine wpAny_bind (wpAny_fieldsOf ho hdat ?_)
  dsimp only
  refine wpAny_bind (wpAny_setEntries_of ha hd hf ?_)
  rw [if_neg (by rw [hn]; simp)]
  try dsimp only
  rw [Int.toNat_natCast, Int.toNat_natCast, Int.toNat_natCast]
  refine wpAny_bind (hnext _ _ _ ?_)
  dsimp only
  refine wpAny_bind (wpAny_setField ho hdat (by simp) ?_)
  have d1 := Obj.data_mapFields hdat (·.setIfInBounds 0 (rawInt (nx : Nat)))
  have g1 := Heap.get?_update_self (Obj.mapFields (·.setIfInBounds 0 (rawInt (nx : Nat)))) ho (Obj.isFreed_of_fields d1)
  refine wpAny_bind (wpAny_setField g1 d1 (by simp) ?_)
  have d2 := Obj.data_mapFields d1 (·.setIfInBounds 1 (rawInt ((i : Int) + 1)))
  have g2 := Heap.get?_update_self (Obj.mapFields (·.setIfInBounds 1 (rawInt ((i : Int) + 1)))) g1 (Obj.isFreed_of_fields d2)
  refine wpAny_pure ⟨x, rfl, wpAny_pure (hQ _ ⟨_, g2, ?_, ?_⟩ ((Heap.SameBut.update ..).trans (Heap.SameBut.update ..)))⟩
  · rw [Obj.cls_mapFields, Obj.cls_mapFields]; exact hc
  · rw [d2]; simp [rawInt]
theorem sit_end {I a : Addr} {slot i n ep : Nat} {oa : Obj} {es : Array (Int × Value)} {t : SetTable} {Q : Option Value → Shared → Prop} (hh : A.handled = none) (hit : IsSetIter s.heap I (.int (slot : Nat) 0) i a n ep) (ha : s.heap.get? a = some oa) (hd : oa.data = .set es ep t) (hf : t.fits es.size = true) (hn : es.size = n)
    (hnext : ∀ (A : Around) (E : Value → Shared → Prop) (Q' : Option (Value × Nat) → Shared → Prop), Q' none s → wpAny (model prog w) A (setNext a slot i ep) Q' E s)
    (hQ : ∀ h', Heap.ExtBut I s.heap h' → Q none { s with heap := h' }) : wpAny (model prog w) A (pyNext (.ref I)) Q E s := by
  obtain ⟨o, ho, hc, hdat⟩ := id hit
  unfold pyNext
  refine wpAny_bind (wpAny_attempt (wpAny_callSpecial?_slot (name := Str.ofString "__next__") hit.typeIs slot_sit_next (wpAny_call_entry slot_sit_next hit.typeIs entry_sit_next ?_ (args_sit_next _))))
  refine wpAny_bind (wpAny_pure ?_)
  refine wpAny_bind (wpAny_fieldsOf ho hdat ?_)
  dsimp only
  refine wpAny_bind (wpAny_setEntries_of ha hd hf ?_)
  rw [if_neg (by rw [hn]; simp)]
  try dsimp only
  rw [Int.toNat_natCast, Int.toNat_natCast, Int.toNat_natCast]
  refine wpAny_bind (hnext _ _ _ ?_)
  dsimp only
  refine wpAny_bind (wpAny_setField ho hdat (by simp) ?_)
  refine wpAny_bind ?_
  simp only [newExc, newTuple]
  refine wpAny_bind (wpAny_newObj_type ?_ (by size_fits))
  refine wpAny_bind (m := firstArgMember _ _) (wpAny_of_eq (a := Value.none) (by first | rfl | (simp only [firstArgMember]; rfl)) ?_)
  refine wpAny_newObj_type ?_ (by size_fits)
  simp only [raiseNew]
  refine wpAny_bind (wpAny_handled ?_)
  rw [show A.in1.handled = none from hh]
  refine wpAny_bind (wpAny_pure (wpAny_throw ?_))
  refine wpAny_bind (wpAny_isInstance (T := "StopIteration") (b := true) ⟨_, Heap.get?_push_size _ rfl, rfl⟩ isSubtype_stop ?_)
  exact wpAny_pure (hQ _ (((Heap.SameBut.update ..).extBut.push _).push _))
theorem sit_itemD {I a T : Addr} {i n ep k : Nat} {x : Value} {hx : Int} {oa oT : Obj} {ps : Array Value} {m : Nat} {es : Array (Int × Value)} {t : SetTable} {Q : Option Value → Shared → Prop} (hit : IsSetIter s.heap I (.ref T) i a n ep) (ha : s.heap.get? a = some oa) (hd : oa.data = .set es ep t) (hf : t.fits es.size = true) (hn : es.size = n)
    (hT : s.heap.get? T = some oT) (hTd : oT.data = .seq ps m) (hp : ps[i]? = some (rawInt (k : Nat))) (hk : es[k]? = some (hx, x))
    (hQ : ∀ h', IsSetIter h' I (.ref T) (i + 1) a n ep → Heap.SameBut I s.heap h' → Q (some x) { s with heap := h' }) : wpAny (model prog w) A (pyNext (.ref I)) Q E s := by
  obtain ⟨o, ho, hc, hdat⟩ := id hit
  unfold pyNext
  refine wpAny_bind (wpAny_attempt (wpAny_callSpecial?_slot (name := Str.ofString "__next__") hit.typeIs slot_sit_next (wpAny_call_entry slot_sit_next hit.typeIs entry_sit_next ?_ (args_sit_next _))))
  refine wpAny_bind (wpAny_pure ?_)
  refine wpAny_bind (wpAny_fieldsOf ho hdat ?_)
  dsimp only
  refine wpAny_bind (wpAny_setEntries_of ha hd hf ?_)
  rw [if_neg (by rw [hn]; simp)]
  try dsimp only
  refine wpAny_bind (wpAny_seqItems hT hTd ?_)
  dsimp only
  rw [Int.toNat_natCast, Int.toNat_natCast, hp]
  unfold rawInt
  dsimp only
  rw [Int.toNat_natCast]
  unfold setNextDrawn
  refine wpAny_bind (wpAny_bind (wpAny_setState_of ha hd hf ?_))
  dsimp only
  rw [if_neg (by simp), hk]
  refine wpAny_pure ?_
  refine wpAny_bind (wpAny_setField ho hdat (by simp) ?_)
  have d1 := Obj.data_mapFields hdat (·.setIfInBounds 1 (rawInt ((i : Int) + 1)))
  have g1 := Heap.get?_update_self (Obj.mapFields (·.setIfInBounds 1 (rawInt ((i : Int) + 1)))) ho (Obj.isFreed_of_fields d1)
  refine wpAny_pure ⟨x, rfl, wpAny_pure (hQ _ ⟨_, g1, ?_, ?_⟩ (Heap.SameBut.update ..))⟩
  · rw [Obj.cls_mapFields]; exact hc
  · rw [d1]; simp [rawInt]
theorem sit_endD {I a T : Addr} {i n ep : Nat} {oa oT : Obj} {ps : Array Value} {m : Nat} {es : Array (Int × Value)} {t : SetTable} {Q : Option Value → Shared → Prop} (hh : A.handled = none) (hit : IsSetIter s.heap I (.ref T) i a n ep) (ha : s.heap.get? a = some oa) (hd : oa.data = .set es ep t) (hf : t.fits es.size = true) (hn : es.size = n)
    (hT : s.heap.get? T = some oT) (hTd : oT.data = .seq ps m) (hp : ps[i]? = none)
    (hQ : ∀ h', Heap.ExtBut I s.heap h' → Q none { s with heap := h' }) : wpAny (model prog w) A (pyNext (.ref I)) Q E s := by
  obtain ⟨o, ho, hc, hdat⟩ := id hit
  unfold pyNext
  refine wpAny_bind (wpAny_attempt (wpAny_callSpecial?_slot (name := Str.ofString "__next__") hit.typeIs slot_sit_next (wpAny_call_entry slot_sit_next hit.typeIs entry_sit_next ?_ (args_sit_next _))))
  refine wpAny_bind (wpAny_pure ?_)
  refine wpAny_bind (wpAny_fieldsOf ho hdat ?_)
  dsimp only
  refine wpAny_bind (wpAny_setEntries_of ha hd hf ?_)
  rw [if_neg (by rw [hn]; simp)]
  try dsimp only
  refine wpAny_bind (wpAny_seqItems hT hTd ?_)
  dsimp only
  rw [Int.toNat_natCast, hp]
  dsimp only
  refine wpAny_bind (wpAny_setField ho hdat (by simp) ?_)
  have d1 := Obj.data_mapFields hdat (·.setIfInBounds 0 (rawInt 0))
  have g1 := Heap.get?_update_self (Obj.mapFields (·.setIfInBounds 0 (rawInt 0))) ho (Obj.isFreed_of_fields d1)
  refine wpAny_bind (wpAny_setField g1 d1 (by simp) ?_)
  refine wpAny_bind ?_
  simp only [newExc, newTuple]
  refine wpAny_bind (wpAny_newObj_type ?_ (by size_fits))
  refine wpAny_bind (m := firstArgMember _ _) (wpAny_of_eq (a := Value.none) (by first | rfl | (simp only [firstArgMember]; rfl)) ?_)
  refine wpAny_newObj_type ?_ (by size_fits)
  simp only [raiseNew]
  refine wpAny_bind (wpAny_handled ?_)
  rw [show A.in1.handled = none from hh]
  refine wpAny_bind (wpAny_pure (wpAny_throw ?_))
  refine wpAny_bind (wpAny_isInstance (T := "StopIteration") (b := true) ⟨_, Heap.get?_push_size _ rfl, rfl⟩ isSubtype_stop ?_)
  exact wpAny_pure (hQ _ (((Heap.SameBut.trans (Heap.SameBut.update ..) (Heap.SameBut.update ..)).extBut.push _).push _))
theorem next_plain {a : Addr} {oa : Obj} {es : Array (Int × Value)} {ep slot i : Nat} {t : SetTable} (ha : s.heap.get? a = some oa) (hd : oa.data = .set es ep t) (hf : t.fits es.size = true) (hb : byText w = false) (hnd : (!t.plain && decide (es.size > 1)) = false) (hl : t.led = true)
    {Q' : Option (Value × Nat) → Shared → Prop} (h : Q' (match es[SetTable.below t.place slot]?, t.place[SetTable.below t.place slot]? with | some (_, x), some j => some (x, j + 1) | _, _ => none) s) : wpAny (model prog w) A (setNext a slot i ep) Q' E s := by
  unfold setNext
  refine wpAny_bind (wpAny_setState_of ha hd hf ?_)
  dsimp only
  refine wpAny_bind (wpAny_bind (wpAny_askSetting (wpAny_pure ?_)))
  rw [if_neg (by show ¬ (byText w = true); rw [hb]; simp)]
  rw [if_neg (by show ¬ ((!t.plain && decide (es.size > 1)) = true); rw [hnd]; simp)]
  refine wpAny_bind (m := (if (!t.led && !es.isEmpty) = true then unsupported "set:maker-not-led" else pure ())) ?_
  rw [hl]
  exact wpAny_pure (wpAny_pure h)
theorem next_text {a : Addr} {oa : Obj} {es : Array (Int × Value)} {ep slot i : Nat} {t : SetTable} (ha : s.heap.get? a = some oa) (hd : oa.data = .set es ep t) (hf : t.fits es.size = true) (hb : byText w = true)
    {Q' : Option (Value × Nat) → Shared → Prop} (h : Q' (((pickOrder (w.params.setOrder a ep) es)[i]?).map fun e => (e.2, slot)) s) : wpAny (model prog w) A (setNext a slot i ep) Q' E s := by
  unfold setNext
  refine wpAny_bind (wpAny_setState_of ha hd hf ?_)
  dsimp only
  refine wpAny_bind (wpAny_bind (wpAny_askSetting (wpAny_pure ?_)))
  show wpAny _ _ (if byText w = true then _ else _) _ _ _
  rw [if_pos hb, if_neg (by simp)]
  unfold setWalk
  refine wpAny_bind (wpAny_bind (wpAny_setState_of ha hd hf ?_))
  dsimp only
  refine wpAny_bind (wpAny_bind (wpAny_askSetting (wpAny_pure ?_)))
  show wpAny _ _ (if byText w = true then _ else _) _ _ _
  rw [if_pos hb]
  refine wpAny_bind (wpAny_askSetting (wpAny_pure ?_))
  exact wpAny_pure h
end
end Vp
end
section
set_option linter.all false
set_option Elab.async false
set_option maxRecDepth 100000
set_option maxHeartbeats 3200000
namespace Vp
open PySem PySem.Spec PyProof.Rows
theorem cons_erase {α : Type} : ∀ {l : List α} {i : Nat} (h : i < l.length), (l[i] :: l.eraseIdx i).Perm l
  | [], i, h => by simp at h
  | x :: r, 0, h => by simp
  | x :: r, i + 1, h => by
    have ih := cons_erase (l := r) (i := i) (by simpa using h)
    simp only [List.getElem_cons_succ, List.eraseIdx_cons_succ]
    exact (List.Perm.swap _ _ _).trans (ih.cons x)
theorem pick_go {α : Type} (next : Nat → Nat) : ∀ (f k : Nat) (left : List α) (out : Array α), left.length ≤ f → (pickOrder.go next f k left out).toList.Perm (out.toList ++ left)
  | 0, k, left, out, h => by
    have e : left = [] := List.length_eq_zero_iff.mp (by omega)
    subst e
    unfold pickOrder.go
    simp
  | f + 1, k, left, out, h => by
    unfold pickOrder.go
    cases q : left[next k % left.length]? with
    | none =>
      have e : left = [] := by
        cases left with
        | nil => rfl
        | cons x r =>
          have := List.getElem?_eq_none_iff.mp q
          have h2 := Nat.mod_lt (next k) (show 0 < (x :: r).length by simp)
          omega
      subst e
      simp
    | some x =>
      dsimp only
      obtain ⟨hi, ex⟩ := List.getElem?_eq_some_iff.mp q
      have hl : (left.eraseIdx (next k % left.length)).length ≤ f := by
        rw [List.length_eraseIdx_of_lt hi]; omega
      refine (pick_go next f (k + 1) _ _ hl).trans ?_
      rw [Array.toList_push, List.append_assoc]
      refine List.Perm.append_left _ ?_
      have hp : (x :: left.eraseIdx (next k % left.length)).Perm left := by
        rw [← ex]
        exact cons_erase hi
      exact hp
theorem pick_perm {α : Type} (next : Nat → Nat) (xs : Array α) : (pickOrder next xs).toList.Perm xs.toList := by
  have := pick_go next xs.size 0 xs.toList #[] (by simp)
  simpa [pickOrder] using this
section
variable {prog : Program} {w : World} {A : Around} {E : Value → Shared → Prop} {s : Shared}
theorem wp_choose {src : Source} {n : Nat} {Q : Nat → Shared → Prop} (hn : n ≠ 0) (h : ∀ i, i < n → Q i { s with drawn := s.drawn.bump src }) : wpAny (model prog w) A (choose src n) Q E s :=
  fun _ _ _ => ⟨hn, h _ (Nat.mod_lt _ (Nat.pos_of_ne_zero hn))⟩
theorem draw_perm {α : Type} : ∀ (n : Nat) (xs : List α) (s : Shared) {Q : List α → Shared → Prop}, xs.length = n → (∀ ys d, ys.Perm xs → Q ys { s with drawn := d }) → wpAny (model prog w) A (drawOrder n xs) Q E s
  | 0, xs, s, Q, hn, h => by
    have e : xs = [] := List.length_eq_zero_iff.mp hn
    subst e
    unfold drawOrder
    exact wpAny_pure (h [] s.drawn .nil)
  | n + 1, [], s, Q, hn, h => by cases hn
  | n + 1, x :: r, s, Q, hn, h => by
    unfold drawOrder
    refine wpAny_bind (wp_choose (by simp) fun i hi => ?_)
    rw [List.getElem?_eq_getElem hi]
    dsimp only
    refine wpAny_bind (draw_perm n _ _ (by rw [List.length_eraseIdx_of_lt hi]; simp at hn; simp [hn]) fun ys d hp => ?_)
    refine wpAny_pure (h _ d ?_)
    exact (hp.cons _).trans (cons_erase hi)
theorem ext_loop {R : Result → Shared → Prop} {St : Nat → Heap → Prop} {ord : List Value} {I S : Addr} {res : Value}
    (item : ∀ (i : Nat) (v : Value) (s : Shared) (Q : Option Value → Shared → Prop) (E : Value → Shared → Prop), ord[i]? = some v → St i s.heap → (∀ h', St (i + 1) h' → Heap.SameBut I s.heap h' → Q (some v) { s with heap := h' }) → wpAny (model prog w) A.in1 (pyNext (.ref I)) Q E s)
    (done : ∀ (s : Shared) (Q : Option Value → Shared → Prop) (E : Value → Shared → Prop), St ord.length s.heap → (∀ h', Heap.ExtBut I s.heap h' → Q none { s with heap := h' }) → wpAny (model prog w) A.in1 (pyNext (.ref I)) Q E s)
    (frame : ∀ i h h', St i h → Heap.SameBut S h h' → St i h') (hSI : S ≠ I) (hn : ord.length ≤ sizeLine) :
    ∀ (r i : Nat) (s : Shared) (acc : Array Value) (c : Nat), ord.length - i = r → i ≤ ord.length → St i s.heap → s.heap.get? S = some (seqObj "list" acc c) → acc.toList = ord.take i →
      (∀ h' c', (∀ b o, b ≠ S → b ≠ I → s.heap.get? b = some o → h'.get? b = some o) → h'.get? S = some (seqObj "list" ord.toArray c') → R (.ok (.ret res)) { s with heap := h' }) →
      codeAny (model prog w) A (.builtin "list.extend.loop" ⟨[.ref S, .ref I, res], []⟩) R s := by
  intro r
  induction r with
  | zero =>
    intro i s acc c hr hi st hS ha hR
    have e : i = ord.length := by omega
    subst e
    refine codeAny_builtin F.entry_extend_loop (by
      rw [Around.under_plainId F.plain_extend_loop _]
      show wpAny _ A.in1 (pyNext (.ref I) >>= _) _ _ s
      refine wpAny_bind (done s _ _ st fun h' hx => wpAny_pure (hR h' c (fun b o _ hb q => hx b o hb q) ?_))
      rw [List.take_length] at ha
      have ea : acc = ord.toArray := by rw [← ha]
      rw [← ea]
      exact hx S _ hSI hS)
  | succ r ih =>
    intro i s acc c hr hi st hS ha hR
    have hlt : i < ord.length := by omega
    refine codeAny_builtin F.entry_extend_loop (by
      rw [Around.under_plainId F.plain_extend_loop _]
      show wpAny _ A.in1 (pyNext (.ref I) >>= _) _ _ s
      refine wpAny_bind (item i _ s _ _ (List.getElem?_eq_getElem hlt) st fun h' st' sb => ?_)
      have hS' : h'.get? S = some (seqObj "list" acc c) := (sb.2 S hSI).trans hS
      have hz : acc.size = i := by rw [← Array.length_toList, ha, List.length_take]; omega
      show wpAny _ A.in1 (updateSeq S (·.push ord[i]) >>= _) _ _ _
      have sb2 := Heap.SameBut.update h' S (Obj.mapSeq (·.push ord[i]))
      refine wpAny_bind (wpAny_updateSeq hS' rfl (wpAny_pure ⟨plainId_quiet F.plain_extend_loop _, ih (i + 1) _ (acc.push ord[i]) _ (by omega) hlt (frame _ _ _ st' sb2) (Heap.get?_update_self _ hS' rfl) ?_ fun h2 c2 k2 g2 => ?_⟩)
        (by rw [hz]; omega) (by show (acc.push ord[i]).size ≤ sizeLine + 1; rw [Array.size_push, hz]; omega))
      · rw [Array.toList_push, ha, List.take_succ, List.getElem?_eq_getElem hlt]; rfl
      · exact hR h2 c2 (fun b o h1 h3 q => k2 b o h1 h3 ((sb2.2 b h1).trans ((sb.2 b h3).trans q))) g2)
theorem iter_set {a : Addr} {ns : List Int} {Q : Value → Shared → Prop} (hS : SetG prog w s.heap a ns)
    (h : ∀ (I : Addr) (St : Nat → Heap → Prop) (ord : List Value) (ns' : List Int) (h' : Heap) (d : Drawn), IntsAre ord ns' → ns'.Perm ns → St 0 h' → (∀ b o, s.heap.get? b = some o → h'.get? b = some o) → s.heap.objs.size ≤ I → I < h'.objs.size →
      (∀ i g g' S, S < s.heap.objs.size → S ≠ a → St i g → Heap.SameBut S g g' → St i g') →
      (∀ (A : Around) (i : Nat) (v : Value) (s : Shared) (Q : Option Value → Shared → Prop) (E : Value → Shared → Prop), A.handled = none → ord[i]? = some v → St i s.heap → (∀ h', St (i + 1) h' → Heap.SameBut I s.heap h' → Q (some v) { s with heap := h' }) → wpAny (model prog w) A (pyNext (.ref I)) Q E s) →
      (∀ (A : Around) (s : Shared) (Q : Option Value → Shared → Prop) (E : Value → Shared → Prop), A.handled = none → St ord.length s.heap → (∀ h', Heap.ExtBut I s.heap h' → Q none { s with heap := h' }) → wpAny (model prog w) A (pyNext (.ref I)) Q E s) →
      Q (.ref I) { s with heap := h', drawn := d }) : wpAny (model prog w) A (pyIter (.ref a)) Q E s := by
  obtain ⟨oa, es, ep, t, ha, hex, hd, hel, hp, hb, hf, ht⟩ := hS
  have hT : s.TypeIs (.ref a) "set" := ⟨oa, ha, hex.1⟩
  have hsz : es.size ≤ sizeLine := fits_of_scanBound hb
  have hfp : t.place.size = es.size := by
    simp only [SetTable.fits, Bool.and_eq_true, beq_iff_eq] at hf
    exact hf.1
  have intsP : ∀ {l : List (Int × Value)}, l.Perm es.toList → IntsAre (l.map (·.2)) (l.map fun e => valI e.2) := fun {l} pl => by
    have hl : ∀ e ∈ l, ∃ k, e.2 = .int (valI e.2) k := fun e he => elem_int hel (pl.mem_iff.mp he)
    clear pl
    induction l with
    | nil => exact .nil
    | cons e r ih =>
      obtain ⟨k, q⟩ := hl e (by simp)
      rw [List.map_cons, List.map_cons]
      generalize hv : valI e.2 = z at q ⊢
      rw [q]
      exact .cons z k (ih fun e he => hl e (by simp [he]))
  refine wpAny_pyIter_slot hT F.slot_set_iter (wpAny_call_entry F.slot_set_iter hT entry_set_iter ?_ (F.args_set_iter_1 _))
  unfold Builtin.«frozenset.__iter__» Builtin.Frozenset.slot0 slotArgs
  simp only [List.isEmpty_nil, Bool.not_true, Bool.false_eq_true, ↓reduceIte, bind_assoc, List.length_nil, bne_self_eq_false]
  unfold Builtin.Frozenset.addrOf Builtin.Frozenset.sizeOf
  refine wpAny_bind (wpAny_pure ?_)
  try dsimp only
  refine wpAny_bind (wpAny_pure ?_)
  refine wpAny_bind (wpAny_bind (wpAny_setEntries_of ha hd hf (wpAny_pure ?_)))
  unfold setDrawn
  refine wpAny_bind (wpAny_bind (wpAny_setState_of ha hd hf ?_))
  dsimp only
  refine wpAny_bind (wpAny_bind (wpAny_askSetting (wpAny_pure ?_)))
  show wpAny _ _ (pure (!byText w && (!t.plain && decide (es.size > 1)))) _ _ _
  refine wpAny_pure ?_
  by_cases hdr : (!byText w && (!t.plain && decide (es.size > 1))) = true
  ·
    rw [if_pos hdr]
    refine wpAny_bind (draw_perm es.size _ s (by simp) fun ys d hpm => ?_)
    have hyl : ys.length = es.size := by rw [hpm.length_eq, List.length_range]
    refine wpAny_bind (wpAny_newTuple ?_ (by rw [List.length_map, hyl]; exact hsz))
    have ha1 : (s.heap.push { cls := .type "tuple", data := .seq (ys.map fun i => rawInt ((i : Nat) : Int)).toArray }).get? a = some oa := Heap.get?_push_of_some _ ha
    refine wpAny_bind (wpAny_setEpoch_of ha1 hd hf ?_)
    refine wpAny_bind (wpAny_newObj_type (wpAny_pure ⟨_, rfl, "set_iterator", _, ⟨_, Heap.get?_push_size _ rfl, rfl⟩, slot_sit_next.lookup, ?_⟩))
    generalize hT' : s.heap.objs.size = T
    generalize hI' : (s.heap.push { cls := .type "tuple", data := .seq (ys.map fun i => rawInt ((i : Nat) : Int)).toArray }).objs.size = I
    have eI : I = T + 1 := by rw [← hI', Heap.size_push, hT']
    have gT : (s.heap.push { cls := .type "tuple", data := .seq (ys.map fun i => rawInt ((i : Nat) : Int)).toArray }).get? T = some { cls := .type "tuple", data := .seq (ys.map fun i => rawInt ((i : Nat) : Int)).toArray } := by rw [← hT']; exact Heap.get?_push_size _ rfl
    have haT : a < T := by rw [← hT']; exact Heap.lt_size ha
    have ylt : ∀ k ∈ ys, k < es.size := fun k hk => by have := hpm.mem_iff.mp hk; simpa using this
    have el : ys.map (fun k => es.getD k (0, .none)) = (ys.map fun k => es.getD k (0, .none)) := rfl
    have pl : (ys.map fun k => es.getD k (0, .none)).Perm es.toList := by
      refine (hpm.map _).trans ?_
      have : (List.range es.size).map (fun k => es.getD k (0, .none)) = es.toList := by
        apply List.ext_getElem
        · simp
        · intro i h1 h2
          simp at h1
          simp [h1]
      rw [this]
    refine h I (fun i g => IsSetIter g I (.ref T) i a es.size ep ∧ g.get? a = some oa ∧ g.get? T = some { cls := .type "tuple", data := .seq (ys.map fun i => rawInt ((i : Nat) : Int)).toArray })
      ((ys.map fun k => es.getD k (0, .none)).map (·.2)) _ _ d (intsP pl) ((pl.map _).trans hp) ⟨⟨_, by rw [← hI']; exact Heap.get?_push_size _ rfl, rfl, by simp [rawInt]⟩, Heap.get?_push_of_some _ ha1, Heap.get?_push_of_some _ gT⟩
      (fun b o e => Heap.get?_push_of_some _ (Heap.get?_push_of_some _ e)) (by omega) (by rw [Heap.size_push, hI']; exact Nat.lt_succ_self _) ?_ ?_ ?_
    · rintro i g g' S hS hSa ⟨⟨o1, e1, e2⟩, e3, e4⟩ sb
      exact ⟨⟨o1, (sb.2 I (Nat.ne_of_gt (by omega))).trans e1, e2⟩, (sb.2 a (Ne.symm hSa)).trans e3, (sb.2 T (Nat.ne_of_gt (by omega))).trans e4⟩
    · rintro A' i v s' Q' E' hh hv ⟨e1, e2, e3⟩ hq
      rw [List.map_map, List.getElem?_map] at hv
      cases hk : ys[i]? with
      | none => rw [hk] at hv; cases hv
      | some k =>
        rw [hk] at hv
        have hkl := ylt k (List.mem_of_getElem? hk)
        have hek : es[k]? = some ((es.getD k (0, .none)).1, v) := by
          have : v = (es.getD k (0, .none)).2 := (Option.some.inj hv).symm
          rw [this, Array.getElem?_eq_getElem hkl]
          simp [hkl]
        refine sit_itemD e1 e2 hd hf rfl e3 rfl (k := k) (by simp [hk]) hek fun h' f1 f2 => hq h' ⟨f1, (f2.2 a (Nat.ne_of_lt (Nat.lt_trans haT (by rw [eI]; exact Nat.lt_succ_self _)))).trans e2, (f2.2 T (Nat.ne_of_lt (by rw [eI]; exact Nat.lt_succ_self _))).trans e3⟩ f2
    · rintro A' s' Q' E' hh ⟨e1, e2, e3⟩ hq
      refine sit_endD hh e1 e2 hd hf rfl e3 rfl ?_ hq
      simp
  · rw [if_neg hdr]
    refine wpAny_bind (wpAny_pure (wpAny_bind (wpAny_setEpoch_of ha hd hf ?_)))
    refine wpAny_bind (wpAny_newObj_type (wpAny_pure ⟨_, rfl, "set_iterator", _, ⟨_, Heap.get?_push_size _ rfl, rfl⟩, slot_sit_next.lookup, ?_⟩))
    generalize hI' : s.heap.objs.size = I
    have haI : a < I := by rw [← hI']; exact Heap.lt_size ha
    cases hb' : byText w with
    | true =>
      have pl := pick_perm (w.params.setOrder a ep) es
      refine h I (fun i g => IsSetIter g I (.int ((0 : Nat) : Int) 0) i a es.size ep ∧ g.get? a = some oa) ((pickOrder (w.params.setOrder a ep) es).toList.map (·.2)) _ _ s.drawn (intsP pl) ((pl.map _).trans hp)
        ⟨⟨_, by rw [← hI']; exact Heap.get?_push_size _ rfl, rfl, by simp [rawInt]⟩, Heap.get?_push_of_some _ ha⟩ (fun b o e => Heap.get?_push_of_some _ e) (by omega) (by rw [Heap.size_push, hI']; exact Nat.lt_succ_self _) ?_ ?_ ?_
      · rintro i g g' S hS hSa ⟨⟨o1, e1, e2⟩, e3⟩ sb
        exact ⟨⟨o1, (sb.2 I (Nat.ne_of_gt (by omega))).trans e1, e2⟩, (sb.2 a (Ne.symm hSa)).trans e3⟩
      · rintro A' i v s' Q' E' hh hv ⟨e1, e2⟩ hq
        refine sit_item (nx := 0) (x := v) e1 e2 hd hf rfl (fun A E Q' z => next_text e2 hd hf hb' ?_) fun h' f1 f2 => hq h' ⟨f1, (f2.2 a (Nat.ne_of_lt haI)).trans e2⟩ f2
        rw [List.getElem?_map, Array.getElem?_toList] at hv
        cases hk : (pickOrder (w.params.setOrder a ep) es)[i]? with
        | none => rw [hk] at hv; cases hv
        | some e => rw [hk] at hv; cases hv; exact z
      · rintro A' s' Q' E' hh ⟨e1, e2⟩ hq
        refine sit_end hh e1 e2 hd hf rfl (fun A E Q' z => next_text e2 hd hf hb' ?_) hq
        rw [List.length_map, Array.length_toList, Array.getElem?_eq_none (Nat.le_refl _)]
        exact z
    | false =>
      have hnd : (!t.plain && decide (es.size > 1)) = false := by rw [hb'] at hdr; simpa using hdr
      have hl : t.led = true := ht.led hb'
      have rise : Rise t.place := by
        cases hpl : t.plain with
        | true => exact (ht.rise hpl).1
        | false =>
          have h1 : es.size ≤ 1 := by rw [hpl] at hnd; simp at hnd; omega
          intro i j x y e1 e2 hij
          have := lt_of e2
          omega
      have nxt : ∀ i, SetTable.below t.place (if i = 0 then 0 else t.place.getD (i - 1) 0 + 1) = min i es.size ∨ es.size < i := fun i => by
        rcases Nat.eq_zero_or_pos i with e | e
        · subst e; left; rw [if_pos rfl, below_zero rise]; simp
        · rcases Nat.lt_or_ge es.size i with q | q
          · exact .inr q
          · left
            obtain ⟨x, hx⟩ := some_of (xs := t.place) (i := i - 1) (by omega)
            rw [if_neg (by omega), getD_of hx, below_next rise hx]
            omega
      refine h I (fun i g => IsSetIter g I (.int (((if i = 0 then 0 else t.place.getD (i - 1) 0 + 1 : Nat)) : Int) 0) i a es.size ep ∧ g.get? a = some oa) (es.toList.map (·.2)) _ _ s.drawn (intsP (List.Perm.refl _)) hp
        ⟨⟨_, by rw [← hI']; exact Heap.get?_push_size _ rfl, rfl, by simp [rawInt]⟩, Heap.get?_push_of_some _ ha⟩ (fun b o e => Heap.get?_push_of_some _ e) (by omega) (by rw [Heap.size_push, hI']; exact Nat.lt_succ_self _) ?_ ?_ ?_
      · rintro i g g' S hS hSa ⟨⟨o1, e1, e2⟩, e3⟩ sb
        exact ⟨⟨o1, (sb.2 I (Nat.ne_of_gt (by omega))).trans e1, e2⟩, (sb.2 a (Ne.symm hSa)).trans e3⟩
      · rintro A' i v s' Q' E' hh hv ⟨e1, e2⟩ hq
        rw [List.getElem?_map, Array.getElem?_toList] at hv
        cases hk : es[i]? with
        | none => rw [hk] at hv; cases hv
        | some e =>
          rw [hk] at hv
          cases hv
          have hi : i < es.size := by
            rcases Nat.lt_or_ge i es.size with q | q
            · exact q
            · rw [Array.getElem?_eq_none q] at hk; cases hk
          obtain ⟨x, hx⟩ := some_of (xs := t.place) (i := i) (by omega)
          have hbl := (nxt i).resolve_right (by omega)
          rw [Nat.min_eq_left (Nat.le_of_lt hi)] at hbl
          refine sit_item (nx := x + 1) (x := e.2) e1 e2 hd hf rfl (fun A E Q' z => next_plain e2 hd hf hb' hnd hl ?_) fun h' f1 f2 => hq h' ⟨?_, (f2.2 a (Nat.ne_of_lt haI)).trans e2⟩ f2
          · rw [hbl, hk, hx]; exact z
          · rw [if_neg (by omega), Nat.add_sub_cancel, getD_of hx]; exact f1
      · rintro A' s' Q' E' hh ⟨e1, e2⟩ hq
        rw [List.length_map, Array.length_toList] at e1
        have hbl := (nxt es.size).resolve_right (by omega)
        rw [Nat.min_self] at hbl
        refine sit_end hh e1 e2 hd hf rfl (fun A E Q' z => next_plain e2 hd hf hb' hnd hl ?_) hq
        rw [hbl, Array.getElem?_eq_none (Nat.le_refl _)]
        exact z
end
end Vp
end
section
set_option linter.all false
set_option Elab.async false
set_option maxRecDepth 100000
set_option maxHeartbeats 3200000
namespace Vp
open PySem PySem.Spec PyProof.Rows
section
variable {prog : Program} {w : World} {A : Around} {E : Value → Shared → Prop} {s : Shared}
theorem collect_set {a : Addr} {ns : List Int} {Q : List Value → Shared → Prop} (hh : A.handled = none) (hS : SetG prog w s.heap a ns)
    (hQ : ∀ (vs : List Value) (ns' : List Int) (h' : Heap) (d : Drawn), IntsAre vs ns' → ns'.Perm ns → (∀ b o, s.heap.get? b = some o → h'.get? b = some o) → s.heap.objs.size ≤ h'.objs.size → Q vs { s with heap := h', drawn := d }) :
    wpAny (model prog w) A (collect (.ref a)) Q E s := by
  have haS : a < s.heap.objs.size := by obtain ⟨o, _, _, _, e, _⟩ := hS; exact Heap.lt_size e
  have hlen : ns.length ≤ sizeLine := by
    obtain ⟨o, es, _, _, _, _, _, _, p, hb, _⟩ := hS
    have := p.length_eq
    rw [List.length_map, Array.length_toList] at this
    have := fits_of_scanBound hb
    omega
  unfold collect
  refine wpAny_bind (wpAny_runValue (codeAny_builtin F.entry_proto_collect ?_))
  rw [Around.under_plainId F.plain_proto_collect _]
  show wpAny _ A.in1 (newList [] >>= fun l => again (.builtin "list.__iadd__" ⟨[l, .ref a], []⟩)) _ _ s
  refine wpAny_bind (wpAny_newObj_type (wpAny_pure ⟨plainId_quiet F.plain_list_iadd _, codeAny_builtin F.entry_list_iadd ?_⟩))
  rw [Around.under_plainId F.plain_list_iadd _]
  generalize hSz : s.heap.objs.size = S
  rw [hSz] at haS
  have gS : (s.heap.push (seqObj "list" #[] 0)).get? S = some (seqObj "list" #[] 0) := by rw [← hSz]; exact Heap.get?_push_size _ rfl
  have hS1 : SetG prog w (s.heap.push (seqObj "list" #[] 0)) a ns := hS.at fun o e => Heap.get?_push_of_some _ e
  have hT : Shared.TypeIs { s with heap := s.heap.push (seqObj "list" #[] 0) } (.ref a) "set" := by
    obtain ⟨o, _, _, _, e, x, _⟩ := hS1
    exact ⟨o, e, x.1⟩
  show wpAny _ A.in1 (Builtin.List.listExtendWith (.ref S) (.ref a) (.ref S)) _ _ { s with heap := s.heap.push (seqObj "list" #[] 0) }
  unfold Builtin.List.listExtendWith
  refine wpAny_bind (wpAny_typeOf hT ?_)
  have h1 : Builtin.List.listSameRef (.ref S) (.ref a) = false := by simp [Builtin.List.listSameRef]; exact Nat.ne_of_gt haS
  have h2 : (Value.type "set" == Value.type "list") = false := by decide
  have h3 : (Value.type "set" == Value.type "tuple") = false := by decide
  simp only [h1, h2, h3, Bool.or_false, Bool.false_eq_true, if_false]
  refine wpAny_bind (iter_set hS1 fun I St ord ns' h' d q1 q2 st kp hI hI2 frame item done => ?_)
  rw [Heap.size_push, hSz] at hI frame
  have hT2 : Shared.TypeIs { s with heap := h', drawn := d } (.ref a) "set" := by
    obtain ⟨o, e, c⟩ := hT
    exact ⟨o, kp _ _ e, c⟩
  refine wpAny_bind (wpAny_holding ?_)
  unfold Builtin.List.listLengthHint
  refine wpAny_bind (wpAny_specialOf hT2 F.slot_set_len.lookup ?_)
  have hsp : splitId "set.__len__" = some ("set", "__len__") := by decide +kernel
  dsimp only
  rw [hsp]
  dsimp only
  refine wpAny_bind (wpAny_isInstance hT2 sub_set_self ?_)
  rw [if_neg (by decide)]
  rw [if_pos (by kernel_rfl)]
  refine wpAny_bind (wpAny_typeOf hT2 (wpAny_pure ?_))
  rw [if_pos (by kernel_rfl)]
  refine wpAny_bind (wpAny_rule ?_)
  have g0 : h'.get? S = some (seqObj "list" #[] 0) := kp S _ gS
  refine wpAny_bind ?_
  show wpAny _ A.in1 (updateSeq S (·.push .none) >>= fun _ => updateSeq S (·.pop)) _ _ _
  refine wpAny_bind (wpAny_updateSeq g0 rfl ?_)
  have g1 := Heap.get?_update_self (Obj.mapSeq (·.push Value.none)) g0 rfl
  refine wpAny_updateSeq g1 rfl ?_
  have g2 := Heap.get?_update_self (Obj.mapSeq (·.pop)) g1 rfl
  have sb1 := Heap.SameBut.update h' S (Obj.mapSeq (·.push Value.none))
  have sb2 := Heap.SameBut.update (h'.update S (Obj.mapSeq (·.push Value.none))) S (Obj.mapSeq (·.pop))
  have hSI : S ≠ I := Nat.ne_of_lt hI
  have hSa : S ≠ a := Nat.ne_of_gt haS
  have hol : ord.length ≤ sizeLine := by rw [q1.length, q2.length_eq]; exact hlen
  refine wpAny_pure ⟨plainId_quiet F.plain_extend_loop _, ext_loop (A := A) (St := St) (ord := ord) (S := S) (I := I) (fun i v s Q E e1 e2 k => item A.in1 i v s Q E hh e1 e2 k) (fun s Q E e1 k => done A.in1 s Q E hh e1 k)
    (fun i g g' e sb => frame i g g' S (Nat.lt_succ_self _) hSa e sb) hSI hol _ 0 _ #[] _ rfl (Nat.zero_le _) (frame _ _ _ S (Nat.lt_succ_self _) hSa (frame _ _ _ S (Nat.lt_succ_self _) hSa st sb1) sb2) g2 (by simp) fun h3 c3 k3 g3 => ?_⟩
  show wpAny _ A (load S >>= _) _ _ _
  refine wpAny_bind (wpAny_load g3 ?_)
  have kpp : ∀ b o, s.heap.get? b = some o → h3.get? b = some o := fun b o e => by
    have hb : b < S := by rw [← hSz]; exact Heap.lt_size e
    exact k3 b o (Nat.ne_of_lt hb) (Nat.ne_of_lt (Nat.lt_trans hb hI)) ((sb2.2 b (Nat.ne_of_lt hb)).trans ((sb1.2 b (Nat.ne_of_lt hb)).trans (kp b o (Heap.get?_push_of_some _ e))))
  show wpAny _ A (pure ord.toArray.toList) _ _ _
  exact wpAny_pure (hQ ord ns' h3 d q1 q2 kpp (by rw [hSz]; exact Nat.le_of_lt (Heap.lt_size g3)))
theorem sorted_set {a : Addr} {ns : List Int} {Q : Value → Shared → Prop} (hh : A.handled = none) (hS : SetG prog w s.heap a ns)
    (h : ∀ (out : List Value) (ns' : List Int) (p n : Nat) (h' : Heap) (d : Drawn), IntsAre out ns' → ns'.Perm ns → ns'.Pairwise (· ≤ ·) → (∀ b o, s.heap.get? b = some o → h'.get? b = some o) → s.heap.objs.size ≤ p → h'.get? p = some (seqObj "list" out.toArray n) → Q (.ref p) { s with heap := h', drawn := d }) :
    wpAny (model prog w) A (call (.builtin "sorted") [.ref a]) Q E s := by
  have hlen : ns.length ≤ sizeLine := by
    obtain ⟨o, es, _, _, _, _, _, _, p, hb, _⟩ := hS
    have := p.length_eq
    rw [List.length_map, Array.length_toList] at this
    have := fits_of_scanBound hb
    omega
  refine Calls.call_function_entry kind_sorted plain_sorted entry_sorted (args_sorted1 _) ?_
  unfold Builtin.«sorted»
  refine wpAny_bind (m := checkCount "sorted" 1 1 _) (wpAny_pure ?_)
  refine wpAny_bind (collect_set (A := A.in1) hh hS fun vs ns' h' d q1 q2 kp hz => ?_)
  have hvl : vs.length ≤ sizeLine := by rw [q1.length, q2.length_eq]; exact hlen
  refine wpAny_bind (wpAny_newList ?_ hvl)
  generalize hp : h'.objs.size = p
  have gp : (h'.push (seqObj "list" vs.toArray 0)).get? p = some (seqObj "list" vs.toArray 0) := by rw [← hp]; exact Heap.get?_push_size _ rfl
  show wpAny _ _ _ _ _ { s with heap := h'.push (seqObj "list" vs.toArray 0), drawn := d }
  refine wpAny_bind (wpAny_holding (wpAny_call_entry slot_list_sort ⟨_, gp, rfl⟩ entry_list_sort (list_sort_treeAny gp q1 hvl fun out ns2 a1 a2 a3 => ⟨_, rfl, ?_⟩) (args_list_sort _)))
  obtain ⟨e, ge⟩ := sortedHeap_at (vs := vs) (out := out) gp
  refine wpAny_pure ⟨_, rfl, h out.toList ns2 p e _ d a1 (a2.trans q2) a3 (fun b o eb => ?_) (by rw [← hp]; exact hz) (by simpa using ge)⟩
  have hb := Heap.lt_size eb
  have hb2 : b < p := by rw [← hp]; exact Nat.lt_of_lt_of_le hb hz
  rw [sortedHeap_old (Nat.ne_of_lt hb2) (by rw [Heap.size_push, hp]; exact Nat.lt_succ_of_lt hb2)]
  exact Heap.get?_push_of_some _ (kp b o eb)
end
end Vp
end
section
set_option linter.all false
namespace Vp
open Km457 (Valley at_ line lineGo climb meet far)
structure Ok (s : Valley) : Prop where
  pos : 0 < s.length
  le : s.length ≤ 10
  up : ∀ v, v < s.length → v ≠ 0 → (at_ s v).up < v
  zero : at_ s 0 = ⟨0, 0, 0⟩
  long : ∀ v, (at_ s v).long ≤ 1000
theorem foldl_add (l : List Nat) : ∀ a, l.foldl (· + ·) a = a + l.foldl (· + ·) 0 := by
  induction l with
  | nil => intro a; simp
  | cons x l ih => intro a; rw [List.foldl_cons, List.foldl_cons, ih (a + x), ih (0 + x)]; omega
theorem sum_cons (x : Nat) (l : List Nat) : Km457.sum (x :: l) = x + Km457.sum l := by
  unfold Km457.sum
  rw [List.foldl_cons, foldl_add l (0 + x)]; omega
section
variable {s : Valley} (K : Ok s)
include K
theorem lineGo_fuel : ∀ (n v f g : Nat), v ≤ n → v < s.length → v ≤ f → v ≤ g → 0 < f → 0 < g → lineGo s f v = lineGo s g v := by
  intro n
  induction n with
  | zero =>
    intro v f g hn hv hf hg pf pg
    obtain ⟨f, rfl⟩ : ∃ k, f = k + 1 := ⟨f - 1, by omega⟩
    obtain ⟨g, rfl⟩ : ∃ k, g = k + 1 := ⟨g - 1, by omega⟩
    have : v = 0 := by omega
    subst this
    simp [lineGo]
  | succ n ih =>
    intro v f g hn hv hf hg pf pg
    obtain ⟨f, rfl⟩ : ∃ k, f = k + 1 := ⟨f - 1, by omega⟩
    obtain ⟨g, rfl⟩ : ∃ k, g = k + 1 := ⟨g - 1, by omega⟩
    by_cases h0 : v = 0
    · subst h0; simp [lineGo]
    · have hu := K.up v hv h0
      simp only [lineGo, h0, if_false]
      congr 1
      by_cases hz : (at_ s v).up = 0
      · rw [hz]
        cases f with
        | zero =>
          cases g with
          | zero => rfl
          | succ g => simp [lineGo]
        | succ f =>
          cases g with
          | zero => simp [lineGo]
          | succ g => simp [lineGo]
      · exact ih _ f g (by omega) (by omega) (by omega) (by omega) (by omega) (by omega)
theorem line_zero : line s 0 = [0] := by
  have := K.pos
  unfold line
  obtain ⟨f, hf⟩ : ∃ k, s.length = k + 1 := ⟨s.length - 1, by omega⟩
  rw [hf]; simp [lineGo]
theorem line_cons {v : Nat} (hv : v < s.length) (h0 : v ≠ 0) : line s v = v :: line s (at_ s v).up := by
  have hu := K.up v hv h0
  have hp := K.pos
  unfold line
  obtain ⟨f, hf⟩ : ∃ k, s.length = k + 1 := ⟨s.length - 1, by omega⟩
  rw [hf]
  simp only [lineGo, h0, if_false]
  congr 1
  show lineGo s f _ = lineGo s (f + 1) _
  by_cases hz : (at_ s v).up = 0
  · rw [hz]
    cases f with
    | zero => omega
    | succ f => simp [lineGo]
  · have := lineGo_fuel K (at_ s v).up (at_ s v).up f (f + 1) (Nat.le_refl _) (by omega) (by omega) (by omega) (by omega) (by omega)
    simpa [lineGo] using this
theorem line_le : ∀ (n v : Nat), v ≤ n → v < s.length → ∀ x ∈ line s v, x ≤ v := by
  intro n
  induction n with
  | zero =>
    intro v hn hv x hx
    have : v = 0 := by omega
    subst this
    rw [line_zero K] at hx
    simp at hx; omega
  | succ n ih =>
    intro v hn hv x hx
    by_cases h0 : v = 0
    · subst h0
      rw [line_zero K] at hx
      simp at hx; omega
    · rw [line_cons K hv h0] at hx
      have hu := K.up v hv h0
      rcases List.mem_cons.mp hx with rfl | hx
      · exact Nat.le_refl _
      · have := ih _ (by omega) (by omega) x hx
        omega
theorem mem_line_le {v x : Nat} (hv : v < s.length) (hx : x ∈ line s v) : x ≤ v := line_le K v v (Nat.le_refl _) hv x hx
theorem self_mem_line {v : Nat} (hv : v < s.length) : ∃ r, line s v = v :: r := by
  by_cases h0 : v = 0
  · subst h0; exact ⟨[], line_zero K⟩
  · exact ⟨_, line_cons K hv h0⟩
theorem meet_mem {v w : Nat} : meet s v w = 0 ∨ (meet s v w ∈ line s v ∧ meet s v w ∈ line s w) := by
  unfold meet
  cases e : (line s v).find? fun x => (line s w).contains x with
  | none => left; rfl
  | some x =>
    right
    have h1 := List.mem_of_find?_eq_some e
    have h2 := List.find?_some e
    simp at h2
    exact ⟨h1, h2⟩
theorem meet_le {v w : Nat} (hv : v < s.length) (hw : w < s.length) : meet s v w ≤ v ∧ meet s v w ≤ w := by
  rcases meet_mem K (v := v) (w := w) with h | ⟨h1, h2⟩
  · omega
  · exact ⟨mem_line_le K hv h1, mem_line_le K hw h2⟩
theorem climb_cons {v m : Nat} {l : List Nat} (h : v ≠ m) : climb s (v :: l) m = (at_ s v).long + climb s l m := by
  unfold climb
  rw [List.takeWhile_cons]
  simp only [bne_iff_ne, ne_eq, h, not_false_eq_true, if_true, List.map_cons]
  rw [sum_cons]
theorem climb_self {v : Nat} {l : List Nat} : climb s (v :: l) v = 0 := by
  unfold climb
  simp [List.takeWhile_cons, Km457.sum]
theorem far_self {v : Nat} (hv : v < s.length) : far s v v = 0 := by
  obtain ⟨r, e⟩ := self_mem_line K hv
  have hm : meet s v v = v := by
    unfold meet
    rw [e]
    simp [List.find?_cons]
  unfold far
  rw [hm, e, climb_self K]
theorem far_left {v w : Nat} (hv : v < s.length) (h : w < v) : far s v w = (at_ s v).long + far s (at_ s v).up w := by
  have h0 : v ≠ 0 := by omega
  have hw : w < s.length := by omega
  have hu := K.up v hv h0
  have hn : (line s w).contains v = false := by
    rw [List.contains_eq_mem]
    simp only [decide_eq_false_iff_not]
    intro hx
    have := mem_line_le K hw hx
    omega
  have hm : meet s v w = meet s (at_ s v).up w := by
    unfold meet
    rw [line_cons K hv h0, List.find?_cons, hn]
  have hml := meet_le K (v := (at_ s v).up) (w := w) (by omega) hw
  unfold far
  rw [hm]
  rw [line_cons K hv h0, climb_cons K (by omega)]
  omega
theorem find_congr {p q : Nat → Bool} : ∀ {l : List Nat}, (∀ x ∈ l, p x = q x) → l.find? p = l.find? q
  | [], _ => rfl
  | x :: l, h => by
    rw [List.find?_cons, List.find?_cons, h x (by simp)]
    cases q x with
    | true => rfl
    | false => exact find_congr fun y hy => h y (by simp [hy])
theorem far_right {v w : Nat} (hw : w < s.length) (h : v < w) : far s v w = (at_ s w).long + far s v (at_ s w).up := by
  have h0 : w ≠ 0 := by omega
  have hv : v < s.length := by omega
  have hu := K.up w hw h0
  have hm : meet s v w = meet s v (at_ s w).up := by
    unfold meet
    congr 1
    refine find_congr K fun x hx => ?_
    have := mem_line_le K hv hx
    rw [line_cons K hw h0]
    simp only [List.contains_cons]
    have : (x == w) = false := by simp; omega
    rw [this]; simp
  have hml := meet_le K (v := v) (w := (at_ s w).up) hv (by omega)
  unfold far
  rw [hm]
  rw [line_cons K hw h0, climb_cons K (by omega)]
  omega
theorem far_comm_aux : ∀ (n v w : Nat), v + w ≤ n → v < s.length → w < s.length → far s v w = far s w v := by
  intro n
  induction n with
  | zero =>
    intro v w hn hv hw
    have e : v = w := by omega
    subst e; rfl
  | succ n ih =>
    intro v w hn hv hw
    rcases Nat.lt_trichotomy v w with h | h | h
    · have hu := K.up w hw (by omega)
      rw [far_right K hw h, far_left K hw h, ih v _ (by omega) hv (by omega)]
    · subst h; rfl
    · have hu := K.up v hv (by omega)
      rw [far_left K hv h, far_right K hv h, ih _ w (by omega) (by omega) hw]
theorem far_comm {v w : Nat} (hv : v < s.length) (hw : w < s.length) : far s v w = far s w v := far_comm_aux K (v + w) v w (Nat.le_refl _) hv hw
end
theorem table_length (s : Valley) : (Km458.table s).length = s.length := by simp [Km458.table, Km457.all]
theorem table_row {s : Valley} {v : Nat} (hv : v < s.length) : (Km458.table s)[v]? = some ((List.range s.length).map fun w => far s v w) := by
  simp [Km458.table, Km457.all, hv]
theorem dist_eq {s : Valley} {v w : Nat} (hv : v < s.length) (hw : w < s.length) : Km458.dist (Km458.table s) v w = far s v w := by
  unfold Km458.dist
  simp [List.getD_eq_getElem?_getD, table_row hv, hw]
end Vp
end
section
set_option linter.all false
namespace Vp
open Km457 (Valley at_ far)
open Km458 (sets fewer more table dist served serves share apart bits)
def msk : List Nat → Nat
  | [] => 0
  | k :: l => 2 ^ k ||| msk l
theorem testBit_msk (l : List Nat) (i : Nat) : (msk l).testBit i = decide (i ∈ l) := by
  induction l with
  | nil => simp [msk]
  | cons k l ih =>
    unfold msk
    rw [Nat.testBit_or, ih, Nat.testBit_two_pow]
    by_cases h : k = i
    · subst h; simp
    · have h' : ¬ i = k := fun e => h e.symm
      simp [h, h']
theorem or_add_and (m : Nat) : ∀ n : Nat, (m ||| n) + (m &&& n) = m + n := by
  induction m using Nat.strongRecOn with
  | _ m ih =>
    intro n
    by_cases h0 : m = 0
    · subst h0; simp
    · have h := ih (m / 2) (by omega) (n / 2)
      rw [← Nat.or_div_two, ← Nat.and_div_two] at h
      have o1 := @Nat.or_mod_two_eq_one m n
      have a1 := @Nat.and_mod_two_eq_one m n
      omega
theorem add_pow_or {w k : Nat} (h : w.testBit k = false) : w + 2 ^ k = w ||| 2 ^ k := by
  have e : w &&& 2 ^ k = 0 := by
    apply Nat.eq_of_testBit_eq
    intro i
    rw [Nat.testBit_and, Nat.testBit_two_pow, Nat.zero_testBit]
    by_cases hi : k = i
    · subst hi; simp [h]
    · simp [hi]
  have x := or_add_and w (2 ^ k)
  omega
theorem bits_go : ∀ (l : List Nat) (w : Nat), l.Nodup → (∀ k ∈ l, w.testBit k = false) → l.foldl (fun w k => w + 2 ^ k) w = w ||| msk l
  | [], w, _, _ => by simp [msk]
  | k :: l, w, hn, hw => by
    rw [List.foldl_cons, add_pow_or (hw k (by simp))]
    have hn' := List.nodup_cons.mp hn
    rw [bits_go l _ hn'.2 fun j hj => ?_]
    · rw [Nat.or_assoc]; rfl
    · rw [Nat.testBit_or, hw j (by simp [hj]), Nat.testBit_two_pow]
      have : k ≠ j := fun e => hn'.1 (by rw [e]; exact hj)
      simp [this]
theorem bits_msk {l : List Nat} (h : l.Nodup) : bits l = msk l := by
  unfold bits
  rw [bits_go l 0 h (fun k _ => Nat.zero_testBit k), Nat.zero_or]
theorem msk_append (a b : List Nat) : msk (a ++ b) = msk a ||| msk b := by
  induction a with
  | nil => simp [msk]
  | cons k a ih => simp only [List.cons_append, msk, ih, Nat.or_assoc]
theorem msk_lt {l : List Nat} {n : Nat} (h : ∀ k ∈ l, k < n) : msk l < 2 ^ n := by
  apply Nat.lt_pow_two_of_testBit
  intro i hi
  rw [testBit_msk]
  simp only [decide_eq_false_iff_not]
  intro hm
  have := h i hm
  omega
theorem msk_ext {a b : List Nat} (h : ∀ i, i ∈ a ↔ i ∈ b) : msk a = msk b := by
  apply Nat.eq_of_testBit_eq
  intro i
  rw [testBit_msk, testBit_msk]
  simp [h i]
end Vp
end
section
set_option linter.all false
namespace Vp
open Km457 (Valley at_ far)
open Km458 (sets fewer more table dist served serves share apart bits)
def ballOf (t : List (List Nat)) (r v : Nat) : Nat := msk ((List.range t.length).filter fun w => decide (dist t v w ≤ r))
def ballsOf (t : List (List Nat)) (r : Nat) : List Nat := (List.range t.length).map (ballOf t r)
def cov (B : List Nat) : List Nat → Nat
  | [] => 0
  | v :: l => B.getD v 0 ||| cov B l
def psv (B : List Nat) (P : Nat) : Nat := (List.range B.length).foldl (fun a v => if P.testBit v = true then a ||| B.getD v 0 else a) 0
theorem ballsOf_length (t : List (List Nat)) (r : Nat) : (ballsOf t r).length = t.length := by simp [ballsOf]
theorem ballsOf_get {t : List (List Nat)} {r v : Nat} (hv : v < t.length) : (ballsOf t r).getD v 0 = ballOf t r v := by
  simp [ballsOf, List.getD_eq_getElem?_getD, hv]
theorem testBit_ball (t : List (List Nat)) (r v i : Nat) : (ballOf t r v).testBit i = (decide (i < t.length) && decide (dist t v i ≤ r)) := by
  unfold ballOf
  rw [testBit_msk]
  simp [List.mem_filter]
theorem ball_lt (t : List (List Nat)) (r v : Nat) : ballOf t r v < 2 ^ t.length := msk_lt fun k hk => by
  have := (List.mem_filter.mp hk).1
  simpa using this
theorem testBit_cov (B : List Nat) (l : List Nat) (i : Nat) : (cov B l).testBit i = l.any fun v => (B.getD v 0).testBit i := by
  induction l with
  | nil => simp [cov]
  | cons v l ih => rw [cov, Nat.testBit_or, ih, List.any_cons]
theorem cov_append (B a b : List Nat) : cov B (a ++ b) = cov B a ||| cov B b := by
  induction a with
  | nil => simp [cov]
  | cons v a ih => simp only [List.cons_append, cov, ih, Nat.or_assoc]
theorem cov_ext {B a b : List Nat} (h : ∀ i, i ∈ a ↔ i ∈ b) : cov B a = cov B b := by
  apply Nat.eq_of_testBit_eq
  intro i
  rw [testBit_cov, testBit_cov, Bool.eq_iff_iff, List.any_eq_true, List.any_eq_true]
  constructor
  · rintro ⟨x, hx, q⟩; exact ⟨x, (h x).mp hx, q⟩
  · rintro ⟨x, hx, q⟩; exact ⟨x, (h x).mpr hx, q⟩
theorem psv_go (B : List Nat) (P : Nat) : ∀ (l : List Nat) (a : Nat), l.foldl (fun a v => if P.testBit v = true then a ||| B.getD v 0 else a) a = a ||| cov B (l.filter fun v => P.testBit v)
  | [], a => by simp [cov]
  | v :: l, a => by
    rw [List.foldl_cons, psv_go B P l]
    by_cases h : P.testBit v = true
    · rw [if_pos h, List.filter_cons, if_pos h, cov, Nat.or_assoc]
    · rw [if_neg h, List.filter_cons, if_neg h]
theorem psv_cov (B : List Nat) (P : Nat) : psv B P = cov B ((List.range B.length).filter fun v => P.testBit v) := by
  unfold psv
  rw [psv_go, Nat.zero_or]
theorem psv_msk {B ps : List Nat} (h : ∀ p ∈ ps, p < B.length) : psv B (msk ps) = cov B ps := by
  rw [psv_cov]
  apply cov_ext
  intro i
  simp only [List.mem_filter, List.mem_range, testBit_msk, decide_eq_true_eq]
  exact ⟨fun z => z.2, fun z => ⟨h i z, z⟩⟩
theorem cov_lt {B l : List Nat} {n : Nat} (h : ∀ v, B.getD v 0 < 2 ^ n) : cov B l < 2 ^ n := by
  apply Nat.lt_pow_two_of_testBit
  intro i hi
  rw [testBit_cov, List.any_eq_false]
  intro v hv
  rw [Nat.testBit_lt_two_pow (Nat.lt_of_lt_of_le (h v) (Nat.pow_le_pow_right (by decide) hi))]
  simp
theorem balls_lt (t : List (List Nat)) (r v : Nat) : (ballsOf t r).getD v 0 < 2 ^ t.length := by
  by_cases hv : v < t.length
  · rw [ballsOf_get hv]; exact ball_lt t r v
  · rw [List.getD_eq_getElem?_getD, List.getElem?_eq_none (by rw [ballsOf_length]; omega)]
    exact Nat.two_pow_pos _
theorem whole_iff {X n : Nat} (h : X < 2 ^ n) : X = 2 ^ n - 1 ↔ ∀ i, i < n → X.testBit i = true := by
  constructor
  · intro e i hi
    rw [e, Nat.testBit_two_pow_sub_one]
    simp [hi]
  · intro q
    apply Nat.eq_of_testBit_eq
    intro i
    rw [Nat.testBit_two_pow_sub_one]
    by_cases hi : i < n
    · rw [q i hi]; simp [hi]
    · rw [Nat.testBit_lt_two_pow (Nat.lt_of_lt_of_le h (Nat.pow_le_pow_right (by decide) (by omega)))]
      simp [hi]
theorem served_test {t : List (List Nat)} {r : Nat} {ps : List Nat} (h : ∀ p ∈ ps, p < t.length) {i : Nat} (hi : i < t.length) : (cov (ballsOf t r) ps).testBit i = served t r ps i := by
  rw [testBit_cov]
  unfold served
  rw [Bool.eq_iff_iff, List.any_eq_true, List.any_eq_true]
  constructor
  · rintro ⟨p, hp, q⟩
    rw [ballsOf_get (h p hp), testBit_ball] at q
    simp at q
    exact ⟨p, hp, by simp [q.2]⟩
  · rintro ⟨p, hp, q⟩
    refine ⟨p, hp, ?_⟩
    rw [ballsOf_get (h p hp), testBit_ball]
    simp at q
    simp [hi, q]
theorem serves_iff {t : List (List Nat)} {r : Nat} {ps : List Nat} (h : ∀ p ∈ ps, p < t.length) : serves t r ps (List.range t.length) = true ↔ cov (ballsOf t r) ps = 2 ^ t.length - 1 := by
  rw [whole_iff (cov_lt (balls_lt t r))]
  unfold serves
  rw [List.all_eq_true]
  constructor
  · intro q i hi
    rw [served_test h hi]
    exact q i (by simpa using hi)
  · intro q i hi
    have hi : i < t.length := by simpa using hi
    rw [← served_test h hi]
    exact q i hi
theorem sets_head (l : List Nat) : ∃ r, sets l = [] :: r := by
  induction l with
  | nil => exact ⟨[], rfl⟩
  | cons p l ih =>
    obtain ⟨r, e⟩ := ih
    exact ⟨r ++ (sets l).map (fun q => p :: q), by rw [sets, e]; rfl⟩
theorem sets_sub : ∀ {l q : List Nat}, q ∈ sets l → List.Sublist q l
  | [], q, h => by simp [sets] at h; subst h; exact List.Sublist.refl _
  | p :: l, q, h => by
    rw [sets, List.mem_append] at h
    rcases h with h | h
    · exact (sets_sub h).cons p
    · obtain ⟨q', hq, rfl⟩ := List.mem_map.mp h
      exact (sets_sub hq).cons₂ p
theorem self_sets : ∀ l : List Nat, l ∈ sets l
  | [] => by simp [sets]
  | p :: l => by
    rw [sets, List.mem_append]
    exact .inr (List.mem_map.mpr ⟨l, self_sets l, rfl⟩)
def minBy {α : Type} (k : α → Nat) : α → List α → α := fun x xs => xs.foldl (fun a b => if k b < k a then b else a) x
def maxBy {α : Type} (k : α → Nat) : α → List α → α := fun x xs => xs.foldl (fun a b => if k a < k b then b else a) x
theorem minBy_map {α β : Type} {k : α → Nat} {k' : β → Nat} {f : α → β} (h : ∀ a, k' (f a) = k a) : ∀ (xs : List α) (x : α), minBy k' (f x) (xs.map f) = f (minBy k x xs)
  | [], x => rfl
  | y :: xs, x => by
    unfold minBy
    rw [List.map_cons, List.foldl_cons, List.foldl_cons, h, h]
    split
    · exact minBy_map h xs y
    · exact minBy_map h xs x
theorem maxBy_map {α β : Type} {k : α → Nat} {k' : β → Nat} {f : α → β} (h : ∀ a, k' (f a) = k a) : ∀ (xs : List α) (x : α), maxBy k' (f x) (xs.map f) = f (maxBy k x xs)
  | [], x => rfl
  | y :: xs, x => by
    unfold maxBy
    rw [List.map_cons, List.foldl_cons, List.foldl_cons, h, h]
    split
    · exact maxBy_map h xs y
    · exact maxBy_map h xs x
theorem fewer_min : ∀ (xs : List (List Nat)) (x : List Nat), xs.foldl fewer x = minBy List.length x xs := fun xs x => rfl
theorem more_max : ∀ (xs : List (List Nat)) (x : List Nat), xs.foldl more x = maxBy List.length x xs := fun xs x => rfl
structure Way where
  count : Nat
  set : Nat
  seen : Nat
def enc (B : List Nat) (base : Nat) (l : List Nat) : Way := ⟨l.length, msk l, base ||| cov B l⟩
theorem enc_cons (B : List Nat) (base v : Nat) (l : List Nat) : enc B base (v :: l) = ⟨(enc B base l).count + 1, (enc B base l).set ||| 2 ^ v, (enc B base l).seen ||| B.getD v 0⟩ := by
  unfold enc
  simp only [List.length_cons, msk, cov]
  congr 1
  · exact Nat.or_comm _ _
  · rw [Nat.or_assoc, Nat.or_comm (cov B l)]
def fromEnd (n : Nat) (P : Nat) (i : Nat) : List Nat := ((List.range n).drop (n - i)).filter fun v => !P.testBit v
theorem fromEnd_zero (n P : Nat) : fromEnd n P 0 = [] := by
  unfold fromEnd
  rw [Nat.sub_zero, List.drop_eq_nil_of_le (by simp)]
  rfl
theorem fromEnd_step {n P i : Nat} (h : i < n) : fromEnd n P (i + 1) = if P.testBit (n - 1 - i) = true then fromEnd n P i else (n - 1 - i) :: fromEnd n P i := by
  unfold fromEnd
  have e : n - (i + 1) = n - 1 - i := by omega
  have e2 : n - i = n - 1 - i + 1 := by omega
  rw [e, e2, List.drop_eq_getElem_cons (show n - 1 - i < (List.range n).length by simp; omega), List.getElem_range, List.filter_cons]
  by_cases hp : P.testBit (n - 1 - i) = true
  · simp [hp]
  · simp [hp]
theorem fromEnd_all (n P : Nat) : fromEnd n P n = (List.range n).filter fun v => !P.testBit v := by
  unfold fromEnd
  rw [Nat.sub_self, List.drop_zero]
def waysAt (B : List Nat) (base n P i : Nat) : List Way := (sets (fromEnd n P i)).map (enc B base)
theorem waysAt_zero (B : List Nat) (base n P : Nat) : waysAt B base n P 0 = [⟨0, 0, base⟩] := by
  unfold waysAt
  rw [fromEnd_zero]
  simp [sets, enc, msk, cov]
theorem waysAt_keep {B : List Nat} {base n P i : Nat} (h : i < n) (hp : P.testBit (n - 1 - i) = true) : waysAt B base n P (i + 1) = waysAt B base n P i := by
  unfold waysAt
  rw [fromEnd_step h, if_pos hp]
theorem waysAt_step {B : List Nat} {base n P i : Nat} (h : i < n) (hp : P.testBit (n - 1 - i) = false) :
    waysAt B base n P (i + 1) = waysAt B base n P i ++ (waysAt B base n P i).map fun w => ⟨w.count + 1, w.set ||| 2 ^ (n - 1 - i), w.seen ||| B.getD (n - 1 - i) 0⟩ := by
  unfold waysAt
  rw [fromEnd_step h, if_neg (by rw [hp]; decide), sets, List.map_append, List.map_map, List.map_map]
  congr 1
  apply List.map_congr_left
  intro l _
  exact enc_cons B base _ l
theorem sets_length (l : List Nat) : (sets l).length = 2 ^ l.length := by
  induction l with
  | nil => rfl
  | cons p l ih => rw [sets, List.length_append, List.length_map, ih, List.length_cons, Nat.pow_succ]; omega
theorem waysAt_length (B : List Nat) (base n P i : Nat) (h : n ≤ 10) : (waysAt B base n P i).length ≤ 1024 := by
  unfold waysAt
  rw [List.length_map, sets_length]
  have h1 : (fromEnd n P i).length ≤ n := by
    unfold fromEnd
    refine Nat.le_trans (List.length_filter_le _ _) ?_
    rw [List.length_drop, List.length_range]
    exact Nat.sub_le _ _
  exact Nat.le_trans (Nat.pow_le_pow_right (by decide) (Nat.le_trans h1 h)) (by decide)
theorem pick_fewest {t : List (List Nat)} {r : Nat} {ps : List Nat} (hp : ∀ p ∈ ps, p < t.length) (hd : ∀ v, v < t.length → dist t v v ≤ r) :
    ∃ x xs, (waysAt (ballsOf t r) (psv (ballsOf t r) (msk ps)) t.length (msk ps) t.length).filter (fun w => w.seen == 2 ^ t.length - 1) = x :: xs ∧
      minBy Way.count x xs = enc (ballsOf t r) (psv (ballsOf t r) (msk ps)) (Km458.add t r ps) := by
  have eL : (List.range t.length).filter (fun v => !(msk ps).testBit v) = (List.range t.length).filter fun p => !ps.contains p := by
    apply List.filter_congr
    intro x _
    rw [testBit_msk, List.contains_eq_mem]
  have ef : (waysAt (ballsOf t r) (psv (ballsOf t r) (msk ps)) t.length (msk ps) t.length).filter (fun w => w.seen == 2 ^ t.length - 1) =
      ((sets ((List.range t.length).filter fun p => !ps.contains p)).filter fun l => serves t r (ps ++ l) (List.range t.length)).map (enc (ballsOf t r) (psv (ballsOf t r) (msk ps))) := by
    unfold waysAt
    rw [fromEnd_all, eL, List.filter_map]
    congr 1
    apply List.filter_congr
    intro l hl
    have hl' := sets_sub hl
    have hb : ∀ p ∈ ps ++ l, p < t.length := fun p hpp => by
      rcases List.mem_append.mp hpp with z | z
      · exact hp p z
      · have := (List.mem_filter.mp (hl'.subset z)).1
        simpa using this
    rw [Bool.eq_iff_iff, serves_iff hb, cov_append]
    simp only [Function.comp, enc, beq_iff_eq]
    rw [psv_msk (fun p z => by rw [ballsOf_length]; exact hp p z)]
  generalize hF : (List.range t.length).filter (fun p => !ps.contains p) = F at ef
  have hne : F ∈ (sets F).filter fun l => serves t r (ps ++ l) (List.range t.length) := by
    refine List.mem_filter.mpr ⟨self_sets F, ?_⟩
    unfold serves
    rw [List.all_eq_true]
    intro i hi
    unfold served
    rw [List.any_eq_true]
    have hi : i < t.length := by simpa using hi
    refine ⟨i, ?_, by simp [hd i hi]⟩
    by_cases hc : i ∈ ps
    · exact List.mem_append_left _ hc
    · refine List.mem_append_right _ ?_
      rw [← hF]
      simp [List.mem_filter, hi, hc]
  have hsub : ∀ l ∈ (sets F).filter (fun l => serves t r (ps ++ l) (List.range t.length)), List.Sublist l F := fun l hl => sets_sub (List.mem_filter.mp hl).1
  generalize hG : (sets F).filter (fun l => serves t r (ps ++ l) (List.range t.length)) = G at ef hne hsub
  cases G with
  | nil => cases hne
  | cons x xs =>
    refine ⟨enc _ _ x, xs.map (enc _ _), by rw [ef]; rfl, ?_⟩
    rw [minBy_map (k := List.length) (k' := Way.count) (f := enc (ballsOf t r) (psv (ballsOf t r) (msk ps))) (fun _ => rfl)]
    congr 1
    unfold Km458.add
    rw [hF, hG, List.foldl_cons]
    have sx := hsub x (by simp)
    have : fewer F x = x := by
      unfold fewer
      split
      · rfl
      · rename_i hlt
        exact (sx.eq_of_length_le (by omega)).symm
    rw [this, fewer_min]
theorem add_nil_ps (t : List (List Nat)) (r : Nat) : Km458.add t r [] = Km458.fewest t r := by
  unfold Km458.add Km458.fewest
  have e : (List.range t.length).filter (fun p => !([] : List Nat).contains p) = List.range t.length := by
    rw [List.filter_eq_self]; intro a _; simp
  rw [e]
  simp
theorem foldl_fewer_mem : ∀ (xs : List (List Nat)) (x : List Nat), xs.foldl fewer x = x ∨ xs.foldl fewer x ∈ xs
  | [], x => .inl rfl
  | y :: xs, x => by
    rw [List.foldl_cons]
    rcases foldl_fewer_mem xs (fewer x y) with h | h
    · rw [h]
      unfold fewer
      split
      · exact .inr (by simp)
      · exact .inl rfl
    · exact .inr (by simp [h])
theorem foldl_more_mem : ∀ (xs : List (List Nat)) (x : List Nat), xs.foldl more x = x ∨ xs.foldl more x ∈ xs
  | [], x => .inl rfl
  | y :: xs, x => by
    rw [List.foldl_cons]
    rcases foldl_more_mem xs (more x y) with h | h
    · rw [h]
      unfold more
      split
      · exact .inr (by simp)
      · exact .inl rfl
    · exact .inr (by simp [h])
theorem add_sub (t : List (List Nat)) (r : Nat) (ps : List Nat) : List.Sublist (Km458.add t r ps) ((List.range t.length).filter fun p => !ps.contains p) := by
  unfold Km458.add
  rcases foldl_fewer_mem ((sets ((List.range t.length).filter fun p => !ps.contains p)).filter fun l => serves t r (ps ++ l) (List.range t.length)) ((List.range t.length).filter fun p => !ps.contains p) with h | h
  · rw [h]; exact List.Sublist.refl _
  · exact sets_sub (List.mem_filter.mp h).1
theorem add_nodup (t : List (List Nat)) (r : Nat) (ps : List Nat) : (Km458.add t r ps).Nodup := ((List.nodup_range).filter _).sublist (add_sub t r ps)
theorem add_mem {t : List (List Nat)} {r : Nat} {ps : List Nat} {x : Nat} (h : x ∈ Km458.add t r ps) : x < t.length ∧ x ∉ ps := by
  have := (add_sub t r ps).subset h
  simp [List.mem_filter] at this
  exact this
theorem foldl_fewer_ser {q : List Nat → Bool} : ∀ (xs : List (List Nat)) (x : List Nat), q x = true → (∀ y ∈ xs, q y = true) → q (xs.foldl fewer x) = true
  | [], x, h, _ => h
  | y :: xs, x, h, hs => by
    rw [List.foldl_cons]
    refine foldl_fewer_ser xs _ ?_ fun z hz => hs z (by simp [hz])
    unfold fewer
    split
    · exact hs y (by simp)
    · exact h
theorem add_empty_iff {t : List (List Nat)} {r : Nat} {ps : List Nat} (hd : ∀ v, v < t.length → dist t v v ≤ r) : Km458.add t r ps = [] ↔ serves t r ps (List.range t.length) = true := by
  constructor
  · intro e
    have h : serves t r (ps ++ Km458.add t r ps) (List.range t.length) = true := by
      unfold Km458.add
      refine foldl_fewer_ser (q := fun l => serves t r (ps ++ l) (List.range t.length)) _ _ ?_ fun y hy => (List.mem_filter.mp hy).2
      unfold serves
      rw [List.all_eq_true]
      intro i hi
      unfold served
      rw [List.any_eq_true]
      have hi : i < t.length := by simpa using hi
      refine ⟨i, ?_, by simp [hd i hi]⟩
      by_cases hc : i ∈ ps
      · exact List.mem_append_left _ hc
      · refine List.mem_append_right _ ?_
        simp [List.mem_filter, hi, hc]
    rw [e, List.append_nil] at h
    exact h
  · intro hs
    unfold Km458.add
    obtain ⟨rs, e⟩ := sets_head ((List.range t.length).filter fun p => !ps.contains p)
    rw [e, List.filter_cons]
    simp only [List.append_nil, hs, if_true, List.foldl_cons]
    have : fewer ((List.range t.length).filter fun p => !ps.contains p) [] = [] := by
      unfold fewer
      split
      · rfl
      · rename_i h
        cases hF : (List.range t.length).filter fun p => !ps.contains p with
        | nil => rfl
        | cons a b => rw [hF] at h; simp at h
    rw [this]
    have : ∀ xs : List (List Nat), xs.foldl fewer [] = [] := by
      intro xs
      induction xs with
      | nil => rfl
      | cons y ys ih => rw [List.foldl_cons]; simp [fewer, ih]
    exact this _
theorem share_none {t : List (List Nat)} {r v w : Nat} (hs : ∀ a b, a < t.length → b < t.length → dist t a b = dist t b a) (hv : v < t.length) (hw : w < t.length) :
    (share t r v w).isNone = !(psv (ballsOf t r) ((ballsOf t r).getD v 0)).testBit w := by
  rw [psv_cov, testBit_cov, ballsOf_length, ballsOf_get hv]
  rw [Bool.eq_iff_iff]
  unfold share
  rw [Option.isNone_iff_eq_none, List.find?_eq_none]
  simp only [Bool.not_eq_true', List.any_eq_false, List.mem_filter, List.mem_range, testBit_ball, Bool.and_eq_true, decide_eq_true_eq, not_and]
  constructor
  · intro q u hu
    rw [ballsOf_get hu.1, testBit_ball]
    have := q u hu.1
    simp only [hw, decide_true, Bool.true_and, decide_eq_true_eq]
    refine this ?_
    rw [hs u v hu.1 hv]; exact hu.2.2
  · intro q u hu h1
    have := q u ⟨hu, hu, by rw [hs v u hv hu]; exact h1⟩
    rw [ballsOf_get hu, testBit_ball] at this
    simpa [hw] using this
def enc2 (l : List Nat) : Nat × Nat := (l.length, msk l)
def lonAt (t : List (List Nat)) (r i : Nat) : List (Nat × Nat) := ((sets (fromEnd t.length 0 i)).filter (apart t r)).map enc2
theorem lonAt_zero (t : List (List Nat)) (r : Nat) : lonAt t r 0 = [(0, 0)] := by
  unfold lonAt
  rw [fromEnd_zero]
  rfl
theorem msk_disjoint {l : List Nat} {X : Nat} : (msk l &&& X == 0) = l.all fun w => !X.testBit w := by
  rw [Bool.eq_iff_iff, beq_iff_eq, List.all_eq_true]
  constructor
  · intro e w hw
    have := congrArg (fun z => z.testBit w) e
    simp only [Nat.testBit_and, testBit_msk, Nat.zero_testBit] at this
    simp [hw] at this
    simp [this]
  · intro q
    apply Nat.eq_of_testBit_eq
    intro i
    rw [Nat.testBit_and, testBit_msk, Nat.zero_testBit]
    by_cases h : i ∈ l
    · have := q i h
      simp at this
      simp [this]
    · simp [h]
theorem lonAt_step {t : List (List Nat)} {r i : Nat} (hs : ∀ a b, a < t.length → b < t.length → dist t a b = dist t b a) (h : i < t.length) :
    lonAt t r (i + 1) = lonAt t r i ++ ((lonAt t r i).filter fun w => w.2 &&& psv (ballsOf t r) ((ballsOf t r).getD (t.length - 1 - i) 0) == 0).map fun w => (w.1 + 1, w.2 ||| 2 ^ (t.length - 1 - i)) := by
  unfold lonAt
  rw [fromEnd_step h, if_neg (by rw [Nat.zero_testBit]; decide), sets, List.filter_append, List.map_append]
  congr 1
  rw [List.filter_map, List.filter_map, List.map_map, List.map_map, List.filter_filter]
  have e1 : (sets (fromEnd t.length 0 i)).filter (apart t r ∘ fun q => (t.length - 1 - i) :: q) =
      (sets (fromEnd t.length 0 i)).filter fun a => ((fun w : Nat × Nat => w.2 &&& psv (ballsOf t r) ((ballsOf t r).getD (t.length - 1 - i) 0) == 0) ∘ enc2) a && apart t r a := by
    apply List.filter_congr
    intro l hl
    have hl' : ∀ w ∈ l, w < t.length := fun w hw => by
      have := (sets_sub hl).subset hw
      unfold fromEnd at this
      have := (List.mem_filter.mp this).1
      have := List.mem_of_mem_drop this
      simpa using this
    show (l.all (fun w => (share t r (t.length - 1 - i) w).isNone) && apart t r l) = ((enc2 l).2 &&& psv (ballsOf t r) ((ballsOf t r).getD (t.length - 1 - i) 0) == 0 && apart t r l)
    congr 1
    rw [show (enc2 l).2 = msk l from rfl, msk_disjoint]
    rw [Bool.eq_iff_iff, List.all_eq_true, List.all_eq_true]
    constructor
    · intro q w hw
      rw [← share_none hs (by omega) (hl' w hw)]; exact q w hw
    · intro q w hw
      rw [share_none hs (by omega) (hl' w hw)]; exact q w hw
  rw [e1]
  apply List.map_congr_left
  intro l _
  simp only [Function.comp, enc2, List.length_cons, msk]
  rw [Nat.or_comm]
theorem lonAt_length (t : List (List Nat)) (r i : Nat) (h : t.length ≤ 10) : (lonAt t r i).length ≤ 1024 := by
  unfold lonAt
  rw [List.length_map]
  refine Nat.le_trans (List.length_filter_le _ _) ?_
  rw [sets_length]
  have h1 : (fromEnd t.length 0 i).length ≤ t.length := by
    unfold fromEnd
    refine Nat.le_trans (List.length_filter_le _ _) ?_
    rw [List.length_drop, List.length_range]
    exact Nat.sub_le _ _
  exact Nat.le_trans (Nat.pow_le_pow_right (by decide) (Nat.le_trans h1 h)) (by decide)
theorem pick_most (t : List (List Nat)) (r : Nat) : ∃ x xs, lonAt t r t.length = x :: xs ∧ maxBy Prod.fst x xs = enc2 (Km458.most t r) := by
  unfold lonAt Km458.most
  have e0 : fromEnd t.length 0 t.length = List.range t.length := by
    rw [fromEnd_all, List.filter_eq_self]; intro a _; simp
  rw [e0]
  obtain ⟨rs, e⟩ := sets_head (List.range t.length)
  rw [e, List.filter_cons]
  have : apart t r [] = true := rfl
  rw [if_pos this]
  refine ⟨enc2 [], (rs.filter (apart t r)).map enc2, rfl, ?_⟩
  rw [maxBy_map (k := List.length) (k' := Prod.fst) (f := enc2) (fun _ => rfl), List.foldl_cons, more_max]
  rfl
theorem most_sub (t : List (List Nat)) (r : Nat) : List.Sublist (Km458.most t r) (List.range t.length) := by
  unfold Km458.most
  rcases foldl_more_mem ((sets (List.range t.length)).filter (apart t r)) [] with h | h
  · rw [h]; exact List.nil_sublist _
  · exact sets_sub (List.mem_filter.mp h).1
theorem most_nodup (t : List (List Nat)) (r : Nat) : (Km458.most t r).Nodup := List.nodup_range.sublist (most_sub t r)
end Vp
end
section
set_option linter.all false
namespace Vp
open Km457 (Valley at_ far)
open Km458 (table dist distances halve reaches quick)
theorem strict_unique : ∀ {a b : List Nat}, a.Pairwise (· < ·) → b.Pairwise (· < ·) → (∀ x, x ∈ a ↔ x ∈ b) → a = b
  | [], [], _, _, _ => rfl
  | [], y :: b, _, _, h => absurd ((h y).mpr (by simp)) (by simp)
  | x :: a, [], _, _, h => absurd ((h x).mp (by simp)) (by simp)
  | x :: a, y :: b, ha, hb, h => by
    rw [List.pairwise_cons] at ha hb
    have e : x = y := by
      rcases Nat.lt_trichotomy x y with q | q | q
      · rcases List.mem_cons.mp ((h x).mp (by simp)) with z | z
        · exact z
        · have := hb.1 x z; omega
      · exact q
      · rcases List.mem_cons.mp ((h y).mpr (by simp)) with z | z
        · exact z.symm
        · have := ha.1 y z; omega
    subst e
    congr 1
    refine strict_unique ha.2 hb.2 fun z => ?_
    constructor
    · intro hz
      have hlt := ha.1 z hz
      rcases List.mem_cons.mp ((h z).mp (by simp [hz])) with q | q
      · omega
      · exact q
    · intro hz
      have hlt := hb.1 z hz
      rcases List.mem_cons.mp ((h z).mpr (by simp [hz])) with q | q
      · omega
      · exact q
theorem mem_insert {a x : Nat} : ∀ {l : List Nat}, x ∈ Km458.insert a l ↔ x = a ∨ x ∈ l
  | [] => by simp [Km458.insert]
  | b :: l => by
    unfold Km458.insert
    split
    · simp
    · split
      · rename_i h; subst h; simp
      · have := mem_insert (a := a) (x := x) (l := l)
        simp only [List.mem_cons, this]
        constructor
        · rintro (h | h | h) <;> simp [h]
        · rintro (h | h | h) <;> simp [h]
theorem insert_strict {a : Nat} : ∀ {l : List Nat}, l.Pairwise (· < ·) → (Km458.insert a l).Pairwise (· < ·)
  | [], _ => by simp [Km458.insert]
  | b :: l, h => by
    have h' := List.pairwise_cons.mp h
    unfold Km458.insert
    split
    · rename_i hab
      refine List.pairwise_cons.mpr ⟨fun x hx => ?_, h⟩
      rcases List.mem_cons.mp hx with rfl | hx
      · exact hab
      · have := h'.1 x hx; omega
    · split
      · exact h
      · refine List.pairwise_cons.mpr ⟨fun x hx => ?_, insert_strict h'.2⟩
        rcases mem_insert.mp hx with rfl | hx
        · omega
        · exact h'.1 x hx
theorem fold_insert : ∀ (l acc : List Nat), acc.Pairwise (· < ·) → (l.foldl (fun l a => Km458.insert a l) acc).Pairwise (· < ·) ∧ (∀ x, x ∈ l.foldl (fun l a => Km458.insert a l) acc ↔ x ∈ l ∨ x ∈ acc) ∧ (l.foldl (fun l a => Km458.insert a l) acc).length ≤ l.length + acc.length
  | [], acc, h => ⟨h, fun x => by simp, by simp⟩
  | y :: l, acc, h => by
    obtain ⟨h1, h2, h3⟩ := fold_insert l (Km458.insert y acc) (insert_strict h)
    have hl : ∀ {a : Nat} {l : List Nat}, (Km458.insert a l).length ≤ l.length + 1 := by
      intro a l
      induction l with
      | nil => simp [Km458.insert]
      | cons b l ih =>
        unfold Km458.insert
        split
        · simp
        · split
          · simp
          · simp only [List.length_cons]; omega
    refine ⟨h1, fun x => ?_, ?_⟩
    · rw [List.foldl_cons, h2, mem_insert, List.mem_cons]
      constructor
      · rintro (q | q | q) <;> simp [q]
      · rintro ((q | q) | q) <;> simp [q]
    · have := @hl y acc
      rw [List.foldl_cons, List.length_cons]
      omega
theorem distances_strict (t : List (List Nat)) : (distances t).Pairwise (· < ·) := (fold_insert _ [] (by simp)).1
theorem mem_distances {t : List (List Nat)} {x : Nat} : x ∈ distances t ↔ x ∈ reaches t := by
  have := (fold_insert (reaches t) [] (by simp)).2.1 x
  simpa [distances] using this
theorem distances_len (t : List (List Nat)) : (distances t).length ≤ (reaches t).length := by
  have := (fold_insert (reaches t) [] (by simp)).2.2
  simpa [distances] using this
theorem sum_const {n k : Nat} : ∀ {l : List Nat}, (∀ x ∈ l, x = k) → l.length = n → l.sum = n * k
  | [], _, h => by subst h; simp
  | x :: l, h, e => by
    have hx := h x (by simp)
    subst e
    rw [List.sum_cons, sum_const (n := l.length) (fun y hy => h y (by simp [hy])) rfl, hx, List.length_cons, Nat.succ_mul]
    omega
theorem reaches_len (s : Valley) : (reaches (table s)).length = 1 + s.length * s.length := by
  unfold reaches
  rw [List.length_cons, List.length_flatMap, sum_const (n := s.length) (k := s.length)]
  · omega
  · intro x hx
    obtain ⟨r, hr, rfl⟩ := List.mem_map.mp hx
    simp [table, Km457.all] at hr
    obtain ⟨v, hv, rfl⟩ := hr
    simp
  · rw [List.length_map, table_length]
theorem distances_few {s : Valley} (K : Ok s) : (distances (table s)).length ≤ 101 := by
  have h := distances_len (table s)
  rw [reaches_len] at h
  have := K.le
  have : s.length * s.length ≤ 10 * 10 := Nat.mul_le_mul K.le K.le
  omega
theorem mem_flat {s : Valley} {x : Nat} : x ∈ (table s).flatMap (fun r => r) ↔ ∃ v w, v < s.length ∧ w < s.length ∧ x = far s v w := by
  rw [List.mem_flatMap]
  constructor
  · rintro ⟨r, hr, hx⟩
    simp [table, Km457.all] at hr
    obtain ⟨v, hv, rfl⟩ := hr
    simp at hx
    obtain ⟨w, hw, e⟩ := hx
    exact ⟨v, w, hv, hw, e.symm⟩
  · rintro ⟨v, w, hv, hw, rfl⟩
    refine ⟨(List.range s.length).map fun w => far s v w, ?_, ?_⟩
    · simp only [table, Km457.all, List.mem_map, List.mem_range]
      exact ⟨v, hv, rfl⟩
    · simp only [List.mem_map, List.mem_range]
      exact ⟨w, hw, rfl⟩
theorem mem_distances_flat {s : Valley} (K : Ok s) {x : Nat} : x ∈ distances (table s) ↔ x ∈ (table s).flatMap fun r => r := by
  rw [mem_distances]
  unfold reaches
  rw [List.mem_cons]
  constructor
  · rintro (rfl | h)
    · exact mem_flat.mpr ⟨0, 0, K.pos, K.pos, (far_self K K.pos).symm⟩
    · exact h
  · exact .inr
theorem distances_pos {s : Valley} (K : Ok s) : 0 < (distances (table s)).length := by
  have h : 0 ∈ distances (table s) := by rw [mem_distances]; simp [reaches]
  exact List.length_pos_of_mem h
structure Halv (p : Nat → Bool) (top lo hi : Nat) : Prop where
  le : lo ≤ hi
  below : hi ≤ top
  go : ∃ f, hi < lo + 2 ^ f ∧ halve p f lo hi = halve p 10 0 top
theorem Halv.start {p : Nat → Bool} {top : Nat} (h : top < 1024) : Halv p top 0 top := ⟨Nat.zero_le _, Nat.le_refl _, 10, by simpa using h, rfl⟩
theorem Halv.yes {p : Nat → Bool} {top lo hi : Nat} (H : Halv p top lo hi) (h : lo < hi) (hp : p ((lo + hi) / 2) = true) : Halv p top lo ((lo + hi) / 2) := by
  obtain ⟨h1, h2, f, h3, h4⟩ := H
  cases f with
  | zero => simp at h3; omega
  | succ f =>
    rw [Nat.pow_succ] at h3
    refine ⟨by omega, by omega, f, by omega, ?_⟩
    rw [← h4]
    conv => rhs; unfold halve
    rw [if_neg (by omega), if_pos hp]
theorem Halv.no {p : Nat → Bool} {top lo hi : Nat} (H : Halv p top lo hi) (h : lo < hi) (hp : p ((lo + hi) / 2) = false) : Halv p top ((lo + hi) / 2 + 1) hi := by
  obtain ⟨h1, h2, f, h3, h4⟩ := H
  cases f with
  | zero => simp at h3; omega
  | succ f =>
    rw [Nat.pow_succ] at h3
    refine ⟨by omega, by omega, f, by omega, ?_⟩
    rw [← h4]
    conv => rhs; unfold halve
    rw [if_neg (by omega), if_neg (by rw [hp]; decide)]
theorem Halv.done {p : Nat → Bool} {top lo hi : Nat} (H : Halv p top lo hi) (h : ¬ lo < hi) : lo = halve p 10 0 top ∧ lo ≤ top := by
  obtain ⟨h1, h2, f, h3, h4⟩ := H
  have e : lo = hi := by omega
  subst e
  refine ⟨?_, h2⟩
  rw [← h4]
  cases f with
  | zero => rfl
  | succ f => unfold halve; rw [if_pos (Nat.le_refl _)]
end Vp
end
section
set_option Elab.async false
set_option linter.all false
set_option maxRecDepth 100000
set_option maxHeartbeats 4000000
namespace L2
open PySem PySem.Spec PyProof.Rows
structure Tb where
  P : Addr
  L : List (Pos × Str)
def Tabs (T : List Tb) (H : Hp) : Prop := ∀ t ∈ T, TabAt t.P t.L H
structure Kp (T : List Tb) (H H' : Hp) : Prop where
  keep : ∀ b o, H b = some o → (∀ ps, o ≠ .tbl ps) → H' b = some o
  tbls : ∀ b ps, H b = some (.tbl ps) → ∃ qs, H' b = some (.tbl qs)
  tabs : Tabs T H → Tabs T H'
theorem Same.add {H H' : Hp} {p : Addr} {o : HO} (e : Same H H') (hp : H' p = none) : Same H (upd H' p o) := fun b u q => by rw [upd_ne (ne_of_none (e b u q) hp)]; exact e b u q
theorem Same.kp {T : List Tb} {H H' : Hp} (e : Same H H') : Kp T H H' :=
  ⟨fun b o h _ => e b o h, fun b ps h => ⟨ps, e b _ h⟩, fun h t ht => by
    obtain ⟨ps, h1, h2, h3⟩ := h t ht
    exact ⟨ps, e _ _ h1, h2, fun q hq => (h3 q hq).imp id fun ⟨c, z1, z2⟩ => ⟨c, z1, e _ _ z2⟩⟩⟩
theorem Kp.refl (T : List Tb) (H : Hp) : Kp T H H := (Same.refl H).kp
theorem Kp.trans {T : List Tb} {H H1 H2 : Hp} (a : Kp T H H1) (b : Kp T H1 H2) : Kp T H H2 :=
  ⟨fun c o h n => b.keep c o (a.keep c o h n) n, fun c ps h => by obtain ⟨qs, q⟩ := a.tbls c ps h; exact b.tbls c qs q, fun h => b.tabs (a.tabs h)⟩
theorem Kp.lst {T : List Tb} {H H' : Hp} (a : Kp T H H') {p : Addr} {xs : List V} (h : H p = some (.lst xs)) : H' p = some (.lst xs) := a.keep p _ h (fun ps z => by cases z)
theorem Kp.tup {T : List Tb} {H H' : Hp} (a : Kp T H H') {p : Addr} {xs : List V} (h : H p = some (.tup xs)) : H' p = some (.tup xs) := a.keep p _ h (fun ps z => by cases z)
theorem Kp.ins {T : List Tb} {H H' : Hp} (a : Kp T H H') {p C dx : Addr} {fs : List (Str × V)} (h : H p = some (.ins C dx fs)) : H' p = some (.ins C dx fs) := a.keep p _ h (fun ps z => by cases z)
theorem Kp.seq {T : List Tb} {K : PySem.W.Frag} {H H' : Hp} (a : Kp T H H') {p : Addr} {xs : List V} (h : SqL K H p xs) : SqL K H' p xs := by
  rcases h with (q | ⟨o, q⟩) | q
  · exact .inl (.inl (a.lst q))
  · exact .inl (.inr ⟨o, a.keep p _ q (fun ps z => by cases z)⟩)
  · exact .inr q
theorem Kp.free {T : List Tb} {H H' : Hp} (a : Kp T H H') {l : Addr} (h : H' l = none) : H l = none := by
  cases e : H l with
  | none => rfl
  | some o =>
    by_cases q : ∃ ps, o = .tbl ps
    · obtain ⟨ps, rfl⟩ := q
      obtain ⟨qs, z⟩ := a.tbls l ps e
      rw [h] at z; cases z
    · rw [a.keep l o e fun ps z => q ⟨ps, z⟩] at h; cases h
theorem Kp.add {T : List Tb} {H H' : Hp} {p : Addr} {o : HO} (e : Kp T H H') (hp : H' p = none) : Kp T H (upd H' p o) := e.trans ((Same.refl H').add hp).kp
theorem KeepT.kp {T : List Tb} {t : Tb} {H H' : Hp} (ht : t ∈ T) (k : KeepT t.P H H') (h0 : TabAt t.P t.L H) (h1 : TabAt t.P t.L H') (hd : ∀ u ∈ T, u.P = t.P → u = t) : Kp T H H' := by
  obtain ⟨ps, hP, _⟩ := h0
  obtain ⟨qs, hP', _⟩ := id h1
  refine ⟨fun b o h n => k b o (fun z => n ps (by rw [z, hP] at h; cases h; rfl)) h, fun b rs h => ?_, fun h u hu => ?_⟩
  · by_cases e : b = t.P
    · exact ⟨qs, by rw [e]; exact hP'⟩
    · exact ⟨rs, k b _ e h⟩
  · by_cases e : u.P = t.P
    · rw [hd u hu e]; exact h1
    · obtain ⟨rs, h2, h3, h4⟩ := h u hu
      refine ⟨rs, k _ _ e h2, h3, fun q hq => (h4 q hq).imp id fun ⟨c, z1, z2⟩ => ⟨c, z1, k c _ (fun z => ?_) z2⟩⟩
      rw [z, hP] at z2; cases z2
def SetO (P : Program) (w : World) (a : Addr) (ns : List Int) : HO := .ext fun h => Vp.SetG P w h a ns
section
variable {X : Cx}
theorem call_setI (hc : X.calm = true) : CallR X (.type "set") (fun xs H Q => ∃ (l : Addr) (ns : List Int), xs = [.ref l] ∧ SqL X.K H l (ns.map V.int) ∧ ns.length + 1 < scanBound ∧ ∀ p, H p = none → Q (.ref p) (upd H p (SetO X.prog X.w p (Vp.ded ns)))) := by
  intro pins s σ H vs us Q I r h
  obtain ⟨l, ns, rfl, hs, hb, q⟩ := h
  obtain ⟨its, rv, hl, _⟩ := I.list hs
  rw [Vals.ref1 r]
  have hi := rv.ints
  refine Vp.call_set_ints (I.ok.hd hc) hl.isList hi (by rw [hi.length]; exact hb) fun h' tk hS kp hz => ?_
  refine ⟨.ref s.heap.objs.size, upd H s.heap.objs.size (SetO X.prog X.w s.heap.objs.size (Vp.ded ns)), I.laid (t' := tk) kp (Nat.le_refl _) ⟨hS, ?_, fun h1 h2 z k => z.at k⟩, rfl, q _ (I.hok.fresh (Nat.le_refl _))⟩
  obtain ⟨o, _, _, _, e, _⟩ := hS
  exact ⟨o, e⟩
theorem cr_sortedSet (hc : X.calm = true) : CallR X (.builtin "sorted") (fun xs H Q => ∃ (a : Addr) (ns : List Int), xs = [.ref a] ∧ H a = some (SetO X.prog X.w a ns) ∧ ∀ (ns' : List Int) (p : Addr), ns'.Perm ns → ns'.Pairwise (· ≤ ·) → H p = none → Q (.ref p) (upd H p (.lst (ns'.map V.int)))) := by
  intro pins s σ H vs us Q I r h
  obtain ⟨a, ns, rfl, ha, q⟩ := h
  rw [Vals.ref1 r]
  obtain ⟨hS, _, _⟩ := I.hok a _ ha
  have hlen : ns.length ≤ sizeLine := by
    obtain ⟨o, es, _, _, _, _, _, _, p, hb, _⟩ := hS
    have := p.length_eq
    rw [List.length_map, Array.length_toList] at this
    have := fits_of_scanBound hb
    omega
  refine Vp.sorted_set (I.ok.hd hc) hS fun out ns' p n h' d a1 a2 a3 kp hz hp => ?_
  have hl2 : (ns'.map V.int).length ≤ sizeLine := by rw [List.length_map, a2.length_eq]; exact hlen
  have hn : H p = none := I.hok.fresh hz
  have I2 := I.laid (t' := s.toks) (o := .lst (ns'.map V.int)) kp hz ⟨hl2, out, n, vals_of_ints a1, hp⟩
  exact ⟨.ref p, upd H p (.lst (ns'.map V.int)), ⟨I2.ok, I2.os, I2.bare, I2.base, I2.loc, I2.cell, I2.free, I2.freeC, I2.pin, I2.hok, I2.len⟩, rfl, q ns' p a2 a3 hn⟩
end
end L2
end
section
set_option linter.all false
set_option Elab.async false
namespace Vp
open PySem PyProof.Rows
theorem or_nn (a b : Nat) : Builtin.bitOr (a : Int) (b : Int) = ((a ||| b : Nat) : Int) := by rw [Bits.bitOr_pp (by omega) (by omega)]; simp
theorem and_nn (a b : Nat) : Builtin.bitAnd (a : Int) (b : Int) = ((a &&& b : Nat) : Int) := by rw [bitAnd_pp (by omega) (by omega)]; simp
theorem xor_nn (a b : Nat) : Builtin.bitXor (a : Int) (b : Int) = ((a ^^^ b : Nat) : Int) := by rw [Bits.bitXor_pp (by omega) (by omega)]; simp
theorem two_pow (k : Nat) : (2 : Int) ^ k = ((2 ^ k : Nat) : Int) := by
  induction k with
  | zero => rfl
  | succ k ih => rw [Int.pow_succ, ih, Nat.pow_succ]; simp
theorem one_shl (k : Nat) : (1 : Int) * 2 ^ ((k : Nat) : Int).toNat = ((2 ^ k : Nat) : Int) := by rw [Int.toNat_natCast, two_pow]; simp
theorem shr_nn (a k : Nat) : (a : Int) / 2 ^ ((k : Nat) : Int).toNat = ((a / 2 ^ k : Nat) : Int) := by rw [Int.toNat_natCast, two_pow]; simp
theorem has_bit (p v : Nat) : decide (L2.V.int (Builtin.bitAnd ((p : Int) / 2 ^ ((v : Nat) : Int).toNat) 1) = L2.V.int 1) = p.testBit v := by
  rw [shr_nn, show (1 : Int) = ((1 : Nat) : Int) from rfl, and_nn, Nat.testBit_eq_decide_div_mod_eq, Nat.and_one_is_mod]
  rw [Bool.eq_iff_iff, decide_eq_true_eq, decide_eq_true_eq]
  constructor
  · intro e
    injection e with e
    omega
  · intro e
    rw [e]
theorem drop_bit {x : Nat} (h : x ≠ 0) : (x &&& (x - 1)) < x := Nat.lt_of_le_of_lt Nat.and_le_right (by omega)
end Vp
namespace Vp
def pc (x : Nat) : Nat := if h : x = 0 then 0 else x % 2 + pc (x / 2)
decreasing_by omega
theorem pc_zero : pc 0 = 0 := by unfold pc; simp
theorem pc_step (x : Nat) : pc x = x % 2 + pc (x / 2) := by
  by_cases h : x = 0
  · subst h; rw [pc_zero]
  · rw [pc, dif_neg h]
theorem pc_drop (x : Nat) : x ≠ 0 → pc (x &&& (x - 1)) + 1 = pc x := by
  induction x using Nat.strongRecOn with
  | _ x ih =>
    intro h
    rw [pc_step (x &&& (x - 1)), pc_step x, Nat.and_div_two]
    have a1 := @Nat.and_mod_two_eq_one x (x - 1)
    have e0 : (x &&& (x - 1)) % 2 = 0 := by omega
    rw [e0]
    by_cases ho : x % 2 = 1
    · have e : (x - 1) / 2 = x / 2 := by omega
      rw [e, Nat.and_self]; omega
    · have e : (x - 1) / 2 = x / 2 - 1 := by omega
      have := ih (x / 2) (by omega) (by omega)
      rw [e]; omega
theorem pc_or (a : Nat) : ∀ b : Nat, a &&& b = 0 → pc (a ||| b) = pc a + pc b := by
  induction a using Nat.strongRecOn with
  | _ a ih =>
    intro b h
    by_cases h0 : a = 0
    · subst h0; rw [pc_zero, Nat.zero_or]; omega
    · have hd : a / 2 &&& b / 2 = 0 := by rw [← Nat.and_div_two, h]
      have i := ih (a / 2) (by omega) (b / 2) hd
      rw [pc_step (a ||| b), Nat.or_div_two, i, pc_step a, pc_step b]
      have a1 := @Nat.and_mod_two_eq_one a b
      have o1 := @Nat.or_mod_two_eq_one a b
      rw [h] at a1
      omega
theorem pc_pow (k : Nat) : pc (2 ^ k) = 1 := by
  induction k with
  | zero => rw [pc_step]; simp [pc_zero]
  | succ k ih =>
    rw [pc_step, Nat.pow_succ, Nat.mul_mod_left, Nat.mul_div_cancel _ (by decide), ih]
theorem pc_msk {l : List Nat} (h : l.Nodup) : pc (msk l) = l.length := by
  induction l with
  | nil => exact pc_zero
  | cons k l ih =>
    obtain ⟨h1, h2⟩ := List.nodup_cons.mp h
    unfold msk
    rw [pc_or, pc_pow, ih h2, List.length_cons]
    · omega
    · apply Nat.eq_of_testBit_eq
      intro i
      rw [Nat.testBit_and, Nat.testBit_two_pow, testBit_msk, Nat.zero_testBit]
      by_cases e : k = i
      · subst e; simp [h1]
      · simp [e]
end Vp
end
section
set_option Elab.async false
set_option linter.all false
set_option maxRecDepth 100000
set_option maxHeartbeats 4000000
namespace VR
open PySem PySem.Spec PyProof.Rows L2 Vp
open Km457 (Valley at_ far)
def top (i : Nat) : Stmt := PySem.Challenge.pw_valleyposts_s01_answers.main.body.getD i (.Pass ⟨0, 0, 0, 0⟩)
abbrev sHas : Stmt := top 1
abbrev sMany : Stmt := top 2
abbrev sFar : Stmt := top 3
theorem goT {b : Bool} {A B : Prop} (hb : b = true) (h : A) : if b = true then A else B := by rw [if_pos hb]; exact h
theorem goF {b : Bool} {A B : Prop} (hb : b = false) (h : B) : if b = true then A else B := by rw [if_neg (by rw [hb]; decide)]; exact h
section
variable {P : Program} {w : World} {K : PySem.W.Frag} {mg : Str → Option Value} {base : Heap}
theorem scHas : FnScope ["villages", "v"] ["villages", "v"] (defScope sHas) := ⟨rfl, rfl, rfl, by decide +kernel, rfl, by decide +kernel, by decide +kernel⟩
def spHas : Sp := fun vs H Q _ => ∃ p v : Nat, vs = [.int p, .int v] ∧ Q (.bl (p.testBit v)) H
theorem ok_has {f : Addr} {fd : FuncData} (F : Fun K "has" "has" sHas f fd) : FnOk P w K mg base CX0 1 f fd ["villages", "v"] spHas := by
  refine F.ok scHas (fun vs H Q E h => ?_) (fun cdv A outer s H vs Q E hr h => ?_)
  · obtain ⟨p, v, rfl, _⟩ := h
    rfl
  · obtain ⟨p, v, rfl, k⟩ := h
    refine ⟨_, pss_one (ps_ret (pe_cmpR op_eq (pe_op op_and (pe_op op_shr (pv 0) (pv 1)) pe_int) pe_int (nomark _))), ?_⟩
    refine ⟨_, rfl, _, rfl, _, _, rfl, rfl, Int.natCast_nonneg v, _, _, rfl, rfl, rfl, ?_⟩
    rw [has_bit]
    exact k
theorem scMany : FnScope ["villages", "count"] ["villages"] (defScope sMany) := ⟨rfl, rfl, rfl, by decide +kernel, rfl, by decide +kernel, by decide +kernel⟩
def spMany : Sp := fun vs H Q _ => ∃ p : Nat, vs = [.int p] ∧ Q (.int (pc p : Nat)) H
theorem ok_many {f : Addr} {fd : FuncData} (F : Fun K "how_many" "how_many" sMany f fd) : FnOk P w K mg base CX0 1 f fd ["villages"] spMany := by
  refine F.ok scMany (fun vs H Q E h => ?_) (fun cdv A outer s H vs Q E hr h => ?_)
  · obtain ⟨p, rfl, _⟩ := h
    rfl
  · obtain ⟨p, rfl, k⟩ := h
    refine ⟨_, pss_cons (ps_set (i := 1) scMany.nd rfl (Or.inl rfl) pe_int) (pss_cons (ps_while PassesOwn.never (pt_truth (pv 0) (fun _ => rfl))
      (pss_cons (ps_set (i := 0) scMany.nd rfl (Or.inl rfl) (pe_op op_and (pv 0) (pe_op op_sub (pv 0) pe_int))) (pss_one (ps_set (i := 1) scMany.nd rfl (Or.inl rfl) (pe_op op_add (pv 1) pe_int)))))
      (pss_one (ps_ret (pv 1)))), ?_⟩
    dsimp only [tSeq, tAsg, tC, gName]
    show tWhile _ _ _ [some (V.int (p : Nat)), some (V.int ((0 : Nat) : Int))] H
    refine while_by (fun σ H' => H' = H ∧ ∃ x c : Nat, σ = [some (.int x), some (.int c)] ∧ c + pc x = pc p) (fun σ _ => match σ with | [some (.int x), _] => x.toNat | _ => 0) ⟨rfl, p, 0, rfl, by omega⟩ ?_ ?_
    · rintro σ H' ⟨rfl, x, c, rfl, e⟩
      refine ⟨_, rfl, _, rfl, ?_⟩
      by_cases hx : x = 0
      · subst hx
        rw [pc_zero] at e
        refine ⟨_, rfl, ?_⟩
        rw [show pc p = c by omega] at k
        exact k
      · have hb : ((x : Int) != 0) = true := by simp [hx]
        dsimp only
        rw [if_pos hb]
        refine ⟨_, rfl, _, rfl, _, _, rfl, rfl, _, _, rfl, rfl, ?_⟩
        have e1 : Builtin.bitAnd (x : Int) ((x : Int) - 1) = ((x &&& (x - 1) : Nat) : Int) := by rw [← and_nn]; congr 1; omega
        dsimp only
        rw [e1]
        refine ⟨_, rfl, _, _, rfl, rfl, ⟨rfl, _, c + 1, rfl, ?_⟩, ?_⟩
        · have := pc_drop x hx; omega
        · show (((x &&& (x - 1) : Nat) : Int)).toNat < ((x : Int)).toNat
          have := drop_bit hx
          omega
    · rintro σ H' Q1 Q2 hq ⟨v, h1, kk, h2, h3⟩
      exact ⟨v, h1, kk, h2, hq _ _ h3⟩
def upsV (s : Valley) : List V := s.map fun x => V.int (x.up : Nat)
def roadsV (s : Valley) : List V := s.map fun x => V.int (x.long : Nat)
theorem ups_at {s : Valley} {v : Nat} (h : v < s.length) : (upsV s)[v]? = some (.int ((at_ s v).up : Nat)) := by
  unfold upsV at_
  rw [List.getElem?_map, List.getElem?_eq_getElem h, List.getD_eq_getElem?_getD, List.getElem?_eq_getElem h]; rfl
theorem roads_at {s : Valley} {v : Nat} (h : v < s.length) : (roadsV s)[v]? = some (.int ((at_ s v).long : Nat)) := by
  unfold roadsV at_
  rw [List.getElem?_map, List.getElem?_eq_getElem h, List.getD_eq_getElem?_getD, List.getElem?_eq_getElem h]; rfl
theorem scFar : FnScope ["ups", "roads", "v", "w", "far"] ["ups", "roads", "v", "w"] (defScope sFar) := ⟨rfl, rfl, rfl, by decide +kernel, rfl, by decide +kernel, by decide +kernel⟩
def spFar (K : PySem.W.Frag) : Sp := fun vs H Q _ => ∃ (a b : Addr) (s : Valley) (v w : Nat), vs = [.ref a, .ref b, .int v, .int w] ∧ SqL K H a (upsV s) ∧ SqL K H b (roadsV s) ∧ Ok s ∧ v < s.length ∧ w < s.length ∧ Q (.int (far s v w : Nat)) H
theorem ok_far {f : Addr} {fd : FuncData} (F : Fun K "how_far" "how_far" sFar f fd) : FnOk P w K mg base CX0 1 f fd ["ups", "roads", "v", "w"] (spFar K) := by
  refine F.ok scFar (fun vs H Q E h => ?_) (fun cdv A outer s H vs Q E hr h => ?_)
  · obtain ⟨a, b, s, v, w, rfl, _⟩ := h
    rfl
  · obtain ⟨a, b, sv, v, w, rfl, ha, hb, ok, hv, hw, k⟩ := h
    refine ⟨_, pss_cons (ps_set (i := 4) scFar.nd rfl (Or.inl rfl) pe_int) (pss_cons (ps_while PassesOwn.never (pt_cmpR op_ne (pv 2) (pv 3) (nomark _))
      (pss_one (ps_if (pt_cmpR op_gt (pv 2) (pv 3) (nomark _))
        (pss_cons (ps_set (i := 4) scFar.nd rfl (Or.inl rfl) (pe_op op_add (pv 4) (pe_ix ix_list (pv 1) (pv 2) (fun _ _ => rfl)))) (pss_one (ps_set (i := 2) scFar.nd rfl (Or.inl rfl) (pe_ix ix_list (pv 0) (pv 2) (fun _ _ => rfl)))))
        (pss_cons (ps_set (i := 4) scFar.nd rfl (Or.inl rfl) (pe_op op_add (pv 4) (pe_ix ix_list (pv 1) (pv 3) (fun _ _ => rfl)))) (pss_one (ps_set (i := 3) scFar.nd rfl (Or.inl rfl) (pe_ix ix_list (pv 0) (pv 3) (fun _ _ => rfl))))))))
      (pss_one (ps_ret (pv 4)))), ?_⟩
    dsimp only [tSeq, tAsg, tC, gName]
    show tWhile _ _ _ [some (V.ref a), some (V.ref b), some (V.int (v : Nat)), some (V.int (w : Nat)), some (V.int ((0 : Nat) : Int))] H
    refine while_by (fun σ H' => H' = H ∧ ∃ x y d : Nat, σ = [some (V.ref a), some (V.ref b), some (V.int (x : Nat)), some (V.int (y : Nat)), some (V.int (d : Nat))] ∧ x < sv.length ∧ y < sv.length ∧ d + far sv x y = far sv v w)
      (fun σ _ => match σ with | [_, _, some (.int x), some (.int y), _] => x.toNat + y.toNat | _ => 0) ⟨rfl, v, w, 0, rfl, hv, hw, by omega⟩ ?_ ?_
    · rintro σ H' ⟨rfl, x, y, d, rfl, hx, hy, e⟩
      refine ⟨_, rfl, _, rfl, rfl, _, rfl, ?_⟩
      by_cases hxy : x = y
      · subst hxy
        rw [far_self ok hx] at e
        have e1 : (!decide (V.int (x : Nat) = V.int (x : Nat))) = false := by simp
        refine goF e1 ?_
        refine ⟨_, rfl, ?_⟩
        rw [show far sv v w = d by omega] at k
        exact k
      · have e1 : (!decide (V.int (x : Nat) = V.int (y : Nat))) = true := by
          have : ¬ V.int (x : Nat) = V.int (y : Nat) := fun z => hxy (by injection z with z; omega)
          simp [this]
        refine goT e1 ?_
        refine ⟨_, rfl, _, rfl, _, _, rfl, rfl, _, rfl, ?_⟩
        refine ite2 (fun hlt => ?_) (fun hlt => ?_)
        · have hlt : y < x := by simp at hlt; omega
          have hu := ok.up x hx (by omega)
          have hl := far_left ok hx hlt
          refine ⟨_, rfl, _, rfl, _, rfl, b, _, _, _, rfl, rfl, hb, atI_nat (roads_at hx), _, _, rfl, rfl, ?_⟩
          refine ⟨_, rfl, _, rfl, a, _, _, _, rfl, rfl, ha, atI_nat (ups_at hx), ?_⟩
          refine ⟨⟨rfl, (at_ sv x).up, y, d + (at_ sv x).long, rfl, by omega, hy, by omega⟩, ?_⟩
          show (((at_ sv x).up : Nat) : Int).toNat + ((y : Nat) : Int).toNat < ((x : Nat) : Int).toNat + ((y : Nat) : Int).toNat
          omega
        · have hlt : x < y := by simp at hlt; omega
          have hu := ok.up y hy (by omega)
          have hl := far_right ok hy hlt
          refine ⟨_, rfl, _, rfl, _, rfl, b, _, _, _, rfl, rfl, hb, atI_nat (roads_at hy), _, _, rfl, rfl, ?_⟩
          refine ⟨_, rfl, _, rfl, a, _, _, _, rfl, rfl, ha, atI_nat (ups_at hy), ?_⟩
          refine ⟨⟨rfl, x, (at_ sv y).up, d + (at_ sv y).long, rfl, hx, by omega, by omega⟩, ?_⟩
          show ((x : Nat) : Int).toNat + (((at_ sv y).up : Nat) : Int).toNat < ((x : Nat) : Int).toNat + ((y : Nat) : Int).toNat
          omega
    · rintro σ H' Q1 Q2 hq ⟨v1, h1, v2, h2, h3, kk, h4, h5⟩
      exact ⟨v1, h1, v2, h2, h3, kk, h4, hq _ _ h5⟩
end
end VR
end
section
set_option Elab.async false
set_option linter.all false
set_option maxRecDepth 100000
set_option maxHeartbeats 4000000
namespace VR
open PySem PySem.Spec PyProof.Rows L2 Vp
open Km457 (Valley at_ far)
abbrev sDist : Stmt := top 4
abbrev sSetOf : Stmt := top 5
abbrev sBall : Stmt := top 6
abbrev sBalls : Stmt := top 7
abbrev sLeastOf : Stmt := top 8
abbrev sServed : Stmt := top 9
abbrev sEvery : Stmt := top 10
abbrev sUns : Stmt := top 11
abbrev sServe : Stmt := top 12
abbrev sIdle : Stmt := top 13
abbrev sWithin : Stmt := top 14
structure Bare (mg : Str → Option Value) : Prop where
  len : mg "len" = none
  range : mg "range" = none
  mn : mg "min" = none
  mx : mg "max" = none
  lst : mg "list" = none
  st : mg "set" = none
  srt : mg "sorted" = none
  sm : mg "sum" = none
theorem ixT {X : Cx} {K : PySem.W.Frag} (h : X.K = K) : IxR X (rIxT K) := h ▸ ix_tup
theorem ixL {X : Cx} {K : PySem.W.Frag} (h : X.K = K) : IxR X (rIxL K) := h ▸ ix_list
theorem lst_ref {as : List Addr} {j : Nat} {x : V} (h : (as.map V.ref)[j]? = some x) : ∃ a, as[j]? = some a ∧ x = V.ref a := by
  rw [List.getElem?_map] at h
  cases e : as[j]? with
  | none => rw [e] at h; cases h
  | some a => rw [e] at h; exact ⟨a, rfl, (Option.some.inj h).symm⟩
section
variable {P : Program} {w : World} {K : PySem.W.Frag} {mg : Str → Option Value} {base : Heap}
def rowV (s : Valley) (v : Nat) : List V := (List.range s.length).map fun w => V.int (far s v w : Nat)
def TabV (H : Hp) (t : Addr) (s : Valley) : Prop := ∃ rows : List Addr, H t = some (.lst (rows.map V.ref)) ∧ rows.length = s.length ∧ ∀ v r, rows[v]? = some r → H r = some (.lst (rowV s v))
theorem TabV.same {H H' : Hp} {t : Addr} {s : Valley} (h : TabV H t s) (e : Same H H') : TabV H' t s := by
  obtain ⟨rows, h1, h2, h3⟩ := h
  exact ⟨rows, e _ _ h1, h2, fun v r q => e _ _ (h3 v r q)⟩
theorem scDist : FnScope ["ups", "roads", "table", "v", "w"] ["ups", "roads"] (defScope sDist) := ⟨rfl, rfl, rfl, by decide +kernel, rfl, by decide +kernel, by decide +kernel⟩
def spDist (K : PySem.W.Frag) : Sp := fun vs H Q _ => ∃ (a b : Addr) (s : Valley), vs = [.ref a, .ref b] ∧ SqL K H a (upsV s) ∧ SqL K H b (roadsV s) ∧ Ok s ∧ ∀ H' t, Same H H' → TabV H' t s → H t = none → Q (.ref t) H'
theorem ok_dist {f fF : Addr} {fd fdF : FuncData} (F : Fun K "distances" "distances" sDist f fd) (G : Bare mg) (FF : Fun K "how_far" "how_far" sFar fF fdF) (mF : mg "how_far" = some (.ref fF)) (bF : Binds K fdF ["ups", "roads", "v", "w"] []) :
    FnOk P w K mg base CX0 2 f fd ["ups", "roads"] (spDist K) := by
  have GF : FnOk P w K mg base CX0 1 fF fdF ["ups", "roads", "v", "w"] (spFar K) := ok_far FF
  refine F.ok scDist (fun vs H Q E h => ?_) (fun cdv A outer s H vs Q E hr h => ?_)
  · obtain ⟨a, b, s, rfl, _⟩ := h
    rfl
  · obtain ⟨a, b, sv, rfl, ha, hb, ok, k⟩ := h
    refine ⟨_, pss_cons (ps_set (i := 2) scDist.nd rfl (Or.inl rfl) (pe_lst pa_nil))
      (pss_cons (ps_for PassesOwn.never rfl (pi_range1 rfl G.range (pa_cons (pe_callB call_len_seq (by rfl) G.len PySem.boot_len (pa_cons (pv 0) pa_nil)) pa_nil)) (pg_name (i := 3) scDist.nd rfl (Or.inr rfl))
        (pss_one (ps_expr (pe_bm PySem.F.plainAttrs_list PySem.F.slot_list_append PySem.F.type_list_append mt_append (pv 2) (pa_cons
          (pe_lc (own := [("w", 4)]) rfl scDist.nd (pi_range1 rfl G.range (pa_cons (pe_callB call_len_seq (by rfl) G.len PySem.boot_len (pa_cons (pv 0) pa_nil)) pa_nil)) (blkOk_by (show blkC ["ups", "roads", "table", "v", "w"] (defScope sDist) _ _ = true by decide +kernel))
            (fun _ _ _ _ _ => pg_name (i := 4) scDist.nd rfl (Or.inl rfl)) (fun _ _ _ _ _ => pts_nil)
            (fun _ _ _ _ _ => pe_call GF hr rfl mF FF.kp bF .nil pass0 (pa_cons (pv 0) (pa_cons (pv 1) (pa_cons (pv 3) (pa_cons (pv 4) pa_nil)))))) pa_nil)))))
      (pss_one (ps_ret (pv 2)))), ?_⟩
    refine ⟨Nat.zero_le _, fun t ht => ?_⟩
    have s0 : Same H (upd H t (.lst [])) := (Same.refl H).add ht
    have hn : (upsV sv).length = sv.length := by simp [upsV]
    have hle := ok.le
    refine ⟨_, rfl, a, _, rfl, .inl (s0.seq ha), _, rfl, by omega, by omega, for_range (lo := 0) (n := ((upsV sv).length : Int).toNat)
      (fun i σ H' => ∃ (x4 : Option V) (rows : List Addr), σ = [some (.ref a), some (.ref b), some (.ref t), x4, none] ∧ Same H H' ∧ H' t = some (.lst (rows.map V.ref)) ∧ rows.length = i ∧ ∀ v r, rows[v]? = some r → r ≠ t ∧ H' r = some (.lst (rowV sv v)))
      ⟨none, [], rfl, s0, upd_same, rfl, fun v r h => by simp at h⟩ ?_ ?_⟩
    · rintro i σ H1 hi ⟨x4, rows, rfl, s1, ht1, hl1, hr1⟩
      have hi : i < sv.length := by rw [Int.toNat_natCast] at hi; omega
      refine ⟨_, rfl, .inl ⟨rfl, _, SqL.of ht1⟩, ?_⟩
      refine ⟨_, rfl, a, _, rfl, .inl (s1.seq ha), _, rfl, by omega, by omega, ?_⟩
      intro d hd
      have nt : t ≠ d := ne_of_none ht1 hd
      refine lc_range (lo := 0) (n := ((upsV sv).length : Int).toNat) (fun j H' => Same H1 (upd H' d (.lst [])) ∧ H' d = some (.lst ((List.range j).map fun w => V.int (far sv i w : Nat))) ∧ (∀ b o, H1 b = some o → H' b = some o))
        ⟨fun b o e => by rw [upd_ne (ne_of_none e hd), upd_ne (ne_of_none e hd)]; exact e, upd_same, fun b o e => by rw [upd_ne (ne_of_none e hd)]; exact e⟩ ?_ ?_
      · rintro j H2 hj ⟨_, hd2, s2⟩
        have hj : j < sv.length := by rw [Int.toNat_natCast] at hj; omega
        refine ⟨rfl, ?_⟩
        dsimp only [tYes]
        rw [if_pos rfl]
        refine ⟨_, rfl, _, rfl, _, rfl, _, rfl, ?_⟩
        have s12 : Same H H2 := s1.trans s2
        refine ⟨a, b, sv, i, j, by simp, s12.seq ha, s12.seq hb, ok, hi, hj, _, hd2, ?_, ?_, ?_, ?_⟩
        · rw [List.length_map, List.length_range]; exact small1000 (by omega)
        · intro b' o e; rw [upd_ne (ne_of_none e hd), upd_ne (ne_of_none e hd)]; exact s2 b' o e
        · rw [upd_same, List.range_succ, List.map_append]; rfl
        · intro b' o e; rw [upd_ne (ne_of_none e hd)]; exact s2 b' o e
      · rintro H2 ⟨_, hd2, s2⟩
        rw [Int.toNat_natCast, hn] at hd2
        refine ⟨t, _, _, rfl, rfl, s2 _ _ ht1, by rw [List.length_map]; exact small1000 (by omega), ?_⟩
        refine ⟨_, rows ++ [d], rfl, fun b' o e => ?_, by rw [upd_same, List.map_append]; rfl, by simp [hl1], fun v r hr => ?_⟩
        · rw [upd_ne (ne_of_none e ht)]; exact s2 _ _ (s1 _ _ e)
        · rw [List.getElem?_append] at hr
          split at hr
          · obtain ⟨q1, q2⟩ := hr1 v r hr
            exact ⟨q1, by rw [upd_ne q1]; exact s2 _ _ q2⟩
          · rename_i hv
            obtain ⟨h1, h2⟩ := List.getElem?_eq_some_iff.mp hr
            simp at h1
            have hv2 : v = i := by omega
            subst hv2
            simp at h2
            subst h2
            exact ⟨Ne.symm nt, by rw [upd_ne (Ne.symm nt)]; exact hd2⟩
    · rintro σ H1 ⟨x4, rows, rfl, s1, ht1, hl1, hr1⟩
      rw [Int.toNat_natCast, hn] at hl1
      refine ⟨_, rfl, ?_⟩
      exact k H1 t s1 ⟨rows, ht1, hl1, fun v r q => (hr1 v r q).2⟩ ht
end
end VR
end
section
set_option Elab.async false
set_option linter.all false
set_option maxRecDepth 100000
set_option maxHeartbeats 4000000
namespace VR
open PySem PySem.Spec PyProof.Rows L2 Vp
open Km457 (Valley at_ far)
open Km458 (table dist)
def natsV (l : List Nat) : List V := l.map fun (x : Nat) => V.int (x : Nat)
theorem natsV_at {l : List Nat} {i x : Nat} (h : l[i]? = some x) : (natsV l)[i]? = some (.int (x : Nat)) := by unfold natsV; rw [List.getElem?_map, h]; rfl
theorem natsV_len (l : List Nat) : (natsV l).length = l.length := by simp [natsV]
section
variable {P : Program} {w : World} {K : PySem.W.Frag} {mg : Str → Option Value} {base : Heap}
theorem foldl_bits : ∀ (l : List Nat) (a : Nat), ((l.foldl (fun w k => w + 2 ^ k) a : Nat) : Int) = (a : Int) + (l.map fun (n : Nat) => ((2 ^ n : Nat) : Int)).sum
  | [], a => by simp
  | x :: l, a => by rw [List.foldl_cons, foldl_bits l, List.map_cons, List.sum_cons]; omega
theorem sum_msk {l : List Nat} (h : l.Nodup) : (l.map fun (n : Nat) => ((2 ^ n : Nat) : Int)).sum = ((msk l : Nat) : Int) := by
  rw [← bits_msk h]
  have := foldl_bits l 0
  unfold Km458.bits
  rw [this]; simp
theorem scSetOf : FnScope ["numbers", "v"] ["numbers"] (defScope sSetOf) := ⟨rfl, rfl, rfl, by decide +kernel, rfl, by decide +kernel, by decide +kernel⟩
def spSetOf (K : PySem.W.Frag) : Sp := fun vs H Q _ => ∃ (a : Addr) (ns : List Nat), vs = [.ref a] ∧ SqL K H a (natsV ns) ∧ (∀ n ∈ ns, n ≤ 10) ∧ ns.length ≤ 10 ∧ ns.Nodup ∧ ∀ H', Same H H' → Q (.int (msk ns : Nat)) H'
theorem ok_setOf {f : Addr} {fd : FuncData} (F : Fun K "set_of" "set_of" sSetOf f fd) (G : Bare mg) : FnOk P w K mg base CX0 1 f fd ["numbers"] (spSetOf K) := by
  refine F.ok scSetOf (fun vs H Q E h => ?_) (fun cdv A outer s H vs Q E hr h => ?_)
  · obtain ⟨a, ns, rfl, _⟩ := h
    rfl
  · obtain ⟨a, ns, rfl, ha, hle, hl, hnd, k⟩ := h
    refine ⟨_, pss_one (ps_ret (pe_callB (cr_sum rfl) (by rfl) G.sm (by decide +kernel) (pa_cons (pe_lc (own := [("v", 1)]) rfl scSetOf.nd (pi_list (pv 0)) (blkOk_by (show blkC ["numbers", "v"] (defScope sSetOf) _ _ = true by decide +kernel))
      (fun _ _ _ _ _ => pg_name (i := 1) scSetOf.nd rfl (Or.inl rfl)) (fun _ _ _ _ _ => pts_nil)
      (fun _ _ _ _ _ => pe_op op_shl pe_int (pv 1))) pa_nil))), ?_⟩
    refine ⟨_, rfl, a, rfl, ⟨_, ha⟩, fun d hd => ?_⟩
    refine lc_list (K := K) (a := a) (xs := natsV ns) (fun j H' => Same H H' ∧ H' d = some (.lst (((ns.take j).map fun (n : Nat) => ((2 ^ n : Nat) : Int)).map V.int))) ⟨(Same.refl H).add hd, upd_same⟩ (fun i H' _ ⟨s1, _⟩ => s1.seq ha) ?_ ?_
    · rintro j x H' hx ⟨s1, hd1⟩
      obtain ⟨n, hn, rfl⟩ : ∃ n, ns[j]? = some n ∧ x = V.int (n : Nat) := by
        unfold natsV at hx
        rw [List.getElem?_map] at hx
        cases e : ns[j]? with
        | none => rw [e] at hx; cases hx
        | some a => rw [e] at hx; exact ⟨a, rfl, (Option.some.inj hx).symm⟩
      have hj : j < ns.length := by obtain ⟨h1, _⟩ := List.getElem?_eq_some_iff.mp hn; omega
      have hn10 : n ≤ 10 := hle n (List.mem_of_getElem? hn)
      refine ⟨rfl, ?_⟩
      dsimp only [tYes]
      rw [if_pos rfl]
      refine ⟨_, rfl, _, _, rfl, rfl, ⟨by omega, by omega, by decide⟩, _, hd1, by rw [List.length_map, List.length_map, List.length_take]; exact small1000 (by omega), fun b o e => ?_, ?_⟩
      · rw [upd_ne (ne_of_none e hd)]; exact s1 b o e
      · rw [upd_same, List.take_add_one, hn]
        dsimp only
        rw [one_shl]
        simp
    · rintro H' ⟨s1, hd1⟩
      refine ⟨d, _, rfl, SqL.of hd1, ?_⟩
      have e : ns.take (natsV ns).length = ns := by rw [natsV_len, List.take_length]
      rw [e, sum_msk hnd]
      exact k H' s1
theorem scBall : FnScope ["row", "r", "v"] ["row", "r"] (defScope sBall) := ⟨rfl, rfl, rfl, by decide +kernel, rfl, by decide +kernel, by decide +kernel⟩
def spBall (K : PySem.W.Frag) : Sp := fun vs H Q _ => ∃ (a : Addr) (ds : List Nat) (r : Nat), vs = [.ref a, .int r] ∧ SqL K H a (natsV ds) ∧ ds.length ≤ 10 ∧ ∀ H', Same H H' → Q (.int (msk ((List.range ds.length).filter fun w => decide (ds.getD w 0 ≤ r)) : Nat)) H'
theorem natsV_snoc (l : List Nat) (n : Nat) : natsV (l ++ [n]) = natsV l ++ [V.int (n : Nat)] := by simp [natsV]
theorem filter_len {n : Nat} {p : Nat → Bool} : ((List.range n).filter p).length ≤ n := by
  have := List.length_filter_le p (List.range n)
  simpa using this
theorem range_filter_succ {n : Nat} {p : Nat → Bool} : (List.range (n + 1)).filter p = (List.range n).filter p ++ (if p n = true then [n] else []) := by
  rw [List.range_succ, List.filter_append]
  congr 1
  by_cases h : p n = true
  · rw [if_pos h, List.filter_cons, if_pos h]; rfl
  · rw [if_neg h, List.filter_cons, if_neg h]; rfl
theorem ok_ball {f fS : Addr} {fd fdS : FuncData} (F : Fun K "ball" "ball" sBall f fd) (G : Bare mg) (FS : Fun K "set_of" "set_of" sSetOf fS fdS) (mS : mg "set_of" = some (.ref fS)) (bS : Binds K fdS ["numbers"] []) : FnOk P w K mg base CX0 2 f fd ["row", "r"] (spBall K) := by
  have GS : FnOk P w K mg base CX0 1 fS fdS ["numbers"] (spSetOf K) := ok_setOf FS G
  refine F.ok scBall (fun vs H Q E h => ?_) (fun cdv A outer s H vs Q E hr h => ?_)
  · obtain ⟨a, ds, r, rfl, _⟩ := h
    rfl
  · obtain ⟨a, ds, r, rfl, ha, hl, k⟩ := h
    refine ⟨_, pss_one (ps_ret (pe_call GS hr rfl mS FS.kp bS .nil pass0 (pa_cons (pe_lc (own := [("v", 2)]) rfl scBall.nd (pi_range1 rfl G.range (pa_cons (pe_callB call_len_seq (by rfl) G.len PySem.boot_len (pa_cons (pv 0) pa_nil)) pa_nil)) (blkOk_by (show blkC ["row", "r", "v"] (defScope sBall) _ _ = true by decide +kernel))
      (fun _ _ _ _ _ => pg_name (i := 2) scBall.nd rfl (Or.inl rfl)) (fun _ _ _ _ _ => pts_one (pt_cmpR op_le (pe_ix (ixL (K := K) rfl) (pv 0) (pv 2) (fun _ _ => rfl)) (pv 1) (nomark _)))
      (fun _ _ _ _ _ => pv 2)) pa_nil))), ?_⟩
    refine ⟨_, rfl, a, _, rfl, .inl ha, _, rfl, by omega, by rw [natsV_len]; omega, fun d hd => ?_⟩
    refine lc_range (lo := 0) (n := ((natsV ds).length : Int).toNat) (fun j H' => Same H H' ∧ H' d = some (.lst (natsV ((List.range j).filter fun w => decide (ds.getD w 0 ≤ r))))) ⟨(Same.refl H).add hd, upd_same⟩ ?_ ?_
    · rintro j H' hj ⟨s1, hd1⟩
      have hj : j < ds.length := by rw [Int.toNat_natCast, natsV_len] at hj; exact hj
      have hg : ds[j]? = some (ds.getD j 0) := by rw [List.getD_eq_getElem?_getD, List.getElem?_eq_getElem hj]; rfl
      have ez : (0 : Int) + (j : Nat) = ((j : Nat) : Int) := by omega
      refine ⟨rfl, ?_⟩
      refine ⟨_, rfl, _, rfl, a, _, _, _, rfl, rfl, s1.seq ha, at_of ez (natsV_at hg), _, rfl, _, _, rfl, rfl, _, rfl, ?_⟩
      refine ite2 (fun hc => ?_) (fun hc => ?_)
      · have hc : ds.getD j 0 ≤ r := by simp only [decide_eq_true_eq] at hc; omega
        refine ⟨_, rfl, _, hd1, by rw [natsV_len]; exact small1000 (Nat.le_trans filter_len (by omega)), fun b o e => ?_, ?_⟩
        · rw [upd_ne (ne_of_none e hd)]; exact s1 b o e
        · rw [upd_same, range_filter_succ, if_pos (decide_eq_true hc), natsV_snoc, ez]
      · have hc : ¬ ds.getD j 0 ≤ r := by simp only [decide_eq_true_eq] at hc; omega
        refine ⟨s1, ?_⟩
        rw [range_filter_succ, if_neg (fun z => hc (of_decide_eq_true z)), List.append_nil]
        exact hd1
    · rintro H' ⟨s1, hd1⟩
      rw [Int.toNat_natCast, natsV_len] at hd1
      refine ⟨d, _, rfl, SqL.of hd1, fun n hn => ?_, Nat.le_trans filter_len hl, List.nodup_range.filter _, fun H2 s2 => k H2 (s1.trans s2)⟩
      have := (List.mem_filter.mp hn).1
      simp at this
      omega
theorem ball_row {s : Valley} {v r : Nat} (hv : v < s.length) : msk ((List.range ((List.range s.length).map fun w => far s v w).length).filter fun w => decide (((List.range s.length).map fun w => far s v w).getD w 0 ≤ r)) = ballOf (table s) r v := by
  unfold ballOf
  rw [List.length_map, List.length_range, table_length]
  congr 1
  apply List.filter_congr
  intro x hx
  have hx : x < s.length := by simpa using hx
  rw [dist_eq hv hx]
  simp [List.getD_eq_getElem?_getD, hx]
theorem rowV_eq (s : Valley) (v : Nat) : rowV s v = natsV ((List.range s.length).map fun w => far s v w) := by simp [rowV, natsV]
theorem scBalls : FnScope ["table", "r", "row"] ["table", "r"] (defScope sBalls) := ⟨rfl, rfl, rfl, by decide +kernel, rfl, by decide +kernel, by decide +kernel⟩
def spBalls : Sp := fun vs H Q _ => ∃ (t : Addr) (s : Valley) (r : Nat), vs = [.ref t, .int r] ∧ TabV H t s ∧ Ok s ∧ ∀ H' p, Same H H' → H p = none → H' p = some (.lst (natsV (ballsOf (table s) r))) → Q (.ref p) H'
theorem ok_balls {f fB : Addr} {fd fdB : FuncData} (F : Fun K "balls_of" "balls_of" sBalls f fd) (G : Bare mg) (GB : FnOk P w K mg base CX0 2 fB fdB ["row", "r"] (spBall K)) (mB : mg "ball" = some (.ref fB)) (kB : PySem.W.keepIn K (.ref fB) = true) (bB : Binds K fdB ["row", "r"] []) : FnOk P w K mg base CX0 3 f fd ["table", "r"] spBalls := by
  refine F.ok scBalls (fun vs H Q E h => ?_) (fun cdv A outer s H vs Q E hr h => ?_)
  · obtain ⟨t, s, r, rfl, _⟩ := h
    rfl
  · obtain ⟨t, sv, r, rfl, ⟨rows, ht, hl, hrow⟩, ok, k⟩ := h
    refine ⟨_, pss_one (ps_ret (pe_lc (own := [("row", 2)]) rfl scBalls.nd (pi_list (pv 0)) (blkOk_by (show blkC ["table", "r", "row"] (defScope sBalls) _ _ = true by decide +kernel))
      (fun _ _ _ _ _ => pg_name (i := 2) scBalls.nd rfl (Or.inl rfl)) (fun _ _ _ _ _ => pts_nil)
      (fun _ _ _ _ _ => pe_call GB hr rfl mB kB bB .nil pass0 (pa_cons (pv 2) (pa_cons (pv 1) pa_nil))))), ?_⟩
    have hle := ok.le
    refine ⟨_, rfl, t, rfl, ⟨_, SqL.of ht⟩, fun d hd => ?_⟩
    refine lc_list (K := K) (a := t) (xs := rows.map V.ref) (fun j H' => Same H H' ∧ H' d = some (.lst (natsV ((List.range j).map (ballOf (table sv) r))))) ⟨(Same.refl H).add hd, upd_same⟩ (fun i H' _ ⟨s1, _⟩ => SqL.of (s1 _ _ ht)) ?_ ?_
    · rintro j x H' hx ⟨s1, hd1⟩
      obtain ⟨rw', hrw, rfl⟩ : ∃ a, rows[j]? = some a ∧ x = V.ref a := by
        rw [List.getElem?_map] at hx
        cases e : rows[j]? with
        | none => rw [e] at hx; cases hx
        | some a => rw [e] at hx; exact ⟨a, rfl, (Option.some.inj hx).symm⟩
      have hj : j < sv.length := by obtain ⟨h1, _⟩ := List.getElem?_eq_some_iff.mp hrw; omega
      refine ⟨rfl, ?_⟩
      dsimp only [tYes]
      rw [if_pos rfl]
      refine ⟨_, rfl, _, rfl, rw', _, r, rfl, SqL.of (by rw [← rowV_eq]; exact s1 _ _ (hrow j rw' hrw)), by simp; exact hle, fun H2 s2 => ?_⟩
      rw [ball_row hj]
      refine ⟨_, s2 _ _ hd1, by rw [natsV_len, List.length_map, List.length_range]; exact small1000 (by omega), fun b o e => ?_, ?_⟩
      · rw [upd_ne (ne_of_none e hd)]; exact s2 b o (s1 b o e)
      · rw [upd_same, List.range_succ, List.map_append]; simp [natsV]
    · rintro H' ⟨s1, hd1⟩
      rw [List.length_map, hl] at hd1
      refine k H' d s1 hd ?_
      rw [hd1]
      unfold ballsOf
      rw [table_length]
theorem scLeast : FnScope ["villages", "v"] ["villages"] (defScope sLeastOf) := ⟨rfl, rfl, rfl, by decide +kernel, rfl, by decide +kernel, by decide +kernel⟩
def spLeastOf : Sp := fun vs H Q _ => ∃ p : Nat, vs = [.int p] ∧ p ≠ 0 ∧ ∀ v : Nat, p.testBit v = true → (∀ u, u < v → p.testBit u = false) → Q (.int (v : Nat)) H
theorem ok_leastOf {f fH : Addr} {fd fdH : FuncData} (F : Fun K "least_of" "least_of" sLeastOf f fd) (FH : Fun K "has" "has" sHas fH fdH) (mH : mg "has" = some (.ref fH)) (bH : Binds K fdH ["villages", "v"] []) : FnOk P w K mg base CX0 2 f fd ["villages"] spLeastOf := by
  have GH : FnOk P w K mg base CX0 1 fH fdH ["villages", "v"] spHas := ok_has FH
  refine F.ok scLeast (fun vs H Q E h => ?_) (fun cdv A outer s H vs Q E hr h => ?_)
  · obtain ⟨p, rfl, _⟩ := h
    rfl
  · obtain ⟨p, rfl, h0, k⟩ := h
    refine ⟨_, pss_cons (ps_set (i := 1) scLeast.nd rfl (Or.inl rfl) pe_int) (pss_cons (ps_while PassesOwn.never (pt_not (pt_val (pe_call GH hr rfl mH FH.kp bH .nil pass0 (pa_cons (pv 0) (pa_cons (pv 1) pa_nil)))))
      (pss_one (ps_set (i := 1) scLeast.nd rfl (Or.inl rfl) (pe_op op_add (pv 1) pe_int)))) (pss_one (ps_ret (pv 1)))), ?_⟩
    obtain ⟨m, hm⟩ : ∃ m, p.testBit m = true := Nat.exists_testBit_of_ne_zero h0
    dsimp only [tSeq, tAsg, tC, gName]
    show tWhile _ _ _ [some (V.int (p : Nat)), some (V.int ((0 : Nat) : Int))] H
    refine while_by (fun σ H' => H' = H ∧ ∃ v : Nat, σ = [some (.int p), some (.int v)] ∧ (∀ u, u < v → p.testBit u = false)) (fun σ _ => match σ with | [_, some (.int x)] => m - x.toNat | _ => 0) ⟨rfl, 0, rfl, fun u hu => by omega⟩ ?_ ?_
    · rintro σ H' ⟨rfl, v, rfl, hb⟩
      refine ⟨_, rfl, _, rfl, p, v, rfl, _, rfl, ?_⟩
      cases hv : p.testBit v with
      | true => exact ⟨_, rfl, k v hv hb⟩
      | false =>
        have hvm : v ≤ m := by
          rcases Nat.lt_or_ge m v with q | q
          · rw [hb m q] at hm; cases hm
          · exact q
        have hne : v ≠ m := fun e => by rw [e, hm] at hv; cases hv
        refine goT rfl ?_
        refine ⟨_, rfl, _, _, rfl, rfl, ⟨rfl, v + 1, rfl, fun u hu => ?_⟩, ?_⟩
        · rcases Nat.lt_or_ge u v with q | q
          · exact hb u q
          · have : u = v := by omega
            rw [this]; exact hv
        · show m - (((v : Nat) : Int) + 1).toNat < m - ((v : Nat) : Int).toNat
          omega
    · rintro σ H' Q1 Q2 hq ⟨v1, h1, v2, h2, p', v', h3, c, h4, h5⟩
      exact ⟨v1, h1, v2, h2, p', v', h3, c, h4, hq _ _ h5⟩
theorem scServed : FnScope ["balls", "posts", "villages", "v"] ["balls", "posts"] (defScope sServed) := ⟨rfl, rfl, rfl, by decide +kernel, rfl, by decide +kernel, by decide +kernel⟩
def spServed (K : PySem.W.Frag) : Sp := fun vs H Q _ => ∃ (a : Addr) (B : List Nat) (p : Nat), vs = [.ref a, .int p] ∧ SqL K H a (natsV B) ∧ B.length ≤ 10 ∧ Q (.int (psv B p : Nat)) H
theorem ok_served {f fH : Addr} {fd fdH : FuncData} (F : Fun K "served" "served" sServed f fd) (G : Bare mg) (FH : Fun K "has" "has" sHas fH fdH) (mH : mg "has" = some (.ref fH)) (bH : Binds K fdH ["villages", "v"] []) : FnOk P w K mg base CX0 2 f fd ["balls", "posts"] (spServed K) := by
  have GH : FnOk P w K mg base CX0 1 fH fdH ["villages", "v"] spHas := ok_has FH
  refine F.ok scServed (fun vs H Q E h => ?_) (fun cdv A outer s H vs Q E hr h => ?_)
  · obtain ⟨a, B, p, rfl, _⟩ := h
    rfl
  · obtain ⟨a, B, p, rfl, ha, hl, k⟩ := h
    refine ⟨_, pss_cons (ps_set (i := 2) scServed.nd rfl (Or.inl rfl) pe_int)
      (pss_cons (ps_for PassesOwn.never rfl (pi_range1 rfl G.range (pa_cons (pe_callB call_len_seq (by rfl) G.len PySem.boot_len (pa_cons (pv 0) pa_nil)) pa_nil)) (pg_name (i := 3) scServed.nd rfl (Or.inl rfl))
        (pss_one (ps_if (pt_val (pe_call GH hr rfl mH FH.kp bH .nil pass0 (pa_cons (pv 1) (pa_cons (pv 3) pa_nil)))) (pss_one (ps_set (i := 2) scServed.nd rfl (Or.inl rfl) (pe_op op_or (pv 2) (pe_ix ix_list (pv 0) (pv 3) (fun _ _ => rfl))))) pss_nil)))
      (pss_one (ps_ret (pv 2)))), ?_⟩
    refine ⟨_, rfl, a, _, rfl, .inl ha, _, rfl, by omega, by rw [natsV_len]; omega, for_range (lo := 0) (n := ((natsV B).length : Int).toNat)
      (fun i σ H' => H' = H ∧ ∃ x : Option V, σ = [some (.ref a), some (.int p), some (.int ((List.range i).foldl (fun a v => if p.testBit v = true then a ||| B.getD v 0 else a) 0 : Nat)), x]) ⟨rfl, none, rfl⟩ ?_ ?_⟩
    · rintro i σ H' hi ⟨rfl, x, rfl⟩
      have hi : i < B.length := by rw [Int.toNat_natCast, natsV_len] at hi; exact hi
      have hg : B[i]? = some (B.getD i 0) := by rw [List.getD_eq_getElem?_getD, List.getElem?_eq_getElem hi]; rfl
      refine ⟨_, rfl, _, rfl, p, i, by simp, _, rfl, ?_⟩
      refine ite2 (fun hc => ?_) (fun hc => ?_)
      · refine ⟨_, rfl, _, rfl, _, rfl, a, _, _, _, rfl, rfl, ha, at_of (by omega) (natsV_at hg), _, _, rfl, rfl, rfl, some (.int (0 + (i : Nat))), ?_⟩
        dsimp only
        rw [or_nn, List.range_succ, List.foldl_append, List.foldl_cons, if_pos hc, List.foldl_nil]
        rfl
      · refine ⟨rfl, some (.int (0 + (i : Nat))), ?_⟩
        rw [List.range_succ, List.foldl_append, List.foldl_cons, if_neg hc, List.foldl_nil]
        rfl
    · rintro σ H' ⟨rfl, x, rfl⟩
      rw [Int.toNat_natCast, natsV_len]
      exact ⟨_, rfl, k⟩
theorem scEvery : FnScope ["balls"] ["balls"] (defScope sEvery) := ⟨rfl, rfl, rfl, by decide +kernel, rfl, by decide +kernel, by decide +kernel⟩
def spEvery (K : PySem.W.Frag) : Sp := fun vs H Q _ => ∃ (a : Addr) (B : List Nat), vs = [.ref a] ∧ SqL K H a (natsV B) ∧ B.length ≤ 10 ∧ Q (.int (2 ^ B.length - 1 : Nat)) H
theorem every_int (n : Nat) : ((1 : Int) * 2 ^ ((n : Nat) : Int).toNat) - 1 = ((2 ^ n - 1 : Nat) : Int) := by
  rw [one_shl]
  have := Nat.two_pow_pos n
  omega
theorem ok_every {f : Addr} {fd : FuncData} (F : Fun K "everyone" "everyone" sEvery f fd) (G : Bare mg) : FnOk P w K mg base CX0 1 f fd ["balls"] (spEvery K) := by
  refine F.ok scEvery (fun vs H Q E h => ?_) (fun cdv A outer s H vs Q E hr h => ?_)
  · obtain ⟨a, B, rfl, _⟩ := h
    rfl
  · obtain ⟨a, B, rfl, ha, hl, k⟩ := h
    refine ⟨_, pss_one (ps_ret (pe_op op_sub (pe_op op_shl pe_int (pe_callB call_len_seq (by rfl) G.len PySem.boot_len (pa_cons (pv 0) pa_nil))) pe_int)), ?_⟩
    refine ⟨_, rfl, a, _, rfl, .inl ha, _, _, rfl, rfl, ⟨by omega, by rw [natsV_len]; omega, by decide⟩, _, _, rfl, rfl, ?_⟩
    dsimp only
    rw [every_int, natsV_len]
    exact k
theorem scServe : FnScope ["balls", "posts"] ["balls", "posts"] (defScope sServe) := ⟨rfl, rfl, rfl, by decide +kernel, rfl, by decide +kernel, by decide +kernel⟩
def spServe (K : PySem.W.Frag) : Sp := fun vs H Q _ => ∃ (a : Addr) (B : List Nat) (p : Nat), vs = [.ref a, .int p] ∧ SqL K H a (natsV B) ∧ B.length ≤ 10 ∧ Q (.bl (decide (psv B p = 2 ^ B.length - 1))) H
theorem int_eq (a b : Nat) : decide (V.int (a : Nat) = V.int (b : Nat)) = decide (a = b) := by
  rw [Bool.eq_iff_iff, decide_eq_true_eq, decide_eq_true_eq]
  exact ⟨fun e => by injection e with e; omega, fun e => by rw [e]⟩
theorem scUns : FnScope ["balls", "posts"] ["balls", "posts"] (defScope sUns) := ⟨rfl, rfl, rfl, by decide +kernel, rfl, by decide +kernel, by decide +kernel⟩
def spUns (K : PySem.W.Frag) : Sp := fun vs H Q _ => ∃ (a : Addr) (B : List Nat) (p : Nat), vs = [.ref a, .int p] ∧ SqL K H a (natsV B) ∧ B.length ≤ 10 ∧ Q (.int ((2 ^ B.length - 1) ^^^ psv B p : Nat)) H
theorem ok_uns {f fS fE : Addr} {fd fdS fdE : FuncData} (F : Fun K "unserved" "unserved" sUns f fd) (GS : FnOk P w K mg base CX0 2 fS fdS ["balls", "posts"] (spServed K)) (mS : mg "served" = some (.ref fS)) (kS : PySem.W.keepIn K (.ref fS) = true) (bS : Binds K fdS ["balls", "posts"] [])
    (GE : FnOk P w K mg base CX0 1 fE fdE ["balls"] (spEvery K)) (mE : mg "everyone" = some (.ref fE)) (kE : PySem.W.keepIn K (.ref fE) = true) (bE : Binds K fdE ["balls"] []) : FnOk P w K mg base CX0 3 f fd ["balls", "posts"] (spUns K) := by
  refine F.ok scUns (fun vs H Q E h => ?_) (fun cdv A outer s H vs Q E hr h => ?_)
  · obtain ⟨a, B, p, rfl, _⟩ := h
    rfl
  · obtain ⟨a, B, p, rfl, ha, hl, k⟩ := h
    refine ⟨_, pss_one (ps_ret (pe_op op_xor (pe_call GE (hr.mono (by decide)) rfl mE kE bE .nil pass0 (pa_cons (pv 0) pa_nil)) (pe_call GS hr rfl mS kS bS .nil pass0 (pa_cons (pv 0) (pa_cons (pv 1) pa_nil))))), ?_⟩
    refine ⟨_, rfl, a, B, rfl, ha, hl, _, rfl, _, rfl, a, B, p, rfl, ha, hl, _, _, rfl, rfl, ?_⟩
    dsimp only
    rw [xor_nn]
    exact k
theorem xor_zero {a b : Nat} : a ^^^ b = 0 ↔ b = a := by
  constructor
  · intro h
    apply Nat.eq_of_testBit_eq
    intro i
    have := congrArg (fun z => Nat.testBit z i) h
    simp only [Nat.testBit_xor, Nat.zero_testBit] at this
    revert this
    cases a.testBit i <;> cases b.testBit i <;> simp
  · rintro rfl; exact Nat.xor_self _
theorem ok_serve {f fU : Addr} {fd fdU : FuncData} (F : Fun K "serve_all" "serve_all" sServe f fd) (GU : FnOk P w K mg base CX0 3 fU fdU ["balls", "posts"] (spUns K)) (mU : mg "unserved" = some (.ref fU)) (kU : PySem.W.keepIn K (.ref fU) = true) (bU : Binds K fdU ["balls", "posts"] []) :
    FnOk P w K mg base CX0 4 f fd ["balls", "posts"] (spServe K) := by
  refine F.ok scServe (fun vs H Q E h => ?_) (fun cdv A outer s H vs Q E hr h => ?_)
  · obtain ⟨a, B, p, rfl, _⟩ := h
    rfl
  · obtain ⟨a, B, p, rfl, ha, hl, k⟩ := h
    refine ⟨_, pss_one (ps_ret (pe_cmpR op_eq (pe_call GU hr rfl mU kU bU .nil pass0 (pa_cons (pv 0) (pa_cons (pv 1) pa_nil))) pe_int (nomark _))), ?_⟩
    refine ⟨_, rfl, _, rfl, a, B, p, rfl, ha, hl, rfl, ?_⟩
    rw [show (V.int 0) = V.int ((0 : Nat) : Int) from rfl, int_eq, show decide ((2 ^ B.length - 1) ^^^ psv B p = 0) = decide (psv B p = 2 ^ B.length - 1) from decide_eq_decide.mpr xor_zero]
    exact k
theorem scIdle : FnScope ["balls", "posts", "v"] ["balls", "posts"] (defScope sIdle) := ⟨rfl, rfl, rfl, by decide +kernel, rfl, by decide +kernel, by decide +kernel⟩
def idleP (B : List Nat) (p v : Nat) : Bool := p.testBit v && decide (psv B (p ^^^ 2 ^ v) = 2 ^ B.length - 1)
def spIdle (K : PySem.W.Frag) : Sp := fun vs H Q _ => ∃ (a : Addr) (B : List Nat) (p : Nat), vs = [.ref a, .int p] ∧ SqL K H a (natsV B) ∧ B.length ≤ 10 ∧ ∀ H', Same H H' → Q (.int (msk ((List.range B.length).filter (idleP B p)) : Nat)) H'
theorem ok_idle {f fS fH fV : Addr} {fd fdS fdH fdV : FuncData} (F : Fun K "idle" "idle" sIdle f fd) (G : Bare mg) (GS : FnOk P w K mg base CX0 1 fS fdS ["numbers"] (spSetOf K)) (mS : mg "set_of" = some (.ref fS)) (kS : PySem.W.keepIn K (.ref fS) = true) (bS : Binds K fdS ["numbers"] [])
    (GH : FnOk P w K mg base CX0 1 fH fdH ["villages", "v"] spHas) (mH : mg "has" = some (.ref fH)) (kH : PySem.W.keepIn K (.ref fH) = true) (bH : Binds K fdH ["villages", "v"] [])
    (GV : FnOk P w K mg base CX0 4 fV fdV ["balls", "posts"] (spServe K)) (mV : mg "serve_all" = some (.ref fV)) (kV : PySem.W.keepIn K (.ref fV) = true) (bV : Binds K fdV ["balls", "posts"] []) :
    FnOk P w K mg base CX0 5 f fd ["balls", "posts"] (spIdle K) := by
  refine F.ok scIdle (fun vs H Q E h => ?_) (fun cdv A outer s H vs Q E hr h => ?_)
  · obtain ⟨a, B, p, rfl, _⟩ := h
    rfl
  · obtain ⟨a, B, p, rfl, ha, hl, k⟩ := h
    have hr1 : Room 1 _ := hr.mono (by decide)
    refine ⟨_, pss_one (ps_ret (pe_call GS hr1 rfl mS kS bS .nil pass0 (pa_cons (pe_lc (own := [("v", 2)]) rfl scIdle.nd (pi_range1 rfl G.range (pa_cons (pe_callB call_len_seq (by rfl) G.len PySem.boot_len (pa_cons (pv 0) pa_nil)) pa_nil)) (blkOk_by (show blkC ["balls", "posts", "v"] (defScope sIdle) _ _ = true by decide +kernel))
      (fun _ _ _ _ _ => pg_name (i := 2) scIdle.nd rfl (Or.inl rfl)) (fun _ _ _ _ _ => pts_one (PW.pt (pw_and (pt_val (pe_call GH hr1 rfl mH kH bH .nil pass0 (pa_cons (pv 1) (pa_cons (pv 2) pa_nil)))) (pw_and1 (pt_val (pe_call GV hr rfl mV kV bV .nil pass0 (pa_cons (pv 0) (pa_cons (pe_op op_xor (pv 1) (pe_op op_shl pe_int (pv 2))) pa_nil))))))))
      (fun _ _ _ _ _ => pv 2)) pa_nil))), ?_⟩
    refine ⟨_, rfl, a, _, rfl, .inl ha, _, rfl, by omega, by rw [natsV_len]; omega, fun d hd => ?_⟩
    refine lc_range (lo := 0) (n := ((natsV B).length : Int).toNat) (fun j H' => Same H H' ∧ H' d = some (.lst (natsV ((List.range j).filter (idleP B p))))) ⟨(Same.refl H).add hd, upd_same⟩ ?_ ?_
    · rintro j H' hj ⟨s1, hd1⟩
      have hj : j < B.length := by rw [Int.toNat_natCast, natsV_len] at hj; exact hj
      have ez : (0 : Int) + (j : Nat) = ((j : Nat) : Int) := by omega
      rw [ez]
      refine ⟨rfl, ?_⟩
      refine ⟨_, rfl, _, rfl, p, j, rfl, _, rfl, ?_⟩
      refine ite2 (fun hc => ?_) (fun hc => ?_)
      · refine ⟨_, rfl, _, rfl, _, rfl, _, _, rfl, rfl, ⟨by omega, by omega, by decide⟩, _, _, rfl, rfl, ?_⟩
        dsimp only
        rw [one_shl, xor_nn]
        refine ⟨a, B, p ^^^ 2 ^ j, rfl, s1.seq ha, hl, _, rfl, ?_⟩
        refine ite2 (fun hc2 => ?_) (fun hc2 => ?_)
        · refine ⟨_, rfl, _, hd1, by rw [natsV_len]; exact small1000 (Nat.le_trans filter_len (by omega)), fun b o e => ?_, ?_⟩
          · rw [upd_ne (ne_of_none e hd)]; exact s1 b o e
          · rw [upd_same, range_filter_succ, if_pos (by unfold idleP; rw [hc, hc2]; rfl), natsV_snoc]
        · refine ⟨s1, ?_⟩
          rw [range_filter_succ, if_neg (by unfold idleP; rw [hc, Bool.true_and]; exact hc2), List.append_nil]
          exact hd1
      · refine goF rfl ⟨s1, ?_⟩
        rw [range_filter_succ, if_neg (by unfold idleP; rw [Bool.eq_false_iff.mpr hc, Bool.false_and]; decide), List.append_nil]
        exact hd1
    · rintro H' ⟨s1, hd1⟩
      rw [Int.toNat_natCast, natsV_len] at hd1
      refine ⟨d, _, rfl, SqL.of hd1, fun n hn => ?_, Nat.le_trans filter_len hl, List.nodup_range.filter _, fun H2 s2 => k H2 (s1.trans s2)⟩
      have := (List.mem_filter.mp hn).1
      simp at this
      omega
theorem scWithin : FnScope ["balls", "villages", "near", "v"] ["balls", "villages"] (defScope sWithin) := ⟨rfl, rfl, rfl, by decide +kernel, rfl, by decide +kernel, by decide +kernel⟩
def wia (B : List Nat) (w i : Nat) : Nat := (List.range i).foldl (fun a v => if w.testBit v = true then a &&& B.getD v 0 else a) (2 ^ B.length - 1)
def spWithin (K : PySem.W.Frag) : Sp := fun vs H Q _ => ∃ (a : Addr) (B : List Nat) (w : Nat), vs = [.ref a, .int w] ∧ SqL K H a (natsV B) ∧ B.length ≤ 10 ∧ Q (.int (wia B w B.length : Nat)) H
theorem ok_within {f fH fE : Addr} {fd fdH fdE : FuncData} (F : Fun K "within_all" "within_all" sWithin f fd) (G : Bare mg)
    (GH : FnOk P w K mg base CX0 1 fH fdH ["villages", "v"] spHas) (mH : mg "has" = some (.ref fH)) (kH : PySem.W.keepIn K (.ref fH) = true) (bH : Binds K fdH ["villages", "v"] [])
    (GE : FnOk P w K mg base CX0 1 fE fdE ["balls"] (spEvery K)) (mE : mg "everyone" = some (.ref fE)) (kE : PySem.W.keepIn K (.ref fE) = true) (bE : Binds K fdE ["balls"] []) : FnOk P w K mg base CX0 2 f fd ["balls", "villages"] (spWithin K) := by
  refine F.ok scWithin (fun vs H Q E h => ?_) (fun cdv A outer s H vs Q E hr h => ?_)
  · obtain ⟨a, B, w', rfl, _⟩ := h
    rfl
  · obtain ⟨a, B, w', rfl, ha, hl, k⟩ := h
    refine ⟨_, pss_cons (ps_set (i := 2) scWithin.nd rfl (Or.inl rfl) (pe_call GE hr rfl mE kE bE .nil pass0 (pa_cons (pv 0) pa_nil)))
      (pss_cons (ps_for PassesOwn.never rfl (pi_range1 rfl G.range (pa_cons (pe_callB call_len_seq (by rfl) G.len PySem.boot_len (pa_cons (pv 0) pa_nil)) pa_nil)) (pg_name (i := 3) scWithin.nd rfl (Or.inl rfl))
        (pss_one (ps_if (pt_val (pe_call GH hr rfl mH kH bH .nil pass0 (pa_cons (pv 1) (pa_cons (pv 3) pa_nil)))) (pss_one (ps_set (i := 2) scWithin.nd rfl (Or.inl rfl) (pe_op op_and (pv 2) (pe_ix ix_list (pv 0) (pv 3) (fun _ _ => rfl))))) pss_nil)))
      (pss_one (ps_ret (pv 2)))), ?_⟩
    refine ⟨_, rfl, a, B, rfl, ha, hl, ?_⟩
    refine ⟨_, rfl, a, _, rfl, .inl ha, _, rfl, by omega, by rw [natsV_len]; omega, for_range (lo := 0) (n := ((natsV B).length : Int).toNat)
      (fun i σ H' => H' = H ∧ ∃ x : Option V, σ = [some (.ref a), some (.int w'), some (.int (wia B w' i : Nat)), x]) ⟨rfl, none, rfl⟩ ?_ ?_⟩
    · rintro i σ H' hi ⟨rfl, x, rfl⟩
      have hi : i < B.length := by rw [Int.toNat_natCast, natsV_len] at hi; exact hi
      have hg : B[i]? = some (B.getD i 0) := by rw [List.getD_eq_getElem?_getD, List.getElem?_eq_getElem hi]; rfl
      refine ⟨_, rfl, _, rfl, w', i, by simp, _, rfl, ?_⟩
      refine ite2 (fun hc => ?_) (fun hc => ?_)
      · refine ⟨_, rfl, _, rfl, _, rfl, a, _, _, _, rfl, rfl, ha, at_of (by omega) (natsV_at hg), _, _, rfl, rfl, rfl, some (.int (0 + (i : Nat))), ?_⟩
        dsimp only
        rw [and_nn]
        unfold wia
        rw [List.range_succ, List.foldl_append, List.foldl_cons, if_pos hc, List.foldl_nil]
        rfl
      · refine ⟨rfl, some (.int (0 + (i : Nat))), ?_⟩
        unfold wia
        rw [List.range_succ, List.foldl_append, List.foldl_cons, if_neg hc, List.foldl_nil]
        rfl
    · rintro σ H' ⟨rfl, x, rfl⟩
      rw [Int.toNat_natCast, natsV_len]
      exact ⟨_, rfl, k⟩
end
end VR
end
section
set_option linter.all false
namespace Vp
theorem minBy_spec {α : Type} (k : α → Nat) : ∀ (xs pre : List α) (b : α) (ib : Nat), pre[ib]? = some b → (∀ (j : Nat) c, pre[j]? = some c → k b ≤ k c ∧ (j < ib → k b < k c)) →
    ∃ i, (pre ++ xs)[i]? = some (minBy k b xs) ∧ ∀ (j : Nat) c, (pre ++ xs)[j]? = some c → k (minBy k b xs) ≤ k c ∧ (j < i → k (minBy k b xs) < k c)
  | [], pre, b, ib, h1, h2 => ⟨ib, by rw [List.append_nil]; exact h1, by rw [List.append_nil]; exact h2⟩
  | x :: xs, pre, b, ib, h1, h2 => by
    have e : pre ++ x :: xs = (pre ++ [x]) ++ xs := by simp
    rw [e]
    unfold minBy
    rw [List.foldl_cons]
    have hib : ib < pre.length := (List.getElem?_eq_some_iff.mp h1).1
    by_cases hx : k x < k b
    · rw [if_pos hx]
      refine minBy_spec k xs (pre ++ [x]) x pre.length (by simp) fun j c hc => ?_
      rw [List.getElem?_append] at hc
      split at hc
      · have := h2 j c hc
        exact ⟨by omega, fun _ => by omega⟩
      · obtain ⟨q1, q2⟩ := List.getElem?_eq_some_iff.mp hc
        simp at q1 q2
        subst q2
        exact ⟨Nat.le_refl _, fun h => by omega⟩
    · rw [if_neg hx]
      refine minBy_spec k xs (pre ++ [x]) b ib (by rw [List.getElem?_append_left hib]; exact h1) fun j c hc => ?_
      rw [List.getElem?_append] at hc
      split at hc
      · exact h2 j c hc
      · obtain ⟨q1, q2⟩ := List.getElem?_eq_some_iff.mp hc
        simp at q1 q2
        subst q2
        exact ⟨by omega, fun h => by omega⟩
theorem maxBy_spec {α : Type} (k : α → Nat) : ∀ (xs pre : List α) (b : α) (ib : Nat), pre[ib]? = some b → (∀ (j : Nat) c, pre[j]? = some c → k c ≤ k b ∧ (j < ib → k c < k b)) →
    ∃ i, (pre ++ xs)[i]? = some (maxBy k b xs) ∧ ∀ (j : Nat) c, (pre ++ xs)[j]? = some c → k c ≤ k (maxBy k b xs) ∧ (j < i → k c < k (maxBy k b xs))
  | [], pre, b, ib, h1, h2 => ⟨ib, by rw [List.append_nil]; exact h1, by rw [List.append_nil]; exact h2⟩
  | x :: xs, pre, b, ib, h1, h2 => by
    have e : pre ++ x :: xs = (pre ++ [x]) ++ xs := by simp
    rw [e]
    unfold maxBy
    rw [List.foldl_cons]
    have hib : ib < pre.length := (List.getElem?_eq_some_iff.mp h1).1
    by_cases hx : k b < k x
    · rw [if_pos hx]
      refine maxBy_spec k xs (pre ++ [x]) x pre.length (by simp) fun j c hc => ?_
      rw [List.getElem?_append] at hc
      split at hc
      · have := h2 j c hc
        exact ⟨by omega, fun _ => by omega⟩
      · obtain ⟨q1, q2⟩ := List.getElem?_eq_some_iff.mp hc
        simp at q1 q2
        subst q2
        exact ⟨Nat.le_refl _, fun h => by omega⟩
    · rw [if_neg hx]
      refine maxBy_spec k xs (pre ++ [x]) b ib (by rw [List.getElem?_append_left hib]; exact h1) fun j c hc => ?_
      rw [List.getElem?_append] at hc
      split at hc
      · exact h2 j c hc
      · obtain ⟨q1, q2⟩ := List.getElem?_eq_some_iff.mp hc
        simp at q1 q2
        subst q2
        exact ⟨by omega, fun h => by omega⟩
def keyAt {α : Type} (k : α → Nat) (l : List α) (i : Nat) : Int := (((l[i]?).map k).getD 0 : Nat)
theorem keyAt_of {α : Type} {k : α → Nat} {l : List α} {i : Nat} {x : α} (h : l[i]? = some x) : keyAt k l i = (k x : Nat) := by unfold keyAt; rw [h]; rfl
theorem first_min {α : Type} {k : α → Nat} {x w : α} {xs : List α} {i : Nat} (hw : (x :: xs)[i]? = some w) (h : L2.FirstMin (x :: xs).length (keyAt k (x :: xs)) i) : w = minBy k x xs := by
  obtain ⟨i0, e0, f0⟩ := minBy_spec k xs [x] x 0 rfl (fun j c hc => by
    cases j with
    | zero => simp at hc; subst hc; exact ⟨Nat.le_refl _, fun h => by omega⟩
    | succ j => simp at hc)
  have e0 : (x :: xs)[i0]? = some (minBy k x xs) := e0
  have f0 : ∀ (j : Nat) c, (x :: xs)[j]? = some c → k (minBy k x xs) ≤ k c ∧ (j < i0 → k (minBy k x xs) < k c) := f0
  have l0 := (List.getElem?_eq_some_iff.mp e0).1
  have l1 := (List.getElem?_eq_some_iff.mp hw).1
  have a := h i0 l0
  have b := f0 i w hw
  rw [keyAt_of hw, keyAt_of e0] at a
  have ei : i = i0 := by
    rcases Nat.lt_trichotomy i i0 with q | q | q
    · have := b.2 q; omega
    · exact q
    · have := a.2 q; omega
  subst ei
  rw [hw] at e0
  exact Option.some.inj e0
theorem first_max {α : Type} {k : α → Nat} {x w : α} {xs : List α} {i : Nat} (hw : (x :: xs)[i]? = some w) (h : L2.FirstMax (x :: xs).length (keyAt k (x :: xs)) i) : w = maxBy k x xs := by
  obtain ⟨i0, e0, f0⟩ := maxBy_spec k xs [x] x 0 rfl (fun j c hc => by
    cases j with
    | zero => simp at hc; subst hc; exact ⟨Nat.le_refl _, fun h => by omega⟩
    | succ j => simp at hc)
  have e0 : (x :: xs)[i0]? = some (maxBy k x xs) := e0
  have f0 : ∀ (j : Nat) c, (x :: xs)[j]? = some c → k c ≤ k (maxBy k x xs) ∧ (j < i0 → k c < k (maxBy k x xs)) := f0
  have l0 := (List.getElem?_eq_some_iff.mp e0).1
  have a := h i0 l0
  have b := f0 i w hw
  rw [keyAt_of hw, keyAt_of e0] at a
  have ei : i = i0 := by
    rcases Nat.lt_trichotomy i i0 with q | q | q
    · have := b.2 q; omega
    · exact q
    · have := a.2 q; omega
  subst ei
  rw [hw] at e0
  exact Option.some.inj e0
end Vp
end
section
set_option Elab.async false
set_option linter.all false
set_option maxRecDepth 100000
set_option maxHeartbeats 8000000
namespace VR
open PySem PySem.Spec PyProof.Rows L2 Vp
open Km457 (Valley at_ far)
open Km458 (table dist)
abbrev sMore : Stmt := top 15
abbrev sFew : Stmt := top 16
abbrev sLon : Stmt := top 17
abbrev sReach : Stmt := top 18
def lamQ (qual : Str) : Str := (qual ++ ".<locals>.") ++ "<lambda>"
structure FunT (K : PySem.W.Frag) (x qual : Str) (st : Stmt) (f : Addr) (fd : FuncData) (c P : Addr) : Prop where
  fn : Fun K x qual st f fd
  code : fd.code = .ref c
  hd : PySem.W.codeHdIn K c P = true
section
variable {P : Program} {w : World} {K : PySem.W.Frag} {mg : Str → Option Value} {base : Heap}
theorem FunT.ok {x qual : Str} {st : Stmt} {f c pt : Addr} {fd : FuncData} {N ps : List Str} {k : Nat} {sp : Sp} (F : FunT K x qual st f fd c pt) (S : FnScope N ps (defScope st)) (len : ∀ vs H Q E, sp vs H Q E → vs.length = ps.length)
    (hbody : ∀ (A : Around) (outer : List Env) (s : Shared) (H : Hp) (vs : List V) (Q : VK) (E : XK), Room k (A.deeper (envOfC qual (defScope st) s.heap.objs.size f (.ref c))) → sp vs H Q E →
      ∃ t, PSs (cxOf CX0 P w K mg base N qual (defScope st) f (.ref c) A outer s H E).nox (defBody st) t ∧ t { nx := fun _ H' => Q .non H', rt := Q } (start N vs) H) : FnOk P w K mg base CX0 (k + 1) f fd ps sp := by
  obtain ⟨⟨⟨oc, od, kV, doc, pm, an, cdv, ct, osl, rfl, lk, hcd⟩, _⟩, hc, _⟩ := F
  obtain rfl : cdv = .ref c := hc
  refine fn_of lk hcd S len fun A outer s H vs Q E hr hsp => ?_
  obtain ⟨t, h, q⟩ := hbody A outer s H vs Q E hr hsp
  exact ⟨t, h.nox, q⟩
def wayV (x : Way) : List V := [.int (x.count : Nat), .int (x.set : Nat), .int (x.seen : Nat)]
def WaysAt (H : Hp) (l : Addr) (ws : List Way) : Prop := ∃ as : List Addr, H l = some (.lst (as.map V.ref)) ∧ as.length = ws.length ∧ ∀ (i : Nat) a x, as[i]? = some a → ws[i]? = some x → H a = some (.tup (wayV x))
theorem WaysAt.same {H H' : Hp} {l : Addr} {ws : List Way} (h : WaysAt H l ws) (e : Same H H') : WaysAt H' l ws := by
  obtain ⟨as, h1, h2, h3⟩ := h
  exact ⟨as, e _ _ h1, h2, fun i a x p q => e _ _ (h3 i a x p q)⟩
theorem ways_snoc {H : Hp} {bs : List Addr} {ws : List Way} {b : Addr} {x : Way} (hl : bs.length = ws.length) (h : ∀ (i : Nat) a y, bs[i]? = some a → ws[i]? = some y → H a = some (.tup (wayV y))) (hb : H b = some (.tup (wayV x))) :
    ∀ (i : Nat) a y, (bs ++ [b])[i]? = some a → (ws ++ [x])[i]? = some y → H a = some (.tup (wayV y)) := by
  intro i a y h1 h2
  rw [List.getElem?_append] at h1 h2
  rw [hl] at h1
  split at h1
  · rename_i hi
    rw [if_pos hi] at h2
    exact h i a y h1 h2
  · rename_i hi
    rw [if_neg hi] at h2
    cases e : i - ws.length with
    | zero => rw [e] at h1 h2; simp at h1 h2; subst h1 h2; exact hb
    | succ n => rw [e] at h1; simp at h1
theorem ways_app {H : Hp} {as bs : List Addr} {ws vs : List Way} (hl : as.length = ws.length) (h : ∀ (i : Nat) a y, as[i]? = some a → ws[i]? = some y → H a = some (.tup (wayV y))) (h' : ∀ (i : Nat) a y, bs[i]? = some a → vs[i]? = some y → H a = some (.tup (wayV y))) :
    ∀ (i : Nat) a y, (as ++ bs)[i]? = some a → (ws ++ vs)[i]? = some y → H a = some (.tup (wayV y)) := by
  intro i a y h1 h2
  rw [List.getElem?_append] at h1 h2
  rw [hl] at h1
  split at h1
  · rename_i hi
    rw [if_pos hi] at h2
    exact h i a y h1 h2
  · rename_i hi
    rw [if_neg hi] at h2
    exact h' _ a y h1 h2
def wayWith (B : List Nat) (v : Nat) (x : Way) : Way := ⟨x.count + 1, x.set ||| 2 ^ v, x.seen ||| B.getD v 0⟩
def lMore : List (Pos × Str) := [(⟨62, 61, 62, 79⟩, lamQ "fewest_more")]
theorem scMore : FnScope ["balls", "posts", "ways", "v", "whole", "best", "way"] ["balls", "posts"] (defScope sMore) := ⟨rfl, rfl, rfl, by decide +kernel, rfl, by decide +kernel, by decide +kernel⟩
def spMore (K : PySem.W.Frag) (T : List Tb) : Sp := fun vs H Q _ => ∃ (a : Addr) (s : Valley) (r : Nat) (ps : List Nat), vs = [.ref a, .int (msk ps : Nat)] ∧ SqL K H a (natsV (ballsOf (table s) r)) ∧ Ok s ∧ (∀ p ∈ ps, p < s.length) ∧ Tabs T H ∧
  ∀ H' q, Kp T H H' → Tabs T H' → H q = none → H' q = some (.tup [.int ((Km458.add (table s) r ps).length : Nat), .int (msk (Km458.add (table s) r ps) : Nat)]) → Q (.ref q) H'
theorem lamScope : FnScope ["way"] ["way"] { kind := .function, names := [(Str.ofString "way", .local)], isGenerator := false, isCoroutine := false } := ⟨rfl, rfl, rfl, by decide +kernel, rfl, by decide +kernel, by decide +kernel⟩
theorem ok_more {f fS fE fH c pt : Addr} {fd fdS fdE fdH : FuncData} {T : List Tb} (F : FunT K "fewest_more" "fewest_more" sMore f fd c pt) (hB : BMain mg base) (hT : (⟨pt, lMore⟩ : Tb) ∈ T) (hd : ∀ u ∈ T, u.P = pt → u = ⟨pt, lMore⟩) (G : Bare mg)
    (GS : FnOk P w K mg base CX0 2 fS fdS ["balls", "posts"] (spServed K)) (mS : mg "served" = some (.ref fS)) (kS : PySem.W.keepIn K (.ref fS) = true) (bS : Binds K fdS ["balls", "posts"] [])
    (GE : FnOk P w K mg base CX0 1 fE fdE ["balls"] (spEvery K)) (mE : mg "everyone" = some (.ref fE)) (kE : PySem.W.keepIn K (.ref fE) = true) (bE : Binds K fdE ["balls"] [])
    (GH : FnOk P w K mg base CX0 1 fH fdH ["villages", "v"] spHas) (mH : mg "has" = some (.ref fH)) (kH : PySem.W.keepIn K (.ref fH) = true) (bH : Binds K fdH ["villages", "v"] []) :
    FnOk P w K mg base CX0 4 f fd ["balls", "posts"] (spMore K T) := by
  refine F.ok scMore (fun vs H Q E h => ?_) (fun A outer s H vs Q E hr h => ?_)
  · obtain ⟨a, s, r, ps, rfl, _⟩ := h
    rfl
  · obtain ⟨a, sv, r, ps, rfl, ha, ok, hps, hTb, k⟩ := h
    refine ⟨_, pss_cons (ps_set (i := 2) scMore.nd rfl (Or.inl rfl) (pe_lst (pa_cons (pe_tup (pa_cons pe_int (pa_cons pe_int (pa_cons (pe_call GS (hr.mono (by decide)) rfl mS kS bS .nil pass0 (pa_cons (pv 0) (pa_cons (pv 1) pa_nil))) pa_nil)))) pa_nil)))
      (pss_cons (ps_for PassesOwn.never rfl (pi_range3 rfl G.range (pa_cons (pe_op op_sub (pe_callB call_len_seq (by rfl) G.len PySem.boot_len (pa_cons (pv 0) pa_nil)) pe_int) (pa_cons (pe_un un_neg pe_int) (pa_cons (pe_un un_neg pe_int) pa_nil)))) (pg_name (i := 3) scMore.nd rfl (Or.inr rfl))
        (pss_one (ps_if (pt_not (pt_val (pe_call GH (hr.mono (by decide)) rfl mH kH bH .nil pass0 (pa_cons (pv 1) (pa_cons (pv 3) pa_nil)))))
          (pss_one (ps_set (i := 2) scMore.nd rfl (Or.inl rfl) (pe_op op_cat (pv 2) (pe_lc (own := [("way", 6)]) rfl scMore.nd (pi_list (pv 2)) (blkOk_by (show blkC ["balls", "posts", "ways", "v", "whole", "best", "way"] (defScope sMore) _ _ = true by decide +kernel))
            (fun _ _ _ _ _ => pg_name (i := 6) scMore.nd rfl (Or.inl rfl)) (fun _ _ _ _ _ => pts_nil)
            (fun _ _ _ _ _ => pe_tup (pa_cons (pe_op op_add (pe_ix (ixT (K := K) rfl) (pv 6) pe_int (fun _ _ => rfl)) pe_int) (pa_cons (pe_op op_or (pe_ix (ixT (K := K) rfl) (pv 6) pe_int (fun _ _ => rfl)) (pe_op op_shl pe_int (pv 3))) (pa_cons (pe_op op_or (pe_ix (ixT (K := K) rfl) (pv 6) pe_int (fun _ _ => rfl)) (pe_ix (ixL (K := K) rfl) (pv 0) (pv 3) (fun _ _ => rfl))) pa_nil))))))))
          pss_nil)))
      (pss_cons (ps_set (i := 4) scMore.nd rfl (Or.inr rfl) (pe_call GE (hr.mono (by decide)) rfl mE kE bE .nil pass0 (pa_cons (pv 0) pa_nil)))
      (pss_cons (ps_set (i := 5) scMore.nd rfl (Or.inl rfl) (pe_minLam (P := pt) (L := lMore) (k := 1) (tb := tOp (rIxT K) (tVar 0) (tC (V.int 0))) rfl rfl G.mn rfl F.hd hB (List.mem_singleton.mpr rfl) (fun q hq hne => absurd (List.mem_singleton.mp hq) hne) hr.in1 lamScope
        (pa_cons (pe_lc (own := [("way", 6)]) rfl scMore.nd (pi_list (pv 2)) (blkOk_by (show blkC ["balls", "posts", "ways", "v", "whole", "best", "way"] (defScope sMore) _ _ = true by decide +kernel))
            (fun _ _ _ _ _ => pg_name (i := 6) scMore.nd rfl (Or.inl rfl)) (fun _ _ _ _ _ => pts_one (pt_cmpR op_eq (pe_ix (ixT (K := K) rfl) (pv 6) pe_int (fun _ _ => rfl)) (pv 4) (nomark _))) (fun _ _ _ _ _ => pv 6)) pa_nil)
        (fun _ _ _ _ => pe_ix (ixT (K := K) rfl) (pv 0) pe_int (fun _ _ => rfl))))
      (pss_one (ps_ret (pe_tup (pa_cons (pe_ix (ixT (K := K) rfl) (pv 5) pe_int (fun _ _ => rfl)) (pa_cons (pe_ix (ixT (K := K) rfl) (pv 5) pe_int (fun _ _ => rfl)) pa_nil)))))))), ?_⟩
    have hle := ok.le
    have hBl : (ballsOf (table sv) r).length = sv.length := by rw [ballsOf_length, table_length]
    have hB10 : (ballsOf (table sv) r).length ≤ 10 := by omega
    generalize hBe : ballsOf (table sv) r = B at ha hBl hB10
    have hpos := ok.pos
    refine ⟨_, rfl, _, rfl, a, _, _, rfl, ha, hB10, (by show 3 ≤ sizeLine; decide), fun p0 hp0 => ?_⟩
    refine ⟨(by show 1 ≤ sizeLine; decide), fun l0 hl0 => ?_⟩
    have s0 : Same H (upd (upd H p0 (.tup (wayV ⟨0, 0, psv B (msk ps)⟩))) l0 (.lst [.ref p0])) := ((Same.refl H).add hp0).add hl0
    have n0 : p0 ≠ l0 := ne_of_none (upd_same (H := H) (a := p0) (o := .tup (wayV ⟨0, 0, psv B (msk ps)⟩))) hl0
    refine ⟨_, rfl, a, _, rfl, .inl (s0.seq ha), _, _, rfl, rfl, _, rfl, _, rfl, _, _, _, _, rfl, RgC.neg (by rw [natsV_len]; omega) (by rw [natsV_len]; omega) (by decide) (by decide), ?_⟩
    have en : (((natsV B).length : Int) - 1 - -1).toNat = sv.length := by rw [natsV_len, hBl]; omega
    refine for_rangeC (n := (((natsV B).length : Int) - 1 - -1).toNat) (fun i σ H' => ∃ (l : Addr) (x3 : Option V), σ = [some (.ref a), some (.int (msk ps : Nat)), some (.ref l), x3, none, none, none] ∧ Same H H' ∧ WaysAt H' l (waysAt B (psv B (msk ps)) sv.length (msk ps) i))
      ⟨l0, none, rfl, s0, [p0], upd_same, by rw [waysAt_zero]; rfl, fun i b x h1 h2 => ?_⟩ ?_ ?_
    · rw [waysAt_zero] at h2
      cases i with
      | zero =>
        simp at h1 h2
        subst h1 h2
        rw [upd_ne n0]
        exact upd_same
      | succ i => simp at h1
    · rintro i σ H1 hi ⟨l, x3, rfl, s1, as, hl1, hll, hw⟩
      rw [en] at hi
      have ev : ((natsV B).length : Int) - 1 + (i : Nat) * -1 = ((sv.length - 1 - i : Nat) : Int) := by rw [natsV_len, hBl]; omega
      refine ⟨_, rfl, _, rfl, msk ps, sv.length - 1 - i, by simp only [List.append_nil]; rw [← ev], _, rfl, ?_⟩
      cases hb : (msk ps).testBit (sv.length - 1 - i) with
      | true =>
        refine goF rfl ?_
        exact ⟨l, _, rfl, s1, as, hl1, by rw [waysAt_keep hi hb]; exact hll, fun i' b x h1 h2 => by rw [waysAt_keep hi hb] at h2; exact hw i' b x h1 h2⟩
      | false =>
        refine goT rfl ?_
        refine ⟨_, rfl, _, rfl, l, rfl, ⟨_, SqL.of hl1⟩, fun D hD => ?_⟩
        have hn1 : (waysAt B (psv B (msk ps)) sv.length (msk ps) i).length ≤ 1024 := waysAt_length _ _ _ _ _ hle
        generalize hws : waysAt B (psv B (msk ps)) sv.length (msk ps) i = ws at hll hw hn1
        have hvB : sv.length - 1 - i < B.length := by omega
        have hgB : B[sv.length - 1 - i]? = some (B.getD (sv.length - 1 - i) 0) := by rw [List.getD_eq_getElem?_getD, List.getElem?_eq_getElem hvB]; rfl
        refine lc_list (K := K) (a := l) (xs := as.map V.ref) (fun j H' => Same H1 H' ∧ ∃ bs : List Addr, H' D = some (.lst (bs.map V.ref)) ∧ bs.length = ((ws.map (wayWith B (sv.length - 1 - i))).take j).length ∧ ∀ (i' : Nat) b x, bs[i']? = some b → ((ws.map (wayWith B (sv.length - 1 - i))).take j)[i']? = some x → H' b = some (.tup (wayV x)))
          ⟨(Same.refl H1).add hD, [], upd_same, by simp, fun i' b x h1 h2 => by simp at h1⟩ (fun j H' _ ⟨s2, _⟩ => SqL.of (s2 _ _ hl1)) ?_ ?_
        · rintro j x H2 hx ⟨s2, bs, hD2, hbl, hbw⟩
          obtain ⟨aj, haj, rfl⟩ := lst_ref hx
          have hj : j < ws.length := by obtain ⟨h1, _⟩ := List.getElem?_eq_some_iff.mp haj; omega
          obtain ⟨y, hy⟩ : ∃ y, ws[j]? = some y := ⟨_, List.getElem?_eq_getElem hj⟩
          have hyt : H2 aj = some (.tup (wayV y)) := s2 _ _ (hw j aj y haj hy)
          refine ⟨rfl, ?_⟩
          dsimp only [tYes]
          rw [if_pos rfl]
          refine ⟨_, rfl, aj, _, _, _, rfl, rfl, SqT.of hyt, rfl, _, _, rfl, rfl, ?_⟩
          refine ⟨_, rfl, aj, _, _, _, rfl, rfl, SqT.of hyt, rfl, _, rfl, _, _, rfl, rfl, ⟨by omega, by rw [ev]; omega, by decide⟩, _, _, rfl, rfl, ?_⟩
          refine ⟨_, rfl, aj, _, _, _, rfl, rfl, SqT.of hyt, rfl, _, rfl, _, rfl, a, _, _, _, rfl, rfl, (s1.trans s2).seq ha, at_of ev (natsV_at hgB), _, _, rfl, rfl, ?_⟩
          refine ⟨(by show 3 ≤ sizeLine; decide), fun p hp => ?_⟩
          have nDp : D ≠ p := ne_of_none hD2 hp
          refine ⟨_, by rw [upd_ne nDp]; exact hD2, ?_, ?_, ?_⟩
          · rw [List.length_map, hbl, List.length_take, List.length_map]
            exact Nat.lt_of_le_of_lt (Nat.min_le_right _ _) (Nat.lt_of_le_of_lt hn1 (by show 1024 < sizeLine; decide))
          · intro b o e
            rw [upd_ne (ne_of_none e hD), upd_ne (ne_of_none (s2 b o e) hp)]; exact s2 b o e
          · have ep : [V.int ((y.count : Nat) + 1), V.int (Builtin.bitOr (y.set : Nat) (1 * 2 ^ (((natsV B).length : Int) - 1 + (i : Nat) * -1).toNat)), V.int (Builtin.bitOr (y.seen : Nat) (B.getD (sv.length - 1 - i) 0 : Nat))] = wayV (wayWith B (sv.length - 1 - i) y) := by
              rw [ev, one_shl, or_nn, or_nn]; rfl
            have ht : (ws.map (wayWith B (sv.length - 1 - i))).take (j + 1) = (ws.map (wayWith B (sv.length - 1 - i))).take j ++ [wayWith B (sv.length - 1 - i) y] := by
              rw [List.take_succ, List.getElem?_map, hy]; rfl
            refine ⟨bs ++ [p], by rw [upd_same, List.map_append]; rfl, by rw [ht, List.length_append, List.length_append, hbl]; rfl, ?_⟩
            rw [ht]
            refine ways_snoc hbl (fun i' b x h1 h2 => ?_) ?_
            · have q := hbw i' b x h1 h2
              rw [upd_ne (ne_of q hD2 (by intro z; cases z)), upd_ne (ne_of_none q hp)]; exact q
            · rw [upd_ne (Ne.symm nDp), upd_same]
              exact congrArg (fun z => some (HO.tup z)) ep
        · rintro H2 ⟨s2, bs, hD2, hbl, hbw⟩
          rw [List.length_map, hll, List.take_of_length_le (by simp)] at hbl hbw
          refine ⟨l, D, _, _, rfl, rfl, s2 _ _ hl1, hD2, ?_, fun p hp => ?_⟩
          · rw [List.length_map, List.length_map, hbl, hll, List.length_map]
            exact Nat.le_trans (Nat.add_le_add hn1 hn1) (by show 2048 ≤ sizeLine; decide)
          · have hst : waysAt B (psv B (msk ps)) sv.length (msk ps) (i + 1) = ws ++ ws.map (wayWith B (sv.length - 1 - i)) := by rw [waysAt_step hi hb, hws]; rfl
            refine ⟨p, _, rfl, (s1.trans s2).add hp, as ++ bs, by rw [upd_same, List.map_append], by rw [hst, List.length_append, List.length_append, hll, hbl], ?_⟩
            rw [hst]
            refine ways_app hll (fun i' b x h1 h2 => ?_) (fun i' b x h1 h2 => ?_)
            · have q := s2 _ _ (hw i' b x h1 h2)
              rw [upd_ne (ne_of_none q hp)]; exact q
            · have q := hbw i' b x h1 h2
              rw [upd_ne (ne_of_none q hp)]; exact q
    · rintro σ H1 ⟨l, x3, rfl, s1, as, hl1, hll, hw⟩
      rw [en] at hll hw
      refine ⟨_, rfl, a, B, rfl, s1.seq ha, hB10, ?_⟩
      refine ⟨_, rfl, l, rfl, ⟨_, SqL.of hl1⟩, fun D hD => ?_⟩
      have hn1 : (waysAt B (psv B (msk ps)) sv.length (msk ps) sv.length).length ≤ 1024 := waysAt_length _ _ _ _ _ hle
      obtain ⟨x0, xs0, hpick, hmin⟩ := pick_fewest (t := table sv) (r := r) (ps := ps) (by rw [table_length]; exact hps) (fun v hv => by rw [table_length] at hv; rw [dist_eq hv hv, far_self ok hv]; exact Nat.zero_le _)
      rw [hBe, table_length] at hpick
      rw [hBe] at hmin
      generalize hws : waysAt B (psv B (msk ps)) sv.length (msk ps) sv.length = ws at hll hw hn1 hpick
      refine lc_list (K := K) (a := l) (xs := as.map V.ref) (fun j H' => Same H1 H' ∧ ∃ bs : List Addr, H' D = some (.lst (bs.map V.ref)) ∧ bs.length = ((ws.take j).filter fun x => x.seen == 2 ^ sv.length - 1).length ∧ ∀ (i' : Nat) b x, bs[i']? = some b → ((ws.take j).filter fun x => x.seen == 2 ^ sv.length - 1)[i']? = some x → H' b = some (.tup (wayV x)))
        ⟨(Same.refl H1).add hD, [], upd_same, by simp, fun i' b x h1 h2 => by simp at h1⟩ (fun j H' _ ⟨s2, _⟩ => SqL.of (s2 _ _ hl1)) ?_ ?_
      · rintro j x H2 hx ⟨s2, bs, hD2, hbl, hbw⟩
        obtain ⟨aj, haj, rfl⟩ := lst_ref hx
        have hj : j < ws.length := by obtain ⟨h1, _⟩ := List.getElem?_eq_some_iff.mp haj; omega
        obtain ⟨y, hy⟩ : ∃ y, ws[j]? = some y := ⟨_, List.getElem?_eq_getElem hj⟩
        have hyt : H2 aj = some (.tup (wayV y)) := s2 _ _ (hw j aj y haj hy)
        have ht : ws.take (j + 1) = ws.take j ++ [y] := by rw [List.take_succ, hy]; rfl
        refine ⟨rfl, ?_⟩
        refine ⟨_, rfl, aj, _, _, _, rfl, rfl, SqT.of hyt, rfl, _, rfl, rfl, _, rfl, ?_⟩
        rw [int_eq, hBl]
        by_cases hc : y.seen = 2 ^ sv.length - 1
        · refine goT (by simp [hc]) ?_
          refine ⟨_, rfl, _, hD2, ?_, ?_, ?_⟩
          · rw [List.length_map, hbl]
            exact Nat.lt_of_le_of_lt (List.length_filter_le _ _) (Nat.lt_of_le_of_lt (List.length_take_le' _ _) (Nat.lt_of_le_of_lt hn1 (by show 1024 < sizeLine; decide)))
          · intro b o e
            rw [upd_ne (ne_of_none e hD)]; exact s2 b o e
          · have hf : (ws.take (j + 1)).filter (fun x => x.seen == 2 ^ sv.length - 1) = (ws.take j).filter (fun x => x.seen == 2 ^ sv.length - 1) ++ [y] := by
              rw [ht, List.filter_append, List.filter_cons, if_pos (by simp [hc])]; rfl
            refine ⟨bs ++ [aj], by rw [upd_same, List.map_append]; rfl, by rw [hf, List.length_append, List.length_append, hbl]; rfl, ?_⟩
            rw [hf]
            refine ways_snoc hbl (fun i' b x h1 h2 => ?_) ?_
            · have q := hbw i' b x h1 h2
              rw [upd_ne (ne_of q hD2 (by intro z; cases z))]; exact q
            · rw [upd_ne (ne_of hyt hD2 (by intro z; cases z))]; exact hyt
        · refine goF (by simp [hc]) ?_
          have hf : (ws.take (j + 1)).filter (fun x => x.seen == 2 ^ sv.length - 1) = (ws.take j).filter (fun x => x.seen == 2 ^ sv.length - 1) := by
            rw [ht, List.filter_append, List.filter_cons, if_neg (by simp [hc]), List.filter_nil, List.append_nil]
          exact ⟨s2, bs, hD2, by rw [hf]; exact hbl, by rw [hf]; exact hbw⟩
      · rintro H2 ⟨s2, bs, hD2, hbl, hbw⟩
        rw [List.length_map, hll, List.take_length, hpick] at hbl hbw
        have s12 : Same H H2 := s1.trans s2
        have t2 : Tabs T H2 := (s12.kp (T := T)).tabs hTb
        obtain ⟨qs, hP2, _⟩ := id (t2 _ hT)
        have hP2 : H2 pt = some (.tbl qs) := hP2
        refine ⟨D, bs.map V.ref, keyAt Way.count (x0 :: xs0), rfl, SqL.of hD2, by rw [List.length_map, hbl]; simp, t2 _ hT, fun H3 k3 t3 => ⟨fun i v hv => ?_, fun i v hv hf => ?_⟩⟩
        · obtain ⟨b, hb, rfl⟩ := lst_ref hv
          obtain ⟨y, hy⟩ : ∃ y, (x0 :: xs0)[i]? = some y := ⟨_, List.getElem?_eq_getElem (by obtain ⟨h1, _⟩ := List.getElem?_eq_some_iff.mp hb; omega)⟩
          have q := hbw i b y hb hy
          have q3 : H3 b = some (.tup (wayV y)) := k3 b _ (fun z => by rw [z, hP2] at q; cases q) q
          exact ⟨_, rfl, b, _, _, _, rfl, rfl, SqT.of q3, rfl, by rw [keyAt_of hy], rfl⟩
        · obtain ⟨b, hb, rfl⟩ := lst_ref hv
          obtain ⟨y, hy⟩ : ∃ y, (x0 :: xs0)[i]? = some y := ⟨_, List.getElem?_eq_getElem (by obtain ⟨h1, _⟩ := List.getElem?_eq_some_iff.mp hb; omega)⟩
          have q := hbw i b y hb hy
          have q3 : H3 b = some (.tup (wayV y)) := k3 b _ (fun z => by rw [z, hP2] at q; cases q) q
          rw [List.length_map, hbl] at hf
          have ey := first_min hy hf
          rw [hmin] at ey
          subst ey
          have kp3 : Kp T H H3 := (s12.kp).trans (KeepT.kp hT k3 (t2 _ hT) t3 hd)
          refine ⟨_, rfl, b, _, _, _, rfl, rfl, SqT.of q3, rfl, _, rfl, b, _, _, _, rfl, rfl, SqT.of q3, rfl, (by show 2 ≤ sizeLine; decide), fun z hz => ?_⟩
          exact k _ z (kp3.add hz) ((kp3.add hz).tabs hTb) (kp3.free hz) upd_same
end
end VR
end
section
set_option Elab.async false
set_option linter.all false
set_option maxRecDepth 100000
set_option maxHeartbeats 8000000
namespace VR
open PySem PySem.Spec PyProof.Rows L2 Vp
open Km457 (Valley at_ far)
open Km458 (table dist)
section
variable {P : Program} {w : World} {K : PySem.W.Frag} {mg : Str → Option Value} {base : Heap}
theorem scFew : FnScope ["balls"] ["balls"] (defScope sFew) := ⟨rfl, rfl, rfl, by decide +kernel, rfl, by decide +kernel, by decide +kernel⟩
def spFew (K : PySem.W.Frag) (T : List Tb) : Sp := fun vs H Q _ => ∃ (a : Addr) (s : Valley) (r : Nat), vs = [.ref a] ∧ SqL K H a (natsV (ballsOf (table s) r)) ∧ Ok s ∧ Tabs T H ∧
  ∀ H' q, Kp T H H' → Tabs T H' → H q = none → H' q = some (.tup [.int ((Km458.fewest (table s) r).length : Nat), .int (msk (Km458.fewest (table s) r) : Nat)]) → Q (.ref q) H'
theorem ok_few {f fM : Addr} {fd fdM : FuncData} {T : List Tb} (F : Fun K "fewest" "fewest" sFew f fd) (GM : FnOk P w K mg base CX0 4 fM fdM ["balls", "posts"] (spMore K T)) (mM : mg "fewest_more" = some (.ref fM)) (kM : PySem.W.keepIn K (.ref fM) = true) (bM : Binds K fdM ["balls", "posts"] []) :
    FnOk P w K mg base CX0 5 f fd ["balls"] (spFew K T) := by
  refine F.ok scFew (fun vs H Q E h => ?_) (fun cdv A outer s H vs Q E hr h => ?_)
  · obtain ⟨a, s, r, rfl, _⟩ := h
    rfl
  · obtain ⟨a, sv, r, rfl, ha, ok, ht, k⟩ := h
    refine ⟨_, pss_one (ps_ret (pe_call GM hr rfl mM kM bM .nil pass0 (pa_cons (pv 0) (pa_cons pe_int pa_nil)))), ?_⟩
    refine ⟨_, rfl, a, sv, r, [], rfl, ha, ok, fun p hp => (nomatch hp), ht, fun H' q h1 h2 h3 h4 => ?_⟩
    rw [add_nil_ps] at h4
    exact k H' q h1 h2 h3 h4
def pairV (x : Nat × Nat) : List V := [.int (x.1 : Nat), .int (x.2 : Nat)]
theorem tups_snoc {α : Type} {g : α → List V} {H : Hp} {bs : List Addr} {ws : List α} {b : Addr} {x : α} (hl : bs.length = ws.length) (h : ∀ (i : Nat) a y, bs[i]? = some a → ws[i]? = some y → H a = some (.tup (g y))) (hb : H b = some (.tup (g x))) :
    ∀ (i : Nat) a y, (bs ++ [b])[i]? = some a → (ws ++ [x])[i]? = some y → H a = some (.tup (g y)) := by
  intro i a y h1 h2
  rw [List.getElem?_append] at h1 h2
  rw [hl] at h1
  split at h1
  · rename_i hi
    rw [if_pos hi] at h2
    exact h i a y h1 h2
  · rename_i hi
    rw [if_neg hi] at h2
    cases e : i - ws.length with
    | zero => rw [e] at h1 h2; simp at h1 h2; subst h1 h2; exact hb
    | succ n => rw [e] at h1; simp at h1
theorem tups_app {α : Type} {g : α → List V} {H : Hp} {as bs : List Addr} {ws vs : List α} (hl : as.length = ws.length) (h : ∀ (i : Nat) a y, as[i]? = some a → ws[i]? = some y → H a = some (.tup (g y))) (h' : ∀ (i : Nat) a y, bs[i]? = some a → vs[i]? = some y → H a = some (.tup (g y))) :
    ∀ (i : Nat) a y, (as ++ bs)[i]? = some a → (ws ++ vs)[i]? = some y → H a = some (.tup (g y)) := by
  intro i a y h1 h2
  rw [List.getElem?_append] at h1 h2
  rw [hl] at h1
  split at h1
  · rename_i hi
    rw [if_pos hi] at h2
    exact h i a y h1 h2
  · rename_i hi
    rw [if_neg hi] at h2
    exact h' _ a y h1 h2
def pairWith (v : Nat) (x : Nat × Nat) : Nat × Nat := (x.1 + 1, x.2 ||| 2 ^ v)
def lLon : List (Pos × Str) := [(⟨71, 25, 71, 43⟩, lamQ "lonely")]
theorem scLon : FnScope ["balls", "ways", "v", "sharers", "way"] ["balls"] (defScope sLon) := ⟨rfl, rfl, rfl, by decide +kernel, rfl, by decide +kernel, by decide +kernel⟩
def spLon (K : PySem.W.Frag) (T : List Tb) : Sp := fun vs H Q _ => ∃ (a : Addr) (s : Valley) (r : Nat), vs = [.ref a] ∧ SqL K H a (natsV (ballsOf (table s) r)) ∧ Ok s ∧ Tabs T H ∧
  ∀ H' q, Kp T H H' → Tabs T H' → H' q = some (.tup [.int ((Km458.most (table s) r).length : Nat), .int (msk (Km458.most (table s) r) : Nat)]) → Q (.ref q) H'
theorem ok_lon {f fS c pt : Addr} {fd fdS : FuncData} {T : List Tb} (F : FunT K "lonely" "lonely" sLon f fd c pt) (hB : BMain mg base) (hT : (⟨pt, lLon⟩ : Tb) ∈ T) (hd : ∀ u ∈ T, u.P = pt → u = ⟨pt, lLon⟩) (G : Bare mg)
    (GS : FnOk P w K mg base CX0 2 fS fdS ["balls", "posts"] (spServed K)) (mS : mg "served" = some (.ref fS)) (kS : PySem.W.keepIn K (.ref fS) = true) (bS : Binds K fdS ["balls", "posts"] []) :
    FnOk P w K mg base CX0 4 f fd ["balls"] (spLon K T) := by
  refine F.ok scLon (fun vs H Q E h => ?_) (fun A outer s H vs Q E hr h => ?_)
  · obtain ⟨a, s, r, rfl, _⟩ := h
    rfl
  · obtain ⟨a, sv, r, rfl, ha, ok, hTb, k⟩ := h
    refine ⟨_, pss_cons (ps_set (i := 1) scLon.nd rfl (Or.inl rfl) (pe_lst (pa_cons (pe_tup (pa_cons pe_int (pa_cons pe_int pa_nil))) pa_nil)))
      (pss_cons (ps_for PassesOwn.never rfl (pi_range3 rfl G.range (pa_cons (pe_op op_sub (pe_callB call_len_seq (by rfl) G.len PySem.boot_len (pa_cons (pv 0) pa_nil)) pe_int) (pa_cons (pe_un un_neg pe_int) (pa_cons (pe_un un_neg pe_int) pa_nil)))) (pg_name (i := 2) scLon.nd rfl (Or.inr rfl))
        (pss_cons (ps_set (i := 3) scLon.nd rfl (Or.inr rfl) (pe_call GS (hr.mono (by decide)) rfl mS kS bS .nil pass0 (pa_cons (pv 0) (pa_cons (pe_ix (ixL (K := K) rfl) (pv 0) (pv 2) (fun _ _ => rfl)) pa_nil))))
        (pss_one (ps_set (i := 1) scLon.nd rfl (Or.inl rfl) (pe_op op_cat (pv 1) (pe_lc (own := [("way", 4)]) rfl scLon.nd (pi_list (pv 1)) (blkOk_by (show blkC ["balls", "ways", "v", "sharers", "way"] (defScope sLon) _ _ = true by decide +kernel))
            (fun _ _ _ _ _ => pg_name (i := 4) scLon.nd rfl (Or.inl rfl)) (tt := tNot (fun σ H Q => tOp (rI0 fun i j => .int (Builtin.bitAnd i j)) (tOp (rIxT K) (tVar 4) (tC (.int 1))) (tVar 3) σ H fun x H' => ∃ k, TruV K x H' k ∧ Q k H'))
            (fun _ _ _ _ _ => pts_one (pt_not (pt_truth (pe_op op_and (pe_ix (ixT (K := K) rfl) (pv 4) pe_int (fun _ _ => rfl)) (pv 3)) (fun _ => rfl))))
            (fun _ _ _ _ _ => pe_tup (pa_cons (pe_op op_add (pe_ix (ixT (K := K) rfl) (pv 4) pe_int (fun _ _ => rfl)) pe_int) (pa_cons (pe_op op_or (pe_ix (ixT (K := K) rfl) (pv 4) pe_int (fun _ _ => rfl)) (pe_op op_shl pe_int (pv 2))) pa_nil)))))))))
      (pss_one (ps_ret (pe_maxLam (P := pt) (L := lLon) (k := 1) (tb := tOp (rIxT K) (tVar 0) (tC (V.int 0))) rfl rfl G.mx rfl F.hd hB (List.mem_singleton.mpr rfl) (fun q hq hne => absurd (List.mem_singleton.mp hq) hne) hr.in1 lamScope
        (pa_cons (pv 1) pa_nil) (fun _ _ _ _ => pe_ix (ixT (K := K) rfl) (pv 0) pe_int (fun _ _ => rfl)))))), ?_⟩
    have hle := ok.le
    have hBl : (ballsOf (table sv) r).length = sv.length := by rw [ballsOf_length, table_length]
    have hB10 : (ballsOf (table sv) r).length ≤ 10 := by omega
    have hpos := ok.pos
    have hsym : ∀ x y, x < (table sv).length → y < (table sv).length → dist (table sv) x y = dist (table sv) y x := fun x y hx hy => by
      rw [table_length] at hx hy
      rw [dist_eq hx hy, dist_eq hy hx, far_comm ok hx hy]
    refine ⟨(by show 2 ≤ sizeLine; decide), fun p0 hp0 => ?_⟩
    refine ⟨(by show 1 ≤ sizeLine; decide), fun l0 hl0 => ?_⟩
    have s0 : Same H (upd (upd H p0 (.tup (pairV (0, 0)))) l0 (.lst [.ref p0])) := ((Same.refl H).add hp0).add hl0
    have n0 : p0 ≠ l0 := ne_of_none (upd_same (H := H) (a := p0) (o := .tup (pairV (0, 0)))) hl0
    refine ⟨_, rfl, a, _, rfl, .inl (s0.seq ha), _, _, rfl, rfl, _, rfl, _, rfl, _, _, _, _, rfl, RgC.neg (by rw [natsV_len]; omega) (by rw [natsV_len]; omega) (by decide) (by decide), ?_⟩
    have en : (((natsV (ballsOf (table sv) r)).length : Int) - 1 - -1).toNat = sv.length := by rw [natsV_len, hBl]; omega
    refine for_rangeC (n := (((natsV (ballsOf (table sv) r)).length : Int) - 1 - -1).toNat) (fun i σ H' => ∃ (l : Addr) (x2 x3 : Option V) (as : List Addr), σ = [some (.ref a), some (.ref l), x2, x3, none] ∧ Same H H' ∧ H' l = some (.lst (as.map V.ref)) ∧ as.length = (lonAt (table sv) r i).length ∧ ∀ (i' : Nat) b x, as[i']? = some b → (lonAt (table sv) r i)[i']? = some x → H' b = some (.tup (pairV x)))
      ⟨l0, none, none, [p0], rfl, s0, upd_same, by rw [lonAt_zero]; rfl, fun i b x h1 h2 => ?_⟩ ?_ ?_
    · rw [lonAt_zero] at h2
      cases i with
      | zero =>
        simp at h1 h2
        subst h1 h2
        rw [upd_ne n0]
        exact upd_same
      | succ i => simp at h1
    · rintro i σ H1 hi ⟨l, x2, x3, as, rfl, s1, hl1, hll, hw⟩
      rw [en] at hi
      have ev : ((natsV (ballsOf (table sv) r)).length : Int) - 1 + (i : Nat) * -1 = ((sv.length - 1 - i : Nat) : Int) := by rw [natsV_len, hBl]; omega
      have hvB : sv.length - 1 - i < (ballsOf (table sv) r).length := by omega
      have hgB : (ballsOf (table sv) r)[sv.length - 1 - i]? = some ((ballsOf (table sv) r).getD (sv.length - 1 - i) 0) := by rw [List.getD_eq_getElem?_getD, List.getElem?_eq_getElem hvB]; rfl
      refine ⟨_, rfl, _, rfl, _, rfl, a, _, _, _, rfl, rfl, s1.seq ha, at_of ev (natsV_at hgB), a, ballsOf (table sv) r, (ballsOf (table sv) r).getD (sv.length - 1 - i) 0, rfl, s1.seq ha, hB10, ?_⟩
      refine ⟨_, rfl, _, rfl, l, rfl, ⟨_, SqL.of hl1⟩, fun D hD => ?_⟩
      have hn1 : (lonAt (table sv) r i).length ≤ 1024 := lonAt_length _ _ _ (by rw [table_length]; exact hle)
      have hst := lonAt_step (t := table sv) (r := r) hsym (show i < (table sv).length by rw [table_length]; exact hi)
      rw [table_length] at hst
      generalize hsh : psv (ballsOf (table sv) r) ((ballsOf (table sv) r).getD (sv.length - 1 - i) 0) = sh at hst
      generalize lonAt (table sv) r i = ws at hll hw hn1 hst
      refine lc_list (K := K) (a := l) (xs := as.map V.ref) (fun j H' => Same H1 H' ∧ ∃ bs : List Addr, H' D = some (.lst (bs.map V.ref)) ∧ bs.length = (((ws.take j).filter fun x => x.2 &&& sh == 0).map (pairWith (sv.length - 1 - i))).length ∧ ∀ (i' : Nat) b x, bs[i']? = some b → (((ws.take j).filter fun x => x.2 &&& sh == 0).map (pairWith (sv.length - 1 - i)))[i']? = some x → H' b = some (.tup (pairV x)))
        ⟨(Same.refl H1).add hD, [], upd_same, by simp, fun i' b x h1 h2 => by simp at h1⟩ (fun j H' _ ⟨s2, _⟩ => SqL.of (s2 _ _ hl1)) ?_ ?_
      · rintro j x H2 hx ⟨s2, bs, hD2, hbl, hbw⟩
        obtain ⟨aj, haj, rfl⟩ := lst_ref hx
        have hj : j < ws.length := by obtain ⟨h1, _⟩ := List.getElem?_eq_some_iff.mp haj; omega
        obtain ⟨y, hy⟩ : ∃ y, ws[j]? = some y := ⟨_, List.getElem?_eq_getElem hj⟩
        have hyt : H2 aj = some (.tup (pairV y)) := s2 _ _ (hw j aj y haj hy)
        have ht : ws.take (j + 1) = ws.take j ++ [y] := by rw [List.take_succ, hy]; rfl
        refine ⟨rfl, ?_⟩
        refine ⟨_, rfl, aj, _, _, _, rfl, rfl, SqT.of hyt, rfl, _, rfl, _, _, rfl, rfl, _, rfl, ?_⟩
        have eb : (Builtin.bitAnd (y.2 : Nat) (sh : Nat) != 0) = !(y.2 &&& sh == 0) := by
          rw [and_nn]
          cases hz : (y.2 &&& sh) with
          | zero => rfl
          | succ n => simp; omega
        by_cases hc : (y.2 &&& sh == 0) = true
        · refine goT (by rw [eb, hc]; rfl) ?_
          have hf : ((ws.take (j + 1)).filter (fun x => x.2 &&& sh == 0)).map (pairWith (sv.length - 1 - i)) = ((ws.take j).filter (fun x => x.2 &&& sh == 0)).map (pairWith (sv.length - 1 - i)) ++ [pairWith (sv.length - 1 - i) y] := by
            rw [ht, List.filter_append, List.filter_cons, if_pos hc, List.filter_nil, List.map_append]; rfl
          refine ⟨_, rfl, aj, _, _, _, rfl, rfl, SqT.of hyt, rfl, _, _, rfl, rfl, ?_⟩
          refine ⟨_, rfl, aj, _, _, _, rfl, rfl, SqT.of hyt, rfl, _, rfl, _, _, rfl, rfl, ⟨by omega, by rw [ev]; omega, by decide⟩, _, _, rfl, rfl, ?_⟩
          refine ⟨(by show 2 ≤ sizeLine; decide), fun p hp => ?_⟩
          have nDp : D ≠ p := ne_of_none hD2 hp
          refine ⟨_, by rw [upd_ne nDp]; exact hD2, ?_, ?_, ?_⟩
          · rw [List.length_map, hbl, List.length_map]
            exact Nat.lt_of_le_of_lt (List.length_filter_le _ _) (Nat.lt_of_le_of_lt (List.length_take_le' _ _) (Nat.lt_of_le_of_lt hn1 (by show 1024 < sizeLine; decide)))
          · intro b o e
            rw [upd_ne (ne_of_none e hD), upd_ne (ne_of_none (s2 b o e) hp)]; exact s2 b o e
          · have ep : [V.int ((y.1 : Nat) + 1), V.int (Builtin.bitOr (y.2 : Nat) (1 * 2 ^ (((natsV (ballsOf (table sv) r)).length : Int) - 1 + (i : Nat) * -1).toNat))] = pairV (pairWith (sv.length - 1 - i) y) := by
              rw [ev, one_shl, or_nn]; rfl
            refine ⟨bs ++ [p], by rw [upd_same, List.map_append]; rfl, by rw [hf, List.length_append, List.length_append, hbl]; rfl, ?_⟩
            rw [hf]
            refine tups_snoc hbl (fun i' b x h1 h2 => ?_) ?_
            · have q := hbw i' b x h1 h2
              rw [upd_ne (ne_of q hD2 (by intro z; cases z)), upd_ne (ne_of_none q hp)]; exact q
            · rw [upd_ne (Ne.symm nDp), upd_same]
              exact congrArg (fun z => some (HO.tup z)) ep
        · have hc' : (y.2 &&& sh == 0) = false := by cases h : (y.2 &&& sh == 0) with | true => exact absurd h hc | false => rfl
          refine goF (by rw [eb, hc']; rfl) ?_
          have hf : (ws.take (j + 1)).filter (fun x => x.2 &&& sh == 0) = (ws.take j).filter (fun x => x.2 &&& sh == 0) := by
            rw [ht, List.filter_append, List.filter_cons, if_neg hc, List.filter_nil, List.append_nil]
          exact ⟨s2, bs, hD2, by rw [hf]; exact hbl, by rw [hf]; exact hbw⟩
      · rintro H2 ⟨s2, bs, hD2, hbl, hbw⟩
        rw [show (as.map V.ref).length = ws.length by rw [List.length_map]; exact hll, List.take_length] at hbl hbw
        refine ⟨l, D, _, _, rfl, rfl, s2 _ _ hl1, hD2, ?_, fun p hp => ?_⟩
        · rw [List.length_map, List.length_map, hbl, hll, List.length_map]
          exact Nat.le_trans (Nat.add_le_add hn1 (Nat.le_trans (List.length_filter_le _ _) hn1)) (by show 2048 ≤ sizeLine; decide)
        · have hst' : lonAt (table sv) r (i + 1) = ws ++ (ws.filter fun x => x.2 &&& sh == 0).map (pairWith (sv.length - 1 - i)) := hst
          refine ⟨p, some (.int (((natsV (ballsOf (table sv) r)).length : Int) - 1 + (i : Nat) * -1)), _, as ++ bs, rfl, (s1.trans s2).add hp, by rw [upd_same, List.map_append], by rw [hst', List.length_append, List.length_append, hll, hbl], ?_⟩
          rw [hst']
          refine tups_app hll (fun i' b x h1 h2 => ?_) (fun i' b x h1 h2 => ?_)
          · have q := s2 _ _ (hw i' b x h1 h2)
            rw [upd_ne (ne_of_none q hp)]; exact q
          · have q := hbw i' b x h1 h2
            rw [upd_ne (ne_of_none q hp)]; exact q
    · rintro σ H1 ⟨l, x2, x3, as, rfl, s1, hl1, hll, hw⟩
      rw [en] at hll hw
      obtain ⟨x0, xs0, hpick, hmax⟩ := pick_most (table sv) r
      rw [table_length] at hpick
      rw [hpick] at hll hw
      have t1 : Tabs T H1 := (s1.kp (T := T)).tabs hTb
      obtain ⟨qs, hP1, _⟩ := id (t1 _ hT)
      have hP1 : H1 pt = some (.tbl qs) := hP1
      refine ⟨_, rfl, l, as.map V.ref, keyAt Prod.fst (x0 :: xs0), rfl, SqL.of hl1, by rw [List.length_map, hll]; simp, t1 _ hT, fun H3 k3 t3 => ⟨fun i v hv => ?_, fun i v hv hf => ?_⟩⟩
      · obtain ⟨b, hb, rfl⟩ := lst_ref hv
        obtain ⟨y, hy⟩ : ∃ y, (x0 :: xs0)[i]? = some y := ⟨_, List.getElem?_eq_getElem (by obtain ⟨h1, _⟩ := List.getElem?_eq_some_iff.mp hb; omega)⟩
        have q := hw i b y hb hy
        have q3 : H3 b = some (.tup (pairV y)) := k3 b _ (fun z => by rw [z, hP1] at q; cases q) q
        exact ⟨_, rfl, b, _, _, _, rfl, rfl, SqT.of q3, rfl, by rw [keyAt_of hy], rfl⟩
      · obtain ⟨b, hb, rfl⟩ := lst_ref hv
        obtain ⟨y, hy⟩ : ∃ y, (x0 :: xs0)[i]? = some y := ⟨_, List.getElem?_eq_getElem (by obtain ⟨h1, _⟩ := List.getElem?_eq_some_iff.mp hb; omega)⟩
        have q := hw i b y hb hy
        have q3 : H3 b = some (.tup (pairV y)) := k3 b _ (fun z => by rw [z, hP1] at q; cases q) q
        rw [List.length_map, hll] at hf
        have ey := first_max hy hf
        rw [hmax] at ey
        subst ey
        have kp3 : Kp T H H3 := (s1.kp).trans (KeepT.kp hT k3 (t1 _ hT) t3 hd)
        exact k _ b kp3 (kp3.tabs hTb) q3
end
end VR
end
section
set_option Elab.async false
set_option linter.all false
set_option maxRecDepth 100000
set_option maxHeartbeats 8000000
namespace Vp
open Km458 (table distances)
open Km457 (Valley far)
def intsOf (l : List Nat) : List Int := l.map fun (x : Nat) => (x : Int)
theorem intsOf_nat {l : List Int} (h : ∀ x ∈ l, 0 ≤ x) : l = intsOf (l.map Int.toNat) := by
  unfold intsOf
  rw [List.map_map]
  have : ∀ x ∈ l, ((fun (x : Nat) => (x : Int)) ∘ Int.toNat) x = x := fun x hx => by
    show ((x.toNat : Nat) : Int) = x
    have := h x hx
    omega
  rw [List.map_congr_left this, List.map_id']
theorem sorted_distances {s : Valley} (K : Ok s) {ns : List Int} (hp : ns.Perm (ded (intsOf ((table s).flatMap fun r => r)))) (hs : ns.Pairwise (· ≤ ·)) : ns = intsOf (distances (table s)) := by
  have hmem : ∀ x, x ∈ ns ↔ x ∈ intsOf ((table s).flatMap fun r => r) := fun x => by rw [hp.mem_iff, mem_ded]
  have hnn : ∀ x ∈ ns, 0 ≤ x := fun x hx => by
    obtain ⟨y, _, rfl⟩ := List.mem_map.mp ((hmem x).mp hx)
    exact Int.natCast_nonneg y
  have hnd : ns.Nodup := hp.nodup_iff.mpr (ded_nodup _)
  rw [intsOf_nat hnn]
  congr 1
  refine strict_unique ?_ (distances_strict _) fun x => ?_
  · rw [List.pairwise_map]
    have hlt : ns.Pairwise (· < ·) := by
      refine List.Pairwise.imp₂ (R := (· ≤ ·)) (S := (· ≠ ·)) (fun a b h1 h2 => by omega) hs hnd
    exact hlt.imp_of_mem fun {a b} ha hb h => by
      have := hnn a ha
      have := hnn b hb
      omega
  · rw [mem_distances_flat K, List.mem_map]
    constructor
    · rintro ⟨y, hy, rfl⟩
      obtain ⟨z, hz, rfl⟩ := List.mem_map.mp ((hmem y).mp hy)
      simpa using hz
    · intro hx
      exact ⟨(x : Int), (hmem _).mpr (List.mem_map.mpr ⟨x, hx, rfl⟩), by simp⟩
end Vp
namespace VR
open PySem PySem.Spec PyProof.Rows L2 Vp
open Km457 (Valley at_ far)
open Km458 (table dist distances quick halve)
theorem natsV_ints (l : List Nat) : natsV l = (intsOf l).map V.int := by unfold natsV intsOf; rw [List.map_map]; rfl
theorem TabV.kp {T : List Tb} {H H' : Hp} {t : Addr} {s : Valley} (h : TabV H t s) (e : Kp T H H') : TabV H' t s := by
  obtain ⟨rows, h1, h2, h3⟩ := h
  exact ⟨rows, e.lst h1, h2, fun v r q => e.lst (h3 v r q)⟩
theorem flat_take {s : Valley} {i : Nat} (hi : i < s.length) : ((table s).take (i + 1)).flatMap (fun r => r) = ((table s).take i).flatMap (fun r => r) ++ (List.range s.length).map fun w => far s i w := by
  rw [List.take_succ, table_row hi, List.flatMap_append]; simp
theorem flat_len (s : Valley) (i : Nat) (h : s.length ≤ 10) : (((table s).take i).flatMap (fun r => r)).length ≤ 100 := by
  have e := reaches_len s
  unfold Km458.reaches at e
  rw [List.length_cons] at e
  have h2 : (((table s).take i).flatMap (fun r => r)).length ≤ ((table s).flatMap fun r => r).length := by
    have : (table s).flatMap (fun r => r) = ((table s).take i).flatMap (fun r => r) ++ ((table s).drop i).flatMap (fun r => r) := by rw [← List.flatMap_append, List.take_append_drop]
    rw [this, List.length_append]; omega
  have h3 : s.length * s.length ≤ 10 * 10 := Nat.mul_le_mul h h
  omega
section
variable {P : Program} {w : World} {K : PySem.W.Frag} {mg : Str → Option Value} {base : Heap}
theorem scReach : FnScope ["table", "k", "lengths", "row", "reaches", "low", "high", "middle"] ["table", "k"] (defScope sReach) := ⟨rfl, rfl, rfl, by decide +kernel, rfl, by decide +kernel, by decide +kernel⟩
def spReach (T : List Tb) : Sp := fun vs H Q _ => ∃ (t : Addr) (s : Valley) (k : Nat), vs = [.ref t, .int k] ∧ TabV H t s ∧ Ok s ∧ Tabs T H ∧ ∀ H', Kp T H H' → Tabs T H' → Q (.int (quick (table s) k : Nat)) H'
theorem ok_reach {f fF fB : Addr} {fd fdF fdB : FuncData} {T : List Tb} (F : Fun K "least_reach" "least_reach" sReach f fd) (G : Bare mg)
    (GF : FnOk P w K mg base CX0 5 fF fdF ["balls"] (spFew K T)) (mF : mg "fewest" = some (.ref fF)) (kF : PySem.W.keepIn K (.ref fF) = true) (bF : Binds K fdF ["balls"] [])
    (GB : FnOk P w K mg base CX0 3 fB fdB ["table", "r"] spBalls) (mB : mg "balls_of" = some (.ref fB)) (kB : PySem.W.keepIn K (.ref fB) = true) (bB : Binds K fdB ["table", "r"] []) :
    FnOk P w K mg base CX0 6 f fd ["table", "k"] (spReach T) := by
  refine F.ok scReach (fun vs H Q E h => ?_) (fun cdv A outer s H vs Q E hr h => ?_)
  · obtain ⟨t, s, k, rfl, _⟩ := h
    rfl
  · obtain ⟨t, sv, kk, rfl, hTV, ok, hTb, k⟩ := h
    refine ⟨_, pss_cons (ps_set (i := 2) scReach.nd rfl (Or.inl rfl) (pe_lst pa_nil))
      (pss_cons (ps_for PassesOwn.never rfl (pi_list (pv 0)) (pg_name (i := 3) scReach.nd rfl (Or.inl rfl)) (pss_one (ps_expr (pe_bm PySem.F.plainAttrs_list PySem.F.slot_list_extend PySem.F.type_list_extend mt_extend (pv 2) (pa_cons (pv 3) pa_nil)))))
      (pss_cons (ps_set (i := 4) scReach.nd rfl (Or.inl rfl) (pe_callB (cr_sortedSet rfl) (by rfl) G.srt (by decide +kernel) (pa_cons (pe_callTy (call_setI rfl) (by rfl) G.st (by decide +kernel) (pa_cons (pv 2) pa_nil)) pa_nil)))
      (pss_cons (ps_set (i := 5) scReach.nd rfl (Or.inl rfl) pe_int)
      (pss_cons (ps_set (i := 6) scReach.nd rfl (Or.inl rfl) (pe_op op_sub (pe_callB call_len_seq (by rfl) G.len PySem.boot_len (pa_cons (pv 4) pa_nil)) pe_int))
      (pss_cons (ps_while PassesOwn.never (pt_cmpR op_lt (pv 5) (pv 6) (nomark _))
        (pss_cons (ps_set (i := 7) scReach.nd rfl (Or.inl rfl) (pe_op op_fdiv (pe_op op_add (pv 5) (pv 6)) pe_int))
        (pss_one (ps_if (pt_cmpR op_le (pe_ix (ixT (K := K) rfl) (pe_call GF hr rfl mF kF bF .nil pass0 (pa_cons (pe_call GB (hr.mono (by decide)) rfl mB kB bB .nil pass0 (pa_cons (pv 0) (pa_cons (pe_ix (ixL (K := K) rfl) (pv 4) (pv 7) (fun _ _ => rfl)) pa_nil))) pa_nil)) pe_int (fun _ _ => rfl)) (pv 1) (nomark _))
          (pss_one (ps_set (i := 6) scReach.nd rfl (Or.inl rfl) (pv 7)))
          (pss_one (ps_set (i := 5) scReach.nd rfl (Or.inl rfl) (pe_op op_add (pv 7) pe_int)))))))
      (pss_one (ps_ret (pe_ix (ixL (K := K) rfl) (pv 4) (pv 5) (fun _ _ => rfl))))))))), ?_⟩
    have hle := ok.le
    obtain ⟨rows, hrt, hrl, hrow⟩ := id hTV
    refine ⟨Nat.zero_le _, fun l0 hl0 => ?_⟩
    have s0 : Same H (upd H l0 (.lst [])) := (Same.refl H).add hl0
    refine ⟨_, rfl, t, rfl, ⟨_, SqL.of (s0 _ _ hrt)⟩, for_list (K := K) (a := t) (xs := rows.map V.ref) (fun i σ H' => ∃ x3 : Option V, σ = [some (.ref t), some (.int kk), some (.ref l0), x3, none, none, none, none] ∧ Same H H' ∧ H' l0 = some (.lst (natsV (((table sv).take i).flatMap fun r => r))))
      ⟨none, rfl, s0, upd_same⟩ (fun i σ H' _ ⟨_, _, s1, _⟩ => SqL.of (s1 _ _ hrt)) ?_ ?_⟩
    · rintro i x σ H1 hx ⟨x3, rfl, s1, h1⟩
      obtain ⟨rw', hrw, rfl⟩ := lst_ref hx
      have hi : i < sv.length := by obtain ⟨q, _⟩ := List.getElem?_eq_some_iff.mp hrw; omega
      have hrr := s1 _ _ (hrow i rw' hrw)
      refine ⟨_, rfl, .inl ⟨rfl, _, SqL.of h1⟩, ?_⟩
      refine ⟨_, rfl, l0, rw', _, _, rfl, rfl, h1, hrr, ?_, ?_⟩
      · rw [natsV_len, rowV_eq, natsV_len]
        have := flat_len sv i hle
        have : ((List.range sv.length).map fun w => far sv i w).length ≤ 10 := by simp; exact hle
        exact Nat.le_of_lt (small1000 (by omega))
      · refine ⟨_, rfl, fun b o e => ?_, ?_⟩
        · rw [upd_ne (ne_of_none e hl0)]; exact s1 b o e
        · rw [upd_same, flat_take hi, rowV_eq]
          unfold natsV
          rw [List.map_append]
    · rintro σ H1 ⟨x3, rfl, s1, h1⟩
      rw [List.length_map, hrl, ← table_length sv, List.take_length] at h1
      have hfl := flat_len sv (table sv).length hle
      rw [List.take_length] at hfl
      refine ⟨_, rfl, l0, intsOf ((table sv).flatMap fun r => r), rfl, SqL.of (by rw [← natsV_ints]; exact h1), ?_, fun ps hps => ?_⟩
      · unfold intsOf; rw [List.length_map]; exact Nat.lt_of_le_of_lt (Nat.add_le_add_right hfl 1) (by decide)
      · refine ⟨ps, _, rfl, upd_same, fun ns' pr hperm hsrt hpr => ?_⟩
        rw [sorted_distances ok hperm hsrt, ← natsV_ints]
        have s2 : Same H (upd (upd H1 ps (SetO P w ps (ded (intsOf ((table sv).flatMap fun r => r))))) pr (.lst (natsV (distances (table sv))))) := (s1.add hps).add hpr
        have g2 : (upd (upd H1 ps (SetO P w ps (ded (intsOf ((table sv).flatMap fun r => r))))) pr (.lst (natsV (distances (table sv))))) pr = some (.lst (natsV (distances (table sv)))) := upd_same
        have hpos := distances_pos ok
        have hfew := distances_few ok
        refine ⟨_, rfl, pr, _, rfl, .inl (SqL.of g2), _, _, rfl, rfl, ?_⟩
        have eh : ((natsV (distances (table sv))).length : Int) - 1 = (((distances (table sv)).length - 1 : Nat) : Int) := by rw [natsV_len]; omega
        dsimp only [tSeq, tAsg, tC, gName]
        rw [eh]
        show tWhile _ _ _ [some (.ref t), some (.int kk), some (.ref l0), x3, some (.ref pr), some (.int ((0 : Nat) : Int)), some (.int (((distances (table sv)).length - 1 : Nat) : Int)), none] _
        refine while_by (fun σ H' => ∃ (lo hi : Nat) (x7 : Option V), σ = [some (.ref t), some (.int kk), some (.ref l0), x3, some (.ref pr), some (.int (lo : Nat)), some (.int (hi : Nat)), x7] ∧ Kp T H H' ∧ H' pr = some (.lst (natsV (distances (table sv)))) ∧
            Halv (fun i => decide ((Km458.fewest (table sv) ((distances (table sv)).getD i 0)).length ≤ kk)) ((distances (table sv)).length - 1) lo hi)
          (fun σ _ => match σ with | [_, _, _, _, _, some (.int x), some (.int y), _] => y.toNat - x.toNat | _ => 0) ⟨0, _, none, rfl, s2.kp, g2, Halv.start (by omega)⟩ ?_ ?_
        · rintro σ H3 ⟨lo, hi, x7, rfl, kp3, g3, hv⟩
          have h1 := hv.le
          have h2 := hv.below
          refine ⟨_, rfl, _, rfl, _, _, rfl, rfl, _, rfl, ?_⟩
          refine ite2 (fun hc => ?_) (fun hc => ?_)
          · have hc : lo < hi := by simp only [decide_eq_true_eq] at hc; omega
            have em : ((lo : Int) + (hi : Nat)) / 2 = (((lo + hi) / 2 : Nat) : Int) := by omega
            have hmd : (lo + hi) / 2 < (distances (table sv)).length := by omega
            have hgd : (distances (table sv))[(lo + hi) / 2]? = some ((distances (table sv)).getD ((lo + hi) / 2) 0) := by rw [List.getD_eq_getElem?_getD, List.getElem?_eq_getElem hmd]; rfl
            refine ⟨_, rfl, _, rfl, _, _, rfl, rfl, _, _, rfl, rfl, ⟨by decide, by decide⟩, ?_⟩
            refine ⟨_, rfl, _, rfl, _, rfl, pr, _, _, _, rfl, rfl, SqL.of g3, at_of em (natsV_at hgd), t, sv, (distances (table sv)).getD ((lo + hi) / 2) 0, rfl, hTV.kp kp3, ok, fun H4 pb s4 hpb hb4 => ?_⟩
            refine ⟨pb, sv, (distances (table sv)).getD ((lo + hi) / 2) 0, rfl, SqL.of hb4, ok, (s4.kp (T := T)).tabs (kp3.tabs hTb), fun H5 q kp5 t5 hq h5 => ?_⟩
            have kp35 : Kp T H3 H5 := (s4.kp).trans kp5
            refine ⟨q, _, _, _, rfl, rfl, SqT.of h5, rfl, _, rfl, _, _, rfl, rfl, _, rfl, ?_⟩
            refine ite2 (fun hf => ?_) (fun hf => ?_)
            · have hf : (Km458.fewest (table sv) ((distances (table sv)).getD ((lo + hi) / 2) 0)).length ≤ kk := by simp only [decide_eq_true_eq] at hf; omega
              refine ⟨_, rfl, ⟨lo, (lo + hi) / 2, _, by rw [← em]; rfl, kp3.trans kp35, kp35.lst g3, hv.yes hc (by simp only [decide_eq_true_eq]; exact hf)⟩, ?_⟩
              show (((lo : Int) + (hi : Nat)) / 2).toNat - ((lo : Nat) : Int).toNat < ((hi : Nat) : Int).toNat - ((lo : Nat) : Int).toNat
              omega
            · have hf : ¬ (Km458.fewest (table sv) ((distances (table sv)).getD ((lo + hi) / 2) 0)).length ≤ kk := by simp only [decide_eq_true_eq] at hf; omega
              refine ⟨_, rfl, _, _, rfl, rfl, ⟨(lo + hi) / 2 + 1, hi, _, by dsimp only; rw [em]; rfl, kp3.trans kp35, kp35.lst g3, hv.no hc (by simp only [decide_eq_false_iff_not]; exact hf)⟩, ?_⟩
              show ((hi : Nat) : Int).toNat - ((((lo : Int) + (hi : Nat)) / 2) + 1).toNat < ((hi : Nat) : Int).toNat - ((lo : Nat) : Int).toNat
              omega
          · have hc : ¬ lo < hi := by simp only [decide_eq_true_eq] at hc; omega
            obtain ⟨d1, d2⟩ := hv.done hc
            have hl : lo < (distances (table sv)).length := by omega
            have hgd : (distances (table sv))[lo]? = some ((distances (table sv)).getD lo 0) := by rw [List.getD_eq_getElem?_getD, List.getElem?_eq_getElem hl]; rfl
            refine ⟨_, rfl, _, rfl, pr, _, _, _, rfl, rfl, SqL.of g3, atI_nat (natsV_at hgd), ?_⟩
            have e : quick (table sv) kk = (distances (table sv)).getD lo 0 := by unfold quick; dsimp only; rw [← d1]
            have z := k H3 kp3 (kp3.tabs hTb)
            rw [e] at z
            exact z
        · rintro σ H' Q1 Q2 hq ⟨v1, h1, v2, h2, i1, j1, h3, h4, kk', h5, h6⟩
          exact ⟨v1, h1, v2, h2, i1, j1, h3, h4, kk', h5, hq _ _ h6⟩
end
end VR
end
section
set_option linter.all false
namespace Vp
open Km457 (Valley Village at_ far)
open Km458 (Sea Desk Call act opened)
structure SeaOk (s : Sea) : Prop where
  v : Ok s.valley
  nd : s.posts.Nodup
  lt : ∀ p ∈ s.posts, p < s.valley.length
structure DeskOk (d : Desk) : Prop where
  now : SeaOk d.now
  past : ∀ s ∈ d.past, SeaOk s
  future : ∀ s ∈ d.future, SeaOk s
  few : d.past.length + d.future.length ≤ 20
theorem opened_ok : SeaOk opened := by
  refine ⟨⟨by decide, by decide, fun v hv h0 => ?_, rfl, fun v => ?_⟩, by decide, fun p hp => ?_⟩
  · have : v < 1 := hv
    omega
  · cases v with
    | zero => decide
    | succ v => simp [opened, Km457.opened, at_]
  · cases hp
theorem fresh_ok : DeskOk Km458.fresh := ⟨opened_ok, fun s h => (nomatch h), fun s h => (nomatch h), by decide⟩
theorem at_append {s : Valley} {x : Village} {v : Nat} (h : v < s.length) : at_ (s ++ [x]) v = at_ s v := by
  unfold at_
  rw [List.getD_eq_getElem?_getD, List.getD_eq_getElem?_getD, List.getElem?_append_left h]
theorem at_append_last {s : Valley} {x : Village} : at_ (s ++ [x]) s.length = x := by
  unfold at_
  rw [List.getD_eq_getElem?_getD, List.getElem?_append_right (Nat.le_refl _)]
  simp
theorem at_out {s : Valley} {v : Nat} (h : s.length ≤ v) : at_ s v = ⟨0, 0, 0⟩ := by
  unfold at_
  rw [List.getD_eq_getElem?_getD, List.getElem?_eq_none h]
  rfl
theorem village_ok {s : Valley} (K : Ok s) {u l : Nat} (hu : u < s.length) (hl : l ≤ 1000) (hn : s.length < 10) : Ok (s ++ [⟨u, l, 0⟩]) := by
  refine ⟨by simp, by simp; omega, fun v hv h0 => ?_, ?_, fun v => ?_⟩
  · rw [List.length_append] at hv
    simp at hv
    by_cases h : v < s.length
    · rw [at_append h]; exact K.up v h h0
    · have : v = s.length := by omega
      subst this
      rw [at_append_last]; exact hu
  · rw [at_append K.pos]; exact K.zero
  · by_cases h : v < s.length
    · rw [at_append h]; exact K.long v
    · by_cases h2 : v = s.length
      · subst h2; rw [at_append_last]; exact hl
      · rw [at_out (by simp; omega)]; simp
theorem at_set {s : Valley} {v w : Nat} {x : Village} (h : v < s.length) : at_ (s.set v x) w = if v = w then x else at_ s w := by
  unfold at_
  rw [List.getD_eq_getElem?_getD, List.getD_eq_getElem?_getD, List.getElem?_set]
  by_cases e : v = w
  · subst e; simp [h]
  · simp [e]
theorem road_ok {s : Valley} (K : Ok s) {v n : Nat} (hv : v < s.length) (h0 : v ≠ 0) (hn : n ≤ 1000) : Ok (s.set v { at_ s v with long := n }) := by
  refine ⟨by rw [List.length_set]; exact K.pos, by rw [List.length_set]; exact K.le, fun w hw h => ?_, ?_, fun w => ?_⟩
  · rw [List.length_set] at hw
    rw [at_set hv]
    split
    · rename_i e; subst e; exact K.up v hv h0
    · exact K.up w hw h
  · rw [at_set hv, if_neg h0]; exact K.zero
  · rw [at_set hv]
    split
    · exact hn
    · exact K.long w
theorem at_dropLast {s : Valley} {v : Nat} (h : v < s.length - 1) : at_ s.dropLast v = at_ s v := by
  unfold at_
  rw [List.getD_eq_getElem?_getD, List.getD_eq_getElem?_getD, List.getElem?_dropLast, if_pos h]
theorem drop_ok {s : Valley} (K : Ok s) (h1 : s.length ≠ 1) : Ok s.dropLast := by
  have hp := K.pos
  refine ⟨by simp; omega, by simp; have := K.le; omega, fun w hw h => ?_, ?_, fun w => ?_⟩
  · simp at hw
    rw [at_dropLast hw]; exact K.up w (by omega) h
  · rw [at_dropLast (by omega)]; exact K.zero
  · by_cases h : w < s.length - 1
    · rw [at_dropLast h]; exact K.long w
    · rw [at_out (by simp; omega)]; simp
theorem become_ok {d : Desk} (D : DeskOk d) {s : Sea} (h : SeaOk s) : DeskOk (d.become s) := by
  refine ⟨h, fun x hx => ?_, fun x hx => (nomatch hx), ?_⟩
  · have := List.mem_of_mem_take hx
    rcases List.mem_cons.mp this with rfl | q
    · exact D.now
    · exact D.past x q
  · show (List.take _ _).length + 0 ≤ 20
    rw [List.length_take]
    exact Nat.le_trans (Nat.min_le_left _ _) (by decide)
theorem act_ok {d : Desk} (D : DeskOk d) (c : Call) : DeskOk (act d c).1 := by
  have hv := D.now.v
  cases c with
  | start => exact fresh_ok
  | village u l =>
    unfold act; dsimp only
    split
    · exact D
    · split
      · exact D
      · split
        · exact D
        · rename_i h1 h2 h3
          have h3' : d.now.valley.length < 10 := by have : ¬ (10 ≤ d.now.valley.length) := h3; omega
          refine become_ok D ⟨village_ok hv (by omega) (by omega) h3', D.now.nd, fun p hp => ?_⟩
          have := D.now.lt p hp
          simp; omega
  | long_ v n =>
    unfold act; dsimp only
    split
    · exact D
    · split
      · exact D
      · split
        · exact D
        · refine become_ok D ⟨road_ok hv (by omega) (by omega) (by omega), D.now.nd, fun p hp => ?_⟩
          rw [List.length_set]; exact D.now.lt p hp
  | drop =>
    unfold act; dsimp only
    split
    · exact D
    · split
      · exact D
      · rename_i h1 h2
        refine become_ok D ⟨drop_ok hv h1, D.now.nd, fun p hp => ?_⟩
        have := D.now.lt p hp
        have hne : p ≠ d.now.valley.length - 1 := fun e => h2 (by rw [← e]; simpa using hp)
        simp; omega
  | post v o =>
    unfold act; dsimp only
    split
    · exact D
    · split
      · exact D
      · split
        · exact D
        · rename_i h1 h2 h3
          refine become_ok D ⟨hv, ?_, ?_⟩
          · dsimp only
            split
            · rename_i ho
              subst ho
              have hc : d.now.posts.contains v = false := by
                cases e : d.now.posts.contains v with
                | false => rfl
                | true => exact absurd e h3
              rw [List.nodup_append]
              refine ⟨D.now.nd, by simp, fun a ha b hb => ?_⟩
              simp at hb
              subst hb
              rintro rfl
              rw [List.contains_eq_mem] at hc
              simp [ha] at hc
            · exact D.now.nd.filter _
          · dsimp only
            split
            · intro p hp
              rcases List.mem_append.mp hp with q | q
              · exact D.now.lt p q
              · simp at q; omega
            · intro p hp
              exact D.now.lt p (List.mem_filter.mp hp).1
  | put r =>
    unfold act; dsimp only
    split
    · exact D
    · split
      · exact D
      · refine become_ok D ⟨hv, ?_, ?_⟩
        · dsimp only
          rw [List.nodup_append]
          refine ⟨D.now.nd, add_nodup _ _ _, fun a ha b hb => ?_⟩
          rintro rfl
          exact (add_mem hb).2 ha
        · intro p hp
          rcases List.mem_append.mp hp with q | q
          · exact D.now.lt p q
          · have := (add_mem q).1
            unfold Sea.t at this
            rw [table_length] at this
            exact this
  | clear =>
    unfold act; dsimp only
    split
    · exact D
    · exact become_ok D ⟨hv, by simp, fun p hp => nomatch hp⟩
  | back =>
    unfold act; dsimp only
    split
    · exact D
    · rename_i k r e
      have hf := D.few
      rw [e, List.length_cons] at hf
      refine ⟨D.past k (by rw [e]; simp), fun x hx => D.past x (by rw [e]; simp [hx]), fun x hx => ?_, ?_⟩
      · rcases List.mem_cons.mp hx with rfl | q
        · exact D.now
        · exact D.future x q
      · simp only [List.length_cons]; omega
  | again =>
    unfold act; dsimp only
    split
    · exact D
    · rename_i k r e
      have hf := D.few
      rw [e, List.length_cons] at hf
      refine ⟨D.future k (by rw [e]; simp), fun x hx => ?_, fun x hx => D.future x (by rw [e]; simp [hx]), ?_⟩
      · have := List.mem_of_mem_take hx
        rcases List.mem_cons.mp this with rfl | q
        · exact D.now
        · exact D.past x q
      · rw [List.length_take]
        simp only [List.length_cons]
        omega
  | _ => exact D
def givenOf : List Nat := [0, 2, 2, 0, 2, 1, 0, 2, 2, 3, 1, 1, 1, 1, 1, 1, 0, 1, 2, 0, 2, 1, 0, 0, 0, 0]
theorem shape_out {p : Int} (h : ¬ (0 ≤ p ∧ p ≤ 25)) : PyKm458.shape p = none := by
  unfold PyKm458.shape
  iterate 26 rw [if_neg (by omega)]
theorem shape_in : ∀ q : Fin 26, PyKm458.shape ((q.val : Nat) : Int) = some (givenOf.getD q.val 0, 0) := by decide
theorem shape_given {p : Int} {n k : Nat} (h : PyKm458.shape p = some (n, k)) : k = 0 ∧ 0 ≤ p ∧ p ≤ 25 ∧ givenOf[p.toNat]? = some n := by
  by_cases hp : 0 ≤ p ∧ p ≤ 25
  · have hq := shape_in ⟨p.toNat, by omega⟩
    have e : ((p.toNat : Nat) : Int) = p := by omega
    dsimp only at hq
    rw [e, h] at hq
    injection hq with hq
    injection hq with h1 h2
    refine ⟨h2, hp.1, hp.2, ?_⟩
    have hl : p.toNat < givenOf.length := by show p.toNat < 26; omega
    rw [h1, List.getD_eq_getElem?_getD, List.getElem?_eq_getElem hl]
    rfl
  · rw [shape_out hp] at h; cases h
theorem calls_step {f : Nat} {l : List Int} {cs : List (List (List Int))} (h : PyFlat.calls PyKm458.shape f l = some cs) (hne : l ≠ []) :
    ∃ (p : Int) (n : Nat) (r : List Int) (f' : Nat) (cs' : List (List (List Int))), l = p :: r ∧ givenOf[p.toNat]? = some n ∧ 0 ≤ p ∧ p ≤ 25 ∧ n ≤ r.length ∧ cs = [p :: r.take n] :: cs' ∧ f = f' + 1 ∧ PyFlat.calls PyKm458.shape f' (r.drop n) = some cs' := by
  cases l with
  | nil => exact absurd rfl hne
  | cons p r =>
    cases f with
    | zero => cases h
    | succ f =>
      unfold PyFlat.calls at h
      split at h
      · cases h
      · rename_i c t hc
        split at h
        · cases h
        · rename_i cs' hcs
          cases h
          dsimp only [PyFlat.call] at hc
          cases hsh : PyKm458.shape p with
          | none => rw [hsh] at hc; cases hc
          | some nk =>
            obtain ⟨n, k⟩ := nk
            rw [hsh] at hc
            dsimp only at hc
            obtain ⟨rfl, h0, h25, hg⟩ := shape_given hsh
            split at hc
            · cases hc
            · rename_i hlen
              rw [show PyFlat.rows 0 (r.drop n) = some ([], r.drop n) from rfl] at hc
              cases hc
              exact ⟨p, n, r, f, cs', rfl, hg, h0, h25, by omega, rfl, rfl, hcs⟩
theorem whole_call {q n : Nat} (as : List Int) (hq : givenOf[q]? = some n) (hl : as.length = n) : PyKm458.whole [((q : Nat) : Int) :: as] = [((q : Nat) : Int) :: as] := by
  match q, hq with
  | 0, hq | 3, hq | 6, hq | 16, hq | 19, hq | 22, hq | 23, hq | 24, hq | 25, hq =>
    cases hq
    match as, hl with
    | [], _ => rfl
  | 5, hq | 10, hq | 11, hq | 12, hq | 13, hq | 14, hq | 15, hq | 17, hq | 21, hq =>
    cases hq
    match as, hl with
    | [_], _ => rfl
  | 1, hq | 2, hq | 4, hq | 7, hq | 8, hq | 18, hq | 20, hq =>
    cases hq
    match as, hl with
    | [_, _], _ => rfl
  | 9, hq =>
    cases hq
    match as, hl with
    | [_, _, _], _ => rfl
  | q + 26, hq => cases hq
theorem calls_nil {f : Nat} {cs : List (List (List Int))} (h : PyFlat.calls PyKm458.shape f [] = some cs) : cs = [] := by
  unfold PyFlat.calls at h
  cases f <;> (cases h; rfl)
theorem map_whole : ∀ {f : Nat} {l : List Int} {cs : List (List (List Int))}, PyFlat.calls PyKm458.shape f l = some cs → cs.map PyKm458.whole = cs
  | 0, l, cs, h => by
    cases l with
    | nil => rw [calls_nil h]; rfl
    | cons a l => cases h
  | f + 1, l, cs, h => by
    by_cases hl : l = []
    · subst hl; rw [calls_nil h]; rfl
    · obtain ⟨p, n, r, f', cs', e1, e2, e3, e4, e5, e6, e7, e8⟩ := calls_step h hl
      have ef : f' = f := by omega
      subst ef
      have ep : p = ((p.toNat : Nat) : Int) := by omega
      have hw := whole_call (r.take n) e2 (by rw [List.length_take]; omega)
      rw [← ep] at hw
      rw [e6, List.map_cons, hw, map_whole e8]
def deskOf (s : Km458Neutral.S) : Desk := s.getD Km458.fresh
theorem step_desk {s : Km458Neutral.S} {c : List (List Int)} (hne : (Km458Neutral.step s c).2 ≠ []) :
    ∃ x, Km458Neutral.callOf c = some x ∧ (Km458Neutral.step s c).2 = Km458Neutral.told (act (deskOf s) x).2 ∧ deskOf (Km458Neutral.step s c).1 = (act (deskOf s) x).1 := by
  unfold Km458Neutral.step at hne ⊢
  cases e : Km458Neutral.callOf c with
  | none => rw [e] at hne; exact absurd rfl hne
  | some x =>
    rw [e] at hne
    dsimp only at hne ⊢
    refine ⟨x, rfl, ?_⟩
    cases s with
    | some d => exact ⟨rfl, rfl⟩
    | none =>
      cases x with
      | start => exact ⟨rfl, rfl⟩
      | _ => exact absurd rfl hne
end Vp
end
section
set_option Elab.async false
set_option linter.all false
set_option maxRecDepth 100000
set_option maxHeartbeats 4000000
namespace VR
open PySem PySem.Spec PyProof.Rows L2 Vp
open Km457 (Valley at_ far)
open Km458 (table dist Sea)
theorem putF_names {f : Str} {v : V} : ∀ {fs : List (Str × V)}, f ∈ fs.map Prod.fst → (putF f v fs).map Prod.fst = fs.map Prod.fst
  | [], h => (nomatch h)
  | (g, x) :: r, h => by
    unfold putF
    by_cases e : g = f
    · rw [if_pos e]; rfl
    · rw [if_neg e]
      have h' : f ∈ r.map Prod.fst := by
        rcases List.mem_cons.mp h with q | q
        · exact absurd q.symm e
        · exact q
      show g :: (putF f v r).map Prod.fst = g :: r.map Prod.fst
      rw [putF_names h']
theorem lookup_out {m : Str} : ∀ {fs : List (Str × V)}, m ∉ fs.map Prod.fst → fs.lookup m = none
  | [], _ => rfl
  | (g, x) :: r, h => by
    have h1 : m ≠ g := fun e => h (by rw [e]; exact List.mem_cons_self)
    have h2 : m ∉ r.map Prod.fst := fun q => h (List.mem_cons_of_mem _ q)
    rw [List.lookup_cons, beq_eq_false_iff_ne.mpr h1]
    exact lookup_out h2
def InsN (C : Addr) (N : List Str) (H : Hp) (x : Addr) (fs : List (Str × V)) : Prop := fs.map Prod.fst = N ∧ ∃ dx, H x = some (.ins C dx fs)
theorem InsN.put {C : Addr} {N : List Str} {H : Hp} {x dx : Addr} {fs : List (Str × V)} {f : Str} {v : V} (h : fs.map Prod.fst = N) (hf : f ∈ N) : InsN C N (upd H x (.ins C dx (putF f v fs))) x (putF f v fs) :=
  ⟨(putF_names (h ▸ hf)).trans h, dx, upd_same⟩
structure TxtC (K : PySem.W.Frag) (mg : Str → Option Value) (C : Addr) (N : List Str) : Prop where
  cl : Cls K C
  no : ∀ f ∈ N, NoAttr K C f
  few : N.length < 1000
  mgC : mg "Valley" = some (.ref C)
structure SeaAt (C : Addr) (N : List Str) (H : Hp) (x : Addr) (fs : List (Str × V)) (s : Sea) : Prop where
  ins : InsN C N H x fs
  ups : ∃ u, fs.lookup ("ups" : Str) = some (.ref u) ∧ H u = some (.lst (upsV s.valley))
  roads : ∃ r, fs.lookup ("roads" : Str) = some (.ref r) ∧ H r = some (.lst (roadsV s.valley))
  posts : fs.lookup ("posts" : Str) = some (.int (msk s.posts : Nat))
abbrev sCls : Stmt := top 69
abbrev sSize : Stmt := inClass sCls 8
abbrev sLacks : Stmt := inClass sCls 9
abbrev sHasP : Stmt := inClass sCls 10
abbrev sTable : Stmt := inClass sCls 11
abbrev sBallsM : Stmt := inClass sCls 12
section
variable {P : Program} {w : World} {K : PySem.W.Frag} {mg : Str → Option Value} {base : Heap} {C : Addr} {N : List Str}
theorem scSize : FnScope ["self"] ["self"] (defScope sSize) := ⟨rfl, rfl, rfl, by decide +kernel, rfl, by decide +kernel, by decide +kernel⟩
def spSize (C : Addr) (N : List Str) : Sp := fun vs H Q _ => ∃ (x : Addr) (fs : List (Str × V)) (s : Sea), vs = [.ref x] ∧ SeaAt C N H x fs s ∧ Q (.int (s.valley.length : Nat)) H
theorem upsV_len (s : Valley) : (upsV s).length = s.length := by simp [upsV]
theorem roadsV_len (s : Valley) : (roadsV s).length = s.length := by simp [roadsV]
theorem ok_size {f : Addr} {fd : FuncData} (F : Fun K "size" "Valley.size" sSize f fd) (T : TxtC K mg C N) (hu : ("ups" : Str) ∈ N) (G : Bare mg) : FnOk P w K mg base CX0 1 f fd ["self"] (spSize C N) := by
  refine F.ok scSize (fun vs H Q E h => ?_) (fun cdv A outer s H vs Q E hr h => ?_)
  · obtain ⟨x, fs, s, rfl, _⟩ := h
    rfl
  · obtain ⟨x, fs, s, rfl, ⟨⟨hN, dx, hx⟩, ⟨u, hu1, hu2⟩, _, _⟩, k⟩ := h
    refine ⟨_, pss_one (ps_ret (pe_callB call_len_seq (by rfl) G.len PySem.boot_len (pa_cons (pe_fld (pv 0) rfl) pa_nil))), ?_⟩
    refine ⟨_, rfl, x, C, dx, fs, _, rfl, hx, T.cl, T.no _ hu, hu1, u, _, rfl, .inl (SqL.of hu2), ?_⟩
    rw [upsV_len]
    exact k
theorem scLacks : FnScope ["self", "v"] ["self", "v"] (defScope sLacks) := ⟨rfl, rfl, rfl, by decide +kernel, rfl, by decide +kernel, by decide +kernel⟩
def spLacks (C : Addr) (N : List Str) : Sp := fun vs H Q _ => ∃ (x : Addr) (fs : List (Str × V)) (s : Sea) (v : Nat), vs = [.ref x, .int v] ∧ SeaAt C N H x fs s ∧ Q (.bl (decide (s.valley.length ≤ v))) H
theorem ok_lacks {f : Addr} {fd : FuncData} (F : Fun K "lacks" "Valley.lacks" sLacks f fd) (T : TxtC K mg C N) (hu : ("ups" : Str) ∈ N) (G : Bare mg) : FnOk P w K mg base CX0 1 f fd ["self", "v"] (spLacks C N) := by
  refine F.ok scLacks (fun vs H Q E h => ?_) (fun cdv A outer s H vs Q E hr h => ?_)
  · obtain ⟨x, fs, s, v, rfl, _⟩ := h
    rfl
  · obtain ⟨x, fs, s, v, rfl, ⟨⟨hN, dx, hx⟩, ⟨u, hu1, hu2⟩, _, _⟩, k⟩ := h
    refine ⟨_, pss_one (ps_ret (pe_cmpR op_ge (pv 1) (pe_callB call_len_seq (by rfl) G.len PySem.boot_len (pa_cons (pe_fld (pv 0) rfl) pa_nil)) (nomark _))), ?_⟩
    refine ⟨_, rfl, _, rfl, x, C, dx, fs, _, rfl, hx, T.cl, T.no _ hu, hu1, u, _, rfl, .inl (SqL.of hu2), _, _, rfl, rfl, ?_⟩
    rw [upsV_len]
    dsimp only
    rw [show decide (((s.valley.length : Nat) : Int) ≤ ((v : Nat) : Int)) = decide (s.valley.length ≤ v) from decide_eq_decide.mpr Int.ofNat_le]
    exact k
theorem scHasP : FnScope ["self", "v"] ["self", "v"] (defScope sHasP) := ⟨rfl, rfl, rfl, by decide +kernel, rfl, by decide +kernel, by decide +kernel⟩
def spHasP (C : Addr) (N : List Str) : Sp := fun vs H Q _ => ∃ (x : Addr) (fs : List (Str × V)) (s : Sea) (v : Nat), vs = [.ref x, .int v] ∧ SeaAt C N H x fs s ∧ Q (.bl (s.posts.contains v)) H
theorem ok_hasP {f fH : Addr} {fd fdH : FuncData} (F : Fun K "has_post" "Valley.has_post" sHasP f fd) (T : TxtC K mg C N) (hp : ("posts" : Str) ∈ N) (FH : Fun K "has" "has" sHas fH fdH) (mH : mg "has" = some (.ref fH)) (bH : Binds K fdH ["villages", "v"] []) :
    FnOk P w K mg base CX0 2 f fd ["self", "v"] (spHasP C N) := by
  have GH : FnOk P w K mg base CX0 1 fH fdH ["villages", "v"] spHas := ok_has FH
  refine F.ok scHasP (fun vs H Q E h => ?_) (fun cdv A outer s H vs Q E hr h => ?_)
  · obtain ⟨x, fs, s, v, rfl, _⟩ := h
    rfl
  · obtain ⟨x, fs, s, v, rfl, ⟨⟨hN, dx, hx⟩, _, _, hp1⟩, k⟩ := h
    refine ⟨_, pss_one (ps_ret (pe_call GH hr rfl mH FH.kp bH .nil pass0 (pa_cons (pe_fld (pv 0) rfl) (pa_cons (pv 1) pa_nil)))), ?_⟩
    refine ⟨_, rfl, x, C, dx, fs, _, rfl, hx, T.cl, T.no _ hp, hp1, _, rfl, _, v, rfl, ?_⟩
    rw [show (msk s.posts).testBit v = s.posts.contains v from by rw [testBit_msk]; simp]
    exact k
theorem scTable : FnScope ["self"] ["self"] (defScope sTable) := ⟨rfl, rfl, rfl, by decide +kernel, rfl, by decide +kernel, by decide +kernel⟩
def spTable (C : Addr) (N : List Str) : Sp := fun vs H Q _ => ∃ (x : Addr) (fs : List (Str × V)) (s : Sea), vs = [.ref x] ∧ SeaAt C N H x fs s ∧ Ok s.valley ∧ ∀ H' t, Same H H' → TabV H' t s.valley → H t = none → Q (.ref t) H'
theorem ok_table {f fD : Addr} {fd fdD : FuncData} (F : Fun K "table" "Valley.table" sTable f fd) (T : TxtC K mg C N) (hu : ("ups" : Str) ∈ N) (hro : ("roads" : Str) ∈ N) (GD : FnOk P w K mg base CX0 2 fD fdD ["ups", "roads"] (spDist K)) (mD : mg "distances" = some (.ref fD))
    (kD : PySem.W.keepIn K (.ref fD) = true) (bD : Binds K fdD ["ups", "roads"] []) : FnOk P w K mg base CX0 3 f fd ["self"] (spTable C N) := by
  refine F.ok scTable (fun vs H Q E h => ?_) (fun cdv A outer s H vs Q E hr h => ?_)
  · obtain ⟨x, fs, s, rfl, _⟩ := h
    rfl
  · obtain ⟨x, fs, s, rfl, ⟨⟨hN, dx, hx⟩, ⟨u, hu1, hu2⟩, ⟨r, hr1, hr2⟩, _⟩, ok, k⟩ := h
    refine ⟨_, pss_one (ps_ret (pe_call GD hr rfl mD kD bD .nil pass0 (pa_cons (pe_fld (pv 0) rfl) (pa_cons (pe_fld (pv 0) rfl) pa_nil)))), ?_⟩
    exact ⟨_, rfl, x, C, dx, fs, _, rfl, hx, T.cl, T.no _ hu, hu1, _, rfl, x, C, dx, fs, _, rfl, hx, T.cl, T.no _ hro, hr1, u, r, s.valley, rfl, SqL.of hu2, SqL.of hr2, ok, k⟩
theorem scBallsM : FnScope ["self", "r"] ["self", "r"] (defScope sBallsM) := ⟨rfl, rfl, rfl, by decide +kernel, rfl, by decide +kernel, by decide +kernel⟩
def spBallsM (C : Addr) (N : List Str) : Sp := fun vs H Q _ => ∃ (x : Addr) (fs : List (Str × V)) (s : Sea) (r : Nat), vs = [.ref x, .int r] ∧ SeaAt C N H x fs s ∧ Ok s.valley ∧ ∀ H' p, Same H H' → H p = none → H' p = some (.lst (natsV (ballsOf (table s.valley) r))) → Q (.ref p) H'
theorem ok_ballsM {f fT fB : Addr} {fd fdT fdB : FuncData} (F : Fun K "balls" "Valley.balls" sBallsM f fd) (T : TxtC K mg C N) (hN : ("table" : Str) ∉ N) (GT : FnOk P w K mg base CX0 3 fT fdT ["self"] (spTable C N)) (mT : Meth K C "table" fT) (bT : Binds K fdT ["self"] [])
    (GB : FnOk P w K mg base CX0 3 fB fdB ["table", "r"] spBalls) (mB : mg "balls_of" = some (.ref fB)) (kB : PySem.W.keepIn K (.ref fB) = true) (bB : Binds K fdB ["table", "r"] []) : FnOk P w K mg base CX0 4 f fd ["self", "r"] (spBallsM C N) := by
  refine F.ok scBallsM (fun vs H Q E h => ?_) (fun cdv A outer s H vs Q E hr h => ?_)
  · obtain ⟨x, fs, s, r, rfl, _⟩ := h
    rfl
  · obtain ⟨x, fs, s, r, rfl, S, ok, k⟩ := h
    refine ⟨_, pss_one (ps_ret (pe_call GB hr rfl mB kB bB .nil pass0 (pa_cons (pe_meth0 (pv 0) T.cl mT GT hr bT .nil pass0) (pa_cons (pv 1) pa_nil)))), ?_⟩
    obtain ⟨hNm, dx, hx⟩ := S.ins
    refine ⟨_, rfl, x, dx, fs, rfl, hx, lookup_out (by rw [hNm]; exact hN), x, fs, s, rfl, S, ok, fun H1 t s1 ht hn => ?_⟩
    refine ⟨_, rfl, t, s.valley, r, rfl, ht, ok, fun H2 p s2 hp hl => ?_⟩
    exact k H2 p (s1.trans s2) (s1.free hp) hl
end
end VR
end
section
set_option Elab.async false
set_option linter.all false
set_option maxRecDepth 100000
set_option maxHeartbeats 4000000
namespace VR
open PySem PySem.Spec PyProof.Rows L2 Vp
open Km457 (Valley at_ far)
open Km458 (table dist Sea Desk Call act)
def ansV (a : Km458.Ans) : List V := .int a.value :: natsV a.out
def spAsk (K : PySem.W.Frag) (T : List Tb) (C : Addr) (N : List Str) (n : Nat) (c : List Nat → Call) : Sp := fun vs H Q _ => ∃ (x g : Addr) (fs : List (Str × V)) (d : Desk) (as : List Nat), vs = [.ref x, .ref g] ∧ SeaAt C N H x fs d.now ∧ DeskOk d ∧
  SqL K H g (natsV as) ∧ as.length = n ∧ Tabs T H ∧ ∀ H' p, Kp T H H' → Tabs T H' → H p = none → H' p = some (.lst (ansV (act d (c as)).2)) → Q (.ref p) H'
structure Nums (mg : Str → Option Value) : Prop where
  notThere : ∃ t, mg "NOT_THERE" = some (.int (-2) t)
  outOf : ∃ t, mg "OUT_OF_RANGE" = some (.int (-22) t)
  cannot : ∃ t, mg "CANNOT_BE" = some (.int (-33) t)
  noPosts : ∃ t, mg "NO_POSTS" = some (.int (-6) t)
theorem SeaAt.kp {T : List Tb} {C : Addr} {N : List Str} {H H' : Hp} {x : Addr} {fs : List (Str × V)} {s : Sea} (h : SeaAt C N H x fs s) (e : Kp T H H') : SeaAt C N H' x fs s := by
  obtain ⟨⟨hN, dx, hx⟩, ⟨u, u1, u2⟩, ⟨r, r1, r2⟩, p⟩ := h
  exact ⟨⟨hN, dx, e.ins hx⟩, ⟨u, u1, e.lst u2⟩, ⟨r, r1, e.lst r2⟩, p⟩
theorem at0 {a : Nat} {l : List Nat} : atI (natsV (a :: l)) 0 = some (.int (a : Nat)) := at_of (j := 0) rfl rfl
theorem at1 {a b : Nat} {l : List Nat} : atI (natsV (a :: b :: l)) 1 = some (.int (b : Nat)) := at_of (j := 1) rfl rfl
theorem at2 {a b c : Nat} {l : List Nat} : atI (natsV (a :: b :: c :: l)) 2 = some (.int (c : Nat)) := at_of (j := 2) rfl rfl
theorem len1 {l : List Nat} (h : l.length = 1) : ∃ a, l = [a] := by match l, h with | [a], _ => exact ⟨a, rfl⟩
theorem len2 {l : List Nat} (h : l.length = 2) : ∃ a b, l = [a, b] := by match l, h with | [a, b], _ => exact ⟨a, b, rfl⟩
theorem len3 {l : List Nat} (h : l.length = 3) : ∃ a b c, l = [a, b, c] := by match l, h with | [a, b, c], _ => exact ⟨a, b, c, rfl⟩
abbrev sCounted : Stmt := top 48
abbrev sFarA : Stmt := top 49
abbrev sBallA : Stmt := top 50
abbrev sShareA : Stmt := top 52
abbrev sFewA : Stmt := top 54
abbrev sLonA : Stmt := top 55
abbrev sLeastA : Stmt := top 56
section
variable {P : Program} {w : World} {K : PySem.W.Frag} {mg : Str → Option Value} {base : Heap} {C : Addr} {N : List Str} {T : List Tb}
theorem scFarA : FnScope ["valley", "given", "v", "w"] ["valley", "given"] (defScope sFarA) := ⟨rfl, rfl, rfl, by decide +kernel, rfl, by decide +kernel, by decide +kernel⟩
def cFar (as : List Nat) : Call := .far (as.getD 0 0) (as.getD 1 0)
theorem ok_farA {f fL fF : Addr} {fd fdL fdF : FuncData} (F : Fun K "far_apart" "far_apart" sFarA f fd) (X : TxtC K mg C N) (hu : ("ups" : Str) ∈ N) (hro : ("roads" : Str) ∈ N) (hl : ("lacks" : Str) ∉ N) (M : Nums mg)
    (GL : FnOk P w K mg base CX0 1 fL fdL ["self", "v"] (spLacks C N)) (mL : Meth K C "lacks" fL) (bL : Binds K fdL ["self", "v"] [])
    (GF : FnOk P w K mg base CX0 1 fF fdF ["ups", "roads", "v", "w"] (spFar K)) (mF : mg "how_far" = some (.ref fF)) (kF : PySem.W.keepIn K (.ref fF) = true) (bF : Binds K fdF ["ups", "roads", "v", "w"] []) :
    FnOk P w K mg base CX0 2 f fd ["valley", "given"] (spAsk K T C N 2 cFar) := by
  refine F.ok scFarA (fun vs H Q E h => ?_) (fun cdv A outer s H vs Q E hr h => ?_)
  · obtain ⟨x, g, fs, d, as, rfl, _⟩ := h
    rfl
  · obtain ⟨x, g, fs, d, as, rfl, S, D, hg, hlen, hT, k⟩ := h
    obtain ⟨v, w', rfl⟩ := len2 hlen
    obtain ⟨tk, hNT⟩ := M.notThere
    obtain ⟨hN, dx, hx⟩ := id S.ins
    obtain ⟨u, hu1, hu2⟩ := S.ups
    obtain ⟨r, hr1, hr2⟩ := S.roads
    have hlk : fs.lookup ("lacks" : Str) = none := lookup_out (by rw [hN]; exact hl)
    refine ⟨_, pss_cons (ps_set (i := 2) scFarA.nd rfl (Or.inl rfl) (pe_ix ix_list (pv 1) pe_int (fun _ _ => rfl)))
      (pss_cons (ps_set (i := 3) scFarA.nd rfl (Or.inl rfl) (pe_ix ix_list (pv 1) pe_int (fun _ _ => rfl)))
      (pss_cons (ps_if (PW.pt (pw_or (pt_val (pe_meth (pv 0) X.cl mL GL hr bL .nil pass0 (pa_cons (pv 2) pa_nil))) (pw_or1 (pt_val (pe_meth (pv 0) X.cl mL GL hr bL .nil pass0 (pa_cons (pv 3) pa_nil))))))
        (pss_one (ps_ret (pe_lst (pa_cons (pe_glob rfl hNT (v := .int (-2)) ⟨_, rfl⟩) pa_nil)))) pss_nil)
      (pss_one (ps_ret (pe_lst (pa_cons (pe_call GF hr rfl mF kF bF .nil pass0 (pa_cons (pe_fld (pv 0) rfl) (pa_cons (pe_fld (pv 0) rfl) (pa_cons (pv 2) (pa_cons (pv 3) pa_nil))))) pa_nil)))))), ?_⟩
    refine ⟨_, rfl, g, _, _, _, rfl, rfl, hg, at0, _, rfl, g, _, _, _, rfl, rfl, hg, at1, ?_⟩
    refine ⟨_, rfl, x, dx, fs, rfl, hx, hlk, _, rfl, x, fs, d.now, v, rfl, S, _, rfl, ?_⟩
    refine ite2 (fun hc => ?_) (fun hc => ?_)
    · refine goT rfl ⟨by show 1 ≤ sizeLine; decide, fun p hp => k _ p ((Same.refl H).add hp).kp (((Same.refl H).add hp).kp.tabs hT) hp ?_⟩
      rw [upd_same]
      have hc : d.now.valley.length ≤ v := of_decide_eq_true hc
      have e : (act d (cFar [v, w'])).2 = Km458.only (-2) := by
        show (if d.now.valley.length ≤ v ∨ d.now.valley.length ≤ w' then Km458.only (-2) else _) = _
        rw [if_pos (.inl hc)]
      rw [e]; rfl
    · refine ⟨_, rfl, x, dx, fs, rfl, hx, hlk, _, rfl, x, fs, d.now, w', rfl, S, _, rfl, ?_⟩
      have hc : ¬ d.now.valley.length ≤ v := fun z => hc (decide_eq_true z)
      refine ite2 (fun hc2 => ?_) (fun hc2 => ?_)
      · refine ⟨by show 1 ≤ sizeLine; decide, fun p hp => k _ p ((Same.refl H).add hp).kp (((Same.refl H).add hp).kp.tabs hT) hp ?_⟩
        rw [upd_same]
        have hc2 : d.now.valley.length ≤ w' := of_decide_eq_true hc2
        have e : (act d (cFar [v, w'])).2 = Km458.only (-2) := by
          show (if d.now.valley.length ≤ v ∨ d.now.valley.length ≤ w' then Km458.only (-2) else _) = _
          rw [if_pos (.inr hc2)]
        rw [e]; rfl
      · have hc2 : ¬ d.now.valley.length ≤ w' := fun z => hc2 (decide_eq_true z)
        refine ⟨_, rfl, x, C, dx, fs, _, rfl, hx, X.cl, X.no _ hu, hu1, _, rfl, x, C, dx, fs, _, rfl, hx, X.cl, X.no _ hro, hr1, _, rfl, _, rfl, u, r, d.now.valley, v, w', rfl, SqL.of hu2, SqL.of hr2, D.now.v, by omega, by omega, ?_⟩
        refine ⟨by show 1 ≤ sizeLine; decide, fun p hp => k _ p ((Same.refl H).add hp).kp (((Same.refl H).add hp).kp.tabs hT) hp ?_⟩
        rw [upd_same]
        have e : (act d (cFar [v, w'])).2 = Km458.only ((far d.now.valley v w' : Nat) : Int) := by
          show (if d.now.valley.length ≤ v ∨ d.now.valley.length ≤ w' then Km458.only (-2) else _) = _
          rw [if_neg (by omega)]; rfl
        rw [e]; rfl
theorem tell {H H1 : Hp} {Q : VK} {A : Km458.Ans} {xs : List V} (kp : Kp T H H1) (hT : Tabs T H) (k : ∀ H' p, Kp T H H' → Tabs T H' → H p = none → H' p = some (.lst (ansV A)) → Q (.ref p) H') (e : xs = ansV A) (p : Addr) (hp : H1 p = none) : Q (.ref p) (upd H1 p (.lst xs)) :=
  k _ p (kp.add hp) ((kp.add hp).tabs hT) (kp.free hp) (by rw [upd_same, e])
theorem sym_table {s : Valley} (ok : Ok s) {a b : Nat} (ha : a < s.length) (hb : b < s.length) : dist (table s) a b = dist (table s) b a := by rw [dist_eq ha hb, dist_eq hb ha, far_comm ok ha hb]
theorem scBallA : FnScope ["valley", "given", "v", "r"] ["valley", "given"] (defScope sBallA) := ⟨rfl, rfl, rfl, by decide +kernel, rfl, by decide +kernel, by decide +kernel⟩
def cBall (as : List Nat) : Call := .ball (as.getD 0 0) (as.getD 1 0)
theorem ball_list {s : Valley} (ok : Ok s) {v r : Nat} (hv : v < s.length) : ((List.range (table s).length).filter fun p => decide (dist (table s) p v ≤ r)) = (List.range (table s).length).filter fun p => decide (dist (table s) v p ≤ r) := by
  apply List.filter_congr
  intro p hp
  have hp : p < s.length := by rw [table_length] at hp; simpa using hp
  rw [sym_table ok hp hv]
theorem scCounted : FnScope ["villages"] ["villages"] (defScope sCounted) := ⟨rfl, rfl, rfl, by decide +kernel, rfl, by decide +kernel, by decide +kernel⟩
def spCounted : Sp := fun vs H Q _ => ∃ p : Nat, vs = [.int p] ∧ ∀ l, H l = none → Q (.ref l) (upd H l (.lst [.int (pc p : Nat), .int (p : Nat)]))
theorem ok_counted {f fM : Addr} {fd fdM : FuncData} (F : Fun K "counted" "counted" sCounted f fd) (GM : FnOk P w K mg base CX0 1 fM fdM ["villages"] spMany) (mM : mg "how_many" = some (.ref fM)) (kM : PySem.W.keepIn K (.ref fM) = true) (bM : Binds K fdM ["villages"] []) :
    FnOk P w K mg base CX0 2 f fd ["villages"] spCounted := by
  refine F.ok scCounted (fun vs H Q E h => ?_) (fun cdv A outer s H vs Q E hr h => ?_)
  · obtain ⟨p, rfl, _⟩ := h
    rfl
  · obtain ⟨p, rfl, k⟩ := h
    refine ⟨_, pss_one (ps_ret (pe_lst (pa_cons (pe_call GM hr rfl mM kM bM .nil pass0 (pa_cons (pv 0) pa_nil)) (pa_cons (pv 0) pa_nil)))), ?_⟩
    exact ⟨_, rfl, p, rfl, _, rfl, by show 2 ≤ sizeLine; decide, k⟩
theorem ok_ballA {f fL fT fB fM : Addr} {fd fdL fdT fdB fdM : FuncData} (F : Fun K "ball_of" "ball_of" sBallA f fd) (X : TxtC K mg C N) (hl : ("lacks" : Str) ∉ N) (ht : ("table" : Str) ∉ N) (M : Nums mg)
    (GL : FnOk P w K mg base CX0 1 fL fdL ["self", "v"] (spLacks C N)) (mL : Meth K C "lacks" fL) (bL : Binds K fdL ["self", "v"] [])
    (GT : FnOk P w K mg base CX0 3 fT fdT ["self"] (spTable C N)) (mT : Meth K C "table" fT) (bT : Binds K fdT ["self"] [])
    (GB : FnOk P w K mg base CX0 2 fB fdB ["row", "r"] (spBall K)) (mB : mg "ball" = some (.ref fB)) (kB : PySem.W.keepIn K (.ref fB) = true) (bB : Binds K fdB ["row", "r"] [])
    (GM : FnOk P w K mg base CX0 2 fM fdM ["villages"] spCounted) (mM : mg "counted" = some (.ref fM)) (kM : PySem.W.keepIn K (.ref fM) = true) (bM : Binds K fdM ["villages"] []) :
    FnOk P w K mg base CX0 4 f fd ["valley", "given"] (spAsk K T C N 2 cBall) := by
  refine F.ok scBallA (fun vs H Q E h => ?_) (fun cdv A outer s H vs Q E hr h => ?_)
  · obtain ⟨x, g, fs, d, as, rfl, _⟩ := h
    rfl
  · obtain ⟨x, g, fs, d, as, rfl, S, D, hg, hlen, hT, k⟩ := h
    obtain ⟨v, r, rfl⟩ := len2 hlen
    obtain ⟨tk, hNT⟩ := M.notThere
    obtain ⟨hN, dx, hx⟩ := id S.ins
    have hlk : fs.lookup ("lacks" : Str) = none := lookup_out (by rw [hN]; exact hl)
    have htk : fs.lookup ("table" : Str) = none := lookup_out (by rw [hN]; exact ht)
    have hr1 : Room 1 _ := hr.mono (by decide)
    have hr2 : Room 2 _ := hr.mono (by decide)
    refine ⟨_, pss_cons (ps_set (i := 2) scBallA.nd rfl (Or.inl rfl) (pe_ix ix_list (pv 1) pe_int (fun _ _ => rfl)))
      (pss_cons (ps_set (i := 3) scBallA.nd rfl (Or.inl rfl) (pe_ix ix_list (pv 1) pe_int (fun _ _ => rfl)))
      (pss_cons (ps_if (pt_val (pe_meth (pv 0) X.cl mL GL hr1 bL .nil pass0 (pa_cons (pv 2) pa_nil)))
        (pss_one (ps_ret (pe_lst (pa_cons (pe_glob rfl hNT (v := .int (-2)) ⟨_, rfl⟩) pa_nil)))) pss_nil)
      (pss_one (ps_ret (pe_call GM hr2 rfl mM kM bM .nil pass0 (pa_cons (pe_call GB hr2 rfl mB kB bB .nil pass0 (pa_cons (pe_ix ix_list (pe_meth0 (pv 0) X.cl mT GT hr bT .nil pass0) (pv 2) (fun _ _ => rfl)) (pa_cons (pv 3) pa_nil))) pa_nil)))))), ?_⟩
    refine ⟨_, rfl, g, _, _, _, rfl, rfl, hg, at0, _, rfl, g, _, _, _, rfl, rfl, hg, at1, ?_⟩
    refine ⟨_, rfl, x, dx, fs, rfl, hx, hlk, _, rfl, x, fs, d.now, v, rfl, S, _, rfl, ?_⟩
    refine ite2 (fun hc => ?_) (fun hc => ?_)
    · refine ⟨by show 1 ≤ sizeLine; decide, tell (Kp.refl T H) hT k ?_⟩
      have hc : d.now.valley.length ≤ v := of_decide_eq_true hc
      have e : (act d (cBall [v, r])).2 = Km458.only (-2) := by
        show (if d.now.valley.length ≤ v then Km458.only (-2) else _) = _
        rw [if_pos hc]
      rw [e]; rfl
    · have hc : v < d.now.valley.length := by
        have : ¬ d.now.valley.length ≤ v := fun z => hc (decide_eq_true z)
        omega
      have ok := D.now.v
      have hle := ok.le
      refine ⟨_, rfl, x, dx, fs, rfl, hx, htk, x, fs, d.now, rfl, S, ok, fun H1 t s1 ⟨rows, h1, h2, h3⟩ hn => ?_⟩
      obtain ⟨rw', hrw⟩ : ∃ a, rows[v]? = some a := ⟨_, List.getElem?_eq_getElem (by omega)⟩
      refine ⟨_, rfl, t, _, _, _, rfl, rfl, SqL.of h1, at_of (j := v) rfl (by rw [List.getElem?_map, hrw]; rfl), _, rfl, rw', _, r, rfl, SqL.of (by rw [← rowV_eq]; exact h3 v rw' hrw), by simp; exact hle, fun H2 s2 => ?_⟩
      rw [ball_row hc]
      refine ⟨_, rfl, tell (s1.trans s2).kp hT k ?_⟩
      have e : (act d (cBall [v, r])).2 = ⟨(((List.range (table d.now.valley).length).filter fun p => decide (dist (table d.now.valley) v p ≤ r)).length : Nat), [ballOf (table d.now.valley) r v]⟩ := by
        show (if d.now.valley.length ≤ v then Km458.only (-2) else _) = _
        rw [if_neg (by omega)]
        show (⟨((((List.range (table d.now.valley).length).filter fun p => decide (dist (table d.now.valley) p v ≤ r)).length : Nat) : Int), [Km458.bits ((List.range (table d.now.valley).length).filter fun p => decide (dist (table d.now.valley) p v ≤ r))]⟩ : Km458.Ans) = _
        rw [ball_list ok hc, bits_msk (List.nodup_range.filter _)]
        rfl
      rw [e]
      have e2 : pc (ballOf (table d.now.valley) r v) = ((List.range (table d.now.valley).length).filter fun p => decide (dist (table d.now.valley) v p ≤ r)).length := pc_msk (List.nodup_range.filter _)
      rw [e2]
      rfl
theorem scFewA : FnScope ["valley", "given"] ["valley", "given"] (defScope sFewA) := ⟨rfl, rfl, rfl, by decide +kernel, rfl, by decide +kernel, by decide +kernel⟩
def cFew (as : List Nat) : Call := .fewest (as.getD 0 0)
theorem fewest_nodup (t : List (List Nat)) (r : Nat) : (Km458.fewest t r).Nodup := by rw [← add_nil_ps]; exact add_nodup t r []
theorem ok_fewA {f fB fF : Addr} {fd fdB fdF : FuncData} (F : Fun K "fewest_posts" "fewest_posts" sFewA f fd) (X : TxtC K mg C N) (hb : ("balls" : Str) ∉ N) (G : Bare mg)
    (GB : FnOk P w K mg base CX0 4 fB fdB ["self", "r"] (spBallsM C N)) (mB : Meth K C "balls" fB) (bB : Binds K fdB ["self", "r"] [])
    (GF : FnOk P w K mg base CX0 5 fF fdF ["balls"] (spFew K T)) (mF : mg "fewest" = some (.ref fF)) (kF : PySem.W.keepIn K (.ref fF) = true) (bF : Binds K fdF ["balls"] []) :
    FnOk P w K mg base CX0 6 f fd ["valley", "given"] (spAsk K T C N 1 cFew) := by
  refine F.ok scFewA (fun vs H Q E h => ?_) (fun cdv A outer s H vs Q E hr h => ?_)
  · obtain ⟨x, g, fs, d, as, rfl, _⟩ := h
    rfl
  · obtain ⟨x, g, fs, d, as, rfl, S, D, hg, hlen, hT, k⟩ := h
    obtain ⟨r, rfl⟩ := len1 hlen
    obtain ⟨hN, dx, hx⟩ := id S.ins
    have hbk : fs.lookup ("balls" : Str) = none := lookup_out (by rw [hN]; exact hb)
    have hr4 : Room 4 _ := hr.mono (by decide)
    refine ⟨_, pss_one (ps_ret (pe_callTy call_list_of (by rfl) G.lst (by decide +kernel) (pa_cons (pe_call GF hr rfl mF kF bF .nil pass0 (pa_cons (pe_meth (pv 0) X.cl mB GB hr4 bB .nil pass0 (pa_cons (pe_ix ix_list (pv 1) pe_int (fun _ _ => rfl)) pa_nil)) pa_nil)) pa_nil))), ?_⟩
    refine ⟨_, rfl, x, dx, fs, rfl, hx, hbk, _, rfl, g, _, _, _, rfl, rfl, hg, at0, x, fs, d.now, r, rfl, S, D.now.v, fun H1 p s1 hp hl1 => ?_⟩
    have k1 : Kp T H H1 := s1.kp
    refine ⟨p, d.now.valley, r, rfl, SqL.of hl1, D.now.v, k1.tabs hT, fun H2 q k2 hT2 hq hl2 => ?_⟩
    refine ⟨q, _, rfl, .inr (SqT.of hl2), tell (k1.trans k2) hT k ?_⟩
    have e : (act d (cFew [r])).2 = ⟨((Km458.fewest (table d.now.valley) r).length : Nat), [msk (Km458.fewest (table d.now.valley) r)]⟩ := by
      show (⟨(((Km458.fewest (table d.now.valley) r).length : Nat) : Int), [Km458.bits (Km458.fewest (table d.now.valley) r)]⟩ : Km458.Ans) = _
      rw [bits_msk (fewest_nodup _ _)]
    rw [e]; rfl
theorem scLonA : FnScope ["valley", "given"] ["valley", "given"] (defScope sLonA) := ⟨rfl, rfl, rfl, by decide +kernel, rfl, by decide +kernel, by decide +kernel⟩
def cLon (as : List Nat) : Call := .apart (as.getD 0 0)
theorem ok_lonA {f fB fF : Addr} {fd fdB fdF : FuncData} (F : Fun K "lonely_villages" "lonely_villages" sLonA f fd) (X : TxtC K mg C N) (hb : ("balls" : Str) ∉ N) (G : Bare mg)
    (GB : FnOk P w K mg base CX0 4 fB fdB ["self", "r"] (spBallsM C N)) (mB : Meth K C "balls" fB) (bB : Binds K fdB ["self", "r"] [])
    (GF : FnOk P w K mg base CX0 4 fF fdF ["balls"] (spLon K T)) (mF : mg "lonely" = some (.ref fF)) (kF : PySem.W.keepIn K (.ref fF) = true) (bF : Binds K fdF ["balls"] []) :
    FnOk P w K mg base CX0 5 f fd ["valley", "given"] (spAsk K T C N 1 cLon) := by
  refine F.ok scLonA (fun vs H Q E h => ?_) (fun cdv A outer s H vs Q E hr h => ?_)
  · obtain ⟨x, g, fs, d, as, rfl, _⟩ := h
    rfl
  · obtain ⟨x, g, fs, d, as, rfl, S, D, hg, hlen, hT, k⟩ := h
    obtain ⟨r, rfl⟩ := len1 hlen
    obtain ⟨hN, dx, hx⟩ := id S.ins
    have hbk : fs.lookup ("balls" : Str) = none := lookup_out (by rw [hN]; exact hb)
    refine ⟨_, pss_one (ps_ret (pe_callTy call_list_of (by rfl) G.lst (by decide +kernel) (pa_cons (pe_call GF hr rfl mF kF bF .nil pass0 (pa_cons (pe_meth (pv 0) X.cl mB GB hr bB .nil pass0 (pa_cons (pe_ix ix_list (pv 1) pe_int (fun _ _ => rfl)) pa_nil)) pa_nil)) pa_nil))), ?_⟩
    refine ⟨_, rfl, x, dx, fs, rfl, hx, hbk, _, rfl, g, _, _, _, rfl, rfl, hg, at0, x, fs, d.now, r, rfl, S, D.now.v, fun H1 p s1 hp hl1 => ?_⟩
    have k1 : Kp T H H1 := s1.kp
    refine ⟨p, d.now.valley, r, rfl, SqL.of hl1, D.now.v, k1.tabs hT, fun H2 q k2 hT2 hl2 => ?_⟩
    refine ⟨q, _, rfl, .inr (SqT.of hl2), tell (k1.trans k2) hT k ?_⟩
    have e : (act d (cLon [r])).2 = ⟨((Km458.most (table d.now.valley) r).length : Nat), [msk (Km458.most (table d.now.valley) r)]⟩ := by
      show (⟨(((Km458.most (table d.now.valley) r).length : Nat) : Int), [Km458.bits (Km458.most (table d.now.valley) r)]⟩ : Km458.Ans) = _
      rw [bits_msk (most_nodup _ _)]
    rw [e]; rfl
theorem scLeastA : FnScope ["valley", "given", "k", "r"] ["valley", "given"] (defScope sLeastA) := ⟨rfl, rfl, rfl, by decide +kernel, rfl, by decide +kernel, by decide +kernel⟩
def cLeast (as : List Nat) : Call := .least (as.getD 0 0)
theorem ok_leastA {f fT fB fF fR : Addr} {fd fdT fdB fdF fdR : FuncData} (F : Fun K "least" "least" sLeastA f fd) (X : TxtC K mg C N) (hb : ("balls" : Str) ∉ N) (ht : ("table" : Str) ∉ N) (M : Nums mg)
    (GT : FnOk P w K mg base CX0 3 fT fdT ["self"] (spTable C N)) (mT : Meth K C "table" fT) (bT : Binds K fdT ["self"] [])
    (GB : FnOk P w K mg base CX0 4 fB fdB ["self", "r"] (spBallsM C N)) (mB : Meth K C "balls" fB) (bB : Binds K fdB ["self", "r"] [])
    (GF : FnOk P w K mg base CX0 5 fF fdF ["balls"] (spFew K T)) (mF : mg "fewest" = some (.ref fF)) (kF : PySem.W.keepIn K (.ref fF) = true) (bF : Binds K fdF ["balls"] [])
    (GR : FnOk P w K mg base CX0 6 fR fdR ["table", "k"] (spReach T)) (mR : mg "least_reach" = some (.ref fR)) (kR : PySem.W.keepIn K (.ref fR) = true) (bR : Binds K fdR ["table", "k"] []) :
    FnOk P w K mg base CX0 7 f fd ["valley", "given"] (spAsk K T C N 1 cLeast) := by
  refine F.ok scLeastA (fun vs H Q E h => ?_) (fun cdv A outer s H vs Q E hr h => ?_)
  · obtain ⟨x, g, fs, d, as, rfl, _⟩ := h
    rfl
  · obtain ⟨x, g, fs, d, as, rfl, S, D, hg, hlen, hT, k⟩ := h
    obtain ⟨n, rfl⟩ := len1 hlen
    obtain ⟨tk, hOR⟩ := M.outOf
    obtain ⟨hN, dx, hx⟩ := id S.ins
    have hbk : fs.lookup ("balls" : Str) = none := lookup_out (by rw [hN]; exact hb)
    have htk : fs.lookup ("table" : Str) = none := lookup_out (by rw [hN]; exact ht)
    have hr3 : Room 3 _ := hr.mono (by decide)
    have hr4 : Room 4 _ := hr.mono (by decide)
    have hr5 : Room 5 _ := hr.mono (by decide)
    refine ⟨_, pss_cons (ps_set (i := 2) scLeastA.nd rfl (Or.inl rfl) (pe_ix ix_list (pv 1) pe_int (fun _ _ => rfl)))
      (pss_cons (ps_if (pt_cmpR op_eq (pv 2) pe_int (nomark _)) (pss_one (ps_ret (pe_lst (pa_cons (pe_glob rfl hOR (v := .int (-22)) ⟨_, rfl⟩) pa_nil)))) pss_nil)
      (pss_cons (ps_set (i := 3) scLeastA.nd rfl (Or.inl rfl) (pe_call GR hr rfl mR kR bR .nil pass0 (pa_cons (pe_meth0 (pv 0) X.cl mT GT hr3 bT .nil pass0) (pa_cons (pv 2) pa_nil))))
      (pss_one (ps_ret (pe_lst (pa_cons (pv 3) (pa_cons (pe_ix ix_tup (pe_call GF hr5 rfl mF kF bF .nil pass0 (pa_cons (pe_meth (pv 0) X.cl mB GB hr4 bB .nil pass0 (pa_cons (pv 3) pa_nil)) pa_nil)) pe_int (fun _ _ => rfl)) pa_nil))))))), ?_⟩
    refine ⟨_, rfl, g, _, _, _, rfl, rfl, hg, at0, ?_⟩
    refine ⟨_, rfl, rfl, _, rfl, ?_⟩
    refine ite2 (fun hc => ?_) (fun hc => ?_)
    · refine ⟨by show 1 ≤ sizeLine; decide, tell (Kp.refl T H) hT k ?_⟩
      have hc : n = 0 := by rw [show (V.int 0) = V.int ((0 : Nat) : Int) from rfl, int_eq] at hc; exact of_decide_eq_true hc
      have e : (act d (cLeast [n])).2 = Km458.only (-22) := by
        show (if n = 0 then Km458.only (-22) else _) = _
        rw [if_pos hc]
      rw [e]; rfl
    · have hc : n ≠ 0 := fun z => hc (by rw [show (V.int 0) = V.int ((0 : Nat) : Int) from rfl, int_eq]; exact decide_eq_true z)
      have ok := D.now.v
      refine ⟨_, rfl, x, dx, fs, rfl, hx, htk, x, fs, d.now, rfl, S, ok, fun H1 t s1 htv hn => ?_⟩
      have k1 : Kp T H H1 := s1.kp
      refine ⟨_, rfl, t, d.now.valley, n, rfl, htv, ok, k1.tabs hT, fun H2 k2 hT2 => ?_⟩
      have k12 := k1.trans k2
      have S2 := S.kp k12
      refine ⟨_, rfl, _, rfl, x, dx, fs, rfl, k12.ins hx, hbk, _, rfl, x, fs, d.now, _, rfl, S2, ok, fun H3 p s3 hp hl3 => ?_⟩
      have k3 : Kp T H2 H3 := s3.kp
      refine ⟨p, d.now.valley, _, rfl, SqL.of hl3, ok, k3.tabs hT2, fun H4 q k4 hT4 hq hl4 => ?_⟩
      refine ⟨q, _, _, _, rfl, rfl, SqT.of hl4, at_of (j := 1) rfl rfl, ⟨by show 2 ≤ sizeLine; decide, tell ((k12.trans k3).trans k4) hT k ?_⟩⟩
      have e : (act d (cLeast [n])).2 = ⟨(Km458.quick (table d.now.valley) n : Nat), [msk (Km458.fewest (table d.now.valley) (Km458.quick (table d.now.valley) n))]⟩ := by
        show (if n = 0 then Km458.only (-22) else _) = _
        rw [if_neg hc]
        show (⟨((Km458.quick (table d.now.valley) n : Nat) : Int), [Km458.bits (Km458.fewest (table d.now.valley) (Km458.quick (table d.now.valley) n))]⟩ : Km458.Ans) = _
        rw [bits_msk (fewest_nodup _ _)]
      rw [e]; rfl
end
end VR
end
section
set_option Elab.async false
set_option linter.all false
set_option maxRecDepth 100000
set_option maxHeartbeats 4000000
namespace VR
open PySem PySem.Spec PyProof.Rows L2 Vp
open Km457 (Valley at_ far)
open Km458 (table dist Sea Desk Call act)
theorem find_none {n X : Nat} {f : Nat → Bool} (hX : ∀ i, X.testBit i = (decide (i < n) && f i)) (h : X = 0) : (List.range n).find? f = none := by
  rw [List.find?_range_eq_none]
  intro i hi
  have := hX i
  rw [h, Nat.zero_testBit] at this
  simp only [hi, decide_true, Bool.true_and] at this
  rw [← this]; rfl
theorem find_some {n X p : Nat} {f : Nat → Bool} (hX : ∀ i, X.testBit i = (decide (i < n) && f i)) (h1 : X.testBit p = true) (h2 : ∀ u, u < p → X.testBit u = false) : (List.range n).find? f = some p := by
  rw [List.find?_range_eq_some]
  rw [hX, Bool.and_eq_true] at h1
  have hp : p < n := of_decide_eq_true h1.1
  refine ⟨h1.2, by simpa using hp, fun j hj => ?_⟩
  have := h2 j hj
  rw [hX] at this
  have hj' : j < n := by omega
  simp only [hj', decide_true, Bool.true_and] at this
  rw [this]; rfl
theorem testBit_wia (B : List Nat) (w i : Nat) : ∀ k, (wia B w k).testBit i = (decide (i < B.length) && (List.range k).all fun v => !w.testBit v || (B.getD v 0).testBit i)
  | 0 => by
    show (2 ^ B.length - 1).testBit i = _
    rw [Nat.testBit_two_pow_sub_one]; simp
  | k + 1 => by
    have e : wia B w (k + 1) = if w.testBit k = true then wia B w k &&& B.getD k 0 else wia B w k := by
      unfold wia
      rw [List.range_succ, List.foldl_append]; rfl
    rw [e, List.range_succ, List.all_append]
    have ih := testBit_wia B w i k
    by_cases h : w.testBit k = true
    · rw [if_pos h, Nat.testBit_and, ih]; simp [h, Bool.and_assoc]
    · rw [if_neg h, ih]
      have : w.testBit k = false := by simpa using h
      simp [this]
def oneP (s : Valley) (r w p : Nat) : Bool := Km458.serves (table s) r [p] ((List.range (table s).length).filter fun v => w.testBit v)
theorem wia_one {s : Valley} (ok : Ok s) (r w i : Nat) : (wia (ballsOf (table s) r) w (ballsOf (table s) r).length).testBit i = (decide (i < (table s).length) && oneP s r w i) := by
  rw [testBit_wia, ballsOf_length]
  by_cases hi : i < (table s).length
  · simp only [hi, decide_true, Bool.true_and]
    unfold oneP Km458.serves
    rw [Bool.eq_iff_iff, List.all_eq_true, List.all_eq_true]
    have hi' : i < s.length := by rw [table_length] at hi; exact hi
    constructor
    · intro h v hv
      obtain ⟨h1, h2⟩ := List.mem_filter.mp hv
      have h1' : v < (table s).length := by simpa using h1
      have hv' : v < s.length := by rw [table_length] at h1'; exact h1'
      have := h v h1
      rw [h2, ballsOf_get h1', testBit_ball] at this
      simp only [Bool.not_true, Bool.false_or, Bool.and_eq_true, decide_eq_true_eq] at this
      simp only [Km458.served, List.any_cons, List.any_nil, Bool.or_false, decide_eq_true_eq]
      rw [sym_table ok hi' hv']; exact this.2
    · intro h v hv
      have h1' : v < (table s).length := by simpa using hv
      have hv' : v < s.length := by rw [table_length] at h1'; exact h1'
      by_cases hw : w.testBit v = true
      · have := h v (List.mem_filter.mpr ⟨hv, hw⟩)
        simp only [Km458.served, List.any_cons, List.any_nil, Bool.or_false, decide_eq_true_eq] at this
        rw [hw, ballsOf_get h1', testBit_ball, sym_table ok hv' hi']
        simp [hi, this]
      · have : w.testBit v = false := by simpa using hw
        rw [this]; rfl
  · simp [hi]
def oneN (s : Valley) (r w : Nat) : Int := match (List.range (table s).length).find? (oneP s r w) with
  | none => -33
  | some p => ((p : Nat) : Int)
abbrev sLWA : Stmt := top 51
abbrev sOneA : Stmt := top 53
section
variable {P : Program} {w : World} {K : PySem.W.Frag} {mg : Str → Option Value} {base : Heap} {C : Addr} {N : List Str} {T : List Tb}
theorem scLWA : FnScope ["balls", "villages", "near"] ["balls", "villages"] (defScope sLWA) := ⟨rfl, rfl, rfl, by decide +kernel, rfl, by decide +kernel, by decide +kernel⟩
def spLWA (K : PySem.W.Frag) : Sp := fun vs H Q _ => ∃ (a : Addr) (s : Valley) (r w : Nat), vs = [.ref a, .int w] ∧ SqL K H a (natsV (ballsOf (table s) r)) ∧ Ok s ∧ ∀ l, H l = none → Q (.ref l) (upd H l (.lst [.int (oneN s r w)]))
theorem ok_lwa {f fW fO : Addr} {fd fdW fdO : FuncData} (F : Fun K "least_within_all" "least_within_all" sLWA f fd) (M : Nums mg)
    (GW : FnOk P w K mg base CX0 2 fW fdW ["balls", "villages"] (spWithin K)) (mW : mg "within_all" = some (.ref fW)) (kW : PySem.W.keepIn K (.ref fW) = true) (bW : Binds K fdW ["balls", "villages"] [])
    (GO : FnOk P w K mg base CX0 2 fO fdO ["villages"] spLeastOf) (mO : mg "least_of" = some (.ref fO)) (kO : PySem.W.keepIn K (.ref fO) = true) (bO : Binds K fdO ["villages"] []) :
    FnOk P w K mg base CX0 3 f fd ["balls", "villages"] (spLWA K) := by
  refine F.ok scLWA (fun vs H Q E h => ?_) (fun cdv A outer s H vs Q E hr h => ?_)
  · obtain ⟨a, s, r, w', rfl, _⟩ := h
    rfl
  · obtain ⟨a, sv, r, w', rfl, ha, ok, k⟩ := h
    obtain ⟨tc, hCB⟩ := M.cannot
    refine ⟨_, pss_cons (ps_set (i := 2) scLWA.nd rfl (Or.inl rfl) (pe_call GW hr rfl mW kW bW .nil pass0 (pa_cons (pv 0) (pa_cons (pv 1) pa_nil))))
      (pss_cons (ps_if (pt_cmpR op_eq (pv 2) pe_int (nomark _)) (pss_one (ps_ret (pe_lst (pa_cons (pe_glob rfl hCB (v := .int (-33)) ⟨_, rfl⟩) pa_nil)))) pss_nil)
      (pss_one (ps_ret (pe_lst (pa_cons (pe_call GO hr rfl mO kO bO .nil pass0 (pa_cons (pv 2) pa_nil)) pa_nil))))), ?_⟩
    have hle := ok.le
    refine ⟨_, rfl, _, rfl, a, ballsOf (table sv) r, w', rfl, ha, by rw [ballsOf_length, table_length]; exact hle, ?_⟩
    have hX := wia_one ok r w'
    generalize wia (ballsOf (table sv) r) w' (ballsOf (table sv) r).length = Z at hX
    refine ⟨_, rfl, rfl, _, rfl, ?_⟩
    rw [show (V.int 0) = V.int ((0 : Nat) : Int) from rfl, int_eq]
    refine ite2 (fun hc => ?_) (fun hc => ?_)
    · refine ⟨by show 1 ≤ sizeLine; decide, ?_⟩
      have e : oneN sv r w' = -33 := by unfold oneN; rw [find_none hX (of_decide_eq_true hc)]
      rw [e] at k
      exact k
    · refine ⟨_, rfl, Z, rfl, fun z => hc (decide_eq_true z), fun u h1 h2 => ⟨by show 1 ≤ sizeLine; decide, ?_⟩⟩
      have e : oneN sv r w' = ((u : Nat) : Int) := by unfold oneN; rw [find_some hX h1 h2]
      rw [e] at k
      exact k
theorem share_one {s : Valley} {v w' r p : Nat} (hv : v < s.length) (hw : w' < s.length) : oneP s r (2 ^ v ||| 2 ^ w') p = (decide (dist (table s) p v ≤ r) && decide (dist (table s) p w' ≤ r)) := by
  unfold oneP Km458.serves
  rw [Bool.eq_iff_iff, List.all_eq_true, Bool.and_eq_true, decide_eq_true_eq, decide_eq_true_eq]
  have key : ∀ i, Km458.served (table s) r [p] i = true ↔ dist (table s) p i ≤ r := fun i => by simp [Km458.served]
  constructor
  · intro h
    exact ⟨(key v).mp (h v (List.mem_filter.mpr ⟨by simpa [table_length] using hv, by rw [Nat.testBit_or, Nat.testBit_two_pow]; simp⟩)),
      (key w').mp (h w' (List.mem_filter.mpr ⟨by simpa [table_length] using hw, by rw [Nat.testBit_or, Nat.testBit_two_pow, Nat.testBit_two_pow]; simp⟩))⟩
  · rintro ⟨h1, h2⟩ i hi
    have := (List.mem_filter.mp hi).2
    rw [Nat.testBit_or, Nat.testBit_two_pow, Nat.testBit_two_pow, Bool.or_eq_true, decide_eq_true_eq, decide_eq_true_eq] at this
    rcases this with z | z
    · subst z; exact (key _).mpr h1
    · subst z; exact (key _).mpr h2
theorem share_oneN {s : Valley} {v w' r : Nat} (hv : v < s.length) (hw : w' < s.length) : (match Km458.share (table s) r v w' with | none => Km458.only (-33) | some p => Km458.only ((p : Nat) : Int)) = Km458.only (oneN s r (2 ^ v ||| 2 ^ w')) := by
  have e : Km458.share (table s) r v w' = (List.range (table s).length).find? (oneP s r (2 ^ v ||| 2 ^ w')) := by
    unfold Km458.share
    have h : ∀ x ∈ List.range (table s).length, (decide (dist (table s) x v ≤ r) && decide (dist (table s) x w' ≤ r)) = oneP s r (2 ^ v ||| 2 ^ w') x := fun x _ => (share_one hv hw).symm
    exact congrFun (congrArg List.find? (rfl)) _ |>.trans (by
      generalize List.range (table s).length = l at h
      induction l with
      | nil => rfl
      | cons a l ih =>
        rw [List.find?_cons, List.find?_cons, h a List.mem_cons_self, ih fun x hx => h x (List.mem_cons_of_mem _ hx)])
  rw [e]
  unfold oneN
  split <;> rfl
theorem scShareA : FnScope ["valley", "given", "v", "w", "r"] ["valley", "given"] (defScope sShareA) := ⟨rfl, rfl, rfl, by decide +kernel, rfl, by decide +kernel, by decide +kernel⟩
def cShare (as : List Nat) : Call := .share (as.getD 0 0) (as.getD 1 0) (as.getD 2 0)
theorem ok_shareA {f fL fB fO : Addr} {fd fdL fdB fdO : FuncData} (F : Fun K "share" "share" sShareA f fd) (X : TxtC K mg C N) (hl : ("lacks" : Str) ∉ N) (hb : ("balls" : Str) ∉ N) (M : Nums mg)
    (GL : FnOk P w K mg base CX0 1 fL fdL ["self", "v"] (spLacks C N)) (mL : Meth K C "lacks" fL) (bL : Binds K fdL ["self", "v"] [])
    (GB : FnOk P w K mg base CX0 4 fB fdB ["self", "r"] (spBallsM C N)) (mB : Meth K C "balls" fB) (bB : Binds K fdB ["self", "r"] [])
    (GO : FnOk P w K mg base CX0 3 fO fdO ["balls", "villages"] (spLWA K)) (mO : mg "least_within_all" = some (.ref fO)) (kO : PySem.W.keepIn K (.ref fO) = true) (bO : Binds K fdO ["balls", "villages"] []) :
    FnOk P w K mg base CX0 5 f fd ["valley", "given"] (spAsk K T C N 3 cShare) := by
  refine F.ok scShareA (fun vs H Q E h => ?_) (fun cdv A outer s H vs Q E hr h => ?_)
  · obtain ⟨x, g, fs, d, as, rfl, _⟩ := h
    rfl
  · obtain ⟨x, g, fs, d, as, rfl, S, D, hg, hlen, hT, k⟩ := h
    obtain ⟨v, w', r, rfl⟩ := len3 hlen
    obtain ⟨tk, hNT⟩ := M.notThere
    obtain ⟨hN, dx, hx⟩ := id S.ins
    have hlk : fs.lookup ("lacks" : Str) = none := lookup_out (by rw [hN]; exact hl)
    have hbk : fs.lookup ("balls" : Str) = none := lookup_out (by rw [hN]; exact hb)
    have hr1 : Room 1 _ := hr.mono (by decide)
    have hr3 : Room 3 _ := hr.mono (by decide)
    refine ⟨_, pss_cons (ps_set (i := 2) scShareA.nd rfl (Or.inl rfl) (pe_ix ix_list (pv 1) pe_int (fun _ _ => rfl)))
      (pss_cons (ps_set (i := 3) scShareA.nd rfl (Or.inl rfl) (pe_ix ix_list (pv 1) pe_int (fun _ _ => rfl)))
      (pss_cons (ps_set (i := 4) scShareA.nd rfl (Or.inl rfl) (pe_ix ix_list (pv 1) pe_int (fun _ _ => rfl)))
      (pss_cons (ps_if (PW.pt (pw_or (pt_val (pe_meth (pv 0) X.cl mL GL hr1 bL .nil pass0 (pa_cons (pv 2) pa_nil))) (pw_or1 (pt_val (pe_meth (pv 0) X.cl mL GL hr1 bL .nil pass0 (pa_cons (pv 3) pa_nil))))))
        (pss_one (ps_ret (pe_lst (pa_cons (pe_glob rfl hNT (v := .int (-2)) ⟨_, rfl⟩) pa_nil)))) pss_nil)
      (pss_one (ps_ret (pe_call GO hr3 rfl mO kO bO .nil pass0 (pa_cons (pe_meth (pv 0) X.cl mB GB hr bB .nil pass0 (pa_cons (pv 4) pa_nil)) (pa_cons (pe_op op_or (pe_op op_shl pe_int (pv 2)) (pe_op op_shl pe_int (pv 3))) pa_nil)))))))), ?_⟩
    refine ⟨_, rfl, g, _, _, _, rfl, rfl, hg, at0, _, rfl, g, _, _, _, rfl, rfl, hg, at1, _, rfl, g, _, _, _, rfl, rfl, hg, at2, ?_⟩
    refine ⟨_, rfl, x, dx, fs, rfl, hx, hlk, _, rfl, x, fs, d.now, v, rfl, S, _, rfl, ?_⟩
    refine ite2 (fun hc => ?_) (fun hc => ?_)
    · refine goT rfl ⟨by show 1 ≤ sizeLine; decide, tell (Kp.refl T H) hT k ?_⟩
      have hc : d.now.valley.length ≤ v := of_decide_eq_true hc
      have e : (act d (cShare [v, w', r])).2 = Km458.only (-2) := by
        show (if d.now.valley.length ≤ v ∨ d.now.valley.length ≤ w' then Km458.only (-2) else _) = _
        rw [if_pos (.inl hc)]
      rw [e]; rfl
    · refine ⟨_, rfl, x, dx, fs, rfl, hx, hlk, _, rfl, x, fs, d.now, w', rfl, S, _, rfl, ?_⟩
      have hc : ¬ d.now.valley.length ≤ v := fun z => hc (decide_eq_true z)
      refine ite2 (fun hc2 => ?_) (fun hc2 => ?_)
      · refine ⟨by show 1 ≤ sizeLine; decide, tell (Kp.refl T H) hT k ?_⟩
        have hc2 : d.now.valley.length ≤ w' := of_decide_eq_true hc2
        have e : (act d (cShare [v, w', r])).2 = Km458.only (-2) := by
          show (if d.now.valley.length ≤ v ∨ d.now.valley.length ≤ w' then Km458.only (-2) else _) = _
          rw [if_pos (.inr hc2)]
        rw [e]; rfl
      · have hc2 : ¬ d.now.valley.length ≤ w' := fun z => hc2 (decide_eq_true z)
        have ok := D.now.v
        have hle := ok.le
        have hv : v < d.now.valley.length := by omega
        have hw : w' < d.now.valley.length := by omega
        have ea : (act d (cShare [v, w', r])).2 = Km458.only (oneN d.now.valley r (2 ^ v ||| 2 ^ w')) := by
          show (if d.now.valley.length ≤ v ∨ d.now.valley.length ≤ w' then Km458.only (-2) else _) = _
          rw [if_neg (by omega)]
          exact share_oneN hv hw
        refine ⟨_, rfl, x, dx, fs, rfl, hx, hbk, _, rfl, x, fs, d.now, r, rfl, S, ok, fun H1 p s1 hp hl1 => ?_⟩
        have k1 : Kp T H H1 := s1.kp
        refine ⟨_, rfl, _, _, rfl, rfl, ⟨by omega, by omega, by decide⟩, _, rfl, _, _, rfl, rfl, ⟨by omega, by omega, by decide⟩, _, _, rfl, rfl, ?_⟩
        dsimp only
        rw [one_shl, one_shl, or_nn]
        refine ⟨p, d.now.valley, r, 2 ^ v ||| 2 ^ w', rfl, SqL.of hl1, ok, tell k1 hT k ?_⟩
        rw [ea]; rfl
theorem scOneA : FnScope ["valley", "given", "w", "r", "balls"] ["valley", "given"] (defScope sOneA) := ⟨rfl, rfl, rfl, by decide +kernel, rfl, by decide +kernel, by decide +kernel⟩
def cOne (as : List Nat) : Call := .one (as.getD 0 0) (as.getD 1 0)
theorem ok_oneA {f fB fE fO : Addr} {fd fdB fdE fdO : FuncData} (F : Fun K "one_for_all" "one_for_all" sOneA f fd) (X : TxtC K mg C N) (hb : ("balls" : Str) ∉ N) (M : Nums mg)
    (GB : FnOk P w K mg base CX0 4 fB fdB ["self", "r"] (spBallsM C N)) (mB : Meth K C "balls" fB) (bB : Binds K fdB ["self", "r"] [])
    (GE : FnOk P w K mg base CX0 1 fE fdE ["balls"] (spEvery K)) (mE : mg "everyone" = some (.ref fE)) (kE : PySem.W.keepIn K (.ref fE) = true) (bE : Binds K fdE ["balls"] [])
    (GO : FnOk P w K mg base CX0 3 fO fdO ["balls", "villages"] (spLWA K)) (mO : mg "least_within_all" = some (.ref fO)) (kO : PySem.W.keepIn K (.ref fO) = true) (bO : Binds K fdO ["balls", "villages"] []) :
    FnOk P w K mg base CX0 5 f fd ["valley", "given"] (spAsk K T C N 2 cOne) := by
  refine F.ok scOneA (fun vs H Q E h => ?_) (fun cdv A outer s H vs Q E hr h => ?_)
  · obtain ⟨x, g, fs, d, as, rfl, _⟩ := h
    rfl
  · obtain ⟨x, g, fs, d, as, rfl, S, D, hg, hlen, hT, k⟩ := h
    obtain ⟨w', r, rfl⟩ := len2 hlen
    obtain ⟨tk, hOR⟩ := M.outOf
    obtain ⟨hN, dx, hx⟩ := id S.ins
    have hbk : fs.lookup ("balls" : Str) = none := lookup_out (by rw [hN]; exact hb)
    have hr1 : Room 1 _ := hr.mono (by decide)
    have hr3 : Room 3 _ := hr.mono (by decide)
    refine ⟨_, pss_cons (ps_set (i := 2) scOneA.nd rfl (Or.inl rfl) (pe_ix ix_list (pv 1) pe_int (fun _ _ => rfl)))
      (pss_cons (ps_set (i := 3) scOneA.nd rfl (Or.inl rfl) (pe_ix ix_list (pv 1) pe_int (fun _ _ => rfl)))
      (pss_cons (ps_set (i := 4) scOneA.nd rfl (Or.inl rfl) (pe_meth (pv 0) X.cl mB GB hr bB .nil pass0 (pa_cons (pv 3) pa_nil)))
      (pss_cons (ps_if (pt_cmpR op_gt (pv 2) (pe_call GE hr1 rfl mE kE bE .nil pass0 (pa_cons (pv 4) pa_nil)) (nomark _)) (pss_one (ps_ret (pe_lst (pa_cons (pe_glob rfl hOR (v := .int (-22)) ⟨_, rfl⟩) pa_nil)))) pss_nil)
      (pss_one (ps_ret (pe_call GO hr3 rfl mO kO bO .nil pass0 (pa_cons (pv 4) (pa_cons (pv 2) pa_nil)))))))), ?_⟩
    have ok := D.now.v
    have hle := ok.le
    have hB10 : (ballsOf (table d.now.valley) r).length ≤ 10 := by rw [ballsOf_length, table_length]; exact hle
    refine ⟨_, rfl, g, _, _, _, rfl, rfl, hg, at0, _, rfl, g, _, _, _, rfl, rfl, hg, at1, ?_⟩
    refine ⟨_, rfl, x, dx, fs, rfl, hx, hbk, _, rfl, x, fs, d.now, r, rfl, S, ok, fun H1 p s1 hp hl1 => ?_⟩
    have k1 : Kp T H H1 := s1.kp
    refine ⟨_, rfl, _, rfl, p, _, rfl, SqL.of hl1, hB10, _, _, rfl, rfl, _, rfl, ?_⟩
    have hp2 := Nat.two_pow_pos d.now.valley.length
    rw [ballsOf_length, table_length]
    have ea0 : (act d (cOne [w', r])).2 = if 2 ^ d.now.valley.length ≤ w' then Km458.only (-22) else match (List.range (table d.now.valley).length).find? (oneP d.now.valley r w') with | none => Km458.only (-33) | some p => Km458.only ((p : Nat) : Int) := rfl
    refine ite2 (fun hc => ?_) (fun hc => ?_)
    · refine ⟨by show 1 ≤ sizeLine; decide, tell k1 hT k ?_⟩
      have hc := of_decide_eq_true hc
      rw [ea0, if_pos (by omega)]; rfl
    · have hc : ¬ 2 ^ d.now.valley.length ≤ w' := fun z => hc (decide_eq_true (by omega))
      refine ⟨_, rfl, _, rfl, p, d.now.valley, r, w', rfl, SqL.of hl1, ok, tell k1 hT k ?_⟩
      rw [ea0, if_neg hc]
      unfold oneN
      split <;> rfl
end
end VR
end
section
set_option linter.all false
set_option maxRecDepth 100000
namespace Vp
open Km458 (Desk Call act Ans)
def intsN (l : List Nat) : List Int := l.map fun (x : Nat) => (x : Int)
def callAt (q : Nat) (as : List Nat) : Call := match q with
  | 0 => .start
  | 1 => .village (as.getD 0 0) (as.getD 1 0)
  | 2 => .long_ (as.getD 0 0) (as.getD 1 0)
  | 3 => .drop
  | 4 => .post (as.getD 0 0) (as.getD 1 0)
  | 5 => .put (as.getD 0 0)
  | 6 => .clear
  | 7 => .far (as.getD 0 0) (as.getD 1 0)
  | 8 => .ball (as.getD 0 0) (as.getD 1 0)
  | 9 => .share (as.getD 0 0) (as.getD 1 0) (as.getD 2 0)
  | 10 => .fewest (as.getD 0 0)
  | 11 => .apart (as.getD 0 0)
  | 12 => .least (as.getD 0 0)
  | 13 => .add (as.getD 0 0)
  | 14 => .within (as.getD 0 0)
  | 15 => .near (as.getD 0 0)
  | 16 => .worst
  | 17 => .idle (as.getD 0 0)
  | 18 => .one (as.getD 0 0) (as.getD 1 0)
  | 19 => .farthest
  | 20 => .serves (as.getD 0 0) (as.getD 1 0)
  | 21 => .look (as.getD 0 0)
  | 22 => .posts
  | 23 => .back
  | 24 => .again
  | _ => .state
theorem callOf_at : ∀ (q n : Nat) (as : List Nat), givenOf[q]? = some n → as.length = n → Km458Neutral.callOf [((q : Nat) : Int) :: intsN as] = some (callAt q as) := by
  intro q n as hq hl
  have hq26 : q < 26 := (List.getElem?_eq_some_iff.mp hq).1
  have h3 : n ≤ 3 := by
    have : ∀ i : Fin 26, givenOf.getD i.val 0 ≤ 3 := by decide
    have := this ⟨q, hq26⟩
    rw [List.getD_eq_getElem?_getD, hq] at this
    exact this
  match as, hl with
  | [], hl =>
    subst hl
    have : q = 0 ∨ q = 3 ∨ q = 6 ∨ q = 16 ∨ q = 19 ∨ q = 22 ∨ q = 23 ∨ q = 24 ∨ q = 25 := by
      have : ∀ i : Fin 26, givenOf[i.val]? = some 0 → i.val = 0 ∨ i.val = 3 ∨ i.val = 6 ∨ i.val = 16 ∨ i.val = 19 ∨ i.val = 22 ∨ i.val = 23 ∨ i.val = 24 ∨ i.val = 25 := by decide
      exact this ⟨q, hq26⟩ hq
    rcases this with rfl | rfl | rfl | rfl | rfl | rfl | rfl | rfl | rfl <;> rfl
  | [a], hl =>
    subst hl
    have : q = 5 ∨ q = 10 ∨ q = 11 ∨ q = 12 ∨ q = 13 ∨ q = 14 ∨ q = 15 ∨ q = 17 ∨ q = 21 := by
      have : ∀ i : Fin 26, givenOf[i.val]? = some 1 → i.val = 5 ∨ i.val = 10 ∨ i.val = 11 ∨ i.val = 12 ∨ i.val = 13 ∨ i.val = 14 ∨ i.val = 15 ∨ i.val = 17 ∨ i.val = 21 := by decide
      exact this ⟨q, hq26⟩ hq
    rcases this with rfl | rfl | rfl | rfl | rfl | rfl | rfl | rfl | rfl <;> rfl
  | [a, b], hl =>
    subst hl
    have : q = 1 ∨ q = 2 ∨ q = 4 ∨ q = 7 ∨ q = 8 ∨ q = 18 ∨ q = 20 := by
      have : ∀ i : Fin 26, givenOf[i.val]? = some 2 → i.val = 1 ∨ i.val = 2 ∨ i.val = 4 ∨ i.val = 7 ∨ i.val = 8 ∨ i.val = 18 ∨ i.val = 20 := by decide
      exact this ⟨q, hq26⟩ hq
    rcases this with rfl | rfl | rfl | rfl | rfl | rfl | rfl <;> rfl
  | [a, b, c], hl =>
    subst hl
    have : q = 9 := by
      have : ∀ i : Fin 26, givenOf[i.val]? = some 3 → i.val = 9 := by decide
      exact this ⟨q, hq26⟩ hq
    subst this; rfl
  | a :: b :: c :: e :: l, hl => exact absurd hl (by simp; omega)
theorem out_len (d : Desk) (c : Call) : (act d c).2.out.length ≤ 2 := by
  cases c <;> (unfold act; dsimp only) <;> (repeat' split) <;> (first | exact Nat.zero_le _ | exact (by decide : 1 ≤ 2) | exact Nat.le_refl 2)
def Mid (ns : List Int) (p : Nat) (d : Desk) (pre : List Int) : Prop := ∃ f cs s, p ≤ ns.length ∧ PyFlat.calls PyKm458.shape f (ns.drop p) = some cs ∧ d = deskOf s ∧ PyKm458.answers ns = pre ++ PyFlat.told (PyFlat.played Km458Neutral.step s cs) ∧
  Km458Neutral.may s cs = true ∧ DeskOk d ∧ pre.length + 4 * cs.length ≤ 4000
theorem mid_start {ns : List Int} (h : PyKm458.answers_asked ns = true) : Mid ns 0 Km458.fresh [] := by
  unfold PyKm458.answers_asked at h
  cases e : PyFlat.calls PyKm458.shape ns.length ns with
  | none => rw [e] at h; cases h
  | some raw =>
    rw [e] at h
    dsimp only at h
    simp only [Bool.and_eq_true] at h
    obtain ⟨⟨⟨⟨h1, h2⟩, h3⟩, h4⟩, h5⟩ := h
    rw [map_whole e] at h4
    unfold Km458Neutral.asked at h4
    simp only [Bool.and_eq_true] at h4
    have hl : raw.length ≤ 1000 := of_decide_eq_true h4.2.1
    refine ⟨ns.length, raw, Km458Neutral.start, Nat.zero_le _, by rw [List.drop_zero]; exact e, rfl, ?_, h4.2.2.2, fresh_ok, by show 0 + _ ≤ _; omega⟩
    unfold PyKm458.answers PyKm458.calls
    rw [e]
    dsimp only
    rw [map_whole e]
    rfl
theorem mid_end {ns : List Int} {p : Nat} {d : Desk} {pre : List Int} (h : Mid ns p d pre) (hp : ¬ p < ns.length) : PyKm458.answers ns = pre := by
  obtain ⟨f, cs, s, h1, h2, h3, h4, _⟩ := h
  rw [List.drop_of_length_le (by omega)] at h2
  rw [h4, calls_nil h2]
  show pre ++ [] = pre
  rw [List.append_nil]
def ansN (a : Ans) : List Int := a.value :: intsN a.out
theorem mid_step {ns : List Int} (h0 : ∀ x ∈ ns, 0 ≤ x) {p : Nat} {d : Desk} {pre : List Int} (h : Mid ns p d pre) (hp : p < ns.length) :
    ∃ (q n : Nat) (as : List Nat), ns[p]? = some ((q : Nat) : Int) ∧ q < 26 ∧ givenOf[q]? = some n ∧ n ≤ 3 ∧ p + 1 + n ≤ ns.length ∧ (ns.drop (p + 1)).take n = intsN as ∧ as.length = n ∧ DeskOk d ∧ pre.length ≤ 4000 ∧
      Mid ns (p + 1 + n) (act d (callAt q as)).1 (pre ++ (((ansN (act d (callAt q as)).2).length : Int) :: ansN (act d (callAt q as)).2)) := by
  obtain ⟨f, cs, s, h1, h2, h3, h4, h5, h6, h7⟩ := h
  obtain ⟨z, n, r, f', cs', e1, e2, e3, e4, e5, e6, e7, e8⟩ := calls_step h2 (by intro q; have := congrArg List.length q; simp at this; omega)
  have hz : ns[p]? = some z := by
    have := congrArg (fun l => l[0]?) e1
    simpa using this
  have hr : r = ns.drop (p + 1) := by
    have := congrArg List.tail e1
    simp at this
    exact this.symm
  have h26 : z.toNat < 26 := (List.getElem?_eq_some_iff.mp e2).1
  have hn3 : n ≤ 3 := by
    have : ∀ i : Fin 26, givenOf.getD i.val 0 ≤ 3 := by decide
    have := this ⟨z.toNat, h26⟩
    rw [List.getD_eq_getElem?_getD, e2] at this
    exact this
  have hzn : ((z.toNat : Nat) : Int) = z := by omega
  have hrl : r.length = ns.length - (p + 1) := by rw [hr, List.length_drop]
  have has : r.take n = intsN ((r.take n).map Int.toNat) := by
    unfold intsN
    rw [List.map_map]
    symm
    conv => rhs; rw [← List.map_id (r.take n)]
    apply List.map_congr_left
    intro x hx
    have hx0 : x ∈ ns := List.mem_of_mem_drop (by rw [← hr]; exact List.mem_of_mem_take hx)
    have := h0 x hx0
    show ((x.toNat : Nat) : Int) = x
    omega
  have hal : ((r.take n).map Int.toNat).length = n := by rw [List.length_map, List.length_take]; omega
  have hc : Km458Neutral.callOf [z :: r.take n] = some (callAt z.toNat ((r.take n).map Int.toNat)) := by
    have := callOf_at z.toNat n _ e2 hal
    rw [hzn, ← has] at this
    exact this
  rw [e6] at h5 h4 h7
  have h5' : (!((Km458Neutral.step s [z :: r.take n]).2.isEmpty) && Km458Neutral.may (Km458Neutral.step s [z :: r.take n]).1 cs') = true := h5
  rw [Bool.and_eq_true] at h5'
  obtain ⟨x, hx, hs1, hs2⟩ := step_desk (s := s) (c := [z :: r.take n]) (by intro q; rw [q] at h5'; exact absurd h5'.1 (by decide))
  rw [hc] at hx
  cases hx
  refine ⟨z.toNat, n, (r.take n).map Int.toNat, by rw [hzn]; exact hz, h26, e2, hn3, by omega, by rw [← hr]; exact has, hal, h6, by omega, f', cs', (Km458Neutral.step s [z :: r.take n]).1, by omega, ?_, ?_, ?_, h5'.2, act_ok h6 _, ?_⟩
  · rw [← e8, hr, List.drop_drop]
  · rw [hs2, h3]
  · rw [h4, List.append_assoc]
    show pre ++ PyFlat.told ((Km458Neutral.step s [z :: r.take n]).2 :: PyFlat.played Km458Neutral.step (Km458Neutral.step s [z :: r.take n]).1 cs') = _
    rw [hs1, h3]
    rfl
  · have := out_len d (callAt z.toNat ((r.take n).map Int.toNat))
    have hl : (ansN (act d (callAt z.toNat ((r.take n).map Int.toNat))).2).length = (act d (callAt z.toNat ((r.take n).map Int.toNat))).2.out.length + 1 := by simp [ansN, intsN]
    rw [List.length_append, List.length_cons, hl]
    rw [List.length_cons] at h7
    omega
end Vp
end
section
set_option Elab.async false
set_option linter.all false
set_option maxRecDepth 100000
set_option maxHeartbeats 4000000
namespace L2
open PySem PySem.Spec PyProof.Rows
def tCallX (P : Program) (w : World) (K : PySem.W.Frag) (mg : Str → Option Value) (base : Heap) (k : Nat) (tf : TE) (t : TA) : TE := fun σ H Q => tf σ H fun x H1 => ∃ (f : Addr) (fd : FuncData) (ps : List Str) (sp : Sp), x = .ref f ∧ FnOk P w K mg base CX0 k f fd ps sp ∧ PySem.W.keepIn K (.ref f) = true ∧ Binds K fd ps [] ∧
  t σ H1 fun vs H2 => sp vs H2 Q E0
theorem pe_callX {X : Cx} {P : Program} {w : World} {K : PySem.W.Frag} {mg : Str → Option Value} {base : Heap} {k : Nat} {fe e : Expr} {es : List Expr} {pos : Pos} {tf : TE} {t : TA} (hP : X.prog = P) (hw : X.w = w) (hK : X.K = K) (hmg : X.mg = mg) (hb : X.base = base) (hr : Room k X.A) (hf : PE X fe tf) (ha : PA X (e :: es) t)
    (ht : eval (.Call fe (e :: es) [] pos) X.env = (do let f ← eval fe X.env; callWith pos f [] (backTo pos (starEach (e :: es) X.env)) (backToKw pos (keywordEach [] X.env))) := by rfl)
    (he : starEach (e :: es) X.env = (false, eval e X.env) :: starEach es X.env := by rfl) (hpl : (backTo pos (starEach es X.env)).any (·.1) = false := by rfl) :
    PE X (.Call fe (e :: es) [] pos) (tCallX P w K mg base k tf t) := by
  subst hP hw hK hmg hb
  intro pins s σ H Q I h
  rw [ht]
  refine wpAny_bind (thn (hf pins s σ H _ I h) fun v s1 ⟨x, H1, I1, rx, f, fd, ps, sp, ex, F, hk, hbd, q⟩ => ?_)
  subst ex
  obtain rfl : v = Value.ref f := rx
  refine PySem.W.callWith_K (h₀ := X.base) I.ok.mod.kin hk (thn (ha pos pins s1 σ H1 _ I1 q) fun us s2 ⟨vs, H2, I2, r, q2⟩ => ⟨I2.kIn, ?_⟩) he hpl
  exact run_fn (dvs := []) (ds := []) F hr hbd .nil (fun _ _ _ _ _ _ _ z => z.elim) I2 r (by rw [List.append_nil]; exact q2)
end L2
end
section
set_option Elab.async false
set_option linter.all false
set_option maxRecDepth 100000
set_option maxHeartbeats 4000000
namespace VR
open PySem PySem.Spec PyProof.Rows L2 Vp
open Km458 (Desk Call act)
structure KpX (T : List Tb) (os : List Addr) (H H' : Hp) : Prop where
  keep : ∀ b o, H b = some o → b ∉ os → (∀ ps, o ≠ .tbl ps) → H' b = some o
  free : ∀ b, H' b = none → H b = none
  tabs : Tabs T H → Tabs T H'
theorem Kp.x {T : List Tb} {H H' : Hp} (k : Kp T H H') (os : List Addr) : KpX T os H H' := ⟨fun b o h _ n => k.keep b o h n, fun b h => k.free h, k.tabs⟩
theorem KpX.trans {T : List Tb} {os : List Addr} {H H1 H2 : Hp} (a : KpX T os H H1) (b : KpX T os H1 H2) : KpX T os H H2 :=
  ⟨fun c o h n m => b.keep c o (a.keep c o h n m) n m, fun c h => a.free c (b.free c h), fun h => b.tabs (a.tabs h)⟩
def Mine (K : PySem.W.Frag) (os : List Addr) (H : Hp) (a : Addr) (xs : List V) : Prop := (Rd H a (.lst xs) ∧ a ∉ os) ∨ ∃ (o : Obj) (its : Array Value) (n : Nat), K.lookup a = some o ∧ o.cls = .type "list" ∧ o.dict = none ∧ o.data = .seq its n ∧ its.size ≤ sizeLine ∧ Vals xs its.toList
theorem Mine.seq {K : PySem.W.Frag} {os : List Addr} {H : Hp} {a : Addr} {xs : List V} (h : Mine K os H a xs) : SqL K H a xs := h.imp (·.1) id
theorem Mine.kp {K : PySem.W.Frag} {T : List Tb} {os os0 os' : List Addr} {H H' : Hp} {a : Addr} {xs : List V} (h : Mine K os0 H a xs) (k : KpX T os H H') (hi : ∀ b ∈ os, b ∈ os0) (ho : ∀ b ∈ os', b ∈ os0 ∨ H b = none) : Mine K os' H' a xs := by
  rcases h with ⟨q, n⟩ | q
  · have hs : ∃ o, H a = some o := by
      rcases q with q | ⟨o, q⟩
      · exact ⟨_, q⟩
      · exact ⟨_, q⟩
    have n' : a ∉ os := fun z => n (hi a z)
    refine .inl ⟨?_, fun z => ?_⟩
    · rcases q with q | ⟨o, q⟩
      · exact .inl (k.keep a _ q n' (fun ps z => by cases z))
      · exact .inr ⟨o, k.keep a _ q n' (fun ps z => by cases z)⟩
    · rcases ho a z with z | z
      · exact n z
      · obtain ⟨o, e⟩ := hs
        rw [e] at z; cases z
  · exact .inr q
theorem Mine.upd {K : PySem.W.Frag} {os : List Addr} {H : Hp} {a p : Addr} {o : HO} {xs : List V} (h : Mine K os H a xs) (hp : H p = none ∨ p ∈ os) : Mine K os (upd H p o) a xs := by
  rcases h with ⟨q, n⟩ | q
  · have hne : a ≠ p := by
      intro e
      subst e
      rcases hp with z | z
      · rcases q with q | ⟨o, q⟩ <;> (rw [z] at q; cases q)
      · exact n z
    refine .inl ⟨?_, n⟩
    rcases q with q | ⟨o, q⟩
    · exact .inl (by rw [upd_ne hne]; exact q)
    · exact .inr ⟨o, by rw [upd_ne hne]; exact q⟩
  · exact .inr q
theorem tabs_lst {T : List Tb} {H : Hp} {l : Addr} {xs o : List V} (h : Tabs T H) (hl : H l = some (.lst xs)) : Tabs T (upd H l (.lst o)) := fun t ht => by
  obtain ⟨ps, h1, h2, h3⟩ := h t ht
  have n1 : t.P ≠ l := fun z => by rw [z, hl] at h1; cases h1
  refine ⟨ps, by rw [upd_ne n1]; exact h1, h2, fun q hq => (h3 q hq).imp id fun ⟨c, z1, z2⟩ => ⟨c, z1, ?_⟩⟩
  have n2 : c ≠ l := fun z => by rw [z, hl] at z2; exact absurd z2 (by unfold CodeO; intro y; cases y)
  rw [upd_ne n2]; exact z2
abbrev DAt := Hp → Addr → List Addr → Desk → Prop
structure DAt.Fine (DA : DAt) : Prop where
  calm : ∀ H H' x os d, DA H x os d → (∀ b ∈ os, H' b = H b) → DA H' x os d
  there : ∀ H x os d, DA H x os d → ∀ b ∈ os, ∃ o, H b = some o ∧ ∀ ps, o ≠ .tbl ps
def spDo (K : PySem.W.Frag) (T : List Tb) (DA : DAt) (n : Nat) (c : List Nat → Call) : Sp := fun vs H Q _ => ∃ (x g : Addr) (os : List Addr) (d : Desk) (as : List Nat), vs = [.ref x, .ref g] ∧ DA H x os d ∧ DeskOk d ∧ H g = some (.lst ((intsN as).map V.int)) ∧ g ∉ os ∧ as.length = n ∧ Tabs T H ∧
  ∀ H' p os', KpX T os H H' → DA H' x os' (act d (c as)).1 → (∀ b ∈ os', b ∈ os ∨ H b = none) → H p = none → p ∉ os' → H' p = some (.lst ((ansN (act d (c as)).2).map V.int)) → Q (.ref p) H'
def spNew (C : Addr) (T : List Tb) (DA : DAt) : Sp := fun vs H Q _ => ∃ (x dx : Addr), vs = [.ref x] ∧ H x = some (.ins C dx []) ∧ H dx = some (.own x) ∧ Tabs T H ∧
  ∀ H' os, KpX T [x, dx] H H' → DA H' x os Km458.fresh → (∀ b ∈ os, b = x ∨ b = dx ∨ H b = none) → Q .non H'
def spAnsT (K : PySem.W.Frag) (T : List Tb) : Sp := fun vs H Q _ => ∃ (a : Addr) (ns : List Int), vs = [.ref a] ∧ SqL K H a (ns.map V.int) ∧ (∀ x ∈ ns, 0 ≤ x) ∧ ns.length ≤ 30000 ∧ PyKm458.answers_asked ns = true ∧ Tabs T H ∧ ∀ (H' : Hp) (p : Addr), H' p = some (.lst ((PyKm458.answers ns).map V.int)) → Q (.ref p) H'
abbrev sAns : Stmt := top 72
abbrev sAll : Stmt := top 71
theorem scAns : FnScope ["calls", "known", "valley", "told", "place", "call", "end", "answer"] ["calls"] (defScope sAns) := ⟨rfl, rfl, rfl, by decide +kernel, rfl, by decide +kernel, by decide +kernel⟩
structure Tbl (P : Program) (w : World) (K : PySem.W.Frag) (mg : Str → Option Value) (base : Heap) (T : List Tb) (DA : DAt) (k : Nat) (f0 : Addr) (ts : List Addr) : Prop where
  r0 : ∃ fd ps, FnOk P w K mg base CX0 k f0 fd ps (spDo K T DA 0 (callAt 0)) ∧ PySem.W.keepIn K (.ref f0) = true ∧ Binds K fd ps []
  row : ∀ q n, givenOf[q + 1]? = some n → ∃ t f fd ps, ts[q]? = some t ∧ (∀ H, SqT K H t [.ref f, .int (n : Nat)]) ∧ FnOk P w K mg base CX0 k f fd ps (spDo K T DA n (callAt (q + 1))) ∧ PySem.W.keepIn K (.ref f) = true ∧ Binds K fd ps []
theorem Tbl.at {P : Program} {w : World} {K : PySem.W.Frag} {mg : Str → Option Value} {base : Heap} {T : List Tb} {DA : DAt} {k : Nat} {f0 t0 : Addr} {ts : List Addr} (B : Tbl P w K mg base T DA k f0 ts) {H : Hp} (h0 : H t0 = some (.tup [.ref f0, .int 0])) {q n : Nat} (hq : givenOf[q]? = some n) :
    ∃ t f fd ps, (t0 :: ts)[q]? = some t ∧ SqT K H t [.ref f, .int (n : Nat)] ∧ FnOk P w K mg base CX0 k f fd ps (spDo K T DA n (callAt q)) ∧ PySem.W.keepIn K (.ref f) = true ∧ Binds K fd ps [] := by
  cases q with
  | zero =>
    obtain ⟨fd, ps, h1, h2, h3⟩ := B.r0
    have hn : n = 0 := by
      have : givenOf[0]? = some 0 := by decide
      rw [this] at hq; exact (Option.some.inj hq).symm
    subst hn
    exact ⟨t0, f0, fd, ps, rfl, SqT.of h0, h1, h2, h3⟩
  | succ q =>
    obtain ⟨t, f, fd, ps, g1, g2, g3⟩ := B.row q n hq
    exact ⟨t, f, fd, ps, g1, g2 H, g3⟩
theorem cut_mid {ns : List Int} {p n : Nat} (h : p + 1 + n ≤ ns.length) : cutV (ns.map V.int) (some ((p : Int) + 1)) (some ((p : Int) + 1 + (n : Nat))) = ((ns.drop (p + 1)).take n).map V.int := by
  unfold cutV
  rw [show (p : Int) + 1 = ((p + 1 : Nat) : Int) by omega, show ((p + 1 : Nat) : Int) + (n : Nat) = ((p + 1 + n : Nat) : Int) by omega, HT.sIx_nat, HT.sIx_nat, List.length_map, Nat.min_eq_left (by omega), Nat.min_eq_left (by omega), Nat.add_sub_cancel_left, List.map_take, List.map_drop]
section
variable {P : Program} {w : World} {K : PySem.W.Frag} {mg : Str → Option Value} {base : Heap} {C : Addr} {T : List Tb} {DA : DAt}
theorem scAll : FnScope [] [] (defScope sAll) := ⟨rfl, rfl, rfl, by decide +kernel, rfl, by decide +kernel, by decide +kernel⟩
def spAll (f0 : Addr) (ts : List Addr) : Sp := fun vs H Q _ => vs = [] ∧ ∀ H' p t0, Same H H' → H p = none → H t0 = none → H' p = some (.tup (V.ref t0 :: ts.map V.ref)) → H' t0 = some (.tup [.ref f0, .int 0]) → Q (.ref p) H'
theorem ok_all {f f0 aC aQ aH : Addr} {fd : FuncData} {tC tQ tH : List Addr} (F : Fun K "all_calls" "all_calls" sAll f fd) (m0 : mg "start" = some (.ref f0)) (mC : mg "CHANGES" = some (.ref aC)) (mQ : mg "QUESTIONS" = some (.ref aQ)) (mH : mg "HISTORY" = some (.ref aH))
    (sC : ∀ H, SqT K H aC (tC.map V.ref)) (sQ : ∀ H, SqT K H aQ (tQ.map V.ref)) (sH : ∀ H, SqT K H aH (tH.map V.ref)) (nC : tC ≠ []) (nQ : tQ ≠ []) (nH : tH ≠ []) (few : tC.length + tQ.length + tH.length ≤ 100) : FnOk P w K mg base CX0 1 f fd [] (spAll f0 (tC ++ tQ ++ tH)) := by
  refine F.ok scAll (fun vs H Q E h => ?_) (fun cdv A outer s H vs Q E hr h => ?_)
  · obtain ⟨rfl, _⟩ := h
    rfl
  · obtain ⟨rfl, k⟩ := h
    refine ⟨_, pss_one (ps_ret (pe_op op_catT (pe_op op_catT (pe_op op_catT (pe_tup (pa_cons (pe_tup (pa_cons (pe_glob (v := .ref f0) rfl m0 rfl) (pa_cons pe_int pa_nil))) pa_nil)) (pe_glob (v := .ref aC) rfl mC rfl)) (pe_glob (v := .ref aQ) rfl mQ rfl)) (pe_glob (v := .ref aH) rfl mH rfl))), ?_⟩
    have hsz : sizeLine = 16777216 := sizeLine_eq
    have ne : ∀ {l : List Addr}, l ≠ [] → l.map V.ref ≠ [] := fun h z => h (List.map_eq_nil_iff.mp z)
    refine ⟨by show 2 ≤ sizeLine; decide, fun t0 h0 => ⟨by show 1 ≤ sizeLine; decide, fun p1 h1 => ?_⟩⟩
    have s0 : Same H (upd H t0 (.tup [.ref f0, .int 0])) := (Same.refl H).add h0
    have s1 := s0.add (o := .tup [.ref t0]) h1
    refine ⟨p1, aC, _, _, rfl, rfl, SqT.of upd_same, sC _, by simp, by rw [List.length_map]; show 1 + _ ≤ _; omega, fun z => absurd z (ne nC), fun _ p2 h2 => ?_⟩
    have s2 := s1.add (o := .tup ([.ref t0] ++ tC.map V.ref)) h2
    refine ⟨p2, aQ, _, _, rfl, rfl, SqT.of upd_same, sQ _, by simp, by rw [List.length_append, List.length_map, List.length_map]; show 1 + _ + _ ≤ _; omega, fun z => absurd z (ne nQ), fun _ p3 h3 => ?_⟩
    have s3 := s2.add (o := .tup ([.ref t0] ++ tC.map V.ref ++ tQ.map V.ref)) h3
    refine ⟨p3, aH, _, _, rfl, rfl, SqT.of upd_same, sH _, by simp, by rw [List.length_append, List.length_append, List.length_map, List.length_map, List.length_map]; show 1 + _ + _ + _ ≤ _; omega, fun z => absurd z (ne nH), fun _ p4 h4 => ?_⟩
    have s4 := s3.add (o := .tup ([.ref t0] ++ tC.map V.ref ++ tQ.map V.ref ++ tH.map V.ref)) h4
    have q0 : (upd H t0 (.tup [.ref f0, .int 0])) t0 = some (.tup [.ref f0, .int 0]) := upd_same
    refine k _ p4 t0 s4 (s3.free h4) h0 (by rw [upd_same]; simp) ?_
    have a1 := ((Same.refl _).add (o := .tup [.ref t0]) h1) _ _ q0
    have a2 := ((Same.refl _).add (o := .tup ([.ref t0] ++ tC.map V.ref)) h2) _ _ a1
    have a3 := ((Same.refl _).add (o := .tup ([.ref t0] ++ tC.map V.ref ++ tQ.map V.ref)) h3) _ _ a2
    exact ((Same.refl _).add (o := .tup ([.ref t0] ++ tC.map V.ref ++ tQ.map V.ref ++ tH.map V.ref)) h4) _ _ a3
theorem ok_ans {k : Nat} {f fI fA f0 : Addr} {fd fdI fdA : FuncData} {ts : List Addr} (F : Fun K "answers" "answers" sAns f fd) (G : Bare mg) (M : Mk K C fI) (mV : mg "Valley" = some (.ref C)) (GI : FnOk P w K mg base CX0 k fI fdI ["self"] (spNew C T DA)) (bI : Binds K fdI ["self"] [])
    (GA : FnOk P w K mg base CX0 1 fA fdA [] (spAll f0 ts)) (mA : mg "all_calls" = some (.ref fA)) (kA : PySem.W.keepIn K (.ref fA) = true) (bA : Binds K fdA [] [])
    (B : Tbl P w K mg base T DA k f0 ts) (fine : DA.Fine) : FnOk P w K mg base CX0 (k + 2) f fd ["calls"] (spAnsT K T) := by
  refine F.ok scAns (fun vs H Q E h => ?_) (fun cdv A outer s H vs Q E hr h => ?_)
  · obtain ⟨a, ns, rfl, _⟩ := h
    rfl
  · obtain ⟨a, ns, rfl, hS, h0, hlen, hask, hT, fin⟩ := h
    have hrk : Room k _ := hr.mono (by omega)
    have hr1 : Room 1 _ := hr.mono (by omega)
    refine ⟨_, pss_cons (ps_set (i := 1) scAns.nd rfl (Or.inl rfl) (pe_call0 GA hr1 rfl mA kA bA .nil pass0))
      (pss_cons (ps_set (i := 2) scAns.nd rfl (Or.inl rfl) (pe_make0 M GI hr rfl mV bI .nil pass0))
      (pss_cons (ps_set (i := 3) scAns.nd rfl (Or.inl rfl) (pe_lst pa_nil))
      (pss_cons (ps_set (i := 4) scAns.nd rfl (Or.inl rfl) pe_int)
      (pss_cons (ps_while PassesOwn.never (pt_cmpR op_lt (pv 4) (pe_callB call_len_seq (by rfl) G.len PySem.boot_len (pa_cons (pv 0) pa_nil)) (nomark _))
        (pss_cons (ps_set (i := 5) scAns.nd rfl (Or.inl rfl) (pe_ix ix_tup (pv 1) (pe_ix ix_list (pv 0) (pv 4) (fun _ _ => rfl)) (fun _ _ => rfl)))
        (pss_cons (ps_set (i := 6) scAns.nd rfl (Or.inl rfl) (pe_op op_add (pe_op op_add (pv 4) pe_int) (pe_ix ix_tup (pv 5) pe_int (fun _ _ => rfl))))
        (pss_cons (ps_set (i := 7) scAns.nd rfl (Or.inl rfl) (pe_callX rfl rfl rfl rfl rfl hrk (pe_ix ix_tup (pv 5) pe_int (fun _ _ => rfl)) (pa_cons (pv 2) (pa_cons (pe_slice sl_list (pv 0) (po_some (pe_op op_add (pv 4) pe_int)) (po_some (pv 6))) pa_nil))))
        (pss_cons (ps_expr (pe_bm PySem.F.plainAttrs_list PySem.F.slot_list_append PySem.F.type_list_append mt_append (pv 3) (pa_cons (pe_callB call_len_seq (by rfl) G.len PySem.boot_len (pa_cons (pv 7) pa_nil)) pa_nil)))
        (pss_cons (ps_expr (pe_bm PySem.F.plainAttrs_list PySem.F.slot_list_extend PySem.F.type_list_extend mt_extend (pv 3) (pa_cons (pv 7) pa_nil)))
        (pss_one (ps_set (i := 4) scAns.nd rfl (Or.inl rfl) (pv 6)))))))))
      (pss_one (ps_ret (pv 3))))))), ?_⟩
    refine ⟨rfl, fun Ha pk t0 sa hpk0 ht00 hpk ht0 => ?_⟩
    have hS : SqL K Ha a (ns.map V.int) := sa.seq hS
    have hT : Tabs T Ha := sa.kp.tabs hT
    intro x dx hx hdx hne
    have sm : Same Ha (upd (upd Ha dx (.own x)) x (.ins C dx [])) := ((Same.refl Ha).add hdx).add (by rw [upd_ne (Ne.symm hne)]; exact hx)
    refine ⟨x, dx, rfl, upd_same, by rw [upd_ne hne]; exact upd_same, (sm.kp (T := T)).tabs hT, fun H1 os kx da hos => ⟨rfl, ?_⟩⟩
    have hfree1 : ∀ b, H1 b = none → Ha b = none := fun b hb => by
      cases e : Ha b with
      | none => rfl
      | some o => have := kx.free b hb; rw [sm b o e] at this; cases this
    have out : ∀ b o, Ha b = some o → b ∉ os ∧ b ≠ x ∧ b ≠ dx := fun b o e => by
      refine ⟨fun z => ?_, fun z => ?_, fun z => ?_⟩
      · rcases hos b z with y | y | y
        · rw [y, hx] at e; cases e
        · rw [y, hdx] at e; cases e
        · rw [sm b o e] at y; cases y
      · rw [z, hx] at e; cases e
      · rw [z, hdx] at e; cases e
    refine ⟨Nat.zero_le _, fun l hl => ?_⟩
    have hlo : l ∉ os := fun z => by
      obtain ⟨o, e, _⟩ := fine.there _ _ _ _ da l z
      rw [hl] at e; cases e
    have hM0 : Mine K (x :: dx :: l :: os) Ha a (ns.map V.int) := by
      rcases hS with q | q
      · refine .inl ⟨q, fun z => ?_⟩
        have hs : ∃ o, Ha a = some o := by
          rcases q with q | ⟨o, q⟩
          · exact ⟨_, q⟩
          · exact ⟨_, q⟩
        obtain ⟨o, e⟩ := hs
        obtain ⟨o1, o2, o3⟩ := out a o e
        rcases List.mem_cons.mp z with z | z
        · exact o2 z
        · rcases List.mem_cons.mp z with z | z
          · exact o3 z
          · rcases List.mem_cons.mp z with z | z
            · rw [z, hfree1 _ hl] at e; cases e
            · exact o1 z
      · exact .inr q
    have kx0 : KpX T [x, dx] Ha H1 := ⟨fun b o h n m => kx.keep b o (sm b o h) n m, hfree1, fun h => kx.tabs (sm.kp.tabs h)⟩
    have keep0 : ∀ b o, Ha b = some o → (∀ ps, o ≠ .tbl ps) → H1 b = some o := fun b o e m => kx0.keep b o e (fun z => by
      obtain ⟨_, o2, o3⟩ := out b o e
      rcases List.mem_cons.mp z with z | z
      · exact o2 z
      · exact o3 (by simpa using z)) m
    have hpk1 := keep0 _ _ hpk (fun ps z => by cases z)
    have ht01 := keep0 _ _ ht0 (fun ps z => by cases z)
    have hpo := (out _ _ hpk).1
    have hto := (out _ _ ht0).1
    have hM1 : Mine K (l :: os) H1 a (ns.map V.int) := hM0.kp kx0 (fun b hb => by
      rcases List.mem_cons.mp hb with z | z
      · rw [z]; exact List.mem_cons_self
      · rcases List.mem_cons.mp z with z | z
        · rw [z]; exact List.mem_cons_of_mem _ List.mem_cons_self
        · cases z) (fun b hb => .inl (List.mem_cons_of_mem _ (List.mem_cons_of_mem _ hb)))
    have hM2 := hM1.upd (p := l) (o := .lst []) (.inl hl)
    have da2 : DA (upd H1 l (.lst [])) x os Km458.fresh := fine.calm _ _ _ _ _ da (fun b hb => upd_ne (fun z => hlo (z ▸ hb)))
    have hT2 : Tabs T (upd H1 l (.lst [])) := (((Same.refl H1).add hl).kp (T := T)).tabs (kx0.tabs hT)
    dsimp only [tSeq, tAsg, tC, gName]
    show tWhile _ _ _ [some (V.ref a), some (V.ref pk), some (V.ref x), some (V.ref l), some (V.int ((0 : Nat) : Int)), none, none, none] (upd H1 l (.lst []))
    refine while_by (fun σ H' => ∃ (p : Nat) (d : Desk) (pre : List Int) (os : List Addr) (y4 y5 y6 : Option V), σ = [some (.ref a), some (.ref pk), some (.ref x), some (.ref l), some (.int p), y4, y5, y6] ∧ H' l = some (.lst (pre.map V.int)) ∧ l ∉ os ∧ Mine K (l :: os) H' a (ns.map V.int) ∧ DA H' x os d ∧ Tabs T H' ∧ Mid ns p d pre ∧ H' pk = some (.tup (V.ref t0 :: ts.map V.ref)) ∧ H' t0 = some (.tup [.ref f0, .int 0]) ∧ pk ∉ os ∧ t0 ∉ os)
      (fun σ _ => match σ with | [_, _, _, _, some (.int z), _, _, _] => ns.length - z.toNat | _ => 0)
      ⟨0, Km458.fresh, [], os, none, none, none, rfl, upd_same, hlo, hM2, da2, hT2, mid_start hask, by rw [upd_ne (ne_of_none hpk1 hl)]; exact hpk1, by rw [upd_ne (ne_of_none ht01 hl)]; exact ht01, hpo, hto⟩ ?_ ?_
    · rintro σ H' ⟨p, d, pre, os, y4, y5, y6, rfl, hl', hlo, hM, hda, hTb, mid, hpk', ht0', hpo, hto⟩
      refine ⟨_, rfl, _, rfl, a, _, rfl, .inl hM.seq, _, _, rfl, rfl, _, rfl, ?_⟩
      refine ite2 (fun hc => ?_) (fun hc => ?_)
      · have hp : p < ns.length := by
          have := of_decide_eq_true hc
          rw [List.length_map] at this; omega
        obtain ⟨q, n, as, e1, e2, e3, e4, e5, e6, e7, hD, e8, mid2⟩ := mid_step h0 mid hp
        obtain ⟨tr, f1, fd1, ps1, g0, g1, g2, g3, g4⟩ := B.at ht0' e3
        refine ⟨_, rfl, _, rfl, _, rfl, a, _, _, _, rfl, rfl, hM.seq, at_of (j := p) rfl (by rw [List.getElem?_map, e1]; rfl), ?_⟩
        have hK : atI (V.ref t0 :: ts.map V.ref) ((q : Nat) : Int) = some (.ref tr) := at_of (j := q) rfl (by
          have : V.ref t0 :: ts.map V.ref = (t0 :: ts).map V.ref := rfl
          rw [this, List.getElem?_map, g0]; rfl)
        refine ⟨pk, _, _, _, rfl, rfl, SqT.of hpk', hK, ?_⟩
        refine ⟨_, rfl, _, _, rfl, rfl, _, rfl, tr, _, _, _, rfl, rfl, g1, at_of (j := 1) rfl rfl, _, _, rfl, rfl, ?_⟩
        refine ⟨_, rfl, tr, _, _, _, rfl, rfl, g1, at_of (j := 0) rfl rfl, f1, fd1, ps1, _, rfl, g2, g3, g4, ?_⟩
        refine ⟨_, rfl, _, rfl, _, rfl, _, _, rfl, rfl, _, rfl, _, rfl, _, rfl, a, _, rfl, hM.seq, fun g hg => ?_⟩
        have hgo : g ∉ os := fun z => by
          obtain ⟨o, e, _⟩ := fine.there _ _ _ _ hda g z
          rw [hg] at e; cases e
        have hgl : l ≠ g := fun z => by rw [z, hg] at hl'; cases hl'
        have hT3 : Tabs T (upd H' g (.lst (cutV (ns.map V.int) (some ((p : Int) + 1)) (some ((p : Int) + 1 + (n : Nat)))))) := (((Same.refl H').add hg).kp (T := T)).tabs hTb
        refine ⟨x, g, os, d, as, rfl, fine.calm _ _ _ _ _ hda (fun b hb => upd_ne (fun z => hgo (z ▸ hb))), hD, ?_, hgo, e7, hT3, fun H3 p3 os3 kx3 da3 ho3 hp3 hpo3 hl3 => ?_⟩
        · rw [upd_same, cut_mid e5, e6]
        · have hM3 : Mine K (l :: os3) H3 a (ns.map V.int) := (hM.upd (p := g) (o := .lst (cutV (ns.map V.int) (some ((p : Int) + 1)) (some ((p : Int) + 1 + (n : Nat))))) (.inl hg)).kp kx3 (fun b hb => List.mem_cons_of_mem _ hb) (fun b hb => by
            rcases List.mem_cons.mp hb with z | z
            · exact .inl (by rw [z]; exact List.mem_cons_self)
            · rcases ho3 b z with y | y
              · exact .inl (List.mem_cons_of_mem _ y)
              · exact .inr y)
          have same3 : ∀ b o, H' b = some o → b ∉ os → (∀ ps, o ≠ .tbl ps) → H3 b = some o ∧ b ∉ os3 ∧ b ≠ p3 := fun b o e nb m => by
            have eg : b ≠ g := ne_of_none e hg
            refine ⟨kx3.keep b _ (by rw [upd_ne eg]; exact e) nb m, fun z => ?_, fun z => ?_⟩
            · rcases ho3 b z with y | y
              · exact nb y
              · rw [upd_ne eg, e] at y; cases y
            · rw [← z, upd_ne eg, e] at hp3; cases hp3
          obtain ⟨hl4, hlo3, hlp'⟩ := same3 l _ hl' hlo (fun ps z => by cases z)
          obtain ⟨hpk4, hpo3', _⟩ := same3 pk _ hpk' hpo (fun ps z => by cases z)
          obtain ⟨ht04, hto3, _⟩ := same3 t0 _ ht0' hto (fun ps z => by cases z)
          have hlp : p3 ≠ l := Ne.symm hlp'
          have hT4 := kx3.tabs hT3
          have hl5 : ((pre.map V.int).length) ≤ 4000 := by rw [List.length_map]; exact e8
          have hl6 : ((ansN (act d (callAt q as)).2).map V.int).length ≤ 3 := by
            have := out_len d (callAt q as)
            rw [List.length_map]; simp [ansN, intsN]; omega
          have hsz : sizeLine = 16777216 := sizeLine_eq
          have ht5 := tabs_lst (o := (pre.map V.int ++ [V.int (((ansN (act d (callAt q as)).2).map V.int).length)])) hT4 hl4
          refine ⟨_, rfl, .inl ⟨rfl, _, SqL.of hl4⟩, _, rfl, p3, _, rfl, .inl (SqL.of hl3), l, _, _, rfl, rfl, hl4, by omega, ?_⟩
          refine ⟨_, rfl, .inl ⟨rfl, _, SqL.of upd_same⟩, _, rfl, l, p3, _, _, rfl, rfl, upd_same, by rw [upd_ne hlp]; exact hl3, by rw [List.length_append]; show _ + 1 + _ ≤ _; omega, ?_⟩
          have ne3 : ∀ b, b ∈ os3 → b ≠ l := fun b hb z => hlo3 (by rw [← z]; exact hb)
          have ep : ((p : Int) + 1 + ((n : Nat) : Int)) = ((p + 1 + n : Nat) : Int) := by omega
          have npl : pk ≠ l := ne_of hpk4 hl4 (by intro z; cases z)
          have ntl : t0 ≠ l := ne_of ht04 hl4 (by intro z; cases z)
          refine ⟨_, rfl, ⟨p + 1 + n, _, _, os3, _, _, _, by rw [← ep]; rfl, ?_, hlo3, (hM3.upd (.inr List.mem_cons_self)).upd (.inr List.mem_cons_self), fine.calm _ _ _ _ _ da3 (fun b hb => (upd_ne (ne3 b hb)).trans (upd_ne (ne3 b hb))), tabs_lst ht5 upd_same, mid2, by rw [upd_ne npl, upd_ne npl]; exact hpk4, by rw [upd_ne ntl, upd_ne ntl]; exact ht04, hpo3', hto3⟩, ?_⟩
          · rw [upd_same, List.map_append, List.append_assoc, List.length_map]
            rfl
          · show ns.length - ((p : Int) + 1 + ((n : Nat) : Int)).toNat < ns.length - ((p : Nat) : Int).toNat
            omega
      · have hp : ¬ p < ns.length := fun z => hc (decide_eq_true (by rw [List.length_map]; omega))
        refine ⟨_, rfl, fin H' l ?_⟩
        rw [mid_end mid hp]
        exact hl'
    · rintro σ H' Q1 Q2 hq ⟨v1, h1, v2, h2, a', ys, h3, h4, i, j, h5, h6, c, h7, h8⟩
      exact ⟨v1, h1, v2, h2, a', ys, h3, h4, i, j, h5, h6, c, h7, hq _ _ h8⟩
end
end VR
end
section
set_option Elab.async false
set_option linter.all false
namespace VR
open PySem PySem.Spec PyProof.Rows L2 Vp
open Km458 (Desk Call act)
theorem natsV_intsN (l : List Nat) : (intsN l).map V.int = natsV l := by unfold intsN natsV; rw [List.map_map]; rfl
theorem ansV_ansN (a : Km458.Ans) : (ansN a).map V.int = ansV a := by
  show V.int a.value :: (intsN a.out).map V.int = V.int a.value :: natsV a.out
  rw [natsV_intsN]
theorem ask_do {P : Program} {w : World} {K : PySem.W.Frag} {mg : Str → Option Value} {base : Heap} {C : Addr} {N : List Str} {T : List Tb} {DA : DAt} {k n : Nat} {f : Addr} {fd : FuncData} {ps : List Str} {c : List Nat → Call} (fine : DA.Fine)
    (sea : ∀ H x os d, DA H x os d → ∃ fs, SeaAt C N H x fs d.now) (hq : ∀ d as, (act d (c as)).1 = d) (F : FnOk P w K mg base CX0 k f fd ps (spAsk K T C N n c)) : FnOk P w K mg base CX0 k f fd ps (spDo K T DA n c) :=
  F.imp fun vs H Q E ⟨x, g, os, d, as, ev, da, dok, hg, hgo, hl, hT, fin⟩ => by
    obtain ⟨fs, S⟩ := sea _ _ _ _ da
    refine ⟨x, g, fs, d, as, ev, S, dok, SqL.of (by rw [← natsV_intsN]; exact hg), hl, hT, fun H' p kp hT' hp hl' => ?_⟩
    have keep : ∀ b ∈ os, H' b = H b := fun b hb => by
      obtain ⟨o, e, ne⟩ := fine.there _ _ _ _ da b hb
      rw [e, kp.keep b o e ne]
    refine fin H' p os (Kp.x kp os) ?_ (fun b hb => .inl hb) hp (fun z => ?_) (by rw [ansV_ansN]; exact hl')
    · rw [hq]; exact fine.calm _ _ _ _ _ da keep
    · obtain ⟨o, e, _⟩ := fine.there _ _ _ _ da p z
      rw [hp] at e; cases e
end VR
end
section
set_option Elab.async false
set_option linter.all false
set_option maxRecDepth 100000
set_option maxHeartbeats 4000000
namespace VR
open PySem PySem.Spec PyProof.Rows L2 Vp
open Km457 (Valley at_ far)
open Km458 (table dist Sea Desk Call act)
def N5 : List Str := ["ups", "roads", "posts", "earlier", "undone"]
def flds (u r : Addr) (p : Nat) (e n : Addr) : List (Str × V) := [("ups", .ref u), ("roads", .ref r), ("posts", .int (p : Nat)), ("earlier", .ref e), ("undone", .ref n)]
theorem flds_names (u r : Addr) (p : Nat) (e n : Addr) : (flds u r p e n).map Prod.fst = N5 := rfl
theorem put_ear {u r e n e' : Addr} {p : Nat} : putF "earlier" (.ref e') (flds u r p e n) = flds u r p e' n := rfl
theorem put_und {u r e n n' : Addr} {p : Nat} : putF "undone" (.ref n') (flds u r p e n) = flds u r p e n' := rfl
theorem put_three {u r e n u' r' : Addr} {p p' : Nat} : putF "posts" (.int (p' : Nat)) (putF "roads" (.ref r') (putF "ups" (.ref u') (flds u r p e n))) = flds u' r' p' e n := rfl
def Kept (H : Hp) (t : Addr) (s : Sea) : Prop := ∃ u r, H t = some (.tup [.ref u, .ref r, .int (msk s.posts : Nat)]) ∧ H u = some (.lst (upsV s.valley)) ∧ H r = some (.lst (roadsV s.valley))
def Keeps (H : Hp) : List Addr → List Sea → Prop
  | [], [] => True
  | t :: ts, s :: ss => Kept H t s ∧ Keeps H ts ss
  | _, _ => False
theorem Keeps.len {H : Hp} : ∀ {ts : List Addr} {ss : List Sea}, Keeps H ts ss → ts.length = ss.length
  | [], [], _ => rfl
  | t :: ts, s :: ss, h => by rw [List.length_cons, List.length_cons, Keeps.len h.2]
  | [], s :: ss, h => h.elim
  | t :: ts, [], h => h.elim
theorem Keeps.take {H : Hp} : ∀ {k : Nat} {ts : List Addr} {ss : List Sea}, Keeps H ts ss → Keeps H (ts.take k) (ss.take k)
  | 0, _, _, _ => by simp [Keeps]
  | k + 1, [], [], _ => by simp [Keeps]
  | k + 1, t :: ts, s :: ss, h => ⟨h.1, Keeps.take h.2⟩
  | k + 1, [], s :: ss, h => h.elim
  | k + 1, t :: ts, [], h => h.elim
def Mv (H H' : Hp) : Prop := ∀ b o, H b = some o → (∀ C dx fs, o ≠ .ins C dx fs) → (∀ as : List Addr, o ≠ .lst (as.map V.ref)) → H' b = some o
theorem ups_ne {v : Valley} (h : v ≠ []) (as : List Addr) : HO.lst (upsV v) ≠ .lst (as.map V.ref) := by
  cases v with
  | nil => exact absurd rfl h
  | cons a v =>
    cases as with
    | nil => intro z; injection z with z; cases z
    | cons b as => intro z; injection z with z; injection z with z _; cases z
theorem roads_ne {v : Valley} (h : v ≠ []) (as : List Addr) : HO.lst (roadsV v) ≠ .lst (as.map V.ref) := by
  cases v with
  | nil => exact absurd rfl h
  | cons a v =>
    cases as with
    | nil => intro z; injection z with z; cases z
    | cons b as => intro z; injection z with z; injection z with z _; cases z
theorem Kept.mv {H H' : Hp} {t : Addr} {s : Sea} (h : Kept H t s) (hv : s.valley ≠ []) (m : Mv H H') : Kept H' t s := by
  obtain ⟨u, r, h1, h2, h3⟩ := h
  exact ⟨u, r, m _ _ h1 (fun _ _ _ z => by cases z) (fun _ z => by cases z), m _ _ h2 (fun _ _ _ z => by cases z) (ups_ne hv), m _ _ h3 (fun _ _ _ z => by cases z) (roads_ne hv)⟩
theorem Keeps.mv {H H' : Hp} (m : Mv H H') : ∀ {ts : List Addr} {ss : List Sea}, Keeps H ts ss → (∀ s ∈ ss, s.valley ≠ []) → Keeps H' ts ss
  | [], [], _, _ => True.intro
  | t :: ts, s :: ss, h, hv => ⟨h.1.mv (hv s List.mem_cons_self) m, Keeps.mv m h.2 fun x hx => hv x (List.mem_cons_of_mem _ hx)⟩
  | [], s :: ss, h, _ => h.elim
  | t :: ts, [], h, _ => h.elim
structure Obj5 (C : Addr) (H : Hp) (x : Addr) (d : Desk) (dx u r e n : Addr) (te tn : List Addr) : Prop where
  ins : H x = some (.ins C dx (flds u r (msk d.now.posts) e n))
  ups : H u = some (.lst (upsV d.now.valley))
  roads : H r = some (.lst (roadsV d.now.valley))
  ear : H e = some (.lst (te.reverse.map V.ref))
  und : H n = some (.lst (tn.reverse.map V.ref))
  ne : e ≠ n
  past : Keeps H te d.past
  fut : Keeps H tn d.future
theorem Kept.mono {H H' : Hp} (m : ∀ b o, H b = some o → H' b = some o) {t : Addr} {s : Sea} (h : Kept H t s) : Kept H' t s := by
  obtain ⟨u, r, h1, h2, h3⟩ := h
  exact ⟨u, r, m _ _ h1, m _ _ h2, m _ _ h3⟩
theorem Keeps.mono {H H' : Hp} (m : ∀ b o, H b = some o → H' b = some o) : ∀ {ts : List Addr} {ss : List Sea}, Keeps H ts ss → Keeps H' ts ss
  | [], [], _ => True.intro
  | t :: ts, s :: ss, h => ⟨h.1.mono m, Keeps.mono m h.2⟩
  | [], s :: ss, h => h.elim
  | t :: ts, [], h => h.elim
theorem Obj5.mono {C : Addr} {H H' : Hp} {x : Addr} {d : Desk} {dx u r e n : Addr} {te tn : List Addr} (h : Obj5 C H x d dx u r e n te tn) (m : ∀ b o, H b = some o → H' b = some o) : Obj5 C H' x d dx u r e n te tn :=
  ⟨m _ _ h.ins, m _ _ h.ups, m _ _ h.roads, m _ _ h.ear, m _ _ h.und, h.ne, h.past.mono m, h.fut.mono m⟩
def res (H : Hp) (os : List Addr) : Hp := fun b => if b ∈ os then H b else none
theorem res_some {H : Hp} {os : List Addr} {b : Addr} {o : HO} : res H os b = some o ↔ b ∈ os ∧ H b = some o := by
  unfold res
  by_cases h : b ∈ os
  · rw [if_pos h]; exact ⟨fun z => ⟨h, z⟩, fun z => z.2⟩
  · rw [if_neg h]; exact ⟨fun z => (nomatch z), fun z => absurd z.1 h⟩
theorem res_le {H : Hp} {os : List Addr} (b : Addr) (o : HO) (h : res H os b = some o) : H b = some o := (res_some.mp h).2
def DA (C : Addr) : DAt := fun H x os d => (∀ b ∈ os, ∃ o, H b = some o ∧ ∀ ps, o ≠ .tbl ps) ∧ ∃ dx u r e n te tn, Obj5 C (res H os) x d dx u r e n te tn
theorem fine (C : Addr) : DAt.Fine (DA C) := by
  refine ⟨fun H H' x os d ⟨h1, h2⟩ hk => ?_, fun H x os d h => h.1⟩
  have e : res H' os = res H os := by
    funext b
    unfold res
    by_cases h : b ∈ os
    · rw [if_pos h, if_pos h, hk b h]
    · rw [if_neg h, if_neg h]
  refine ⟨fun b hb => ?_, by rw [e]; exact h2⟩
  rw [hk b hb]; exact h1 b hb
theorem sea_of {C : Addr} (H : Hp) (x : Addr) (os : List Addr) (d : Desk) (h : DA C H x os d) : ∃ fs, SeaAt C N5 H x fs d.now := by
  obtain ⟨_, dx, u, r, e, n, te, tn, o⟩ := h
  exact ⟨_, ⟨flds_names _ _ _ _ _, dx, res_le _ _ o.ins⟩, ⟨u, rfl, res_le _ _ o.ups⟩, ⟨r, rfl, res_le _ _ o.roads⟩, rfl⟩
theorem kpx_of {T : List Tb} {os ch : List Addr} {H H' : Hp} (hk : ∀ b o, H b = some o → b ∉ ch → H' b = some o) (hch : ∀ b ∈ ch, b ∈ os ∧ (∃ o, H b = some o ∧ ((∃ xs, o = .lst xs) ∨ ∃ C dx fs, o = .ins C dx fs)) ∧ ∃ o, H' b = some o) : KpX T os H H' := by
  refine ⟨fun b o h n _ => hk b o h fun z => n (hch b z).1, fun b h => ?_, fun h t ht => ?_⟩
  · cases e : H b with
    | none => rfl
    | some o =>
      by_cases z : b ∈ ch
      · obtain ⟨_, _, o', e'⟩ := hch b z
        rw [h] at e'; cases e'
      · rw [hk b o e z] at h; cases h
  · obtain ⟨ps, h1, h2, h3⟩ := h t ht
    have no : ∀ {b : Addr} {o : HO}, H b = some o → (∀ xs, o ≠ .lst xs) → (∀ C dx fs, o ≠ .ins C dx fs) → b ∉ ch := fun {b o} e n1 n2 z => by
      obtain ⟨_, ⟨o', e', q⟩, _⟩ := hch b z
      rw [e] at e'
      cases e'
      rcases q with ⟨xs, q⟩ | ⟨C, dx, fs, q⟩
      · exact n1 xs q
      · exact n2 C dx fs q
    refine ⟨ps, hk _ _ h1 (no h1 (fun _ z => by cases z) (fun _ _ _ z => by cases z)), h2, fun q hq => (h3 q hq).imp id fun ⟨c, z1, z2⟩ => ⟨c, z1, hk _ _ z2 (no z2 (fun _ z => by unfold CodeO at z; cases z) (fun _ _ _ z => by unfold CodeO at z; cases z))⟩⟩
theorem mv_of {C : Addr} {H H' : Hp} {os os' : List Addr} {x : Addr} {d : Desk} {dx u r e n : Addr} {te tn : List Addr} (o : Obj5 C (res H os) x d dx u r e n te tn) (hk : ∀ b o, H b = some o → b ≠ x → b ≠ e → b ≠ n → H' b = some o) (hs : ∀ b ∈ os, b ∈ os') : Mv (res H os) (res H' os') := by
  intro b ob hb n1 n2
  obtain ⟨h1, h2⟩ := res_some.mp hb
  refine res_some.mpr ⟨hs b h1, hk b ob h2 (fun z => ?_) (fun z => ?_) (fun z => ?_)⟩
  · subst z; have := o.ins; rw [hb] at this; cases this; exact n1 _ _ _ rfl
  · subst z; have := o.ear; rw [hb] at this; cases this; exact n2 _ rfl
  · subst z; have := o.und; rw [hb] at this; cases this; exact n2 _ rfl
theorem SeaOk.ne {s : Sea} (h : SeaOk s) : s.valley ≠ [] := fun z => by have := h.v.pos; rw [z] at this; exact absurd this (by decide)
theorem there_of {H H' : Hp} {os ch new : List Addr} (h : ∀ b ∈ os, ∃ o, H b = some o ∧ ∀ ps, o ≠ .tbl ps) (hk : ∀ b o, H b = some o → b ∉ ch → H' b = some o) (hc : ∀ b ∈ ch ++ new, ∃ o, H' b = some o ∧ ∀ ps, o ≠ .tbl ps) : ∀ b ∈ os ++ new, ∃ o, H' b = some o ∧ ∀ ps, o ≠ .tbl ps := by
  intro b hb
  rcases List.mem_append.mp hb with z | z
  · by_cases y : b ∈ ch
    · exact hc b (List.mem_append_left _ y)
    · obtain ⟨o, e, q⟩ := h b z
      exact ⟨o, hk b o e y, q⟩
  · exact hc b (List.mem_append_right _ z)
end VR
end
section
set_option Elab.async false
set_option linter.all false
set_option maxRecDepth 100000
set_option maxHeartbeats 4000000
namespace VR
open PySem PySem.Spec PyProof.Rows L2 Vp
open Km457 (Valley at_ far)
open Km458 (table dist Sea Desk Call act)
abbrev sInit : Stmt := inClass sCls 0
abbrev sBegin : Stmt := inClass sCls 1
abbrev sNow : Stmt := inClass sCls 2
abbrev sBecome : Stmt := inClass sCls 3
abbrev sChange : Stmt := inClass sCls 4
abbrev sChPosts : Stmt := inClass sCls 5
abbrev sBackM : Stmt := inClass sCls 6
abbrev sAgainM : Stmt := inClass sCls 7
section
variable {P : Program} {w : World} {K : PySem.W.Frag} {mg : Str → Option Value} {base : Heap} {C : Addr} {T : List Tb}
theorem putF_len {f : Str} {v : V} : ∀ {fs : List (Str × V)}, (putF f v fs).length ≤ fs.length + 1
  | [] => Nat.le_refl _
  | (g, x) :: r => by
    unfold putF
    split
    · simp
    · simp; exact putF_len
theorem scNow : FnScope ["self"] ["self"] (defScope sNow) := ⟨rfl, rfl, rfl, by decide +kernel, rfl, by decide +kernel, by decide +kernel⟩
def spNow (C : Addr) : Sp := fun vs H Q _ => ∃ (x dx u r e n : Addr) (p : Nat), vs = [.ref x] ∧ H x = some (.ins C dx (flds u r p e n)) ∧ ∀ t, H t = none → Q (.ref t) (upd H t (.tup [.ref u, .ref r, .int (p : Nat)]))
theorem ok_now {f : Addr} {fd : FuncData} (F : Fun K "now" "Valley.now" sNow f fd) (X : TxtC K mg C N5) : FnOk P w K mg base CX0 1 f fd ["self"] (spNow C) := by
  refine F.ok scNow (fun vs H Q E h => ?_) (fun cdv A outer s H vs Q E hr h => ?_)
  · obtain ⟨x, dx, u, r, e, n, p, rfl, _⟩ := h
    rfl
  · obtain ⟨x, dx, u, r, e, n, p, rfl, hx, k⟩ := h
    refine ⟨_, pss_one (ps_ret (pe_tup (pa_cons (pe_fld (pv 0) rfl) (pa_cons (pe_fld (pv 0) rfl) (pa_cons (pe_fld (pv 0) rfl) pa_nil))))), ?_⟩
    exact ⟨_, rfl, x, C, dx, _, _, rfl, hx, X.cl, X.no _ (by decide +kernel), rfl, _, rfl, x, C, dx, _, _, rfl, hx, X.cl, X.no _ (by decide +kernel), rfl, _, rfl, x, C, dx, _, _, rfl, hx, X.cl, X.no _ (by decide +kernel), rfl, by show 3 ≤ sizeLine; decide, k⟩
theorem scBecome : FnScope ["self", "kept"] ["self", "kept"] (defScope sBecome) := ⟨rfl, rfl, rfl, by decide +kernel, rfl, by decide +kernel, by decide +kernel⟩
def spBecome (C : Addr) : Sp := fun vs H Q _ => ∃ (x t dx : Addr) (fs : List (Str × V)) (a b c : V), vs = [.ref x, .ref t] ∧ H x = some (.ins C dx fs) ∧ fs.length ≤ 5 ∧ H t = some (.tup [a, b, c]) ∧ Q .non (upd H x (.ins C dx (putF "posts" c (putF "roads" b (putF "ups" a fs)))))
theorem ok_become {f : Addr} {fd : FuncData} (F : Fun K "become" "Valley.become" sBecome f fd) (X : TxtC K mg C N5) : FnOk P w K mg base CX0 1 f fd ["self", "kept"] (spBecome C) := by
  refine F.ok scBecome (fun vs H Q E h => ?_) (fun cdv A outer s H vs Q E hr h => ?_)
  · obtain ⟨x, t, dx, fs, a, b, c, rfl, _⟩ := h
    rfl
  · obtain ⟨x, t, dx, fs, a, b, c, rfl, hx, hl, ht, k⟩ := h
    refine ⟨_, pss_cons (ps_fld (pv 0) (pe_ix ix_tup (pv 1) pe_int (fun _ _ => rfl)) rfl) (pss_cons (ps_fld (pv 0) (pe_ix ix_tup (pv 1) pe_int (fun _ _ => rfl)) rfl) (pss_one (ps_fld (pv 0) (pe_ix ix_tup (pv 1) pe_int (fun _ _ => rfl)) rfl))), ?_⟩
    have nt : t ≠ x := ne_of ht hx (by intro z; cases z)
    have l1 : (putF "ups" a fs).length ≤ 6 := Nat.le_trans putF_len (by omega)
    have l2 : (putF "roads" b (putF "ups" a fs)).length ≤ 7 := Nat.le_trans putF_len (by omega)
    refine ⟨_, rfl, t, _, _, _, rfl, rfl, SqT.of ht, at_of (j := 0) rfl rfl, _, rfl, x, C, dx, _, rfl, hx, X.cl, X.no _ (by decide +kernel), by omega, ?_⟩
    refine ⟨_, rfl, t, _, _, _, rfl, rfl, SqT.of (by rw [upd_ne nt]; exact ht), at_of (j := 1) rfl rfl, _, rfl, x, C, dx, _, rfl, upd_same, X.cl, X.no _ (by decide +kernel), by omega, ?_⟩
    rw [upd_upd]
    refine ⟨_, rfl, t, _, _, _, rfl, rfl, SqT.of (by rw [upd_ne nt]; exact ht), at_of (j := 2) rfl rfl, _, rfl, x, C, dx, _, rfl, upd_same, X.cl, X.no _ (by decide +kernel), by omega, ?_⟩
    rw [upd_upd]
    exact k
theorem scBegin : FnScope ["self"] ["self"] (defScope sBegin) := ⟨rfl, rfl, rfl, by decide +kernel, rfl, by decide +kernel, by decide +kernel⟩
def spBegin (C : Addr) : Sp := fun vs H Q _ => ∃ (x dx : Addr) (fs : List (Str × V)), vs = [.ref x] ∧ H x = some (.ins C dx fs) ∧ fs.length ≤ 5 ∧ fs.lookup ("become" : Str) = none ∧
  (∀ (u r e n : V) (p : Nat), putF "undone" n (putF "earlier" e (putF "posts" (.int (p : Nat)) (putF "roads" r (putF "ups" u fs)))) = ([("ups", u), ("roads", r), ("posts", .int (p : Nat)), ("earlier", e), ("undone", n)] : List (Str × V))) ∧
  ∀ H' u r e n, (∀ b o, H b = some o → b ≠ x → H' b = some o) → H u = none → H r = none → H e = none → H n = none → e ≠ n → H' x = some (.ins C dx (flds u r 0 e n)) → H' u = some (.lst [.int 0]) → H' r = some (.lst [.int 0]) → H' e = some (.lst []) → H' n = some (.lst []) → Q .non H'
theorem ok_begin {f fB : Addr} {fd fdB : FuncData} (F : Fun K "begin" "Valley.begin" sBegin f fd) (X : TxtC K mg C N5)
    (GB : FnOk P w K mg base CX0 1 fB fdB ["self", "kept"] (spBecome C)) (mB : Meth K C "become" fB) (bB : Binds K fdB ["self", "kept"] []) : FnOk P w K mg base CX0 2 f fd ["self"] (spBegin C) := by
  refine F.ok scBegin (fun vs H Q E h => ?_) (fun cdv A outer s H vs Q E hr h => ?_)
  · obtain ⟨x, dx, fs, rfl, _⟩ := h
    rfl
  · obtain ⟨x, dx, fs, rfl, hx, hl, hb, hp, k⟩ := h
    refine ⟨_, pss_cons (ps_expr (pe_meth (pv 0) X.cl mB GB hr bB .nil pass0 (pa_cons (pe_tup (pa_cons (pe_lst (pa_cons pe_int pa_nil)) (pa_cons (pe_lst (pa_cons pe_int pa_nil)) (pa_cons pe_int pa_nil)))) pa_nil)))
      (pss_cons (ps_fld (pv 0) (pe_lst pa_nil) rfl) (pss_one (ps_fld (pv 0) (pe_lst pa_nil) rfl))), ?_⟩
    refine ⟨_, rfl, x, dx, fs, rfl, hx, hb, by show 1 ≤ sizeLine; decide, fun u hu => ⟨by show 1 ≤ sizeLine; decide, fun r hr' => ⟨by show 3 ≤ sizeLine; decide, fun t ht => ?_⟩⟩⟩
    generalize hH1 : upd H u (.lst [.int 0]) = H1 at hr' ht
    generalize hH2 : upd H1 r (.lst [.int 0]) = H2 at ht
    have nxu : x ≠ u := ne_of_none hx hu
    have h1x : H1 x = some (.ins C dx fs) := by rw [← hH1, upd_ne nxu]; exact hx
    have h1u : H1 u = some (.lst [.int 0]) := by rw [← hH1, upd_same]
    have nxr : x ≠ r := ne_of_none h1x hr'
    have nur : u ≠ r := ne_of_none h1u hr'
    have h2x : H2 x = some (.ins C dx fs) := by rw [← hH2, upd_ne nxr]; exact h1x
    have h2u : H2 u = some (.lst [.int 0]) := by rw [← hH2, upd_ne nur]; exact h1u
    have h2r : H2 r = some (.lst [.int 0]) := by rw [← hH2, upd_same]
    have hr0 : H r = none := by rw [← hH1, upd_ne (Ne.symm nur)] at hr'; exact hr'
    have k2 : ∀ b o, H b = some o → H2 b = some o := fun b o e => by
      have e1 : H1 b = some o := by rw [← hH1, upd_ne (ne_of_none e hu)]; exact e
      rw [← hH2, upd_ne (ne_of_none e1 hr')]; exact e1
    generalize hH3 : upd H2 t (.tup [.ref u, .ref r, .int 0]) = H3
    have nxt : x ≠ t := ne_of_none h2x ht
    have h3x : H3 x = some (.ins C dx fs) := by rw [← hH3, upd_ne nxt]; exact h2x
    have h3u : H3 u = some (.lst [.int 0]) := by rw [← hH3, upd_ne (ne_of_none h2u ht)]; exact h2u
    have h3r : H3 r = some (.lst [.int 0]) := by rw [← hH3, upd_ne (ne_of_none h2r ht)]; exact h2r
    have k3 : ∀ b o, H b = some o → H3 b = some o := fun b o e => by rw [← hH3, upd_ne (ne_of_none (k2 b o e) ht)]; exact k2 b o e
    have l3 : (putF "posts" (.int 0) (putF "roads" (.ref r) (putF "ups" (.ref u) fs))).length ≤ 8 := by
      have a1 := putF_len (f := "ups") (v := .ref u) (fs := fs)
      have a2 := putF_len (f := "roads") (v := .ref r) (fs := putF "ups" (.ref u) fs)
      have a3 := putF_len (f := "posts") (v := .int 0) (fs := putF "roads" (.ref r) (putF "ups" (.ref u) fs))
      omega
    refine ⟨x, t, dx, fs, .ref u, .ref r, .int 0, rfl, h3x, hl, by rw [← hH3, upd_same], ?_⟩
    generalize hH4 : upd H3 x (.ins C dx (putF "posts" (.int 0) (putF "roads" (.ref r) (putF "ups" (.ref u) fs)))) = H4
    have h4x : H4 x = some (.ins C dx (putF "posts" (.int 0) (putF "roads" (.ref r) (putF "ups" (.ref u) fs)))) := by rw [← hH4, upd_same]
    have e4 : ∀ b, b ≠ x → H4 b = H3 b := fun b hb => by rw [← hH4, upd_ne hb]
    refine ⟨Nat.zero_le _, fun e he => ?_⟩
    have nxe : x ≠ e := ne_of_none h4x he
    refine ⟨_, rfl, x, C, dx, _, rfl, by rw [upd_ne nxe]; exact h4x, X.cl, X.no _ (by decide +kernel), by omega, ?_⟩
    generalize hH6 : upd (upd H4 e (.lst [])) x (.ins C dx (putF "earlier" (.ref e) (putF "posts" (.int 0) (putF "roads" (.ref r) (putF "ups" (.ref u) fs))))) = H6
    have h6x : H6 x = some (.ins C dx (putF "earlier" (.ref e) (putF "posts" (.int 0) (putF "roads" (.ref r) (putF "ups" (.ref u) fs))))) := by rw [← hH6, upd_same]
    have h6e : H6 e = some (.lst []) := by rw [← hH6, upd_ne (Ne.symm nxe), upd_same]
    have e6 : ∀ b, b ≠ x → b ≠ e → H6 b = H3 b := fun b hb hb2 => by rw [← hH6, upd_ne hb, upd_ne hb2, e4 b hb]
    refine ⟨Nat.zero_le _, fun n hn => ?_⟩
    have nxn : x ≠ n := ne_of_none h6x hn
    have nen : e ≠ n := ne_of_none h6e hn
    have l4 := putF_len (f := "earlier") (v := .ref e) (fs := putF "posts" (.int 0) (putF "roads" (.ref r) (putF "ups" (.ref u) fs)))
    refine ⟨_, rfl, x, C, dx, _, rfl, by rw [upd_ne nxn]; exact h6x, X.cl, X.no _ (by decide +kernel), by omega, ?_⟩
    have f3e : H3 e = none := by rw [← e4 e (Ne.symm nxe)]; exact he
    have f3n : H3 n = none := by rw [← e6 n (Ne.symm nxn) (Ne.symm nen)]; exact hn
    have free : ∀ b, H3 b = none → H b = none := fun b hb => by
      cases z : H b with
      | none => rfl
      | some o => rw [k3 b o z] at hb; cases hb
    have nue : u ≠ e := ne_of_none h3u f3e
    have nre : r ≠ e := ne_of_none h3r f3e
    have nun : u ≠ n := ne_of_none h3u f3n
    have nrn : r ≠ n := ne_of_none h3r f3n
    refine k _ u r e n (fun b o hb hbx => ?_) hu hr0 (free e f3e) (free n f3n) nen ?_ ?_ ?_ ?_ ?_
    · have := k3 b o hb
      rw [upd_ne hbx, upd_ne (ne_of_none this f3n), e6 b hbx (ne_of_none this f3e)]; exact this
    · rw [upd_same, show (V.int 0) = V.int ((0 : Nat) : Int) from rfl, hp]; rfl
    · rw [upd_ne (Ne.symm nxu), upd_ne nun, e6 u (Ne.symm nxu) nue]; exact h3u
    · rw [upd_ne (Ne.symm nxr), upd_ne nrn, e6 r (Ne.symm nxr) nre]; exact h3r
    · rw [upd_ne (Ne.symm nxe), upd_ne nen]; exact h6e
    · rw [upd_ne (Ne.symm nxn), upd_same]
theorem scChange : FnScope ["self", "ups", "roads", "posts"] ["self", "ups", "roads", "posts"] (defScope sChange) := ⟨rfl, rfl, rfl, by decide +kernel, rfl, by decide +kernel, by decide +kernel⟩
def spChange (T : List Tb) (C : Addr) : Sp := fun vs H Q _ => ∃ (x u' r' : Addr) (os : List Addr) (d : Desk) (s' : Sea), vs = [.ref x, .ref u', .ref r', .int (msk s'.posts : Nat)] ∧ DA C H x os d ∧ DeskOk d ∧ H u' = some (.lst (upsV s'.valley)) ∧ H r' = some (.lst (roadsV s'.valley)) ∧ s'.valley ≠ [] ∧
  ∀ H' os', KpX T os H H' → DA C H' x os' (d.become s') → (∀ b ∈ os', b ∈ os ∨ H b = none ∨ b = u' ∨ b = r') → Q .non H'
theorem cut_last {l : List Addr} (h : l.length ≤ 21) : cutV (l.reverse.map V.ref) (some (-20)) none = (l.take 20).reverse.map V.ref := by
  unfold cutV
  rw [HT.sIx_none, List.length_map, List.length_reverse]
  have e : HT.sIx l.length 0 (some (-20)) = l.length - 20 := by
    show (if (-20 : Int) < 0 then ((-20 : Int) + (l.length : Int)).toNat else min (-20 : Int).toNat l.length) = _
    rw [if_pos (by decide)]; omega
  rw [e, ← List.map_drop, ← List.map_take, List.drop_reverse]
  congr 1
  have e2 : l.take (l.length - (l.length - 20)) = l.take 20 := by
    by_cases z : l.length ≤ 20
    · rw [List.take_of_length_le (by omega), List.take_of_length_le z]
    · congr 1; omega
  rw [e2, List.take_of_length_le]
  rw [List.length_reverse, List.length_take]; omega
theorem ok_change {f fB fN : Addr} {fd fdB fdN : FuncData} (F : Fun K "change" "Valley.change" sChange f fd) (X : TxtC K mg C N5) (hM : ∃ t, mg "MOST_TAKEN_BACK" = some (.int 20 t))
    (GB : FnOk P w K mg base CX0 1 fB fdB ["self", "kept"] (spBecome C)) (mB : Meth K C "become" fB) (bB : Binds K fdB ["self", "kept"] [])
    (GN : FnOk P w K mg base CX0 1 fN fdN ["self"] (spNow C)) (mN : Meth K C "now" fN) (bN : Binds K fdN ["self"] []) : FnOk P w K mg base CX0 2 f fd ["self", "ups", "roads", "posts"] (spChange T C) := by
  refine F.ok scChange (fun vs H Q E h => ?_) (fun cdv A outer s H vs Q E hr h => ?_)
  · obtain ⟨x, u', r', os, d, s', rfl, _⟩ := h
    rfl
  · obtain ⟨x, u', r', os, d, s', rfl, ⟨hth, dx, u, r, e, n, te, tn, ob⟩, D, hu', hr', hne, k⟩ := h
    obtain ⟨tk, hMT⟩ := hM
    refine ⟨_, pss_cons (ps_expr (pe_bm PySem.F.plainAttrs_list PySem.F.slot_list_append PySem.F.type_list_append mt_append (pe_fld (pv 0) rfl) (pa_cons (pe_meth0 (pv 0) X.cl mN GN hr bN .nil pass0) pa_nil)))
      (pss_cons (ps_fld (pv 0) (pe_slice sl_list (pe_fld (pv 0) rfl) (po_some (pe_un un_neg (pe_glob rfl hMT (v := .int 20) ⟨_, rfl⟩))) po_none) rfl)
      (pss_cons (ps_fld (pv 0) (pe_lst pa_nil) rfl)
      (pss_one (ps_expr (pe_meth (pv 0) X.cl mB GB hr bB .nil pass0 (pa_cons (pe_tup (pa_cons (pv 1) (pa_cons (pv 2) (pa_cons (pv 3) pa_nil)))) pa_nil)))))), ?_⟩
    have o := ob.mono res_le
    have hlen : te.length ≤ 20 := by rw [o.past.len]; have := D.few; omega
    have inO : ∀ {b o}, res H os b = some o → b ∈ os := fun h => (res_some.mp h).1
    refine ⟨_, rfl, x, C, dx, _, _, rfl, o.ins, X.cl, X.no _ (by decide +kernel), rfl, .inl ⟨rfl, _, SqL.of o.ear⟩, ?_⟩
    refine ⟨_, rfl, x, dx, _, rfl, o.ins, rfl, x, dx, u, r, e, n, _, rfl, o.ins, fun t1 ht1 => ?_⟩
    generalize hH1 : upd H t1 (.tup [.ref u, .ref r, .int (msk d.now.posts : Nat)]) = H1
    have k1 : ∀ b o, H b = some o → H1 b = some o := fun b o z => by rw [← hH1, upd_ne (ne_of_none z ht1)]; exact z
    have h1t : H1 t1 = some (.tup [.ref u, .ref r, .int (msk d.now.posts : Nat)]) := by rw [← hH1, upd_same]
    refine ⟨e, _, _, rfl, rfl, k1 _ _ o.ear, by rw [List.length_map, List.length_reverse]; exact small1000 (by omega), ?_⟩
    have eL : te.reverse.map V.ref ++ [V.ref t1] = (t1 :: te).reverse.map V.ref := by simp
    rw [eL]
    have nxe : x ≠ e := ne_of o.ins o.ear (by intro z; cases z)
    have nte : t1 ≠ e := ne_of h1t (k1 _ _ o.ear) (by intro z; cases z)
    generalize hH2 : upd H1 e (.lst ((t1 :: te).reverse.map V.ref)) = H2
    have h2e : H2 e = some (.lst ((t1 :: te).reverse.map V.ref)) := by rw [← hH2, upd_same]
    have k2 : ∀ b o, H b = some o → b ≠ e → H2 b = some o := fun b o z hb => by rw [← hH2, upd_ne hb]; exact k1 b o z
    have h2t : H2 t1 = some (.tup [.ref u, .ref r, .int (msk d.now.posts : Nat)]) := by rw [← hH2, upd_ne nte]; exact h1t
    have h2x := k2 _ _ o.ins nxe
    refine ⟨_, rfl, x, C, dx, _, _, rfl, h2x, X.cl, X.no _ (by decide +kernel), rfl, _, rfl, _, rfl, e, _, rfl, SqL.of h2e, fun e' he' => ?_⟩
    rw [cut_last (by rw [List.length_cons]; omega)]
    generalize hH3 : upd H2 e' (.lst (((t1 :: te).take 20).reverse.map V.ref)) = H3
    have k3 : ∀ b o, H2 b = some o → H3 b = some o := fun b o z => by rw [← hH3, upd_ne (ne_of_none z he')]; exact z
    have h3e : H3 e' = some (.lst (((t1 :: te).take 20).reverse.map V.ref)) := by rw [← hH3, upd_same]
    have h3x := k3 _ _ h2x
    refine ⟨_, rfl, x, C, dx, _, rfl, h3x, X.cl, X.no _ (by decide +kernel), by show 5 < 1000; decide, ?_⟩
    rw [put_ear]
    have nxe' : x ≠ e' := ne_of_none h2x he'
    generalize hH4 : upd H3 x (.ins C dx (flds u r (msk d.now.posts) e' n)) = H4
    have h4x : H4 x = some (.ins C dx (flds u r (msk d.now.posts) e' n)) := by rw [← hH4, upd_same]
    have k4 : ∀ b o, H3 b = some o → b ≠ x → H4 b = some o := fun b o z hb => by rw [← hH4, upd_ne hb]; exact z
    refine ⟨Nat.zero_le _, fun n' hn' => ?_⟩
    have nxn' : x ≠ n' := ne_of_none h4x hn'
    have h4e : H4 e' = some (.lst (((t1 :: te).take 20).reverse.map V.ref)) := k4 _ _ h3e (Ne.symm nxe')
    have nen' : e' ≠ n' := ne_of_none h4e hn'
    refine ⟨_, rfl, x, C, dx, _, rfl, by rw [upd_ne nxn']; exact h4x, X.cl, X.no _ (by decide +kernel), by show 5 < 1000; decide, ?_⟩
    rw [put_und]
    generalize hH6 : upd (upd H4 n' (.lst [])) x (.ins C dx (flds u r (msk d.now.posts) e' n')) = H6
    have h6x : H6 x = some (.ins C dx (flds u r (msk d.now.posts) e' n')) := by rw [← hH6, upd_same]
    have h6n : H6 n' = some (.lst []) := by rw [← hH6, upd_ne (Ne.symm nxn'), upd_same]
    have k6 : ∀ b o, H4 b = some o → b ≠ x → H6 b = some o := fun b o z hb => by rw [← hH6, upd_ne hb, upd_ne (ne_of_none z hn')]; exact z
    refine ⟨_, rfl, x, dx, _, rfl, h6x, rfl, _, rfl, _, rfl, _, rfl, by show 3 ≤ sizeLine; decide, fun t2 ht2 => ?_⟩
    generalize hH7 : upd H6 t2 (.tup [.ref u', .ref r', .int (msk s'.posts : Nat)]) = H7
    have k7 : ∀ b o, H6 b = some o → H7 b = some o := fun b o z => by rw [← hH7, upd_ne (ne_of_none z ht2)]; exact z
    refine ⟨x, t2, dx, _, _, _, _, rfl, k7 _ _ h6x, Nat.le_refl 5, by rw [← hH7, upd_same], ?_⟩
    rw [put_three]
    generalize hH8 : upd H7 x (.ins C dx (flds u' r' (msk s'.posts) e' n')) = H8
    have k8 : ∀ b o, H7 b = some o → b ≠ x → H8 b = some o := fun b o z hb => by rw [← hH8, upd_ne hb]; exact z
    have up2 : ∀ b o, H2 b = some o → b ≠ x → H8 b = some o := fun b o z hb => k8 _ _ (k7 _ _ (k6 _ _ (k4 _ _ (k3 _ _ z) hb) hb)) hb
    have keep : ∀ b o, H b = some o → b ≠ x → b ≠ e → H8 b = some o := fun b o z hb hb2 => up2 b o (k2 b o z hb2) hb
    have h8x : H8 x = some (.ins C dx (flds u' r' (msk s'.posts) e' n')) := by rw [← hH8, upd_same]
    have h8t : H8 t1 = some (.tup [.ref u, .ref r, .int (msk d.now.posts : Nat)]) := up2 _ _ h2t (ne_of h2t h2x (by intro z; cases z))
    have h8e : H8 e' = some (.lst (((t1 :: te).take 20).reverse.map V.ref)) := k8 _ _ (k7 _ _ (k6 _ _ h4e (Ne.symm nxe'))) (Ne.symm nxe')
    have h8n : H8 n' = some (.lst []) := k8 _ _ (k7 _ _ h6n) (Ne.symm nxn')
    have u'x : u' ≠ x := ne_of hu' o.ins (by intro z; cases z)
    have r'x : r' ≠ x := ne_of hr' o.ins (by intro z; cases z)
    have u'e : u' ≠ e := ne_of hu' o.ear (ups_ne hne _)
    have r'e : r' ≠ e := ne_of hr' o.ear (roads_ne hne _)
    have h8u' := keep _ _ hu' u'x u'e
    have h8r' := keep _ _ hr' r'x r'e
    have nv := SeaOk.ne D.now
    have hux : u ≠ x := ne_of o.ups o.ins (by intro z; cases z)
    have hrx : r ≠ x := ne_of o.roads o.ins (by intro z; cases z)
    have h8u := keep _ _ o.ups hux (ne_of o.ups o.ear (ups_ne nv _))
    have h8r := keep _ _ o.roads hrx (ne_of o.roads o.ear (roads_ne nv _))
    have h8oe : H8 e = some (.lst ((t1 :: te).reverse.map V.ref)) := up2 _ _ h2e (Ne.symm nxe)
    have keep' : ∀ b o, H b = some o → b ∉ [x, e] → H8 b = some o := fun b o z hb => keep b o z (fun y => hb (by rw [y]; simp)) (fun y => hb (by rw [y]; simp))
    have fr2 : ∀ b, H2 b = none → H b = none := fun b hb => by
      cases z : H b with
      | none => rfl
      | some ob =>
        by_cases y : b = e
        · rw [y, h2e] at hb; cases hb
        · rw [k2 b ob z y] at hb; cases hb
    have fr4 : ∀ b, H4 b = none → H2 b = none := fun b hb => by
      cases z : H2 b with
      | none => rfl
      | some ob =>
        by_cases y : b = x
        · rw [y, h4x] at hb; cases hb
        · rw [k4 b ob (k3 b ob z) y] at hb; cases hb
    refine k H8 (os ++ [t1, e', n', u', r']) (kpx_of keep' fun b hb => ?_) ⟨there_of hth keep' fun b hb => ?_, dx, u', r', e', n', (t1 :: te).take 20, [], ?_⟩ (fun b hb => ?_)
    · rcases List.mem_cons.mp hb with z | z
      · subst z
        exact ⟨inO ob.ins, ⟨_, o.ins, .inr ⟨_, _, _, rfl⟩⟩, _, h8x⟩
      · obtain rfl : b = e := by simpa using z
        exact ⟨inO ob.ear, ⟨_, o.ear, .inl ⟨_, rfl⟩⟩, _, h8oe⟩
    · simp only [List.cons_append, List.nil_append, List.mem_cons, List.not_mem_nil, or_false] at hb
      rcases hb with z | z | z | z | z | z | z <;> subst z
      · exact ⟨_, h8x, fun ps z => by cases z⟩
      · exact ⟨_, h8oe, fun ps z => by cases z⟩
      · exact ⟨_, h8t, fun ps z => by cases z⟩
      · exact ⟨_, h8e, fun ps z => by cases z⟩
      · exact ⟨_, h8n, fun ps z => by cases z⟩
      · exact ⟨_, h8u', fun ps z => by cases z⟩
      · exact ⟨_, h8r', fun ps z => by cases z⟩
    · have sub : ∀ b ∈ os, b ∈ os ++ [t1, e', n', u', r'] := fun b hb => List.mem_append_left _ hb
      have at8 : ∀ {b o}, b ∈ os ++ [t1, e', n', u', r'] → H8 b = some o → res H8 (os ++ [t1, e', n', u', r']) b = some o := fun h1 h2 => res_some.mpr ⟨h1, h2⟩
      have mv := mv_of ob (fun b o z h1 h2 _ => keep b o z h1 h2) sub
      refine ⟨at8 (sub _ (inO ob.ins)) h8x, at8 (by simp) h8u', at8 (by simp) h8r', at8 (by simp) h8e, at8 (by simp) h8n, nen', ?_, True.intro⟩
      show Keeps _ ((t1 :: te).take 20) ((d.now :: d.past).take Km458.PAST)
      refine Keeps.take ⟨⟨u, r, at8 (by simp) h8t, at8 (sub _ (inO ob.ups)) h8u, at8 (sub _ (inO ob.roads)) h8r⟩, ob.past.mv mv fun s hs => SeaOk.ne (D.past s hs)⟩
    · rcases List.mem_append.mp hb with z | z
      · exact .inl z
      · simp only [List.mem_cons, List.not_mem_nil, or_false] at z
        rcases z with z | z | z | z | z
        · rw [z]; exact .inr (.inl ht1)
        · rw [z]; exact .inr (.inl (fr2 _ he'))
        · rw [z]; exact .inr (.inl (fr2 _ (fr4 _ hn')))
        · exact .inr (.inr (.inl z))
        · exact .inr (.inr (.inr z))
theorem scChPosts : FnScope ["self", "posts"] ["self", "posts"] (defScope sChPosts) := ⟨rfl, rfl, rfl, by decide +kernel, rfl, by decide +kernel, by decide +kernel⟩
def spChPosts (T : List Tb) (C : Addr) : Sp := fun vs H Q _ => ∃ (x : Addr) (os : List Addr) (d : Desk) (ps : List Nat), vs = [.ref x, .int (msk ps : Nat)] ∧ DA C H x os d ∧ DeskOk d ∧
  ∀ H' os', KpX T os H H' → DA C H' x os' (d.become { d.now with posts := ps }) → (∀ b ∈ os', b ∈ os ∨ H b = none) → Q .non H'
theorem ok_chPosts {f fC : Addr} {fd fdC : FuncData} (F : Fun K "change_posts" "Valley.change_posts" sChPosts f fd) (X : TxtC K mg C N5)
    (GC : FnOk P w K mg base CX0 2 fC fdC ["self", "ups", "roads", "posts"] (spChange T C)) (mC : Meth K C "change" fC) (bC : Binds K fdC ["self", "ups", "roads", "posts"] []) : FnOk P w K mg base CX0 3 f fd ["self", "posts"] (spChPosts T C) := by
  refine F.ok scChPosts (fun vs H Q E h => ?_) (fun cdv A outer s H vs Q E hr h => ?_)
  · obtain ⟨x, os, d, ps, rfl, _⟩ := h
    rfl
  · obtain ⟨x, os, d, ps, rfl, da, D, k⟩ := h
    obtain ⟨hth, dx, u, r, e, n, te, tn, ob⟩ := id da
    have o := ob.mono res_le
    refine ⟨_, pss_one (ps_expr (pe_meth (pv 0) X.cl mC GC hr bC .nil pass0 (pa_cons (pe_fld (pv 0) rfl) (pa_cons (pe_fld (pv 0) rfl) (pa_cons (pv 1) pa_nil))))), ?_⟩
    refine ⟨_, rfl, x, dx, _, rfl, o.ins, rfl, _, rfl, x, C, dx, _, _, rfl, o.ins, X.cl, X.no _ (by decide +kernel), rfl, _, rfl, x, C, dx, _, _, rfl, o.ins, X.cl, X.no _ (by decide +kernel), rfl, _, rfl, ?_⟩
    refine ⟨x, u, r, os, d, { d.now with posts := ps }, rfl, da, D, o.ups, o.roads, (SeaOk.ne D.now : d.now.valley ≠ []), fun H' os' kx da' ho => k H' os' kx da' fun b hb => ?_⟩
    rcases ho b hb with z | z | z | z
    · exact .inl z
    · exact .inr z
    · rw [z]; exact .inl (res_some.mp ob.ups).1
    · rw [z]; exact .inl (res_some.mp ob.roads).1
end
end VR
end
section
set_option Elab.async false
set_option linter.all false
set_option maxRecDepth 100000
set_option maxHeartbeats 4000000
namespace VR
open PySem PySem.Spec PyProof.Rows L2 Vp
open Km457 (Valley at_ far)
open Km458 (table dist Sea Desk Call act)
section
variable {P : Program} {w : World} {K : PySem.W.Frag} {mg : Str → Option Value} {base : Heap} {C : Addr} {T : List Tb}
theorem last_rev {t : Addr} {te : List Addr} : ((t :: te).reverse.map V.ref)[((t :: te).reverse.map V.ref).length - 1]? = some (V.ref t) := by simp
theorem drop_rev {t : Addr} {te : List Addr} : ((t :: te).reverse.map V.ref).dropLast = te.reverse.map V.ref := by simp
theorem swap_lists {os : List Addr} {H : Hp} {x t1 : Addr} {d : Desk} {dx u r e n : Addr} {te tn : List Addr} {hth : ∀ b ∈ os, ∃ o, H b = some o ∧ ∀ ps, o ≠ .tbl ps} (ob : Obj5 C (res H os) x d dx u r e n te tn) (D : DeskOk d) (ht1 : H t1 = none)
    {H' : Hp} {d' : Desk} {u' r' : Addr} {te' tn' : List Addr} (keep : ∀ b o, H b = some o → b ≠ x → b ≠ e → b ≠ n → H' b = some o) (hx : H' x = some (.ins C dx (flds u' r' (msk d'.now.posts) e n))) (ht : H' t1 = some (.tup [.ref u, .ref r, .int (msk d.now.posts : Nat)]))
    (he : H' e = some (.lst (te'.reverse.map V.ref))) (hn : H' n = some (.lst (tn'.reverse.map V.ref))) (hv : d'.now.valley ≠ []) (hu : res H os u' = some (.lst (upsV d'.now.valley))) (hr : res H os r' = some (.lst (roadsV d'.now.valley)))
    (hp : ∀ H2, Kept H2 t1 d.now → Mv (res H os) H2 → Keeps H2 te' d'.past) (hf : ∀ H2, Kept H2 t1 d.now → Mv (res H os) H2 → Keeps H2 tn' d'.future) :
    KpX T os H H' ∧ DA C H' x (os ++ [t1]) d' ∧ ∀ b ∈ os ++ [t1], b ∈ os ∨ H b = none := by
  have o := ob.mono res_le
  have inO : ∀ {b o}, res H os b = some o → b ∈ os := fun h => (res_some.mp h).1
  have keep' : ∀ b o, H b = some o → b ∉ [x, e, n] → H' b = some o := fun b o z hb => keep b o z (fun y => hb (by rw [y]; simp)) (fun y => hb (by rw [y]; simp)) (fun y => hb (by rw [y]; simp))
  have sub : ∀ b ∈ os, b ∈ os ++ [t1] := fun b hb => List.mem_append_left _ hb
  have at8 : ∀ {b o}, b ∈ os ++ [t1] → H' b = some o → res H' (os ++ [t1]) b = some o := fun h1 h2 => res_some.mpr ⟨h1, h2⟩
  have mv : Mv (res H os) (res H' (os ++ [t1])) := mv_of ob keep sub
  have nv := SeaOk.ne D.now
  have kt : Kept (res H' (os ++ [t1])) t1 d.now := ⟨u, r, at8 (by simp) ht, mv _ _ ob.ups (fun _ _ _ z => by cases z) (ups_ne nv), mv _ _ ob.roads (fun _ _ _ z => by cases z) (roads_ne nv)⟩
  refine ⟨kpx_of keep' fun b hb => ?_, ⟨there_of hth keep' fun b hb => ?_, dx, u', r', e, n, te', tn', ?_⟩, fun b hb => ?_⟩
  · simp only [List.mem_cons, List.not_mem_nil, or_false] at hb
    rcases hb with z | z | z <;> subst z
    · exact ⟨inO ob.ins, ⟨_, o.ins, .inr ⟨_, _, _, rfl⟩⟩, _, hx⟩
    · exact ⟨inO ob.ear, ⟨_, o.ear, .inl ⟨_, rfl⟩⟩, _, he⟩
    · exact ⟨inO ob.und, ⟨_, o.und, .inl ⟨_, rfl⟩⟩, _, hn⟩
  · simp only [List.cons_append, List.nil_append, List.mem_cons, List.not_mem_nil, or_false] at hb
    rcases hb with z | z | z | z <;> subst z
    · exact ⟨_, hx, fun ps z => by cases z⟩
    · exact ⟨_, he, fun ps z => by cases z⟩
    · exact ⟨_, hn, fun ps z => by cases z⟩
    · exact ⟨_, ht, fun ps z => by cases z⟩
  · exact ⟨at8 (sub _ (inO ob.ins)) hx, mv _ _ hu (fun _ _ _ z => by cases z) (ups_ne hv), mv _ _ hr (fun _ _ _ z => by cases z) (roads_ne hv), at8 (sub _ (inO ob.ear)) he, at8 (sub _ (inO ob.und)) hn, ob.ne, hp _ kt mv, hf _ kt mv⟩
  · rcases List.mem_append.mp hb with z | z
    · exact .inl z
    · obtain rfl : b = t1 := by simpa using z
      exact .inr ht1
theorem scBackM : FnScope ["self"] ["self"] (defScope sBackM) := ⟨rfl, rfl, rfl, by decide +kernel, rfl, by decide +kernel, by decide +kernel⟩
def spBackM (T : List Tb) (C : Addr) : Sp := fun vs H Q _ => ∃ (x : Addr) (os : List Addr) (d : Desk) (k : Sea) (ks : List Sea), vs = [.ref x] ∧ DA C H x os d ∧ DeskOk d ∧ d.past = k :: ks ∧
  ∀ H' os', KpX T os H H' → DA C H' x os' ⟨k, ks, d.now :: d.future⟩ → (∀ b ∈ os', b ∈ os ∨ H b = none) → Q .non H'
theorem ok_backM {f fB fN : Addr} {fd fdB fdN : FuncData} (F : Fun K "take_back" "Valley.take_back" sBackM f fd) (X : TxtC K mg C N5)
    (GB : FnOk P w K mg base CX0 1 fB fdB ["self", "kept"] (spBecome C)) (mB : Meth K C "become" fB) (bB : Binds K fdB ["self", "kept"] [])
    (GN : FnOk P w K mg base CX0 1 fN fdN ["self"] (spNow C)) (mN : Meth K C "now" fN) (bN : Binds K fdN ["self"] []) : FnOk P w K mg base CX0 2 f fd ["self"] (spBackM T C) := by
  refine F.ok scBackM (fun vs H Q E h => ?_) (fun cdv A outer s H vs Q E hr h => ?_)
  · obtain ⟨x, os, d, k, ks, rfl, _⟩ := h
    rfl
  · obtain ⟨x, os, d, s0, ks, rfl, ⟨hth, dx, u, r, e, n, te, tn, ob⟩, D, hpast, k⟩ := h
    have o := ob.mono res_le
    obtain ⟨t0, te', rfl⟩ : ∃ t0 te', te = t0 :: te' := by
      cases te with
      | nil => have := ob.past; rw [hpast] at this; exact this.elim
      | cons t0 te' => exact ⟨t0, te', rfl⟩
    have hpo := ob.past
    rw [hpast] at hpo
    obtain ⟨⟨u0, r0, q1, q2, q3⟩, hpo'⟩ := hpo
    have hks : SeaOk s0 := D.past s0 (by rw [hpast]; exact List.mem_cons_self)
    have hle : tn.length ≤ 20 := by rw [o.fut.len]; have := D.few; omega
    refine ⟨_, pss_cons (ps_expr (pe_bm PySem.F.plainAttrs_list PySem.F.slot_list_append PySem.F.type_list_append mt_append (pe_fld (pv 0) rfl) (pa_cons (pe_meth0 (pv 0) X.cl mN GN hr bN .nil pass0) pa_nil)))
      (pss_one (ps_expr (pe_meth (pv 0) X.cl mB GB hr bB .nil pass0 (pa_cons (pe_bm0 PySem.F.plainAttrs_list PySem.F.slot_list_pop PySem.F.type_list_pop mt_pop (pe_fld (pv 0) rfl)) pa_nil)))), ?_⟩
    refine ⟨_, rfl, x, C, dx, _, _, rfl, o.ins, X.cl, X.no _ (by decide +kernel), rfl, .inl ⟨rfl, _, SqL.of o.und⟩, ?_⟩
    refine ⟨_, rfl, x, dx, _, rfl, o.ins, rfl, x, dx, u, r, e, n, _, rfl, o.ins, fun t1 ht1 => ?_⟩
    generalize hH1 : upd H t1 (.tup [.ref u, .ref r, .int (msk d.now.posts : Nat)]) = H1
    have k1 : ∀ b o, H b = some o → H1 b = some o := fun b o z => by rw [← hH1, upd_ne (ne_of_none z ht1)]; exact z
    have h1t : H1 t1 = some (.tup [.ref u, .ref r, .int (msk d.now.posts : Nat)]) := by rw [← hH1, upd_same]
    refine ⟨n, _, _, rfl, rfl, k1 _ _ o.und, by rw [List.length_map, List.length_reverse]; exact small1000 (by omega), ?_⟩
    have eL : tn.reverse.map V.ref ++ [V.ref t1] = (t1 :: tn).reverse.map V.ref := by simp
    rw [eL]
    have nxe : x ≠ e := ne_of o.ins o.ear (by intro z; cases z)
    have nxn : x ≠ n := ne_of o.ins o.und (by intro z; cases z)
    have ntn : t1 ≠ n := ne_of h1t (k1 _ _ o.und) (by intro z; cases z)
    have nte : t1 ≠ e := ne_of h1t (k1 _ _ o.ear) (by intro z; cases z)
    have ntx : t1 ≠ x := ne_of h1t (k1 _ _ o.ins) (by intro z; cases z)
    generalize hH2 : upd H1 n (.lst ((t1 :: tn).reverse.map V.ref)) = H2
    have h2n : H2 n = some (.lst ((t1 :: tn).reverse.map V.ref)) := by rw [← hH2, upd_same]
    have k2 : ∀ b o, H b = some o → b ≠ n → H2 b = some o := fun b o z hb => by rw [← hH2, upd_ne hb]; exact k1 b o z
    have h2t : H2 t1 = some (.tup [.ref u, .ref r, .int (msk d.now.posts : Nat)]) := by rw [← hH2, upd_ne ntn]; exact h1t
    have h2x := k2 _ _ o.ins nxn
    have h2e := k2 _ _ o.ear ob.ne
    refine ⟨_, rfl, x, dx, _, rfl, h2x, rfl, _, rfl, x, C, dx, _, _, rfl, h2x, X.cl, X.no _ (by decide +kernel), rfl, .inl ⟨rfl, _, SqL.of h2e⟩, e, _, _, rfl, rfl, h2e, last_rev, ?_⟩
    rw [drop_rev]
    generalize hH3 : upd H2 e (.lst (te'.reverse.map V.ref)) = H3
    have h3e : H3 e = some (.lst (te'.reverse.map V.ref)) := by rw [← hH3, upd_same]
    have k3 : ∀ b o, H2 b = some o → b ≠ e → H3 b = some o := fun b o z hb => by rw [← hH3, upd_ne hb]; exact z
    have h3x := k3 _ _ h2x nxe
    have qt := res_le _ _ q1
    have h3t0 := k3 _ _ (k2 _ _ qt (ne_of qt o.und (by intro z; cases z))) (ne_of qt o.ear (by intro z; cases z))
    refine ⟨x, t0, dx, _, _, _, _, rfl, h3x, Nat.le_refl 5, h3t0, ?_⟩
    rw [put_three]
    have W := swap_lists (T := T) (hth := hth) (d' := ⟨s0, ks, d.now :: d.future⟩) (H' := upd H3 x (.ins C dx (flds u0 r0 (msk s0.posts) e n))) (u' := u0) (r' := r0) (te' := te') (tn' := t1 :: tn) ob D ht1
      (fun b o z h1 h2 h3 => by rw [upd_ne h1]; exact k3 _ _ (k2 _ _ z h3) h2) upd_same (by rw [upd_ne ntx]; exact k3 _ _ h2t nte) (by rw [upd_ne (Ne.symm nxe)]; exact h3e) (by rw [upd_ne (Ne.symm nxn)]; exact k3 _ _ h2n (Ne.symm ob.ne)) (SeaOk.ne hks) q2 q3
      (fun H2 kt mv => hpo'.mv mv fun s hs => SeaOk.ne (D.past s (by rw [hpast]; exact List.mem_cons_of_mem _ hs))) (fun H2 kt mv => ⟨kt, ob.fut.mv mv fun s hs => SeaOk.ne (D.future s hs)⟩)
    exact k _ _ W.1 W.2.1 W.2.2
theorem scAgainM : FnScope ["self"] ["self"] (defScope sAgainM) := ⟨rfl, rfl, rfl, by decide +kernel, rfl, by decide +kernel, by decide +kernel⟩
def spAgainM (T : List Tb) (C : Addr) : Sp := fun vs H Q _ => ∃ (x : Addr) (os : List Addr) (d : Desk) (k : Sea) (ks : List Sea), vs = [.ref x] ∧ DA C H x os d ∧ DeskOk d ∧ d.future = k :: ks ∧
  ∀ H' os', KpX T os H H' → DA C H' x os' ⟨k, d.now :: d.past, ks⟩ → (∀ b ∈ os', b ∈ os ∨ H b = none) → Q .non H'
theorem ok_againM {f fB fN : Addr} {fd fdB fdN : FuncData} (F : Fun K "do_again" "Valley.do_again" sAgainM f fd) (X : TxtC K mg C N5)
    (GB : FnOk P w K mg base CX0 1 fB fdB ["self", "kept"] (spBecome C)) (mB : Meth K C "become" fB) (bB : Binds K fdB ["self", "kept"] [])
    (GN : FnOk P w K mg base CX0 1 fN fdN ["self"] (spNow C)) (mN : Meth K C "now" fN) (bN : Binds K fdN ["self"] []) : FnOk P w K mg base CX0 2 f fd ["self"] (spAgainM T C) := by
  refine F.ok scAgainM (fun vs H Q E h => ?_) (fun cdv A outer s H vs Q E hr h => ?_)
  · obtain ⟨x, os, d, k, ks, rfl, _⟩ := h
    rfl
  · obtain ⟨x, os, d, s0, ks, rfl, ⟨hth, dx, u, r, e, n, te, tn, ob⟩, D, hfut, k⟩ := h
    have o := ob.mono res_le
    obtain ⟨t0, tn', rfl⟩ : ∃ t0 tn', tn = t0 :: tn' := by
      cases tn with
      | nil => have := ob.fut; rw [hfut] at this; exact this.elim
      | cons t0 tn' => exact ⟨t0, tn', rfl⟩
    have hpo := ob.fut
    rw [hfut] at hpo
    obtain ⟨⟨u0, r0, q1, q2, q3⟩, hpo'⟩ := hpo
    have hks : SeaOk s0 := D.future s0 (by rw [hfut]; exact List.mem_cons_self)
    have hle : te.length ≤ 20 := by rw [o.past.len]; have := D.few; omega
    refine ⟨_, pss_cons (ps_expr (pe_bm PySem.F.plainAttrs_list PySem.F.slot_list_append PySem.F.type_list_append mt_append (pe_fld (pv 0) rfl) (pa_cons (pe_meth0 (pv 0) X.cl mN GN hr bN .nil pass0) pa_nil)))
      (pss_one (ps_expr (pe_meth (pv 0) X.cl mB GB hr bB .nil pass0 (pa_cons (pe_bm0 PySem.F.plainAttrs_list PySem.F.slot_list_pop PySem.F.type_list_pop mt_pop (pe_fld (pv 0) rfl)) pa_nil)))), ?_⟩
    refine ⟨_, rfl, x, C, dx, _, _, rfl, o.ins, X.cl, X.no _ (by decide +kernel), rfl, .inl ⟨rfl, _, SqL.of o.ear⟩, ?_⟩
    refine ⟨_, rfl, x, dx, _, rfl, o.ins, rfl, x, dx, u, r, e, n, _, rfl, o.ins, fun t1 ht1 => ?_⟩
    generalize hH1 : upd H t1 (.tup [.ref u, .ref r, .int (msk d.now.posts : Nat)]) = H1
    have k1 : ∀ b o, H b = some o → H1 b = some o := fun b o z => by rw [← hH1, upd_ne (ne_of_none z ht1)]; exact z
    have h1t : H1 t1 = some (.tup [.ref u, .ref r, .int (msk d.now.posts : Nat)]) := by rw [← hH1, upd_same]
    refine ⟨e, _, _, rfl, rfl, k1 _ _ o.ear, by rw [List.length_map, List.length_reverse]; exact small1000 (by omega), ?_⟩
    have eL : te.reverse.map V.ref ++ [V.ref t1] = (t1 :: te).reverse.map V.ref := by simp
    rw [eL]
    have nxe : x ≠ e := ne_of o.ins o.ear (by intro z; cases z)
    have nxn : x ≠ n := ne_of o.ins o.und (by intro z; cases z)
    have ntn : t1 ≠ n := ne_of h1t (k1 _ _ o.und) (by intro z; cases z)
    have nte : t1 ≠ e := ne_of h1t (k1 _ _ o.ear) (by intro z; cases z)
    have ntx : t1 ≠ x := ne_of h1t (k1 _ _ o.ins) (by intro z; cases z)
    generalize hH2 : upd H1 e (.lst ((t1 :: te).reverse.map V.ref)) = H2
    have h2e : H2 e = some (.lst ((t1 :: te).reverse.map V.ref)) := by rw [← hH2, upd_same]
    have k2 : ∀ b o, H b = some o → b ≠ e → H2 b = some o := fun b o z hb => by rw [← hH2, upd_ne hb]; exact k1 b o z
    have h2t : H2 t1 = some (.tup [.ref u, .ref r, .int (msk d.now.posts : Nat)]) := by rw [← hH2, upd_ne nte]; exact h1t
    have h2x := k2 _ _ o.ins nxe
    have h2n := k2 _ _ o.und (Ne.symm ob.ne)
    refine ⟨_, rfl, x, dx, _, rfl, h2x, rfl, _, rfl, x, C, dx, _, _, rfl, h2x, X.cl, X.no _ (by decide +kernel), rfl, .inl ⟨rfl, _, SqL.of h2n⟩, n, _, _, rfl, rfl, h2n, last_rev, ?_⟩
    rw [drop_rev]
    generalize hH3 : upd H2 n (.lst (tn'.reverse.map V.ref)) = H3
    have h3n : H3 n = some (.lst (tn'.reverse.map V.ref)) := by rw [← hH3, upd_same]
    have k3 : ∀ b o, H2 b = some o → b ≠ n → H3 b = some o := fun b o z hb => by rw [← hH3, upd_ne hb]; exact z
    have h3x := k3 _ _ h2x nxn
    have qt := res_le _ _ q1
    have h3t0 := k3 _ _ (k2 _ _ qt (ne_of qt o.ear (by intro z; cases z))) (ne_of qt o.und (by intro z; cases z))
    refine ⟨x, t0, dx, _, _, _, _, rfl, h3x, Nat.le_refl 5, h3t0, ?_⟩
    rw [put_three]
    have W := swap_lists (T := T) (hth := hth) (d' := ⟨s0, d.now :: d.past, ks⟩) (H' := upd H3 x (.ins C dx (flds u0 r0 (msk s0.posts) e n))) (u' := u0) (r' := r0) (te' := t1 :: te) (tn' := tn') ob D ht1
      (fun b o z h1 h2 h3 => by rw [upd_ne h1]; exact k3 _ _ (k2 _ _ z h2) h3) upd_same (by rw [upd_ne ntx]; exact k3 _ _ h2t ntn) (by rw [upd_ne (Ne.symm nxe)]; exact k3 _ _ h2e ob.ne) (by rw [upd_ne (Ne.symm nxn)]; exact h3n) (SeaOk.ne hks) q2 q3
      (fun H2 kt mv => ⟨kt, ob.past.mv mv fun s hs => SeaOk.ne (D.past s hs)⟩) (fun H2 kt mv => hpo'.mv mv fun s hs => SeaOk.ne (D.future s (by rw [hfut]; exact List.mem_cons_of_mem _ hs)))
    exact k _ _ W.1 W.2.1 W.2.2
theorem scInit : FnScope ["self"] ["self"] (defScope sInit) := ⟨rfl, rfl, rfl, by decide +kernel, rfl, by decide +kernel, by decide +kernel⟩
theorem da_begin {H' : Hp} {x dx u r e n : Addr} (nen : e ≠ n) (h1 : H' x = some (.ins C dx (flds u r 0 e n))) (h2 : H' u = some (.lst [.int 0])) (h3 : H' r = some (.lst [.int 0])) (h4 : H' e = some (.lst [])) (h5 : H' n = some (.lst [])) : DA C H' x [x, u, r, e, n] Km458.fresh := by
  refine ⟨fun b hb => ?_, dx, u, r, e, n, [], [], ?_⟩
  · simp only [List.mem_cons, List.not_mem_nil, or_false] at hb
    rcases hb with z | z | z | z | z <;> subst z
    · exact ⟨_, h1, fun ps z => by cases z⟩
    · exact ⟨_, h2, fun ps z => by cases z⟩
    · exact ⟨_, h3, fun ps z => by cases z⟩
    · exact ⟨_, h4, fun ps z => by cases z⟩
    · exact ⟨_, h5, fun ps z => by cases z⟩
  · have at8 : ∀ {b o}, b ∈ [x, u, r, e, n] → H' b = some o → res H' [x, u, r, e, n] b = some o := fun h1 h2 => res_some.mpr ⟨h1, h2⟩
    exact ⟨at8 (by simp) h1, at8 (by simp) h2, at8 (by simp) h3, at8 (by simp) h4, at8 (by simp) h5, nen, True.intro, True.intro⟩
theorem ok_init {f fB : Addr} {fd fdB : FuncData} (F : Fun K "__init__" "Valley.__init__" sInit f fd) (X : TxtC K mg C N5)
    (GB : FnOk P w K mg base CX0 2 fB fdB ["self"] (spBegin C)) (mB : Meth K C "begin" fB) (bB : Binds K fdB ["self"] []) : FnOk P w K mg base CX0 3 f fd ["self"] (spNew C T (DA C)) := by
  refine F.ok scInit (fun vs H Q E h => ?_) (fun cdv A outer s H vs Q E hr h => ?_)
  · obtain ⟨x, dx, rfl, _⟩ := h
    rfl
  · obtain ⟨x, dx, rfl, hx, hdx, hT, k⟩ := h
    refine ⟨_, pss_one (ps_expr (pe_meth0 (pv 0) X.cl mB GB hr bB .nil pass0)), ?_⟩
    refine ⟨_, rfl, x, dx, [], rfl, hx, rfl, x, dx, [], rfl, hx, by decide, rfl, fun u r e n p => rfl, fun H' u r e n hk f1 f2 f3 f4 nen g1 g2 g3 g4 g5 => ?_⟩
    refine k H' [x, u, r, e, n] (kpx_of (ch := [x]) (fun b o z hb => hk b o z (by simpa using hb)) fun b hb => ?_) (da_begin nen g1 g2 g3 g4 g5) fun b hb => ?_
    · obtain rfl : b = x := by simpa using hb
      exact ⟨by simp, ⟨_, hx, .inr ⟨_, _, _, rfl⟩⟩, _, g1⟩
    · simp only [List.mem_cons, List.not_mem_nil, or_false] at hb
      rcases hb with z | z | z | z | z
      · exact .inl z
      · rw [z]; exact .inr (.inr f1)
      · rw [z]; exact .inr (.inr f2)
      · rw [z]; exact .inr (.inr f3)
      · rw [z]; exact .inr (.inr f4)
abbrev sStartA : Stmt := top 70
abbrev sBackA : Stmt := top 43
abbrev sAgainA : Stmt := top 44
abbrev sStateA : Stmt := top 45
theorem tellD {H H1 : Hp} {Q : VK} {x : Addr} {os os1 : List Addr} {d' : Desk} {A : Km458.Ans} {xs : List V}
    (fin : ∀ H' p os', KpX T os H H' → DA C H' x os' d' → (∀ b ∈ os', b ∈ os ∨ H b = none) → H p = none → p ∉ os' → H' p = some (.lst ((ansN A).map V.int)) → Q (.ref p) H')
    (kx : KpX T os H H1) (da : DA C H1 x os1 d') (ho : ∀ b ∈ os1, b ∈ os ∨ H b = none) (e : xs = ansV A) (p : Addr) (hp : H1 p = none) : Q (.ref p) (upd H1 p (.lst xs)) := by
  have np : p ∉ os1 := fun z => by
    obtain ⟨o, e, _⟩ := da.1 p z
    rw [hp] at e; cases e
  exact fin _ p os1 (kx.trans (Kp.x ((Same.refl H1).add hp).kp os)) ((fine C).calm _ _ _ _ _ da fun b hb => upd_ne fun z => np (z ▸ hb)) ho (kx.free p hp) np (by rw [upd_same, e, ansV_ansN])
theorem scStartA : FnScope ["valley", "given"] ["valley", "given"] (defScope sStartA) := ⟨rfl, rfl, rfl, by decide +kernel, rfl, by decide +kernel, by decide +kernel⟩
theorem ok_startA {f fB : Addr} {fd fdB : FuncData} (F : Fun K "start" "start" sStartA f fd) (X : TxtC K mg C N5)
    (GB : FnOk P w K mg base CX0 2 fB fdB ["self"] (spBegin C)) (mB : Meth K C "begin" fB) (bB : Binds K fdB ["self"] []) : FnOk P w K mg base CX0 3 f fd ["valley", "given"] (spDo K T (DA C) 0 fun _ => .start) := by
  refine F.ok scStartA (fun vs H Q E h => ?_) (fun cdv A outer s H vs Q E hr h => ?_)
  · obtain ⟨x, g, os, d, as, rfl, _⟩ := h
    rfl
  · obtain ⟨x, g, os, d, as, rfl, da, D, hg, hgo, hlen, hT, fin⟩ := h
    obtain ⟨hth, dx, u0, r0, e0, n0, te, tn, ob⟩ := id da
    have o := ob.mono res_le
    refine ⟨_, pss_cons (ps_expr (pe_meth0 (pv 0) X.cl mB GB hr bB .nil pass0)) (pss_one (ps_ret (pe_lst (pa_cons pe_int pa_nil)))), ?_⟩
    refine ⟨_, rfl, x, dx, _, rfl, o.ins, rfl, x, dx, _, rfl, o.ins, Nat.le_refl 5, rfl, fun u r e n p => rfl, fun H' u r e n hk f1 f2 f3 f4 nen g1 g2 g3 g4 g5 => ?_⟩
    refine ⟨by show 1 ≤ sizeLine; decide, tellD (os1 := [x, u, r, e, n]) fin (kpx_of (ch := [x]) (fun b o z hb => hk b o z (by simpa using hb)) fun b hb => ?_) (da_begin nen g1 g2 g3 g4 g5) (fun b hb => ?_) rfl⟩
    · obtain rfl : b = x := by simpa using hb
      exact ⟨(res_some.mp ob.ins).1, ⟨_, o.ins, .inr ⟨_, _, _, rfl⟩⟩, _, g1⟩
    · simp only [List.mem_cons, List.not_mem_nil, or_false] at hb
      rcases hb with z | z | z | z | z
      · rw [z]; exact .inl (res_some.mp ob.ins).1
      · rw [z]; exact .inr f1
      · rw [z]; exact .inr f2
      · rw [z]; exact .inr f3
      · rw [z]; exact .inr f4
theorem scBackA : FnScope ["valley", "given"] ["valley", "given"] (defScope sBackA) := ⟨rfl, rfl, rfl, by decide +kernel, rfl, by decide +kernel, by decide +kernel⟩
theorem ok_backA {f fB : Addr} {fd fdB : FuncData} (F : Fun K "back" "back" sBackA f fd) (X : TxtC K mg C N5) (M : Nums mg) (G : Bare mg)
    (GB : FnOk P w K mg base CX0 2 fB fdB ["self"] (spBackM T C)) (mB : Meth K C "take_back" fB) (bB : Binds K fdB ["self"] []) : FnOk P w K mg base CX0 3 f fd ["valley", "given"] (spDo K T (DA C) 0 fun _ => .back) := by
  refine F.ok scBackA (fun vs H Q E h => ?_) (fun cdv A outer s H vs Q E hr h => ?_)
  · obtain ⟨x, g, os, d, as, rfl, _⟩ := h
    rfl
  · obtain ⟨x, g, os, d, as, rfl, da, D, hg, hgo, hlen, hT, fin⟩ := h
    obtain ⟨hth, dx, u0, r0, e0, n0, te, tn, ob⟩ := id da
    have o := ob.mono res_le
    obtain ⟨tk, hNT⟩ := M.notThere
    refine ⟨_, pss_cons (ps_if (pt_cmpR op_eq (pe_callB call_len_seq (by rfl) G.len PySem.boot_len (pa_cons (pe_fld (pv 0) rfl) pa_nil)) pe_int (nomark _)) (pss_one (ps_ret (pe_lst (pa_cons (pe_glob rfl hNT (v := .int (-2)) ⟨_, rfl⟩) pa_nil)))) pss_nil)
      (pss_cons (ps_expr (pe_meth0 (pv 0) X.cl mB GB hr bB .nil pass0))
      (pss_one (ps_ret (pe_lst (pa_cons (pe_callB call_len_seq (by rfl) G.len PySem.boot_len (pa_cons (pe_fld (pv 0) rfl) pa_nil)) pa_nil))))), ?_⟩
    refine ⟨_, rfl, x, C, dx, _, _, rfl, o.ins, X.cl, X.no _ (by decide +kernel), rfl, e0, _, rfl, .inl (SqL.of o.ear), rfl, _, rfl, ?_⟩
    have hl : (te.reverse.map V.ref).length = d.past.length := by rw [List.length_map, List.length_reverse, o.past.len]
    rw [hl, show (V.int 0) = V.int ((0 : Nat) : Int) from rfl, int_eq]
    cases hp : d.past with
    | nil =>
      refine goT rfl ⟨by show 1 ≤ sizeLine; decide, ?_⟩
      have ea : act d .back = (d, Km458.only (-2)) := by show (match d.past with | [] => _ | k :: r => _) = _; rw [hp]
      rw [ea] at fin
      exact tellD fin (Kp.x (Kp.refl T H) os) da (fun b hb => .inl hb) rfl
    | cons k ks =>
      refine goF rfl ?_
      have ea : act d .back = (⟨k, ks, d.now :: d.future⟩, Km458.only ((ks.length : Nat) : Int)) := by show (match d.past with | [] => _ | k :: r => _) = _; rw [hp]
      rw [ea] at fin
      refine ⟨_, rfl, x, dx, _, rfl, o.ins, rfl, x, os, d, k, ks, rfl, da, D, hp, fun H' os' kx da' ho => ?_⟩
      obtain ⟨_, dx', u1, r1, e1, n1, te1, tn1, ob1⟩ := id da'
      have o1 := ob1.mono res_le
      refine ⟨_, rfl, x, C, dx', _, _, rfl, o1.ins, X.cl, X.no _ (by decide +kernel), rfl, e1, _, rfl, .inl (SqL.of o1.ear), by show 1 ≤ sizeLine; decide, ?_⟩
      have hl1 : (te1.reverse.map V.ref).length = ks.length := by rw [List.length_map, List.length_reverse, o1.past.len]
      rw [hl1]
      exact tellD fin kx da' ho rfl
theorem scAgainA : FnScope ["valley", "given"] ["valley", "given"] (defScope sAgainA) := ⟨rfl, rfl, rfl, by decide +kernel, rfl, by decide +kernel, by decide +kernel⟩
theorem ok_againA {f fB : Addr} {fd fdB : FuncData} (F : Fun K "again" "again" sAgainA f fd) (X : TxtC K mg C N5) (M : Nums mg) (G : Bare mg)
    (GB : FnOk P w K mg base CX0 2 fB fdB ["self"] (spAgainM T C)) (mB : Meth K C "do_again" fB) (bB : Binds K fdB ["self"] []) : FnOk P w K mg base CX0 3 f fd ["valley", "given"] (spDo K T (DA C) 0 fun _ => .again) := by
  refine F.ok scAgainA (fun vs H Q E h => ?_) (fun cdv A outer s H vs Q E hr h => ?_)
  · obtain ⟨x, g, os, d, as, rfl, _⟩ := h
    rfl
  · obtain ⟨x, g, os, d, as, rfl, da, D, hg, hgo, hlen, hT, fin⟩ := h
    obtain ⟨hth, dx, u0, r0, e0, n0, te, tn, ob⟩ := id da
    have o := ob.mono res_le
    obtain ⟨tk, hNT⟩ := M.notThere
    refine ⟨_, pss_cons (ps_if (pt_cmpR op_eq (pe_callB call_len_seq (by rfl) G.len PySem.boot_len (pa_cons (pe_fld (pv 0) rfl) pa_nil)) pe_int (nomark _)) (pss_one (ps_ret (pe_lst (pa_cons (pe_glob rfl hNT (v := .int (-2)) ⟨_, rfl⟩) pa_nil)))) pss_nil)
      (pss_cons (ps_expr (pe_meth0 (pv 0) X.cl mB GB hr bB .nil pass0))
      (pss_one (ps_ret (pe_lst (pa_cons (pe_callB call_len_seq (by rfl) G.len PySem.boot_len (pa_cons (pe_fld (pv 0) rfl) pa_nil)) pa_nil))))), ?_⟩
    refine ⟨_, rfl, x, C, dx, _, _, rfl, o.ins, X.cl, X.no _ (by decide +kernel), rfl, n0, _, rfl, .inl (SqL.of o.und), rfl, _, rfl, ?_⟩
    have hl : (tn.reverse.map V.ref).length = d.future.length := by rw [List.length_map, List.length_reverse, o.fut.len]
    rw [hl, show (V.int 0) = V.int ((0 : Nat) : Int) from rfl, int_eq]
    cases hp : d.future with
    | nil =>
      refine goT rfl ⟨by show 1 ≤ sizeLine; decide, ?_⟩
      have ea : act d .again = (d, Km458.only (-2)) := by show (match d.future with | [] => _ | k :: r => _) = _; rw [hp]
      rw [ea] at fin
      exact tellD fin (Kp.x (Kp.refl T H) os) da (fun b hb => .inl hb) rfl
    | cons k ks =>
      refine goF rfl ?_
      have hfw := D.few
      rw [hp, List.length_cons] at hfw
      have et : (d.now :: d.past).take Km458.PAST = d.now :: d.past := List.take_of_length_le (by rw [List.length_cons]; show _ ≤ 20; omega)
      have ea : act d .again = (⟨k, d.now :: d.past, ks⟩, Km458.only ((ks.length : Nat) : Int)) := by
        show (match d.future with | [] => _ | k :: r => ((⟨k, (d.now :: d.past).take Km458.PAST, r⟩ : Desk), Km458.only ((r.length : Nat) : Int))) = _
        rw [hp]
        show ((⟨k, (d.now :: d.past).take Km458.PAST, ks⟩ : Desk), _) = _
        rw [et]
      rw [ea] at fin
      refine ⟨_, rfl, x, dx, _, rfl, o.ins, rfl, x, os, d, k, ks, rfl, da, D, hp, fun H' os' kx da' ho => ?_⟩
      obtain ⟨_, dx', u1, r1, e1, n1, te1, tn1, ob1⟩ := id da'
      have o1 := ob1.mono res_le
      refine ⟨_, rfl, x, C, dx', _, _, rfl, o1.ins, X.cl, X.no _ (by decide +kernel), rfl, n1, _, rfl, .inl (SqL.of o1.und), by show 1 ≤ sizeLine; decide, ?_⟩
      have hl1 : (tn1.reverse.map V.ref).length = ks.length := by rw [List.length_map, List.length_reverse, o1.fut.len]
      rw [hl1]
      exact tellD fin kx da' ho rfl
theorem scStateA : FnScope ["valley", "given"] ["valley", "given"] (defScope sStateA) := ⟨rfl, rfl, rfl, by decide +kernel, rfl, by decide +kernel, by decide +kernel⟩
theorem ok_stateA {f fS : Addr} {fd fdS : FuncData} (F : Fun K "state" "state" sStateA f fd) (X : TxtC K mg C N5) (G : Bare mg)
    (GS : FnOk P w K mg base CX0 1 fS fdS ["self"] (spSize C N5)) (mS : Meth K C "size" fS) (bS : Binds K fdS ["self"] []) : FnOk P w K mg base CX0 2 f fd ["valley", "given"] (spDo K T (DA C) 0 fun _ => .state) := by
  refine F.ok scStateA (fun vs H Q E h => ?_) (fun cdv A outer s H vs Q E hr h => ?_)
  · obtain ⟨x, g, os, d, as, rfl, _⟩ := h
    rfl
  · obtain ⟨x, g, os, d, as, rfl, da, D, hg, hgo, hlen, hT, fin⟩ := h
    obtain ⟨hth, dx, u0, r0, e0, n0, te, tn, ob⟩ := id da
    have o := ob.mono res_le
    have S : SeaAt C N5 H x _ d.now := ⟨⟨flds_names _ _ _ _ _, dx, o.ins⟩, ⟨u0, rfl, o.ups⟩, ⟨r0, rfl, o.roads⟩, rfl⟩
    refine ⟨_, pss_one (ps_ret (pe_lst (pa_cons (pe_meth0 (pv 0) X.cl mS GS hr bS .nil pass0) (pa_cons (pe_callB call_len_seq (by rfl) G.len PySem.boot_len (pa_cons (pe_fld (pv 0) rfl) pa_nil)) (pa_cons (pe_callB call_len_seq (by rfl) G.len PySem.boot_len (pa_cons (pe_fld (pv 0) rfl) pa_nil)) pa_nil))))), ?_⟩
    refine ⟨_, rfl, x, dx, _, rfl, o.ins, rfl, x, _, d.now, rfl, S, ?_⟩
    refine ⟨_, rfl, x, C, dx, _, _, rfl, o.ins, X.cl, X.no _ (by decide +kernel), rfl, e0, _, rfl, .inl (SqL.of o.ear), ?_⟩
    refine ⟨_, rfl, x, C, dx, _, _, rfl, o.ins, X.cl, X.no _ (by decide +kernel), rfl, n0, _, rfl, .inl (SqL.of o.und), by show 3 ≤ sizeLine; decide, ?_⟩
    refine tellD fin (Kp.x (Kp.refl T H) os) da (fun b hb => .inl hb) ?_
    have hl : (te.reverse.map V.ref).length = d.past.length := by rw [List.length_map, List.length_reverse, o.past.len]
    have hl2 : (tn.reverse.map V.ref).length = d.future.length := by rw [List.length_map, List.length_reverse, o.fut.len]
    rw [hl, hl2]
    rfl
end
end VR
end
section
set_option linter.all false
namespace Vp
open Km458 (dist served serves near widest)
def NearIs (t : List (List Nat)) (ps : List Nat) (v q : Nat) : Prop := q ∈ ps ∧ ∀ p ∈ ps, dist t q v < dist t p v ∨ (dist t q v = dist t p v ∧ q ≤ p)
theorem NearIs.unique {t : List (List Nat)} {ps : List Nat} {v q q' : Nat} (a : NearIs t ps v q) (b : NearIs t ps v q') : q = q' := by
  have h1 := a.2 q' b.1
  have h2 := b.2 q a.1
  omega
theorem NearIs.ext {t : List (List Nat)} {ps ps' : List Nat} {v q : Nat} (a : NearIs t ps v q) (h : ∀ i, i ∈ ps ↔ i ∈ ps') : NearIs t ps' v q := ⟨(h q).mp a.1, fun p hp => a.2 p ((h p).mpr hp)⟩
theorem near_go (t : List (List Nat)) (v : Nat) : ∀ (l pre : List Nat) (q : Nat), NearIs t pre v q → ∃ m, l.foldl (fun r p => match r with
    | none => some (p, dist t p v)
    | some (q, d) => if dist t p v < d ∨ (dist t p v = d ∧ p < q) then some (p, dist t p v) else some (q, d)) (some (q, dist t q v)) = some (m, dist t m v) ∧ NearIs t (pre ++ l) v m
  | [], pre, q, h => ⟨q, rfl, by rw [List.append_nil]; exact h⟩
  | p :: l, pre, q, h => by
    rw [List.foldl_cons]
    dsimp only
    by_cases c : dist t p v < dist t q v ∨ (dist t p v = dist t q v ∧ p < q)
    · rw [if_pos c]
      obtain ⟨m, e, hm⟩ := near_go t v l (pre ++ [p]) p ⟨by simp, fun x hx => by
        rcases List.mem_append.mp hx with z | z
        · have := h.2 x z; omega
        · have : x = p := by simpa using z
          subst this; omega⟩
      exact ⟨m, e, by rw [List.append_assoc] at hm; exact hm⟩
    · rw [if_neg c]
      obtain ⟨m, e, hm⟩ := near_go t v l (pre ++ [p]) q ⟨List.mem_append_left _ h.1, fun x hx => by
        rcases List.mem_append.mp hx with z | z
        · exact h.2 x z
        · have : x = p := by simpa using z
          subst this; omega⟩
      exact ⟨m, e, by rw [List.append_assoc] at hm; exact hm⟩
theorem near_some {t : List (List Nat)} {ps : List Nat} {v : Nat} (h : ps ≠ []) : ∃ q, near t ps v = some (q, dist t q v) ∧ NearIs t ps v q := by
  cases ps with
  | nil => exact absurd rfl h
  | cons p l =>
    obtain ⟨m, e, hm⟩ := near_go t v l [p] p ⟨by simp, fun x hx => by
      have : x = p := by simpa using hx
      subst this; omega⟩
    exact ⟨m, e, hm⟩
theorem near_eq {t : List (List Nat)} {ps : List Nat} {v q : Nat} (h : NearIs t ps v q) : near t ps v = some (q, dist t q v) := by
  obtain ⟨m, e, hm⟩ := near_some (t := t) (v := v) (List.ne_nil_of_mem h.1)
  rw [e, h.unique hm]
theorem near_none {t : List (List Nat)} {ps : List Nat} {v : Nat} : near t ps v = none ↔ ps = [] := by
  constructor
  · intro h
    by_cases e : ps = []
    · exact e
    · obtain ⟨q, e1, _⟩ := near_some (t := t) (v := v) e
      rw [e1] at h; cases h
  · rintro rfl; rfl
theorem msk_erase {l : List Nat} {p : Nat} (h : p ∈ l) : msk (l.filter fun q => q != p) = msk l ^^^ 2 ^ p := by
  apply Nat.eq_of_testBit_eq
  intro i
  rw [Nat.testBit_xor, testBit_msk, testBit_msk, Nat.testBit_two_pow]
  by_cases e : p = i
  · subst e; simp [h]
  · have e' : ¬ i = p := fun z => e z.symm
    simp [e, e']
theorem msk_add {l : List Nat} {p : Nat} (h : p ∉ l) : msk (l ++ [p]) = msk l ^^^ 2 ^ p := by
  apply Nat.eq_of_testBit_eq
  intro i
  rw [Nat.testBit_xor, testBit_msk, testBit_msk, Nat.testBit_two_pow]
  by_cases e : p = i
  · subst e; simp [h]
  · have e' : ¬ i = p := fun z => e z.symm
    simp [e, e']
theorem msk_zero {l : List Nat} : msk l = 0 ↔ l = [] := by
  constructor
  · intro h
    cases l with
    | nil => rfl
    | cons a r =>
      have := testBit_msk (a :: r) a
      rw [h] at this; simp at this
  · rintro rfl; rfl
theorem msk_unserved {t : List (List Nat)} {r : Nat} {ps : List Nat} (h : ∀ p ∈ ps, p < t.length) : msk ((List.range t.length).filter fun v => !served t r ps v) = (2 ^ t.length - 1) ^^^ cov (ballsOf t r) ps := by
  apply Nat.eq_of_testBit_eq
  intro i
  rw [Nat.testBit_xor, testBit_msk, Nat.testBit_two_pow_sub_one]
  by_cases hi : i < t.length
  · rw [served_test h hi]
    simp [hi]
  · have : (cov (ballsOf t r) ps).testBit i = false := Nat.testBit_lt_two_pow (Nat.lt_of_lt_of_le (cov_lt (balls_lt t r)) (Nat.pow_le_pow_right (by decide) (by omega)))
    rw [this]; simp [hi]
theorem widest_max (t : List (List Nat)) : widest t = maxBy (fun p => dist t p.1 p.2) (0, 0) (Km457.pairs t.length) := rfl
end Vp
end
section
set_option Elab.async false
set_option linter.all false
set_option maxRecDepth 100000
set_option maxHeartbeats 4000000
namespace VR
open PySem PySem.Spec PyProof.Rows L2 Vp
open Km457 (Valley at_ far)
open Km458 (table dist Sea Desk Call act)
abbrev sWrong : Stmt := top 34
abbrev sVillA : Stmt := top 35
abbrev sRoadA : Stmt := top 36
abbrev sDropA : Stmt := top 37
abbrev sPostA : Stmt := top 38
abbrev sPutA : Stmt := top 39
abbrev sClearA : Stmt := top 40
structure NumsC (mg : Str → Option Value) : Prop where
  hasPost : ∃ t, mg "HAS_POST" = some (.int (-16) t)
  already : ∃ t, mg "SO_ALREADY" = some (.int (-17) t)
  full : ∃ t, mg "FULL" = some (.int (-28) t)
  most : ∃ t, mg "MOST_VILLAGES" = some (.int 10 t)
  longest : ∃ t, mg "LONGEST_ROAD" = some (.int 1000 t)
  farthest : ∃ t, mg "FARTHEST_PUT" = some (.int 1000000 t)
section
variable {P : Program} {w : World} {K : PySem.W.Frag} {mg : Str → Option Value} {base : Heap} {C : Addr} {T : List Tb}
theorem DA.same {H H' : Hp} {x : Addr} {os : List Addr} {d : Desk} (h : DA C H x os d) (s : Same H H') : DA C H' x os d :=
  (fine C).calm _ _ _ _ _ h fun b hb => by
    obtain ⟨o, e, _⟩ := h.1 b hb
    rw [e, s b o e]
theorem DA.kp {H H' : Hp} {x : Addr} {os : List Addr} {d : Desk} (h : DA C H x os d) (s : Kp T H H') : DA C H' x os d :=
  (fine C).calm _ _ _ _ _ h fun b hb => by
    obtain ⟨o, e, n⟩ := h.1 b hb
    rw [e, s.keep b o e n]
theorem DA.out {H : Hp} {x : Addr} {os : List Addr} {d : Desk} (h : DA C H x os d) {b : Addr} (hb : H b = none) : b ∉ os := fun z => by
  obtain ⟨o, e, _⟩ := h.1 b z
  rw [hb] at e; cases e
theorem scWrong : FnScope ["n"] ["n"] (defScope sWrong) := ⟨rfl, rfl, rfl, by decide +kernel, rfl, by decide +kernel, by decide +kernel⟩
def spWrong : Sp := fun vs H Q _ => ∃ n : Nat, vs = [.int n] ∧ Q (.bl (decide (n = 0 ∨ 1000 < n))) H
theorem ok_wrong {f : Addr} {fd : FuncData} (F : Fun K "wrong_length" "wrong_length" sWrong f fd) (M : NumsC mg) : FnOk P w K mg base CX0 1 f fd ["n"] spWrong := by
  refine F.ok scWrong (fun vs H Q E h => ?_) (fun cdv A outer s H vs Q E hr h => ?_)
  · obtain ⟨n, rfl, _⟩ := h
    rfl
  · obtain ⟨n, rfl, k⟩ := h
    obtain ⟨tk, hL⟩ := M.longest
    refine ⟨_, pss_one (ps_ret (pe_or (pe_cmpR op_lt (pv 0) pe_int (nomark _)) (pe_one (pe_cmpR op_gt (pv 0) (pe_glob rfl hL (v := .int 1000) ⟨_, rfl⟩) (nomark _))))), ?_⟩
    refine ⟨_, rfl, _, _, rfl, rfl, _, rfl, ?_⟩
    refine ite2 (fun hc => ?_) (fun hc => ?_)
    · have hc : n = 0 := by have := of_decide_eq_true hc; omega
      rw [decide_eq_true (show n = 0 ∨ 1000 < n from .inl hc)] at k
      exact k
    · have hc : ¬ n = 0 := fun z => hc (decide_eq_true (by omega))
      refine ⟨_, rfl, _, _, rfl, rfl, ?_⟩
      rw [show decide (n = 0 ∨ 1000 < n) = decide ((1000 : Int) < ((n : Nat) : Int)) from decide_eq_decide.mpr (by omega)] at k
      exact k
theorem scVillA : FnScope ["valley", "given", "up", "far"] ["valley", "given"] (defScope sVillA) := ⟨rfl, rfl, rfl, by decide +kernel, rfl, by decide +kernel, by decide +kernel⟩
theorem ok_villA {f fL fW fS fC : Addr} {fd fdL fdW fdS fdC : FuncData} (F : Fun K "village" "village" sVillA f fd) (X : TxtC K mg C N5) (M : Nums mg) (MC : NumsC mg)
    (GL : FnOk P w K mg base CX0 1 fL fdL ["self", "v"] (spLacks C N5)) (mL : Meth K C "lacks" fL) (bL : Binds K fdL ["self", "v"] [])
    (GS : FnOk P w K mg base CX0 1 fS fdS ["self"] (spSize C N5)) (mS : Meth K C "size" fS) (bS : Binds K fdS ["self"] [])
    (GW : FnOk P w K mg base CX0 1 fW fdW ["n"] spWrong) (mW : mg "wrong_length" = some (.ref fW)) (kW : PySem.W.keepIn K (.ref fW) = true) (bW : Binds K fdW ["n"] [])
    (GC : FnOk P w K mg base CX0 2 fC fdC ["self", "ups", "roads", "posts"] (spChange T C)) (mC : Meth K C "change" fC) (bC : Binds K fdC ["self", "ups", "roads", "posts"] []) :
    FnOk P w K mg base CX0 3 f fd ["valley", "given"] (spDo K T (DA C) 2 (callAt 1)) := by
  refine F.ok scVillA (fun vs H Q E h => ?_) (fun cdv A outer s H vs Q E hr h => ?_)
  · obtain ⟨x, g, os, d, as, rfl, _⟩ := h
    rfl
  · obtain ⟨x, g, os, d, as, rfl, da, D, hg, hgo, hlen, hT, fin⟩ := h
    obtain ⟨up, fr, rfl⟩ := len2 hlen
    rw [natsV_intsN] at hg
    obtain ⟨hth, dx, u0, r0, e0, n0, te, tn, ob⟩ := id da
    have o := ob.mono res_le
    have S : SeaAt C N5 H x _ d.now := ⟨⟨flds_names _ _ _ _ _, dx, o.ins⟩, ⟨u0, rfl, o.ups⟩, ⟨r0, rfl, o.roads⟩, rfl⟩
    obtain ⟨tk1, hNT⟩ := M.notThere
    obtain ⟨tk2, hOR⟩ := M.outOf
    obtain ⟨tk3, hFU⟩ := MC.full
    obtain ⟨tk4, hMV⟩ := MC.most
    have hr1 : Room 1 _ := hr.mono (by decide)
    refine ⟨_, pss_cons (ps_set (i := 2) scVillA.nd rfl (Or.inl rfl) (pe_ix ix_list (pv 1) pe_int (fun _ _ => rfl)))
      (pss_cons (ps_set (i := 3) scVillA.nd rfl (Or.inl rfl) (pe_ix ix_list (pv 1) pe_int (fun _ _ => rfl)))
      (pss_cons (ps_if (pt_val (pe_meth (pv 0) X.cl mL GL hr1 bL .nil pass0 (pa_cons (pv 2) pa_nil))) (pss_one (ps_ret (pe_lst (pa_cons (pe_glob rfl hNT (v := .int (-2)) ⟨_, rfl⟩) pa_nil)))) pss_nil)
      (pss_cons (ps_if (pt_val (pe_call GW hr1 rfl mW kW bW .nil pass0 (pa_cons (pv 3) pa_nil))) (pss_one (ps_ret (pe_lst (pa_cons (pe_glob rfl hOR (v := .int (-22)) ⟨_, rfl⟩) pa_nil)))) pss_nil)
      (pss_cons (ps_if (pt_cmpR op_eq (pe_meth0 (pv 0) X.cl mS GS hr1 bS .nil pass0) (pe_glob rfl hMV (v := .int 10) ⟨_, rfl⟩) (nomark _)) (pss_one (ps_ret (pe_lst (pa_cons (pe_glob rfl hFU (v := .int (-28)) ⟨_, rfl⟩) pa_nil)))) pss_nil)
      (pss_cons (ps_expr (pe_meth (pv 0) X.cl mC GC hr bC .nil pass0 (pa_cons (pe_op op_cat (pe_fld (pv 0) rfl) (pe_lst (pa_cons (pv 2) pa_nil))) (pa_cons (pe_op op_cat (pe_fld (pv 0) rfl) (pe_lst (pa_cons (pv 3) pa_nil))) (pa_cons (pe_fld (pv 0) rfl) pa_nil)))))
      (pss_one (ps_ret (pe_lst (pa_cons (pe_op op_sub (pe_meth0 (pv 0) X.cl mS GS hr1 bS .nil pass0) pe_int) pa_nil))))))))), ?_⟩
    refine ⟨_, rfl, g, _, _, _, rfl, rfl, SqL.of hg, at0, _, rfl, g, _, _, _, rfl, rfl, SqL.of hg, at1, ?_⟩
    refine ⟨_, rfl, x, dx, _, rfl, o.ins, rfl, _, rfl, x, _, d.now, up, rfl, S, _, rfl, ?_⟩
    refine ite2 (fun hc => ?_) (fun hc => ?_)
    · have hc : d.now.valley.length ≤ up := of_decide_eq_true hc
      have ea : act d (callAt 1 [up, fr]) = (d, Km458.only (-2)) := by
        show (if d.now.valley.length ≤ up then (d, Km458.only (-2)) else _) = _
        rw [if_pos hc]
      rw [ea] at fin
      exact ⟨by show 1 ≤ sizeLine; decide, tellD fin (Kp.x (Kp.refl T H) os) da (fun b hb => .inl hb) rfl⟩
    have hc : ¬ d.now.valley.length ≤ up := fun z => hc (decide_eq_true z)
    refine ⟨_, rfl, fr, rfl, _, rfl, ?_⟩
    refine ite2 (fun hc2 => ?_) (fun hc2 => ?_)
    · have hc2 := of_decide_eq_true hc2
      have ea : act d (callAt 1 [up, fr]) = (d, Km458.only (-22)) := by
        show (if d.now.valley.length ≤ up then (d, Km458.only (-2)) else if fr = 0 ∨ 1000 < fr then (d, Km458.only (-22)) else _) = _
        rw [if_neg hc, if_pos hc2]
      rw [ea] at fin
      exact ⟨by show 1 ≤ sizeLine; decide, tellD fin (Kp.x (Kp.refl T H) os) da (fun b hb => .inl hb) rfl⟩
    have hc2 : ¬ (fr = 0 ∨ 1000 < fr) := fun z => hc2 (decide_eq_true z)
    refine ⟨_, rfl, x, dx, _, rfl, o.ins, rfl, x, _, d.now, rfl, S, rfl, _, rfl, ?_⟩
    have hle := D.now.v.le
    rw [show (V.int 10) = V.int ((10 : Nat) : Int) from rfl, int_eq]
    refine ite2 (fun hc3 => ?_) (fun hc3 => ?_)
    · have hc3 := of_decide_eq_true hc3
      have ea : act d (callAt 1 [up, fr]) = (d, Km458.only (-28)) := by
        show (if d.now.valley.length ≤ up then (d, Km458.only (-2)) else if fr = 0 ∨ 1000 < fr then (d, Km458.only (-22)) else if 10 ≤ d.now.valley.length then (d, Km458.only (-28)) else _) = _
        rw [if_neg hc, if_neg hc2, if_pos (by omega)]
      rw [ea] at fin
      exact ⟨by show 1 ≤ sizeLine; decide, tellD fin (Kp.x (Kp.refl T H) os) da (fun b hb => .inl hb) rfl⟩
    have hc3 : ¬ d.now.valley.length = 10 := fun z => hc3 (decide_eq_true z)
    have ea : act d (callAt 1 [up, fr]) = (d.become { d.now with valley := d.now.valley ++ [⟨up, fr, 0⟩] }, Km458.only ((d.now.valley.length : Nat) : Int)) := by
      show (if d.now.valley.length ≤ up then (d, Km458.only (-2)) else if fr = 0 ∨ 1000 < fr then (d, Km458.only (-22)) else if 10 ≤ d.now.valley.length then (d, Km458.only (-28)) else _) = _
      rw [if_neg hc, if_neg hc2, if_neg (by omega)]
      rfl
    rw [ea] at fin
    refine ⟨_, rfl, x, dx, _, rfl, o.ins, rfl, _, rfl, x, C, dx, _, _, rfl, o.ins, X.cl, X.no _ (by decide +kernel), rfl, _, rfl, by show 1 ≤ sizeLine; decide, fun b1 hb1 => ?_⟩
    have s1 : Same H (upd H b1 (.lst [.int (up : Nat)])) := (Same.refl H).add hb1
    have hsz : sizeLine = 16777216 := sizeLine_eq
    refine ⟨u0, b1, _, _, rfl, rfl, s1 _ _ o.ups, upd_same, by rw [upsV_len]; show _ + 1 ≤ _; omega, fun u1 hu1 => ?_⟩
    have s2 := s1.add (o := .lst (upsV d.now.valley ++ [.int (up : Nat)])) hu1
    refine ⟨_, rfl, x, C, dx, _, _, rfl, s2 _ _ o.ins, X.cl, X.no _ (by decide +kernel), rfl, _, rfl, by show 1 ≤ sizeLine; decide, fun b2 hb2 => ?_⟩
    have s3 := s2.add (o := .lst [.int (fr : Nat)]) hb2
    refine ⟨r0, b2, _, _, rfl, rfl, s3 _ _ o.roads, upd_same, by rw [roadsV_len]; show _ + 1 ≤ _; omega, fun r1 hr1' => ?_⟩
    have s4 := s3.add (o := .lst (roadsV d.now.valley ++ [.int (fr : Nat)])) hr1'
    refine ⟨_, rfl, x, C, dx, _, _, rfl, s4 _ _ o.ins, X.cl, X.no _ (by decide +kernel), rfl, ?_⟩
    have fu1 : H u1 = none := s1.free hu1
    have fr1 : H r1 = none := s3.free hr1'
    have eu : upsV (d.now.valley ++ [⟨up, fr, 0⟩]) = upsV d.now.valley ++ [.int (up : Nat)] := by simp [upsV]
    have er : roadsV (d.now.valley ++ [⟨up, fr, 0⟩]) = roadsV d.now.valley ++ [.int (fr : Nat)] := by simp [roadsV]
    refine ⟨x, u1, r1, os, d, { d.now with valley := d.now.valley ++ [⟨up, fr, 0⟩] }, rfl, da.same s4, D, ?_, ?_, by simp, fun H' os' kx da' ho => ?_⟩
    · rw [eu]
      have q : (upd (upd (upd H b1 (.lst [.int (up : Nat)])) u1 (.lst (upsV d.now.valley ++ [.int (up : Nat)]))) b2 (.lst [.int (fr : Nat)])) u1 = some (.lst (upsV d.now.valley ++ [.int (up : Nat)])) := by rw [upd_ne (ne_of_none upd_same hb2), upd_same]
      rw [upd_ne (ne_of_none q hr1')]; exact q
    · rw [er, upd_same]
    · obtain ⟨fs', S'⟩ := sea_of _ _ _ _ da'
      obtain ⟨hN', dx', hx'⟩ := id S'.ins
      refine ⟨_, rfl, x, dx', fs', rfl, hx', lookup_out (by rw [hN']; decide +kernel), x, fs', _, rfl, S', _, _, rfl, rfl, by show 1 ≤ sizeLine; decide, ?_⟩
      refine tellD fin ((Kp.x s4.kp os).trans kx) da' (fun b hb => ?_) ?_
      · rcases ho b hb with z | z | z | z
        · exact .inl z
        · exact .inr (s4.free z)
        · rw [z]; exact .inr fu1
        · rw [z]; exact .inr fr1
      · show [V.int ((((d.now.valley ++ [(⟨up, fr, 0⟩ : Km457.Village)]).length : Nat) : Int) - 1)] = [V.int ((d.now.valley.length : Nat) : Int)]
        rw [List.length_append]
        congr 2
        show ((d.now.valley.length + 1 : Nat) : Int) - 1 = _
        omega
theorem scRoadA : FnScope ["valley", "given", "v", "n", "before"] ["valley", "given"] (defScope sRoadA) := ⟨rfl, rfl, rfl, by decide +kernel, rfl, by decide +kernel, by decide +kernel⟩
theorem map_set {α β : Type} (f : α → β) (l : List α) (i : Nat) (a : α) : (l.set i a).map f = (l.map f).set i (f a) := by
  apply List.ext_getElem?
  intro j
  rw [List.getElem?_map, List.getElem?_set, List.getElem?_set, List.length_map, List.getElem?_map]
  split
  · split <;> rfl
  · rfl
theorem cut_to (xs : List V) (v : Nat) : cutV xs none (some (v : Int)) = xs.take v := by
  unfold cutV
  rw [HT.sIx_none, HT.sIx_nat, List.drop_zero, Nat.sub_zero]
  by_cases h : v ≤ xs.length
  · rw [Nat.min_eq_left h]
  · rw [Nat.min_eq_right (by omega), List.take_of_length_le (Nat.le_refl _), List.take_of_length_le (by omega)]
theorem cut_from (xs : List V) (v : Nat) : cutV xs (some (v : Int)) none = xs.drop v := by
  unfold cutV
  rw [HT.sIx_none, HT.sIx_nat]
  by_cases h : v ≤ xs.length
  · rw [Nat.min_eq_left h, List.take_of_length_le (by rw [List.length_drop]; omega)]
  · rw [Nat.min_eq_right (by omega), List.drop_of_length_le (Nat.le_refl _), List.drop_of_length_le (by omega), List.take_nil]
theorem set_cut (xs : List V) (v : Nat) (y : V) (h : v < xs.length) : xs.set v y = xs.take v ++ [y] ++ xs.drop (v + 1) := by
  rw [List.set_eq_take_append_cons_drop, if_pos h]; simp
theorem ok_roadA {f fL fW fC : Addr} {fd fdL fdW fdC : FuncData} (F : Fun K "road" "road" sRoadA f fd) (X : TxtC K mg C N5) (M : Nums mg) (MC : NumsC mg)
    (GL : FnOk P w K mg base CX0 1 fL fdL ["self", "v"] (spLacks C N5)) (mL : Meth K C "lacks" fL) (bL : Binds K fdL ["self", "v"] [])
    (GW : FnOk P w K mg base CX0 1 fW fdW ["n"] spWrong) (mW : mg "wrong_length" = some (.ref fW)) (kW : PySem.W.keepIn K (.ref fW) = true) (bW : Binds K fdW ["n"] [])
    (GC : FnOk P w K mg base CX0 2 fC fdC ["self", "ups", "roads", "posts"] (spChange T C)) (mC : Meth K C "change" fC) (bC : Binds K fdC ["self", "ups", "roads", "posts"] []) :
    FnOk P w K mg base CX0 3 f fd ["valley", "given"] (spDo K T (DA C) 2 (callAt 2)) := by
  refine F.ok scRoadA (fun vs H Q E h => ?_) (fun cdv A outer s H vs Q E hr h => ?_)
  · obtain ⟨x, g, os, d, as, rfl, _⟩ := h
    rfl
  · obtain ⟨x, g, os, d, as, rfl, da, D, hg, hgo, hlen, hT, fin⟩ := h
    obtain ⟨v, n, rfl⟩ := len2 hlen
    rw [natsV_intsN] at hg
    obtain ⟨hth, dx, u0, r0, e0, n0, te, tn, ob⟩ := id da
    have o := ob.mono res_le
    have S : SeaAt C N5 H x _ d.now := ⟨⟨flds_names _ _ _ _ _, dx, o.ins⟩, ⟨u0, rfl, o.ups⟩, ⟨r0, rfl, o.roads⟩, rfl⟩
    obtain ⟨tk1, hNT⟩ := M.notThere
    obtain ⟨tk2, hOR⟩ := M.outOf
    obtain ⟨tk3, hCB⟩ := M.cannot
    have hr1 : Room 1 _ := hr.mono (by decide)
    refine ⟨_, pss_cons (ps_set (i := 2) scRoadA.nd rfl (Or.inl rfl) (pe_ix ix_list (pv 1) pe_int (fun _ _ => rfl)))
      (pss_cons (ps_set (i := 3) scRoadA.nd rfl (Or.inl rfl) (pe_ix ix_list (pv 1) pe_int (fun _ _ => rfl)))
      (pss_cons (ps_if (pt_val (pe_meth (pv 0) X.cl mL GL hr1 bL .nil pass0 (pa_cons (pv 2) pa_nil))) (pss_one (ps_ret (pe_lst (pa_cons (pe_glob rfl hNT (v := .int (-2)) ⟨_, rfl⟩) pa_nil)))) pss_nil)
      (pss_cons (ps_if (pt_val (pe_call GW hr1 rfl mW kW bW .nil pass0 (pa_cons (pv 3) pa_nil))) (pss_one (ps_ret (pe_lst (pa_cons (pe_glob rfl hOR (v := .int (-22)) ⟨_, rfl⟩) pa_nil)))) pss_nil)
      (pss_cons (ps_if (pt_cmpR op_eq (pv 2) pe_int (nomark _)) (pss_one (ps_ret (pe_lst (pa_cons (pe_glob rfl hCB (v := .int (-33)) ⟨_, rfl⟩) pa_nil)))) pss_nil)
      (pss_cons (ps_set (i := 4) scRoadA.nd rfl (Or.inl rfl) (pe_ix ix_list (pe_fld (pv 0) rfl) (pv 2) (fun _ _ => rfl)))
      (pss_cons (ps_expr (pe_meth (pv 0) X.cl mC GC hr bC .nil pass0 (pa_cons (pe_fld (pv 0) rfl) (pa_cons (pe_op op_cat (pe_op op_cat (pe_slice sl_list (pe_fld (pv 0) rfl) po_none (po_some (pv 2))) (pe_lst (pa_cons (pv 3) pa_nil))) (pe_slice sl_list (pe_fld (pv 0) rfl) (po_some (pe_op op_add (pv 2) pe_int)) po_none)) (pa_cons (pe_fld (pv 0) rfl) pa_nil)))))
      (pss_one (ps_ret (pe_lst (pa_cons (pv 4) pa_nil)))))))))), ?_⟩
    refine ⟨_, rfl, g, _, _, _, rfl, rfl, SqL.of hg, at0, _, rfl, g, _, _, _, rfl, rfl, SqL.of hg, at1, ?_⟩
    refine ⟨_, rfl, x, dx, _, rfl, o.ins, rfl, _, rfl, x, _, d.now, v, rfl, S, _, rfl, ?_⟩
    refine ite2 (fun hc => ?_) (fun hc => ?_)
    · have hc : d.now.valley.length ≤ v := of_decide_eq_true hc
      have ea : act d (callAt 2 [v, n]) = (d, Km458.only (-2)) := by
        show (if d.now.valley.length ≤ v then (d, Km458.only (-2)) else _) = _
        rw [if_pos hc]
      rw [ea] at fin
      exact ⟨by show 1 ≤ sizeLine; decide, tellD fin (Kp.x (Kp.refl T H) os) da (fun b hb => .inl hb) rfl⟩
    have hc : ¬ d.now.valley.length ≤ v := fun z => hc (decide_eq_true z)
    refine ⟨_, rfl, n, rfl, _, rfl, ?_⟩
    refine ite2 (fun hc2 => ?_) (fun hc2 => ?_)
    · have hc2 := of_decide_eq_true hc2
      have ea : act d (callAt 2 [v, n]) = (d, Km458.only (-22)) := by
        show (if d.now.valley.length ≤ v then (d, Km458.only (-2)) else if n = 0 ∨ 1000 < n then (d, Km458.only (-22)) else _) = _
        rw [if_neg hc, if_pos hc2]
      rw [ea] at fin
      exact ⟨by show 1 ≤ sizeLine; decide, tellD fin (Kp.x (Kp.refl T H) os) da (fun b hb => .inl hb) rfl⟩
    have hc2 : ¬ (n = 0 ∨ 1000 < n) := fun z => hc2 (decide_eq_true z)
    refine ⟨_, rfl, rfl, _, rfl, ?_⟩
    rw [show (V.int 0) = V.int ((0 : Nat) : Int) from rfl, int_eq]
    refine ite2 (fun hc3 => ?_) (fun hc3 => ?_)
    · have hc3 := of_decide_eq_true hc3
      have ea : act d (callAt 2 [v, n]) = (d, Km458.only (-33)) := by
        show (if d.now.valley.length ≤ v then (d, Km458.only (-2)) else if n = 0 ∨ 1000 < n then (d, Km458.only (-22)) else if v = 0 then (d, Km458.only (-33)) else _) = _
        rw [if_neg hc, if_neg hc2, if_pos hc3]
      rw [ea] at fin
      exact ⟨by show 1 ≤ sizeLine; decide, tellD fin (Kp.x (Kp.refl T H) os) da (fun b hb => .inl hb) rfl⟩
    have hc3 : ¬ v = 0 := fun z => hc3 (decide_eq_true z)
    have ea : act d (callAt 2 [v, n]) = (d.become { d.now with valley := d.now.valley.set v { at_ d.now.valley v with long := n } }, Km458.only (((at_ d.now.valley v).long : Nat) : Int)) := by
      show (if d.now.valley.length ≤ v then (d, Km458.only (-2)) else if n = 0 ∨ 1000 < n then (d, Km458.only (-22)) else if v = 0 then (d, Km458.only (-33)) else _) = _
      rw [if_neg hc, if_neg hc2, if_neg hc3]
      rfl
    rw [ea] at fin
    have hv : v < d.now.valley.length := by omega
    have hle := D.now.v.le
    have hsz : sizeLine = 16777216 := sizeLine_eq
    refine ⟨_, rfl, x, C, dx, _, _, rfl, o.ins, X.cl, X.no _ (by decide +kernel), rfl, _, rfl, r0, _, _, _, rfl, rfl, SqL.of o.roads, atI_nat (roads_at hv), ?_⟩
    refine ⟨_, rfl, x, dx, _, rfl, o.ins, rfl, _, rfl, x, C, dx, _, _, rfl, o.ins, X.cl, X.no _ (by decide +kernel), rfl, ?_⟩
    refine ⟨_, rfl, x, C, dx, _, _, rfl, o.ins, X.cl, X.no _ (by decide +kernel), rfl, _, rfl, _, rfl, r0, _, rfl, SqL.of o.roads, fun b1 hb1 => ?_⟩
    rw [cut_to]
    have s1 := (Same.refl H).add (o := .lst ((roadsV d.now.valley).take v)) hb1
    refine ⟨_, rfl, by show 1 ≤ sizeLine; decide, fun b2 hb2 => ?_⟩
    have s2 := s1.add (o := .lst [.int (n : Nat)]) hb2
    have q1 : (upd (upd H b1 (.lst ((roadsV d.now.valley).take v))) b2 (.lst [.int (n : Nat)])) b1 = some (.lst ((roadsV d.now.valley).take v)) := by rw [upd_ne (ne_of_none upd_same hb2), upd_same]
    refine ⟨b1, b2, _, _, rfl, rfl, q1, upd_same, by rw [List.length_take, roadsV_len]; show _ + 1 ≤ _; omega, fun b3 hb3 => ?_⟩
    have s3 := s2.add (o := .lst ((roadsV d.now.valley).take v ++ [.int (n : Nat)])) hb3
    refine ⟨_, rfl, x, C, dx, _, _, rfl, s3 _ _ o.ins, X.cl, X.no _ (by decide +kernel), rfl, _, rfl, _, _, rfl, rfl, _, rfl, r0, _, rfl, SqL.of (s3 _ _ o.roads), fun b4 hb4 => ?_⟩
    rw [show ((v : Nat) : Int) + 1 = ((v + 1 : Nat) : Int) from by omega, cut_from]
    have s4 := s3.add (o := .lst ((roadsV d.now.valley).drop (v + 1))) hb4
    refine ⟨b3, b4, _, _, rfl, rfl, by rw [upd_ne (ne_of_none upd_same hb4), upd_same], upd_same, by rw [List.length_append, List.length_take, List.length_drop, roadsV_len]; show _ + 1 + _ ≤ _; omega, fun r1 hr1' => ?_⟩
    have s5 := s4.add (o := .lst ((roadsV d.now.valley).take v ++ [.int (n : Nat)] ++ (roadsV d.now.valley).drop (v + 1))) hr1'
    refine ⟨_, rfl, x, C, dx, _, _, rfl, s5 _ _ o.ins, X.cl, X.no _ (by decide +kernel), rfl, ?_⟩
    have eu : upsV (d.now.valley.set v { at_ d.now.valley v with long := n }) = upsV d.now.valley := by
      unfold upsV
      rw [map_set]
      apply List.ext_getElem?
      intro j
      rw [List.getElem?_set]
      split
      · rename_i e
        subst e
        rw [List.length_map, if_pos hv]
        exact (ups_at hv).symm
      · rfl
    have er : roadsV (d.now.valley.set v { at_ d.now.valley v with long := n }) = (roadsV d.now.valley).take v ++ [.int (n : Nat)] ++ (roadsV d.now.valley).drop (v + 1) := by
      rw [← set_cut _ _ _ (by rw [roadsV_len]; exact hv)]
      unfold roadsV
      rw [map_set]
    refine ⟨x, u0, r1, os, d, { d.now with valley := d.now.valley.set v { at_ d.now.valley v with long := n } }, rfl, da.same s5, D, ?_, ?_, ?_, fun H' os' kx da' ho => ?_⟩
    · rw [eu]; exact s5 _ _ o.ups
    · rw [er, upd_same]
    · intro z
      have := congrArg List.length z
      rw [List.length_set] at this
      simp at this
      rw [this] at hv; cases hv
    · refine ⟨_, rfl, by show 1 ≤ sizeLine; decide, ?_⟩
      refine tellD fin ((Kp.x s5.kp os).trans kx) da' (fun b hb => ?_) rfl
      rcases ho b hb with z | z | z | z
      · exact .inl z
      · exact .inr (s5.free z)
      · rw [z]; exact .inl (res_some.mp ob.ups).1
      · rw [z]; exact .inr (s4.free hr1')
theorem scDropA : FnScope ["valley", "given", "last"] ["valley", "given"] (defScope sDropA) := ⟨rfl, rfl, rfl, by decide +kernel, rfl, by decide +kernel, by decide +kernel⟩
theorem ok_dropA {f fH fS fC : Addr} {fd fdH fdS fdC : FuncData} (F : Fun K "drop" "drop" sDropA f fd) (X : TxtC K mg C N5) (M : Nums mg) (MC : NumsC mg)
    (GH : FnOk P w K mg base CX0 2 fH fdH ["self", "v"] (spHasP C N5)) (mH : Meth K C "has_post" fH) (bH : Binds K fdH ["self", "v"] [])
    (GS : FnOk P w K mg base CX0 1 fS fdS ["self"] (spSize C N5)) (mS : Meth K C "size" fS) (bS : Binds K fdS ["self"] [])
    (GC : FnOk P w K mg base CX0 2 fC fdC ["self", "ups", "roads", "posts"] (spChange T C)) (mC : Meth K C "change" fC) (bC : Binds K fdC ["self", "ups", "roads", "posts"] []) :
    FnOk P w K mg base CX0 3 f fd ["valley", "given"] (spDo K T (DA C) 0 (callAt 3)) := by
  refine F.ok scDropA (fun vs H Q E h => ?_) (fun cdv A outer s H vs Q E hr h => ?_)
  · obtain ⟨x, g, os, d, as, rfl, _⟩ := h
    rfl
  · obtain ⟨x, g, os, d, as, rfl, da, D, hg, hgo, hlen, hT, fin⟩ := h
    obtain ⟨hth, dx, u0, r0, e0, n0, te, tn, ob⟩ := id da
    have o := ob.mono res_le
    have S : SeaAt C N5 H x _ d.now := ⟨⟨flds_names _ _ _ _ _, dx, o.ins⟩, ⟨u0, rfl, o.ups⟩, ⟨r0, rfl, o.roads⟩, rfl⟩
    obtain ⟨tk1, hHP⟩ := MC.hasPost
    obtain ⟨tk3, hCB⟩ := M.cannot
    have hr1 : Room 1 _ := hr.mono (by decide)
    refine ⟨_, pss_cons (ps_set (i := 2) scDropA.nd rfl (Or.inl rfl) (pe_op op_sub (pe_meth0 (pv 0) X.cl mS GS hr1 bS .nil pass0) pe_int))
      (pss_cons (ps_if (pt_cmpR op_eq (pv 2) pe_int (nomark _)) (pss_one (ps_ret (pe_lst (pa_cons (pe_glob rfl hCB (v := .int (-33)) ⟨_, rfl⟩) pa_nil)))) pss_nil)
      (pss_cons (ps_if (pt_val (pe_meth (pv 0) X.cl mH GH hr bH .nil pass0 (pa_cons (pv 2) pa_nil))) (pss_one (ps_ret (pe_lst (pa_cons (pe_glob rfl hHP (v := .int (-16)) ⟨_, rfl⟩) pa_nil)))) pss_nil)
      (pss_cons (ps_expr (pe_meth (pv 0) X.cl mC GC hr bC .nil pass0 (pa_cons (pe_slice sl_list (pe_fld (pv 0) rfl) po_none (po_some (pv 2))) (pa_cons (pe_slice sl_list (pe_fld (pv 0) rfl) po_none (po_some (pv 2))) (pa_cons (pe_fld (pv 0) rfl) pa_nil)))))
      (pss_one (ps_ret (pe_lst (pa_cons (pe_meth0 (pv 0) X.cl mS GS hr1 bS .nil pass0) pa_nil))))))), ?_⟩
    have hpos := D.now.v.pos
    have hle := D.now.v.le
    have hsz : sizeLine = 16777216 := sizeLine_eq
    refine ⟨_, rfl, x, dx, _, rfl, o.ins, rfl, x, _, d.now, rfl, S, _, _, rfl, rfl, ?_⟩
    dsimp only
    rw [show ((d.now.valley.length : Nat) : Int) - 1 = ((d.now.valley.length - 1 : Nat) : Int) from by omega]
    refine ⟨_, rfl, rfl, _, rfl, ?_⟩
    rw [show (V.int 0) = V.int ((0 : Nat) : Int) from rfl, int_eq]
    refine ite2 (fun hc => ?_) (fun hc => ?_)
    · have hc := of_decide_eq_true hc
      have ea : act d (callAt 3 as) = (d, Km458.only (-33)) := by
        show (if d.now.valley.length = 1 then (d, Km458.only (-33)) else _) = _
        rw [if_pos (by omega)]
      rw [ea] at fin
      exact ⟨by show 1 ≤ sizeLine; decide, tellD fin (Kp.x (Kp.refl T H) os) da (fun b hb => .inl hb) rfl⟩
    have hc : ¬ d.now.valley.length = 1 := fun z => hc (decide_eq_true (by omega))
    refine ⟨_, rfl, x, dx, _, rfl, o.ins, rfl, _, rfl, x, _, d.now, d.now.valley.length - 1, rfl, S, _, rfl, ?_⟩
    refine ite2 (fun hc2 => ?_) (fun hc2 => ?_)
    · have ea : act d (callAt 3 as) = (d, Km458.only (-16)) := by
        show (if d.now.valley.length = 1 then (d, Km458.only (-33)) else if d.now.posts.contains (d.now.valley.length - 1) = true then (d, Km458.only (-16)) else _) = _
        rw [if_neg hc, if_pos hc2]
      rw [ea] at fin
      exact ⟨by show 1 ≤ sizeLine; decide, tellD fin (Kp.x (Kp.refl T H) os) da (fun b hb => .inl hb) rfl⟩
    have ea : act d (callAt 3 as) = (d.become { d.now with valley := d.now.valley.dropLast }, Km458.only ((d.now.valley.length - 1 : Nat) : Int)) := by
      show (if d.now.valley.length = 1 then (d, Km458.only (-33)) else if d.now.posts.contains (d.now.valley.length - 1) = true then (d, Km458.only (-16)) else _) = _
      rw [if_neg hc, if_neg hc2]
    rw [ea] at fin
    refine ⟨_, rfl, x, dx, _, rfl, o.ins, rfl, _, rfl, x, C, dx, _, _, rfl, o.ins, X.cl, X.no _ (by decide +kernel), rfl, _, rfl, _, rfl, u0, _, rfl, SqL.of o.ups, fun u1 hu1 => ?_⟩
    rw [cut_to]
    have s1 := (Same.refl H).add (o := .lst ((upsV d.now.valley).take (d.now.valley.length - 1))) hu1
    refine ⟨_, rfl, x, C, dx, _, _, rfl, s1 _ _ o.ins, X.cl, X.no _ (by decide +kernel), rfl, _, rfl, _, rfl, r0, _, rfl, SqL.of (s1 _ _ o.roads), fun r1 hr1' => ?_⟩
    rw [cut_to]
    have s2 := s1.add (o := .lst ((roadsV d.now.valley).take (d.now.valley.length - 1))) hr1'
    refine ⟨_, rfl, x, C, dx, _, _, rfl, s2 _ _ o.ins, X.cl, X.no _ (by decide +kernel), rfl, ?_⟩
    have eu : upsV d.now.valley.dropLast = (upsV d.now.valley).take (d.now.valley.length - 1) := by unfold upsV; rw [List.dropLast_eq_take, List.map_take]
    have er : roadsV d.now.valley.dropLast = (roadsV d.now.valley).take (d.now.valley.length - 1) := by unfold roadsV; rw [List.dropLast_eq_take, List.map_take]
    refine ⟨x, u1, r1, os, d, { d.now with valley := d.now.valley.dropLast }, rfl, da.same s2, D, ?_, ?_, ?_, fun H' os' kx da' ho => ?_⟩
    · rw [eu, upd_ne (ne_of_none upd_same hr1'), upd_same]
    · rw [er, upd_same]
    · intro z
      have := congrArg List.length z
      rw [List.length_dropLast] at this
      simp at this
      omega
    · obtain ⟨fs', S'⟩ := sea_of _ _ _ _ da'
      obtain ⟨hN', dx', hx'⟩ := id S'.ins
      refine ⟨_, rfl, x, dx', fs', rfl, hx', lookup_out (by rw [hN']; decide +kernel), x, fs', _, rfl, S', by show 1 ≤ sizeLine; decide, ?_⟩
      refine tellD fin ((Kp.x s2.kp os).trans kx) da' (fun b hb => ?_) ?_
      · rcases ho b hb with z | z | z | z
        · exact .inl z
        · exact .inr (s2.free z)
        · rw [z]; exact .inr hu1
        · rw [z]; exact .inr (s1.free hr1')
      · show [V.int ((d.now.valley.dropLast.length : Nat) : Int)] = [V.int ((d.now.valley.length - 1 : Nat) : Int)]
        rw [List.length_dropLast]
end
end VR
end
section
set_option Elab.async false
set_option linter.all false
set_option maxRecDepth 100000
set_option maxHeartbeats 4000000
namespace VR
open PySem PySem.Spec PyProof.Rows L2 Vp
open Km457 (Valley at_ far)
open Km458 (table dist Sea Desk Call act)
section
variable {P : Program} {w : World} {K : PySem.W.Frag} {mg : Str → Option Value} {base : Heap} {C : Addr} {T : List Tb}
theorem scPostA : FnScope ["valley", "given", "v", "o"] ["valley", "given"] (defScope sPostA) := ⟨rfl, rfl, rfl, by decide +kernel, rfl, by decide +kernel, by decide +kernel⟩
theorem bl_eq (a b : Bool) : decide (V.bl a = V.bl b) = decide (a = b) := by cases a <;> cases b <;> rfl
theorem ok_postA {f fL fH fM fC : Addr} {fd fdL fdH fdM fdC : FuncData} (F : Fun K "post" "post" sPostA f fd) (X : TxtC K mg C N5) (M : Nums mg) (MC : NumsC mg)
    (GL : FnOk P w K mg base CX0 1 fL fdL ["self", "v"] (spLacks C N5)) (mL : Meth K C "lacks" fL) (bL : Binds K fdL ["self", "v"] [])
    (GH : FnOk P w K mg base CX0 2 fH fdH ["self", "v"] (spHasP C N5)) (mH : Meth K C "has_post" fH) (bH : Binds K fdH ["self", "v"] [])
    (GM : FnOk P w K mg base CX0 1 fM fdM ["villages"] spMany) (mM : mg "how_many" = some (.ref fM)) (kM : PySem.W.keepIn K (.ref fM) = true) (bM : Binds K fdM ["villages"] [])
    (GC : FnOk P w K mg base CX0 3 fC fdC ["self", "posts"] (spChPosts T C)) (mC : Meth K C "change_posts" fC) (bC : Binds K fdC ["self", "posts"] []) :
    FnOk P w K mg base CX0 4 f fd ["valley", "given"] (spDo K T (DA C) 2 (callAt 4)) := by
  refine F.ok scPostA (fun vs H Q E h => ?_) (fun cdv A outer s H vs Q E hr h => ?_)
  · obtain ⟨x, g, os, d, as, rfl, _⟩ := h
    rfl
  · obtain ⟨x, g, os, d, as, rfl, da, D, hg, hgo, hlen, hT, fin⟩ := h
    obtain ⟨v, n, rfl⟩ := len2 hlen
    rw [natsV_intsN] at hg
    obtain ⟨hth, dx, u0, r0, e0, n0, te, tn, ob⟩ := id da
    have o := ob.mono res_le
    have S : SeaAt C N5 H x _ d.now := ⟨⟨flds_names _ _ _ _ _, dx, o.ins⟩, ⟨u0, rfl, o.ups⟩, ⟨r0, rfl, o.roads⟩, rfl⟩
    obtain ⟨tk1, hNT⟩ := M.notThere
    obtain ⟨tk2, hOR⟩ := M.outOf
    obtain ⟨tk3, hSA⟩ := MC.already
    have hr1 : Room 1 _ := hr.mono (by decide)
    have hr2 : Room 2 _ := hr.mono (by decide)
    refine ⟨_, pss_cons (ps_set (i := 2) scPostA.nd rfl (Or.inl rfl) (pe_ix ix_list (pv 1) pe_int (fun _ _ => rfl)))
      (pss_cons (ps_set (i := 3) scPostA.nd rfl (Or.inl rfl) (pe_ix ix_list (pv 1) pe_int (fun _ _ => rfl)))
      (pss_cons (ps_if (pt_val (pe_meth (pv 0) X.cl mL GL hr1 bL .nil pass0 (pa_cons (pv 2) pa_nil))) (pss_one (ps_ret (pe_lst (pa_cons (pe_glob rfl hNT (v := .int (-2)) ⟨_, rfl⟩) pa_nil)))) pss_nil)
      (pss_cons (ps_if (pt_cmpR op_gt (pv 3) pe_int (nomark _)) (pss_one (ps_ret (pe_lst (pa_cons (pe_glob rfl hOR (v := .int (-22)) ⟨_, rfl⟩) pa_nil)))) pss_nil)
      (pss_cons (ps_if (pt_cmpR op_eq (pe_meth (pv 0) X.cl mH GH hr2 bH .nil pass0 (pa_cons (pv 2) pa_nil)) (pe_cmpR op_eq (pv 3) pe_int (nomark _)) (nomark _)) (pss_one (ps_ret (pe_lst (pa_cons (pe_glob rfl hSA (v := .int (-17)) ⟨_, rfl⟩) pa_nil)))) pss_nil)
      (pss_cons (ps_expr (pe_meth (pv 0) X.cl mC GC hr bC .nil pass0 (pa_cons (pe_op op_xor (pe_fld (pv 0) rfl) (pe_op op_shl pe_int (pv 2))) pa_nil)))
      (pss_one (ps_ret (pe_lst (pa_cons (pe_call GM hr1 rfl mM kM bM .nil pass0 (pa_cons (pe_fld (pv 0) rfl) pa_nil)) pa_nil))))))))), ?_⟩
    refine ⟨_, rfl, g, _, _, _, rfl, rfl, SqL.of hg, at0, _, rfl, g, _, _, _, rfl, rfl, SqL.of hg, at1, ?_⟩
    refine ⟨_, rfl, x, dx, _, rfl, o.ins, rfl, _, rfl, x, _, d.now, v, rfl, S, _, rfl, ?_⟩
    have e0' : ∀ z : Desk × Km458.Ans, z = act d (callAt 4 [v, n]) → act d (callAt 4 [v, n]) = z := fun z h => h.symm
    have ea0 : act d (callAt 4 [v, n]) = if d.now.valley.length ≤ v then (d, Km458.only (-2)) else if 1 < n then (d, Km458.only (-22)) else if d.now.posts.contains v = (n == 1) then (d, Km458.only (-17)) else
      (d.become { d.now with posts := if n = 1 then d.now.posts ++ [v] else d.now.posts.filter fun p => p != v }, Km458.only (((if n = 1 then d.now.posts ++ [v] else d.now.posts.filter fun p => p != v).length : Nat) : Int)) := rfl
    refine ite2 (fun hc => ?_) (fun hc => ?_)
    · have hc : d.now.valley.length ≤ v := of_decide_eq_true hc
      rw [if_pos hc] at ea0
      rw [ea0] at fin
      exact ⟨by show 1 ≤ sizeLine; decide, tellD fin (Kp.x (Kp.refl T H) os) da (fun b hb => .inl hb) rfl⟩
    have hc : ¬ d.now.valley.length ≤ v := fun z => hc (decide_eq_true z)
    rw [if_neg hc] at ea0
    refine ⟨_, rfl, _, _, rfl, rfl, _, rfl, ?_⟩
    refine ite2 (fun hc2 => ?_) (fun hc2 => ?_)
    · have hc2 : 1 < n := by have := of_decide_eq_true hc2; omega
      rw [if_pos hc2] at ea0
      rw [ea0] at fin
      exact ⟨by show 1 ≤ sizeLine; decide, tellD fin (Kp.x (Kp.refl T H) os) da (fun b hb => .inl hb) rfl⟩
    have hc2 : ¬ 1 < n := fun z => hc2 (decide_eq_true (by omega))
    rw [if_neg hc2] at ea0
    refine ⟨_, rfl, x, dx, _, rfl, o.ins, rfl, _, rfl, x, _, d.now, v, rfl, S, _, rfl, rfl, rfl, _, rfl, ?_⟩
    have eb : decide (n = 1) = (n == 1) := by rw [Bool.eq_iff_iff, decide_eq_true_eq, beq_iff_eq]
    have e1 : decide (V.bl (d.now.posts.contains v) = V.bl (decide (V.int ((n : Nat) : Int) = V.int 1))) = decide (d.now.posts.contains v = (n == 1)) := by
      rw [show (V.int 1) = V.int ((1 : Nat) : Int) from rfl, int_eq, bl_eq, eb]
    rw [e1]
    refine ite2 (fun hc3 => ?_) (fun hc3 => ?_)
    · have hc3 := of_decide_eq_true hc3
      rw [if_pos hc3] at ea0
      rw [ea0] at fin
      exact ⟨by show 1 ≤ sizeLine; decide, tellD fin (Kp.x (Kp.refl T H) os) da (fun b hb => .inl hb) rfl⟩
    have hc3 : ¬ d.now.posts.contains v = (n == 1) := fun z => hc3 (decide_eq_true z)
    rw [if_neg hc3] at ea0
    generalize hl : (if n = 1 then d.now.posts ++ [v] else d.now.posts.filter fun p => p != v) = l at ea0
    have hml : msk l = msk d.now.posts ^^^ 2 ^ v ∧ l.Nodup := by
      by_cases h1 : n = 1
      · have hv : v ∉ d.now.posts := fun z => hc3 (by rw [h1]; simp [z])
        rw [← hl, if_pos h1]
        refine ⟨msk_add hv, ?_⟩
        rw [List.nodup_append]
        exact ⟨D.now.nd, by simp, fun a ha b hb e => by simp at hb; subst hb; subst e; exact hv ha⟩
      · have hv : v ∈ d.now.posts := by
          have : (n == 1) = false := beq_eq_false_iff_ne.mpr h1
          rw [this] at hc3
          simpa using hc3
        rw [← hl, if_neg h1]
        exact ⟨msk_erase hv, D.now.nd.filter _⟩
    rw [ea0] at fin
    refine ⟨_, rfl, x, dx, _, rfl, o.ins, rfl, _, rfl, x, C, dx, _, _, rfl, o.ins, X.cl, X.no _ (by decide +kernel), rfl, _, rfl, _, _, rfl, rfl, ⟨by omega, by have := D.now.v.le; omega, by decide⟩, _, _, rfl, rfl, ?_⟩
    dsimp only
    rw [one_shl, xor_nn]
    refine ⟨x, os, d, l, by rw [hml.1]; rfl, da, D, fun H' os' kx da' ho => ?_⟩
    obtain ⟨_, dx', u1, r1, e1, n1, te1, tn1, ob1⟩ := id da'
    have o1 := ob1.mono res_le
    refine ⟨_, rfl, x, C, dx', _, _, rfl, o1.ins, X.cl, X.no _ (by decide +kernel), rfl, msk l, rfl, by show 1 ≤ sizeLine; decide, ?_⟩
    refine tellD fin kx da' ho ?_
    rw [pc_msk hml.2]
    rfl
theorem scPutA : FnScope ["valley", "given", "r", "balls", "more"] ["valley", "given"] (defScope sPutA) := ⟨rfl, rfl, rfl, by decide +kernel, rfl, by decide +kernel, by decide +kernel⟩
theorem dist_self {s : Valley} (ok : Ok s) {r : Nat} : ∀ v, v < (table s).length → dist (table s) v v ≤ r := fun v hv => by
  rw [table_length] at hv
  rw [dist_eq hv hv, far_self ok hv]; omega
theorem serve_dec {s : Valley} {r : Nat} {ps : List Nat} (hps : ∀ p ∈ ps, p < s.length) : (psv (ballsOf (table s) r) (msk ps) = 2 ^ (ballsOf (table s) r).length - 1) ↔ Km458.serves (table s) r ps (List.range (table s).length) = true := by
  rw [ballsOf_length, psv_msk (by rw [ballsOf_length, table_length]; exact hps)]
  exact (serves_iff (by rw [table_length]; exact hps)).symm
theorem ok_putA {f fB fV fM fC : Addr} {fd fdB fdV fdM fdC : FuncData} (F : Fun K "put" "put" sPutA f fd) (X : TxtC K mg C N5) (M : Nums mg) (MC : NumsC mg) (G : Bare mg)
    (GB : FnOk P w K mg base CX0 4 fB fdB ["self", "r"] (spBallsM C N5)) (mB : Meth K C "balls" fB) (bB : Binds K fdB ["self", "r"] [])
    (GV : FnOk P w K mg base CX0 4 fV fdV ["balls", "posts"] (spServe K)) (mV : mg "serve_all" = some (.ref fV)) (kV : PySem.W.keepIn K (.ref fV) = true) (bV : Binds K fdV ["balls", "posts"] [])
    (GM : FnOk P w K mg base CX0 4 fM fdM ["balls", "posts"] (spMore K T)) (mM : mg "fewest_more" = some (.ref fM)) (kM : PySem.W.keepIn K (.ref fM) = true) (bM : Binds K fdM ["balls", "posts"] [])
    (GC : FnOk P w K mg base CX0 3 fC fdC ["self", "posts"] (spChPosts T C)) (mC : Meth K C "change_posts" fC) (bC : Binds K fdC ["self", "posts"] []) :
    FnOk P w K mg base CX0 5 f fd ["valley", "given"] (spDo K T (DA C) 1 (callAt 5)) := by
  refine F.ok scPutA (fun vs H Q E h => ?_) (fun cdv A outer s H vs Q E hr h => ?_)
  · obtain ⟨x, g, os, d, as, rfl, _⟩ := h
    rfl
  · obtain ⟨x, g, os, d, as, rfl, da, D, hg, hgo, hlen, hT, fin⟩ := h
    obtain ⟨r, rfl⟩ := len1 hlen
    rw [natsV_intsN] at hg
    obtain ⟨hth, dx, u0, r0, e0, n0, te, tn, ob⟩ := id da
    have o := ob.mono res_le
    have S : SeaAt C N5 H x _ d.now := ⟨⟨flds_names _ _ _ _ _, dx, o.ins⟩, ⟨u0, rfl, o.ups⟩, ⟨r0, rfl, o.roads⟩, rfl⟩
    obtain ⟨tk2, hOR⟩ := M.outOf
    obtain ⟨tk3, hSA⟩ := MC.already
    obtain ⟨tk4, hFP⟩ := MC.farthest
    have hr3 : Room 3 _ := hr.mono (by decide)
    refine ⟨_, pss_cons (ps_set (i := 2) scPutA.nd rfl (Or.inl rfl) (pe_ix ix_list (pv 1) pe_int (fun _ _ => rfl)))
      (pss_cons (ps_if (pt_cmpR op_gt (pv 2) (pe_glob rfl hFP (v := .int 1000000) ⟨_, rfl⟩) (nomark _)) (pss_one (ps_ret (pe_lst (pa_cons (pe_glob rfl hOR (v := .int (-22)) ⟨_, rfl⟩) pa_nil)))) pss_nil)
      (pss_cons (ps_set (i := 3) scPutA.nd rfl (Or.inl rfl) (pe_meth (pv 0) X.cl mB GB hr bB .nil pass0 (pa_cons (pv 2) pa_nil)))
      (pss_cons (ps_if (pt_val (pe_call GV hr rfl mV kV bV .nil pass0 (pa_cons (pv 3) (pa_cons (pe_fld (pv 0) rfl) pa_nil)))) (pss_one (ps_ret (pe_lst (pa_cons (pe_glob rfl hSA (v := .int (-17)) ⟨_, rfl⟩) pa_nil)))) pss_nil)
      (pss_cons (ps_set (i := 4) scPutA.nd rfl (Or.inl rfl) (pe_call GM hr rfl mM kM bM .nil pass0 (pa_cons (pv 3) (pa_cons (pe_fld (pv 0) rfl) pa_nil))))
      (pss_cons (ps_expr (pe_meth (pv 0) X.cl mC GC hr3 bC .nil pass0 (pa_cons (pe_op op_or (pe_fld (pv 0) rfl) (pe_ix ix_tup (pv 4) pe_int (fun _ _ => rfl))) pa_nil)))
      (pss_one (ps_ret (pe_callTy call_list_of (by rfl) G.lst (by decide +kernel) (pa_cons (pv 4) pa_nil))))))))), ?_⟩
    have ok := D.now.v
    have hle := ok.le
    have hps := D.now.lt
    have ea0 : act d (callAt 5 [r]) = if 1000000 < r then (d, Km458.only (-22)) else if Km458.add (table d.now.valley) r d.now.posts = [] then (d, Km458.only (-17)) else
      (d.become { d.now with posts := d.now.posts ++ Km458.add (table d.now.valley) r d.now.posts }, ⟨(((Km458.add (table d.now.valley) r d.now.posts).length : Nat) : Int), [Km458.bits (Km458.add (table d.now.valley) r d.now.posts)]⟩) := rfl
    refine ⟨_, rfl, g, _, _, _, rfl, rfl, SqL.of hg, at0, _, rfl, _, _, rfl, rfl, _, rfl, ?_⟩
    refine ite2 (fun hc => ?_) (fun hc => ?_)
    · have hc : 1000000 < r := by have := of_decide_eq_true hc; omega
      rw [if_pos hc] at ea0
      rw [ea0] at fin
      exact ⟨by show 1 ≤ sizeLine; decide, tellD fin (Kp.x (Kp.refl T H) os) da (fun b hb => .inl hb) rfl⟩
    have hc : ¬ 1000000 < r := fun z => hc (decide_eq_true (by omega))
    rw [if_neg hc] at ea0
    refine ⟨_, rfl, x, dx, _, rfl, o.ins, rfl, _, rfl, x, _, d.now, r, rfl, S, ok, fun H1 b1 s1 hb1 hl1 => ?_⟩
    have hB10 : (ballsOf (table d.now.valley) r).length ≤ 10 := by rw [ballsOf_length, table_length]; exact hle
    refine ⟨_, rfl, _, rfl, x, C, dx, _, _, rfl, s1 _ _ o.ins, X.cl, X.no _ (by decide +kernel), rfl, b1, ballsOf (table d.now.valley) r, msk d.now.posts, rfl, SqL.of hl1, hB10, _, rfl, ?_⟩
    refine ite2 (fun hc2 => ?_) (fun hc2 => ?_)
    · have hc2 := (add_empty_iff (dist_self ok)).mpr ((serve_dec hps).mp (of_decide_eq_true hc2))
      rw [if_pos hc2] at ea0
      rw [ea0] at fin
      exact ⟨by show 1 ≤ sizeLine; decide, tellD fin (Kp.x s1.kp os) (da.same s1) (fun b hb => .inl hb) rfl⟩
    have hc2 : ¬ Km458.add (table d.now.valley) r d.now.posts = [] := fun z => hc2 (decide_eq_true ((serve_dec hps).mpr ((add_empty_iff (dist_self ok)).mp z)))
    rw [if_neg hc2, bits_msk (add_nodup _ _ _)] at ea0
    rw [ea0] at fin
    have k1 : Kp T H H1 := s1.kp
    refine ⟨_, rfl, _, rfl, x, C, dx, _, _, rfl, s1 _ _ o.ins, X.cl, X.no _ (by decide +kernel), rfl, b1, d.now.valley, r, d.now.posts, rfl, SqL.of hl1, ok, hps, k1.tabs hT, fun H2 q k2 hT2 hq hl2 => ?_⟩
    have k12 := k1.trans k2
    have da2 := da.kp k12
    have hqo : q ∉ os := da.out (k1.free hq)
    refine ⟨_, rfl, x, dx, _, rfl, k12.ins o.ins, rfl, _, rfl, x, C, dx, _, _, rfl, k12.ins o.ins, X.cl, X.no _ (by decide +kernel), rfl, _, rfl, q, _, _, _, rfl, rfl, SqT.of hl2, at_of (j := 1) rfl rfl, _, _, rfl, rfl, ?_⟩
    dsimp only
    rw [or_nn, ← msk_append]
    refine ⟨x, os, d, d.now.posts ++ Km458.add (table d.now.valley) r d.now.posts, rfl, da2, D, fun H' os' kx da' ho => ?_⟩
    refine ⟨_, rfl, q, _, rfl, .inr (SqT.of (kx.keep q _ hl2 hqo (fun ps z => by cases z))), ?_⟩
    exact tellD fin ((Kp.x k12 os).trans kx) da' (fun b hb => (ho b hb).imp id fun z => k12.free z) rfl
theorem scClearA : FnScope ["valley", "given", "before"] ["valley", "given"] (defScope sClearA) := ⟨rfl, rfl, rfl, by decide +kernel, rfl, by decide +kernel, by decide +kernel⟩
theorem ok_clearA {f fM fC : Addr} {fd fdM fdC : FuncData} (F : Fun K "clear_posts" "clear_posts" sClearA f fd) (X : TxtC K mg C N5) (MC : NumsC mg)
    (GM : FnOk P w K mg base CX0 1 fM fdM ["villages"] spMany) (mM : mg "how_many" = some (.ref fM)) (kM : PySem.W.keepIn K (.ref fM) = true) (bM : Binds K fdM ["villages"] [])
    (GC : FnOk P w K mg base CX0 3 fC fdC ["self", "posts"] (spChPosts T C)) (mC : Meth K C "change_posts" fC) (bC : Binds K fdC ["self", "posts"] []) :
    FnOk P w K mg base CX0 4 f fd ["valley", "given"] (spDo K T (DA C) 0 (callAt 6)) := by
  refine F.ok scClearA (fun vs H Q E h => ?_) (fun cdv A outer s H vs Q E hr h => ?_)
  · obtain ⟨x, g, os, d, as, rfl, _⟩ := h
    rfl
  · obtain ⟨x, g, os, d, as, rfl, da, D, hg, hgo, hlen, hT, fin⟩ := h
    obtain ⟨hth, dx, u0, r0, e0, n0, te, tn, ob⟩ := id da
    have o := ob.mono res_le
    obtain ⟨tk3, hSA⟩ := MC.already
    have hr1 : Room 1 _ := hr.mono (by decide)
    refine ⟨_, pss_cons (ps_if (pt_cmpR op_eq (pe_fld (pv 0) rfl) pe_int (nomark _)) (pss_one (ps_ret (pe_lst (pa_cons (pe_glob rfl hSA (v := .int (-17)) ⟨_, rfl⟩) pa_nil)))) pss_nil)
      (pss_cons (ps_set (i := 2) scClearA.nd rfl (Or.inl rfl) (pe_call GM hr1 rfl mM kM bM .nil pass0 (pa_cons (pe_fld (pv 0) rfl) pa_nil)))
      (pss_cons (ps_expr (pe_meth (pv 0) X.cl mC GC hr bC .nil pass0 (pa_cons pe_int pa_nil)))
      (pss_one (ps_ret (pe_lst (pa_cons (pv 2) pa_nil)))))), ?_⟩
    refine ⟨_, rfl, x, C, dx, _, _, rfl, o.ins, X.cl, X.no _ (by decide +kernel), rfl, rfl, _, rfl, ?_⟩
    rw [show (V.int 0) = V.int ((0 : Nat) : Int) from rfl, int_eq]
    have ea0 : act d (callAt 6 as) = if d.now.posts = [] then (d, Km458.only (-17)) else (d.become { d.now with posts := [] }, Km458.only ((d.now.posts.length : Nat) : Int)) := rfl
    refine ite2 (fun hc => ?_) (fun hc => ?_)
    · rw [if_pos (msk_zero.mp (of_decide_eq_true hc))] at ea0
      rw [ea0] at fin
      exact ⟨by show 1 ≤ sizeLine; decide, tellD fin (Kp.x (Kp.refl T H) os) da (fun b hb => .inl hb) rfl⟩
    · rw [if_neg (fun z => hc (decide_eq_true (msk_zero.mpr z)))] at ea0
      rw [ea0] at fin
      refine ⟨_, rfl, x, C, dx, _, _, rfl, o.ins, X.cl, X.no _ (by decide +kernel), rfl, msk d.now.posts, rfl, ?_⟩
      refine ⟨_, rfl, x, dx, _, rfl, o.ins, rfl, x, os, d, [], rfl, da, D, fun H' os' kx da' ho => ?_⟩
      refine ⟨_, rfl, by show 1 ≤ sizeLine; decide, ?_⟩
      refine tellD fin kx da' ho ?_
      rw [pc_msk D.now.nd]
      rfl
end
end VR
end
section
set_option Elab.async false
set_option linter.all false
set_option maxRecDepth 100000
set_option maxHeartbeats 4000000
namespace L2
open PySem PySem.Spec PyProof.Rows
def TupsR (K : PySem.W.Frag) (H : Hp) (xs : List V) (nf : Nat → List Int) : Prop := ∀ (i : Nat) v, xs[i]? = some v → ∃ a, v = .ref a ∧ SqT K H a ((nf i).map V.int)
def bestT (nf : Nat → List Int) : Nat → Nat
  | 0 => 0
  | k + 1 => if HT.lexLt (nf (k + 1)) (nf (bestT nf k)) = true then k + 1 else bestT nf k
section
variable {X : Cx} {pins : List (Addr × Obj)} {σ : St} {H : Hp}
theorem ltT_any {nf : Nat → List Int} {pins' : List (Addr × Obj)} {xs : List V} {i j : Nat} {u v : V} {ub vb : Value} {s : Shared} {Q E : Value → Shared → Prop} (ht : TupsR X.K H xs nf) (I : Inv X pins' σ H s) (hu : X.A.in1.units < cLine) (h1 : xs[i]? = some u) (h2 : xs[j]? = some v) (r1 : RelV u ub) (r2 : RelV v vb)
    (h : Q (.bool (HT.lexLt (nf i) (nf j))) s) : wpAny (model X.prog X.w) X.A.in1 (richCompare .Lt ub vb) Q E s := by
  obtain ⟨a, rfl, ha⟩ := ht i u h1
  obtain ⟨b, rfl, hb⟩ := ht j v h2
  cases r1
  cases r2
  obtain ⟨its, q1, p1, _⟩ := I.tuple ha
  obtain ⟨its2, q2, p2, _⟩ := I.tuple hb
  exact HT.lt_tupInts p1 p2 (intsAre_of q1) (intsAre_of q2) hu h
theorem min_loopT {nf : Nat → List Int} {l S J : Addr} {xs : List V} {R : Result → Shared → Prop} (hc : X.calm = true) (hu : X.A.in1.units < cLine) (hs : SqL X.K H l xs) (ht : TupsR X.K H xs nf) (fS : FpOk X pins H S) (fJ : FpOk X pins H J) (hSJ : S ≠ J) (hlJ : l ≠ J)
    (hR : ∀ v vb s', xs[bestT nf (xs.length - 1)]? = some v → RelV v vb → Inv X pins σ H s' → R (.ok (.ret vb)) s') :
    ∀ (r j : Nat) (s : Shared) (v : V) (vb : Value) (c : Nat) (oJ : Obj), xs.length - (j + 1) = r → j + 1 ≤ xs.length → Inv X (pins ++ [(S, seqObj "list" #[vb, vb] c), (J, oJ)]) σ H s →
      oJ.cls = .type "list_iterator" → oJ.data = .fields #[.ref l, .int ((j + 1 : Nat) : Int) 0] → xs[bestT nf j]? = some v → RelV v vb →
      codeAny (model X.prog X.w) X.A (.builtin "min.loop" ⟨[.ref J, .none, .ref S], []⟩) R s := by
  have hname : (toString "min" ++ toString ".loop" : String) = "min.loop" := by decide
  intro r
  induction r with
  | zero =>
    intro j s v vb c oJ hr hj I h1 h2 hv rv
    have hin : j + 1 = xs.length := by omega
    have pS := I.pin (S, seqObj "list" #[vb, vb] c) (by simp)
    have pJ := I.pin (J, oJ) (by simp)
    obtain ⟨its, ri, hl, _⟩ := I.list hs
    have hh : X.A.in1.handled = none := I.ok.hd hc
    have hn := ri.length
    have W := Walks.list (prog := X.prog) (w := X.w) (A := X.A.in1) hh J l hlJ its.toArray
    have hsz : its.toArray.size = j + 1 := by rw [List.size_toArray]; omega
    refine codeAny_builtin PySem.F.entry_min_loop (by
      rw [Around.under_plainId PySem.F.plain_min_loop _]
      show wpAny _ X.A.in1 (seqItems? (.ref S) >>= _) _ _ _
      refine wpAny_bind (wpAny_seqItems pS.1 rfl ?_)
      show wpAny _ X.A.in1 (tryCatch (pyNext (.ref J)) _ >>= _) _ _ _
      refine wpAny_bind (wpAny_tryCatch (W.done s _ _ ⟨⟨oJ, pJ.1, h1, by rw [hsz]; exact h2⟩, hl.isList⟩ fun h' tk' hk' => ?_))
      have hS' : h'.get? S = some (seqObj "list" #[vb, vb] c) := hk' S _ (by simpa using hSJ) pS.1
      show wpAny _ X.A.in1 (updateSeq S (fun _ => #[]) >>= _) _ _ _
      refine wpAny_bind (wpAny_updateSeq hS' rfl (wpAny_bind (wpAny_letGo (wpAny_pure ?_))))
      have I1 : Inv X pins σ H { s with heap := h', toks := tk' } := I.pinsub.turned (it := J) (fun b o hb e => hk' b o (by simpa using hb) e) fJ.1 fJ.2.1 fJ.2.2.2.1 fJ.2.2.2.2.1 fJ.2.2.2.2.2
      have sb := Heap.SameBut.update h' S (Obj.mapSeq fun _ => (#[] : Array Value))
      have I2 := I1.turned (it := S) (h' := h'.update S (Obj.mapSeq fun _ => #[])) (t' := tk') (fun b o hb e => (sb.2 b hb).trans e) fS.1 fS.2.1 fS.2.2.2.1 fS.2.2.2.2.1 fS.2.2.2.2.2
      exact hR v vb _ (by rw [← hin]; exact hv) rv I2)
  | succ r ih =>
    intro j s v vb c oJ hr hj I h1 h2 hv rv
    have hlt : j + 1 < xs.length := by omega
    have pS := I.pin (S, seqObj "list" #[vb, vb] c) (by simp)
    have pJ := I.pin (J, oJ) (by simp)
    obtain ⟨its, ri, hl, _⟩ := I.list hs
    have hh : X.A.in1.handled = none := I.ok.hd hc
    have hn := ri.length
    have W := Walks.list (prog := X.prog) (w := X.w) (A := X.A.in1) hh J l hlJ its.toArray
    have hsz : j + 1 < its.toArray.size := by rw [List.size_toArray]; omega
    refine codeAny_builtin PySem.F.entry_min_loop (by
      rw [Around.under_plainId PySem.F.plain_min_loop _]
      show wpAny _ X.A.in1 (seqItems? (.ref S) >>= _) _ _ _
      refine wpAny_bind (wpAny_seqItems pS.1 rfl ?_)
      show wpAny _ X.A.in1 (tryCatch (pyNext (.ref J)) _ >>= _) _ _ _
      refine wpAny_bind (wpAny_tryCatch (W.item (j + 1) s _ _ hsz ⟨⟨oJ, pJ.1, h1, h2⟩, hl.isList⟩ fun u h' tk' hP hst' hk' => ?_))
      have hu' : its[j + 1]? = some u := by simpa using hP
      obtain ⟨y, hy, ry⟩ : ∃ y, xs[j + 1]? = some y ∧ RelV y u := by
        obtain ⟨u2, e1, e2⟩ := ri.get (List.getElem?_eq_getElem hlt)
        rw [hu'] at e1; cases e1
        exact ⟨_, List.getElem?_eq_getElem hlt, e2⟩
      obtain ⟨oJ', hoJ', g1, g2⟩ := hst'.1
      have I2 : Inv X (pins ++ [(S, seqObj "list" #[vb, vb] c), (J, oJ')]) σ H { s with heap := h', toks := tk' } := I.turnJ fS fJ hSJ hk' hoJ' (fun w z => by rw [g2] at z; cases z)
      have pS2 := I2.pin (S, seqObj "list" #[vb, vb] c) (by simp)
      show wpAny _ X.A.in1 (tryCatch (holding [u, u] (richCompare .Lt u vb >>= _)) _ >>= _) _ _ _
      refine wpAny_bind (wpAny_tryCatch (wpAny_holding (wpAny_bind (ltT_any ht I2 hu hy hv ry rv ?_))))
      refine wpAny_bind (wpAny_holding (wpAny_truthy_bool ?_))
      refine wpAny_bind (wpAny_letGo (wpAny_pure ?_))
      cases hb : HT.lexLt (nf (j + 1)) (nf (bestT nf j)) with
      | true =>
        have sb := Heap.SameBut.update h' S (Obj.mapSeq fun _ => #[u, u])
        obtain ⟨c2, hc2⟩ : ∃ c2, (h'.update S (Obj.mapSeq fun _ => #[u, u])).get? S = some (seqObj "list" #[u, u] c2) := ⟨_, get?_update_seq pS2.1 fun _ => #[u, u]⟩
        simp only [if_true]
        refine wpAny_bind (wpAny_updateSeq pS2.1 rfl (wpAny_bind (wpAny_letGo ?_)))
        rw [hname]
        have I3 := I2.turnS (oS' := seqObj "list" #[u, u] c2) (tk := tk') fS fJ hSJ (fun b o hb e => (sb.2 b hb).trans e) hc2 (fun w z => by cases z)
        exact wpAny_pure ⟨plainId_quiet PySem.F.plain_min_loop _, ih (j + 1) _ y u c2 oJ' (by omega) hlt I3 g1 g2 (by unfold bestT; rw [if_pos hb]; exact hy) ry⟩
      | false =>
        simp only [Bool.false_eq_true, if_false]
        refine wpAny_bind (wpAny_letGo ?_)
        rw [hname]
        exact wpAny_pure ⟨plainId_quiet PySem.F.plain_min_loop _, ih (j + 1) _ v vb c oJ' (by omega) hlt I2 g1 g2 (by unfold bestT; rw [if_neg (by rw [hb]; decide)]; exact hv) rv⟩)
theorem cr_minT (hc : X.calm = true) (hu : X.A.in1.units < cLine) : CallR X (.builtin "min") (fun vs H Q => ∃ (l : Addr) (xs : List V) (nf : Nat → List Int), vs = [.ref l] ∧ SqL X.K H l xs ∧ TupsR X.K H xs nf ∧ 0 < xs.length ∧ ∀ v, xs[bestT nf (xs.length - 1)]? = some v → Q v H) := by
  intro pins s σ H vs us Q I r h
  obtain ⟨l, xs, nf, rfl, hs, ht, hne, h⟩ := h
  rw [Vals.ref1 r]
  have hname : (toString "min" ++ toString ".loop" : String) = "min.loop" := by decide
  obtain ⟨its, ri, hl, _⟩ := I.list hs
  have hls := hl.isList
  have hn := ri.length
  refine call_function_tree PySem.F.kind_min PySem.F.plain_min PySem.F.entry_min (PySem.F.args_min1 _) ?_
  show wpAny _ X.A.in1 (Builtin.Builtins.bindParams "min" ["key", "default"] 0 ⟨[], []⟩ >>= _) _ _ s
  refine wpAny_bind (wpAny_of_eq (show Builtin.Builtins.bindParams "min" ["key", "default"] 0 ⟨[], []⟩ = pure [none, none] from rfl) ?_)
  refine wpAny_bind (wpAny_pure (wpAny_bind (wpAny_pyIter_list hls ?_)))
  refine wpAny_bind (wpAny_newList ?_ (Nat.zero_le _))
  rw [hname]
  generalize hJ : s.heap.objs.size = J
  generalize hS : (s.heap.push { cls := .type "list_iterator", data := .fields #[.ref l, .int 0 0] }).objs.size = S
  have hSz : S = J + 1 := by rw [← hS, Heap.size_push, hJ]
  have gJ : ((s.heap.push { cls := .type "list_iterator", data := .fields #[.ref l, .int 0 0] }).push (seqObj "list" #[] 0)).get? J = some { cls := .type "list_iterator", data := .fields #[.ref l, .int 0 0] } := by
    rw [← hJ]; exact Heap.get?_push_of_some _ (Heap.get?_push_size _ rfl)
  have gS : ((s.heap.push { cls := .type "list_iterator", data := .fields #[.ref l, .int 0 0] }).push (seqObj "list" #[] 0)).get? S = some (seqObj "list" #[] 0) := by rw [← hS]; exact Heap.get?_push_size _ rfl
  have nJ : H J = none := I.hok.fresh (Nat.le_of_eq hJ)
  have nS : H S = none := I.hok.fresh (by omega)
  have fJ : FpOk X pins H J := I.fpOk (Nat.le_of_eq hJ) nJ
  have fS : FpOk X pins H S := I.fpOk (by omega) nS
  have hSJ : S ≠ J := by omega
  have hlJ : l ≠ J := list_ne_own I rfl hs nJ (by have := I.sz; omega)
  have I0 : Inv X pins σ H { s with heap := (s.heap.push { cls := .type "list_iterator", data := .fields #[.ref l, .int 0 0] }).push (seqObj "list" #[] 0) } := I.kept (t' := s.toks) fun b u e => Heap.get?_push_of_some _ (Heap.get?_push_of_some _ e)
  have I1 := I0.pin1 fS gS (fun w z => by cases z)
  have fJ2 : FpOk X (pins ++ [(S, seqObj "list" #[] 0)]) H J := ⟨fJ.1, fJ.2.1, fJ.2.2.1, fJ.2.2.2.1, fJ.2.2.2.2.1, fun p hp => by
    rw [← List.append_assoc] at hp
    rcases List.mem_append.mp hp with z | z
    · exact fJ.2.2.2.2.2 p z
    · obtain rfl : p = (S, seqObj "list" #[] 0) := by simpa using z
      exact hSJ⟩
  have I2 := I1.pin1 fJ2 gJ (fun w z => by cases z)
  rw [List.append_assoc] at I2
  have hl2 : ((s.heap.push { cls := .type "list_iterator", data := .fields #[.ref l, .int 0 0] }).push (seqObj "list" #[] 0)).IsList l its.toArray := (hls.push _).push _
  have hh : X.A.in1.handled = none := I.ok.hd hc
  have W := Walks.list (prog := X.prog) (w := X.w) (A := X.A.in1) hh J l hlJ its.toArray
  have hsz : 0 < its.toArray.size := by rw [List.size_toArray]; omega
  refine wpAny_pure ⟨plainId_quiet PySem.F.plain_min_loop _, codeAny_builtin PySem.F.entry_min_loop ?_⟩
  rw [Around.under_plainId PySem.F.plain_min_loop _]
  show wpAny _ X.A.in1 (seqItems? (.ref S) >>= _) _ _ _
  refine wpAny_bind (wpAny_seqItems gS rfl ?_)
  show wpAny _ X.A.in1 (tryCatch (pyNext (.ref J)) _ >>= _) _ _ _
  refine wpAny_bind (wpAny_tryCatch (W.item 0 _ _ _ hsz ⟨⟨_, gJ, rfl, rfl⟩, hl2⟩ fun u h' tk' hP hst' hk' => ?_))
  have hu' : its[0]? = some u := by simpa using hP
  obtain ⟨y, hy, ry⟩ : ∃ y, xs[0]? = some y ∧ RelV y u := by
    obtain ⟨u2, e1, e2⟩ := ri.get (List.getElem?_eq_getElem hne)
    rw [hu'] at e1; cases e1
    exact ⟨_, List.getElem?_eq_getElem hne, e2⟩
  obtain ⟨oJ', hoJ', g1, g2⟩ := hst'.1
  have I3 := I2.turnJ (tk := tk') fS fJ hSJ hk' hoJ' (fun w z => by rw [g2] at z; cases z)
  have pS2 := I3.pin (S, seqObj "list" #[] 0) (by simp)
  have sb := Heap.SameBut.update h' S (Obj.mapSeq fun _ => #[u, u])
  obtain ⟨c2, hc2⟩ : ∃ c2, (h'.update S (Obj.mapSeq fun _ => #[u, u])).get? S = some (seqObj "list" #[u, u] c2) := ⟨_, get?_update_seq pS2.1 fun _ => #[u, u]⟩
  show wpAny _ X.A.in1 (updateSeq S (fun _ => #[u, u]) >>= _) _ _ _
  refine wpAny_bind (wpAny_updateSeq pS2.1 rfl ?_)
  rw [hname]
  have I5 := I3.turnS (oS' := seqObj "list" #[u, u] c2) (tk := tk') fS fJ hSJ (fun b o hb e => (sb.2 b hb).trans e) hc2 (fun w z => by cases z)
  exact wpAny_pure ⟨plainId_quiet PySem.F.plain_min_loop _, min_loopT hc hu hs ht fS fJ hSJ hlJ (fun v vb s' e1 e2 I' => ⟨v, H, I', e2, h v e1⟩) _ 0 _ y u c2 oJ' rfl hne I5 g1 g2 hy ry⟩
end
theorem bestT_pair {ps : List (Nat × Nat)} {nf : Nat → List Int} (hn : ∀ (i : Nat) p, ps[i]? = some p → nf i = [(p.1 : Int), (p.2 : Int)]) (hs : (ps.map Prod.snd).Pairwise (· < ·)) :
    ∀ k, k < ps.length → bestT nf k ≤ k ∧ ∀ (p q : Nat × Nat) (j : Nat), ps[bestT nf k]? = some p → j ≤ k → ps[j]? = some q → p.1 < q.1 ∨ (p.1 = q.1 ∧ p.2 ≤ q.2) := by
  have lx : ∀ {i j : Nat} {p q : Nat × Nat}, ps[i]? = some p → ps[j]? = some q → (HT.lexLt (nf i) (nf j) = true ↔ p.1 < q.1 ∨ (p.1 = q.1 ∧ p.2 < q.2)) := by
    intro i j p q h1 h2
    rw [hn i p h1, hn j q h2, HT.lexLt_cons, HT.lexLt_cons, HT.lexLt_nil_nil]
    by_cases e : (p.1 : Int) = (q.1 : Int)
    · rw [if_pos e]
      by_cases e2 : (p.2 : Int) = (q.2 : Int)
      · rw [if_pos e2]
        constructor
        · intro z; cases z
        · intro z; omega
      · rw [if_neg e2, decide_eq_true_eq]; omega
    · rw [if_neg e, decide_eq_true_eq]; omega
  intro k
  induction k with
  | zero =>
    intro hk
    refine ⟨Nat.le_refl _, fun p q j h1 hj h2 => ?_⟩
    have : j = 0 := by omega
    subst this
    have : p = q := by
      have h1' : ps[0]? = some p := h1
      rw [h2] at h1'; exact (Option.some.inj h1').symm
    subst this; omega
  | succ k ih =>
    intro hk
    obtain ⟨i1, i2⟩ := ih (by omega)
    obtain ⟨b, hb⟩ : ∃ b, ps[bestT nf k]? = some b := ⟨_, List.getElem?_eq_getElem (by omega)⟩
    obtain ⟨c, hc⟩ : ∃ c, ps[k + 1]? = some c := ⟨_, List.getElem?_eq_getElem hk⟩
    unfold bestT
    by_cases e : HT.lexLt (nf (k + 1)) (nf (bestT nf k)) = true
    · rw [if_pos e]
      refine ⟨Nat.le_refl _, fun p q j h1 hj h2 => ?_⟩
      have : c = p := by rw [hc] at h1; exact Option.some.inj h1
      subst this
      have h3 := (lx hc hb).mp e
      by_cases ej : j = k + 1
      · subst ej
        have : c = q := by rw [hc] at h2; exact Option.some.inj h2
        subst this; omega
      · have := i2 b q j hb (by omega) h2
        omega
    · rw [if_neg e]
      refine ⟨by omega, fun p q j h1 hj h2 => ?_⟩
      have : b = p := by rw [hb] at h1; exact Option.some.inj h1
      subst this
      by_cases ej : j = k + 1
      · subst ej
        have : c = q := by rw [hc] at h2; exact Option.some.inj h2
        subst this
        have h3 : ¬ _ := fun z => e ((lx hc hb).mpr z)
        omega
      · exact i2 b q j hb (by omega) h2
end L2
end
section
set_option Elab.async false
set_option linter.all false
set_option maxRecDepth 100000
set_option maxHeartbeats 4000000
namespace VR
open PySem PySem.Spec PyProof.Rows L2 Vp
open Km457 (Valley at_ far)
open Km458 (table dist near)
abbrev sNear : Stmt := top 19
abbrev sWorst : Stmt := top 20
abbrev sSBy : Stmt := top 21
abbrev sWidest : Stmt := top 22
section
variable {P : Program} {w : World} {K : PySem.W.Frag} {mg : Str → Option Value} {base : Heap}
theorem scNear : FnScope ["row", "posts", "v"] ["row", "posts"] (defScope sNear) := ⟨rfl, rfl, rfl, by decide +kernel, rfl, by decide +kernel, by decide +kernel⟩
def NearD (ds : List Nat) (p v : Nat) : Prop := v < ds.length ∧ p.testBit v = true ∧ ∀ u, u < ds.length → p.testBit u = true → ds.getD v 0 < ds.getD u 0 ∨ (ds.getD v 0 = ds.getD u 0 ∧ v ≤ u)
def spNear (K : PySem.W.Frag) : Sp := fun vs H Q _ => ∃ (a : Addr) (ds : List Nat) (p : Nat), vs = [.ref a, .int p] ∧ SqL K H a (natsV ds) ∧ ds.length ≤ 10 ∧ (∃ v, v < ds.length ∧ p.testBit v = true) ∧
  ∀ H' q v, Same H H' → H' q = some (.tup [.int (ds.getD v 0 : Nat), .int (v : Nat)]) → NearD ds p v → Q (.ref q) H'
theorem pw_range_filter (n : Nat) (f : Nat → Bool) : ((List.range n).filter f).Pairwise (· < ·) := List.Pairwise.filter _ List.pairwise_lt_range
theorem ok_near {f fH : Addr} {fd fdH : FuncData} (F : Fun K "nearest" "nearest" sNear f fd) (G : Bare mg)
    (GH : FnOk P w K mg base CX0 1 fH fdH ["villages", "v"] spHas) (mH : mg "has" = some (.ref fH)) (kH : PySem.W.keepIn K (.ref fH) = true) (bH : Binds K fdH ["villages", "v"] []) :
    FnOk P w K mg base CX0 2 f fd ["row", "posts"] (spNear K) := by
  refine F.ok scNear (fun vs H Q E h => ?_) (fun cdv A outer s H vs Q E hr h => ?_)
  · obtain ⟨a, ds, p, rfl, _⟩ := h
    rfl
  · obtain ⟨a, ds, p, rfl, ha, hl, hne, k⟩ := h
    refine ⟨_, pss_one (ps_ret (pe_callB (cr_minT rfl hr.in1.units0) (by rfl) G.mn (by decide +kernel) (pa_cons (pe_lc (own := [("v", 2)]) rfl scNear.nd (pi_range1 rfl G.range (pa_cons (pe_callB call_len_seq (by rfl) G.len PySem.boot_len (pa_cons (pv 0) pa_nil)) pa_nil)) (blkOk_by (show blkC ["row", "posts", "v"] (defScope sNear) _ _ = true by decide +kernel))
      (fun _ _ _ _ _ => pg_name (i := 2) scNear.nd rfl (Or.inl rfl)) (fun _ _ _ _ _ => pts_one (pt_val (pe_call GH hr rfl mH kH bH .nil pass0 (pa_cons (pv 1) (pa_cons (pv 2) pa_nil)))))
      (fun _ _ _ _ _ => pe_tup (pa_cons (pe_ix (ixL (K := K) rfl) (pv 0) (pv 2) (fun _ _ => rfl)) (pa_cons (pv 2) pa_nil)))) pa_nil))), ?_⟩
    refine ⟨_, rfl, a, _, rfl, .inl ha, _, rfl, by omega, by rw [natsV_len]; omega, fun d hd => ?_⟩
    refine lc_range (lo := 0) (n := ((natsV ds).length : Int).toNat) (fun j H' => Same H H' ∧ ∃ bs : List Addr, H' d = some (.lst (bs.map V.ref)) ∧ bs.length = ((List.range j).filter fun v => p.testBit v).length ∧ ∀ (i : Nat) b v, bs[i]? = some b → ((List.range j).filter fun v => p.testBit v)[i]? = some v → H' b = some (.tup [.int (ds.getD v 0 : Nat), .int (v : Nat)]))
      ⟨(Same.refl H).add hd, [], upd_same, rfl, fun i b v h1 => by simp at h1⟩ ?_ ?_
    · rintro j H' hj ⟨s1, bs, hd1, hbl, hbs⟩
      have hj : j < ds.length := by rw [Int.toNat_natCast, natsV_len] at hj; exact hj
      have hg : ds[j]? = some (ds.getD j 0) := by rw [List.getD_eq_getElem?_getD, List.getElem?_eq_getElem hj]; rfl
      have ez : (0 : Int) + (j : Nat) = ((j : Nat) : Int) := by omega
      rw [ez]
      refine ⟨rfl, ?_⟩
      refine ⟨_, rfl, _, rfl, p, j, rfl, _, rfl, ?_⟩
      refine ite2 (fun hc => ?_) (fun hc => ?_)
      · refine ⟨_, rfl, _, rfl, a, _, _, _, rfl, rfl, s1.seq ha, at_of rfl (natsV_at hg), _, rfl, by show 2 ≤ sizeLine; decide, fun q hq => ?_⟩
        have nq : d ≠ q := ne_of_none hd1 hq
        refine ⟨_, by rw [upd_ne nq]; exact hd1, by rw [List.length_map, hbl]; exact small1000 (Nat.le_trans filter_len (by omega)), fun b o e => ?_, bs ++ [q], by rw [upd_same, List.map_append]; rfl, ?_, fun i b v h1 h2 => ?_⟩
        · rw [upd_ne (ne_of_none e hd), upd_ne (ne_of_none (s1 b o e) hq)]; exact s1 b o e
        · rw [range_filter_succ, if_pos hc, List.length_append, List.length_append, hbl]; rfl
        · rw [range_filter_succ, if_pos hc, List.getElem?_append] at h2
          rw [List.getElem?_append] at h1
          split at h1
          · rename_i hi
            rw [if_pos (by rw [← hbl]; exact hi)] at h2
            have z := hbs i b v h1 h2
            have nbd : b ≠ d := fun z2 => by rw [z2, hd1] at z; cases z
            rw [upd_ne nbd, upd_ne (ne_of_none z hq)]; exact z
          · rename_i hi
            rw [if_neg (by rw [← hbl]; exact hi)] at h2
            obtain ⟨g1, g2⟩ := List.getElem?_eq_some_iff.mp h1
            obtain ⟨g3, g4⟩ := List.getElem?_eq_some_iff.mp h2
            simp at g1 g2 g4
            subst g2 g4
            rw [upd_ne (Ne.symm nq), upd_same]
      · refine ⟨s1, bs, hd1, ?_, fun i b v h1 h2 => ?_⟩
        · rw [range_filter_succ, if_neg hc, List.append_nil]; exact hbl
        · rw [range_filter_succ, if_neg hc, List.append_nil] at h2; exact hbs i b v h1 h2
    · rintro H' ⟨s1, bs, hd1, hbl, hbs⟩
      rw [Int.toNat_natCast, natsV_len] at hbl hbs
      generalize hL : ((List.range ds.length).filter fun v => p.testBit v) = L at hbl hbs
      have hpw : L.Pairwise (· < ·) := by rw [← hL]; exact pw_range_filter _ _
      have hmem : ∀ v, v ∈ L ↔ v < ds.length ∧ p.testBit v = true := fun v => by rw [← hL, List.mem_filter, List.mem_range]
      have hLn : 0 < L.length := by
        obtain ⟨v, h1, h2⟩ := hne
        exact List.length_pos_of_mem ((hmem v).mpr ⟨h1, h2⟩)
      let nf : Nat → List Int := fun i => [((ds.getD (L.getD i 0) 0 : Nat) : Int), ((L.getD i 0 : Nat) : Int)]
      have hgL : ∀ {i v : Nat}, L[i]? = some v → L.getD i 0 = v := fun h => by rw [List.getD_eq_getElem?_getD, h]; rfl
      have hB := bestT_pair (ps := L.map fun v => (ds.getD v 0, v)) (nf := nf) (fun i q hq => by
        rw [List.getElem?_map] at hq
        cases e : L[i]? with
        | none => rw [e] at hq; cases hq
        | some v =>
          rw [e] at hq
          cases hq
          show [((ds.getD (L.getD i 0) 0 : Nat) : Int), ((L.getD i 0 : Nat) : Int)] = _
          rw [hgL e]) (by rw [List.map_map, show (Prod.snd ∘ fun v => (ds.getD v 0, v)) = id from rfl, List.map_id]; exact hpw) (L.length - 1) (by rw [List.length_map]; omega)
      obtain ⟨hb1, hb2⟩ := hB
      refine ⟨d, _, nf, rfl, SqL.of hd1, fun i v hv => ?_, by rw [List.length_map, hbl]; exact hLn, fun v hv => ?_⟩
      · obtain ⟨b, hb, rfl⟩ := lst_ref hv
        have hi : i < L.length := by obtain ⟨h1, _⟩ := List.getElem?_eq_some_iff.mp hb; omega
        refine ⟨b, rfl, SqT.of ?_⟩
        have := hbs i b _ hb (List.getElem?_eq_getElem hi)
        rw [this]
        show _ = some (HO.tup (List.map V.int [((ds.getD (L.getD i 0) 0 : Nat) : Int), ((L.getD i 0 : Nat) : Int)]))
        rw [hgL (List.getElem?_eq_getElem hi)]
        rfl
      · rw [List.length_map, hbl] at hv
        obtain ⟨b, hb, rfl⟩ := lst_ref hv
        have hi : bestT nf (L.length - 1) < L.length := by omega
        have hLe := List.getElem?_eq_getElem hi
        have htu := hbs _ b _ hb hLe
        generalize L[bestT nf (L.length - 1)] = v at hLe htu
        obtain ⟨m1, m2⟩ := (hmem v).mp (List.mem_of_getElem? hLe)
        refine k H' b v s1 htu ⟨m1, m2, fun u hu1 hu2 => ?_⟩
        obtain ⟨j, hj⟩ := List.mem_iff_getElem?.mp ((hmem u).mpr ⟨hu1, hu2⟩)
        have hjl : j < L.length := by obtain ⟨h1, _⟩ := List.getElem?_eq_some_iff.mp hj; exact h1
        exact hb2 (ds.getD v 0, v) (ds.getD u 0, u) j (by rw [List.getElem?_map, hLe]; rfl) (by omega) (by rw [List.getElem?_map, hj]; rfl)
def rowN (s : Valley) (v : Nat) : List Nat := (List.range s.length).map fun w => far s v w
theorem rowN_len (s : Valley) (v : Nat) : (rowN s v).length = s.length := by simp [rowN]
theorem rowN_get {s : Valley} {v w : Nat} (hw : w < s.length) : (rowN s v).getD w 0 = far s v w := by simp [rowN, List.getD_eq_getElem?_getD, hw]
theorem near_of {s : Valley} (ok : Ok s) {ps : List Nat} (hps : ∀ p ∈ ps, p < s.length) {v q : Nat} (hv : v < s.length) (h : NearD (rowN s v) (msk ps) q) : near (table s) ps v = some (q, far s v q) ∧ q < s.length := by
  obtain ⟨h1, h2, h3⟩ := h
  rw [rowN_len] at h1 h3
  have hq : q ∈ ps := by rw [testBit_msk] at h2; exact of_decide_eq_true h2
  have hN : NearIs (table s) ps v q := ⟨hq, fun p hp => by
    have hpl := hps p hp
    have := h3 p hpl (by rw [testBit_msk]; exact decide_eq_true hp)
    rw [rowN_get h1, rowN_get hpl] at this
    rw [dist_eq h1 hv, dist_eq hpl hv, far_comm ok h1 hv, far_comm ok hpl hv]
    exact this⟩
  refine ⟨?_, h1⟩
  rw [near_eq hN, dist_eq h1 hv, far_comm ok h1 hv]
end
end VR
end
section
set_option Elab.async false
set_option linter.all false
set_option maxRecDepth 100000
set_option maxHeartbeats 4000000
namespace VR
open PySem PySem.Spec PyProof.Rows L2 Vp
open Km457 (Valley at_ far)
open Km458 (table dist near)
section
variable {P : Program} {w : World} {K : PySem.W.Frag} {mg : Str → Option Value} {base : Heap}
def nearD (s : Valley) (ps : List Nat) (v : Nat) : Nat := match near (table s) ps v with
  | none => 0
  | some x => x.2
def nearP (s : Valley) (ps : List Nat) (v : Nat) : Nat := match near (table s) ps v with
  | none => 0
  | some x => x.1
theorem rowV_N (s : Valley) (v : Nat) : rowV s v = natsV (rowN s v) := rowV_eq s v
theorem has_some {s : Valley} {ps : List Nat} (hps : ∀ p ∈ ps, p < s.length) (hne : ps ≠ []) (v : Nat) : ∃ u, u < (rowN s v).length ∧ (msk ps).testBit u = true := by
  obtain ⟨p, hp⟩ := List.exists_mem_of_ne_nil ps hne
  exact ⟨p, by rw [rowN_len]; exact hps p hp, by rw [testBit_msk]; exact decide_eq_true hp⟩
theorem scWorst : FnScope ["table", "posts", "fars", "far", "row"] ["table", "posts"] (defScope sWorst) := ⟨rfl, rfl, rfl, by decide +kernel, rfl, by decide +kernel, by decide +kernel⟩
def spWorst (K : PySem.W.Frag) : Sp := fun vs H Q _ => ∃ (t : Addr) (s : Valley) (ps : List Nat), vs = [.ref t, .int (msk ps : Nat)] ∧ TabV H t s ∧ Ok s ∧ (∀ p ∈ ps, p < s.length) ∧ ps ≠ [] ∧
  ∀ H' q i, Same H H' → i < s.length → (∀ j, j < s.length → nearD s ps j ≤ nearD s ps i ∧ (j < i → nearD s ps j < nearD s ps i)) → H' q = some (.tup [.int (nearD s ps i : Nat), .int (i : Nat)]) → Q (.ref q) H'
theorem ok_worst {f fN : Addr} {fd fdN : FuncData} (F : Fun K "worst" "worst" sWorst f fd) (G : Bare mg)
    (GN : FnOk P w K mg base CX0 2 fN fdN ["row", "posts"] (spNear K)) (mN : mg "nearest" = some (.ref fN)) (kN : PySem.W.keepIn K (.ref fN) = true) (bN : Binds K fdN ["row", "posts"] []) :
    FnOk P w K mg base CX0 3 f fd ["table", "posts"] (spWorst K) := by
  refine F.ok scWorst (fun vs H Q E h => ?_) (fun cdv A outer s H vs Q E hr h => ?_)
  · obtain ⟨t, s, ps, rfl, _⟩ := h
    rfl
  · obtain ⟨t, sv, ps, rfl, ⟨rows, ht, hl, hrow⟩, ok, hps, hne, k⟩ := h
    refine ⟨_, pss_cons (ps_setLc (i := 2) (own := [("row", 4)]) rfl scWorst.nd rfl rfl (sw_true rfl rfl rfl rfl) (pi_list (pv 0)) (blkOk_by (show blkC ["table", "posts", "fars", "far", "row"] (defScope sWorst) _ _ = true by decide +kernel))
        (fun _ _ _ _ _ => pg_name (i := 4) scWorst.nd rfl (Or.inl rfl)) (fun _ _ _ _ _ => pts_nil)
        (fun _ _ _ _ _ => pe_ix (ixT (K := K) rfl) (pe_call GN hr rfl mN kN bN .nil pass0 (pa_cons (pv 4) (pa_cons (pv 1) pa_nil))) pe_int (fun _ _ => rfl)))
      (pss_cons (ps_set (i := 3) scWorst.nd rfl (Or.inl rfl) (pe_callB (cr_max rfl) (by rfl) G.mx (by decide +kernel) (pa_cons (pv 2) pa_nil)))
      (pss_one (ps_ret (pe_tup (pa_cons (pv 3) (pa_cons (pe_bm PySem.F.plainAttrs_list PySem.F.slot_list_index PySem.F.type_list_index mt_index (pv 2) (pa_cons (pv 3) pa_nil)) pa_nil)))))), ?_⟩
    have hle := ok.le
    have hpos := ok.pos
    refine ⟨_, rfl, t, rfl, ⟨_, SqL.of ht⟩, fun d hd => ?_⟩
    refine lc_list (K := K) (a := t) (xs := rows.map V.ref) (fun j H' => Same H H' ∧ H' d = some (.lst (natsV ((List.range j).map (nearD sv ps))))) ⟨(Same.refl H).add hd, upd_same⟩ (fun i H' _ ⟨s1, _⟩ => SqL.of (s1 _ _ ht)) ?_ ?_
    · rintro j x H' hx ⟨s1, hd1⟩
      obtain ⟨rw', hrw, rfl⟩ := lst_ref hx
      have hj : j < sv.length := by obtain ⟨h1, _⟩ := List.getElem?_eq_some_iff.mp hrw; omega
      refine ⟨rfl, ?_⟩
      dsimp only [tYes]
      rw [if_pos rfl]
      refine ⟨_, rfl, _, rfl, rw', rowN sv j, msk ps, rfl, SqL.of (by rw [← rowV_N]; exact s1 _ _ (hrow j rw' hrw)), by rw [rowN_len]; exact hle, has_some hps hne j, fun H2 q v s2 hq hN => ?_⟩
      obtain ⟨n1, n2⟩ := near_of ok hps hj hN
      refine ⟨q, _, _, _, rfl, rfl, SqT.of hq, at_of (j := 0) rfl rfl, _, s2 _ _ hd1, by rw [natsV_len, List.length_map, List.length_range]; exact small1000 (by omega), fun b o e => ?_, ?_⟩
      · rw [upd_ne (ne_of_none e hd)]; exact s2 b o (s1 b o e)
      · rw [upd_same, List.range_succ, List.map_append, rowN_get n2]
        have e : nearD sv ps j = far sv j v := by unfold nearD; rw [n1]
        simp [natsV, e]
    · rintro H' ⟨s1, hd1⟩
      rw [List.length_map, hl] at hd1
      have hds : natsV ((List.range sv.length).map (nearD sv ps)) = ((List.range sv.length).map fun j => ((nearD sv ps j : Nat) : Int)).map V.int := by simp [natsV]
      have hd2 := hd1
      rw [hds] at hd2
      refine ⟨_, rfl, d, _, rfl, SqL.of hd2, by simp; exact hpos, fun m hm hmax => ?_⟩
      have hex : ∃ i, i < sv.length ∧ ((nearD sv ps i : Nat) : Int) = m ∧ ∀ j, j < i → ((nearD sv ps j : Nat) : Int) ≠ m := by
        obtain ⟨i0, h1, h2⟩ := List.mem_map.mp hm
        replace h1 : i0 < sv.length := by simpa using h1
        clear hm
        induction i0 using Nat.strongRecOn with
        | _ i0 ih =>
          by_cases hz : ∃ j, j < i0 ∧ ((nearD sv ps j : Nat) : Int) = m
          · obtain ⟨j, z1, z2⟩ := hz
            exact ih j z1 z2 (by omega)
          · exact ⟨i0, h1, h2, fun j hj e => hz ⟨j, hj, e⟩⟩
      obtain ⟨i, hi, hei, hfirst⟩ := hex
      have hmx : ∀ j, j < sv.length → ((nearD sv ps j : Nat) : Int) ≤ m := fun j hj => hmax _ (List.mem_map.mpr ⟨j, by simpa using hj, rfl⟩)
      have hget : ∀ {j : Nat}, j < sv.length → (natsV ((List.range sv.length).map (nearD sv ps)))[j]? = some (V.int (nearD sv ps j : Nat)) := fun hj => natsV_at (by simp [hj])
      refine ⟨_, rfl, _, rfl, .inl ⟨rfl, _, SqL.of hd1⟩, _, rfl, d, _, _, i, _, rfl, rfl, SqL.of hd1, rfl, ?_, hget hi, ?_, ?_, ?_⟩
      · rw [List.all_eq_true]
        intro z hz
        unfold natsV at hz
        obtain ⟨y, _, rfl⟩ := List.mem_map.mp hz
        rfl
      · rw [← hei]
        simp [eqV]
      · intro j z hj hz
        rw [hget (by omega)] at hz
        cases hz
        have := hfirst j hj
        simp [eqV]
        omega
      · refine ⟨by show 2 ≤ sizeLine; decide, fun q hq => ?_⟩
        refine k _ q i (s1.add hq) hi (fun j hj => ⟨?_, fun hji => ?_⟩) ?_
        · have := hmx j hj; omega
        · have := hmx j (by omega); have := hfirst j hji; omega
        · rw [upd_same, hei]
theorem scSBy : FnScope ["table", "posts", "p", "r", "v"] ["table", "posts", "p", "r"] (defScope sSBy) := ⟨rfl, rfl, rfl, by decide +kernel, rfl, by decide +kernel, by decide +kernel⟩
def sbyP (s : Valley) (ps : List Nat) (p r v : Nat) : Bool := decide (far s v p ≤ r) && decide (nearP s ps v = p)
def spSBy (K : PySem.W.Frag) : Sp := fun vs H Q _ => ∃ (t : Addr) (s : Valley) (ps : List Nat) (p r : Nat), vs = [.ref t, .int (msk ps : Nat), .int p, .int r] ∧ TabV H t s ∧ Ok s ∧ (∀ q ∈ ps, q < s.length) ∧ ps ≠ [] ∧ p < s.length ∧
  ∀ H', Same H H' → Q (.int (msk ((List.range s.length).filter (sbyP s ps p r)) : Nat)) H'
theorem ok_sby {f fN fS : Addr} {fd fdN fdS : FuncData} (F : Fun K "served_by" "served_by" sSBy f fd) (G : Bare mg) (GS : FnOk P w K mg base CX0 1 fS fdS ["numbers"] (spSetOf K)) (mS : mg "set_of" = some (.ref fS)) (kS : PySem.W.keepIn K (.ref fS) = true) (bS : Binds K fdS ["numbers"] [])
    (GN : FnOk P w K mg base CX0 2 fN fdN ["row", "posts"] (spNear K)) (mN : mg "nearest" = some (.ref fN)) (kN : PySem.W.keepIn K (.ref fN) = true) (bN : Binds K fdN ["row", "posts"] []) :
    FnOk P w K mg base CX0 3 f fd ["table", "posts", "p", "r"] (spSBy K) := by
  refine F.ok scSBy (fun vs H Q E h => ?_) (fun cdv A outer s H vs Q E hr h => ?_)
  · obtain ⟨t, s, ps, p, r, rfl, _⟩ := h
    rfl
  · obtain ⟨t, sv, ps, p, r, rfl, ⟨rows, ht, hl, hrow⟩, ok, hps, hne, hp, k⟩ := h
    have hr1 : Room 1 _ := hr.mono (by decide)
    refine ⟨_, pss_one (ps_ret (pe_call GS hr1 rfl mS kS bS .nil pass0 (pa_cons (pe_lc (own := [("v", 4)]) rfl scSBy.nd (pi_range1 rfl G.range (pa_cons (pe_callB call_len_seq (by rfl) G.len PySem.boot_len (pa_cons (pv 0) pa_nil)) pa_nil)) (blkOk_by (show blkC ["table", "posts", "p", "r", "v"] (defScope sSBy) _ _ = true by decide +kernel))
      (fun _ _ _ _ _ => pg_name (i := 4) scSBy.nd rfl (Or.inl rfl)) (fun _ _ _ _ _ => pts_one (PW.pt (pw_and (pt_cmpR op_le (pe_ix (ixL (K := K) rfl) (pe_ix (ixL (K := K) rfl) (pv 0) (pv 4) (fun _ _ => rfl)) (pv 2) (fun _ _ => rfl)) (pv 3) (nomark _))
        (pw_and1 (pt_cmpR op_eq (pe_ix (ixT (K := K) rfl) (pe_call GN hr rfl mN kN bN .nil pass0 (pa_cons (pe_ix (ixL (K := K) rfl) (pv 0) (pv 4) (fun _ _ => rfl)) (pa_cons (pv 1) pa_nil))) pe_int (fun _ _ => rfl)) (pv 2) (nomark _))))))
      (fun _ _ _ _ _ => pv 4)) pa_nil))), ?_⟩
    have hle := ok.le
    refine ⟨_, rfl, t, _, rfl, .inl (SqL.of ht), _, rfl, by omega, by rw [List.length_map]; omega, fun d hd => ?_⟩
    refine lc_range (lo := 0) (n := ((rows.map V.ref).length : Int).toNat) (fun j H' => Same H H' ∧ H' d = some (.lst (natsV ((List.range j).filter (sbyP sv ps p r))))) ⟨(Same.refl H).add hd, upd_same⟩ ?_ ?_
    · rintro j H' hj ⟨s1, hd1⟩
      have hj : j < sv.length := by rw [Int.toNat_natCast, List.length_map, hl] at hj; exact hj
      have ez : (0 : Int) + (j : Nat) = ((j : Nat) : Int) := by omega
      obtain ⟨rw', hrw⟩ : ∃ a, rows[j]? = some a := ⟨_, List.getElem?_eq_getElem (by omega)⟩
      have hro : H' rw' = some (.lst (natsV (rowN sv j))) := by rw [← rowV_N]; exact s1 _ _ (hrow j rw' hrw)
      have hrp : (rowN sv j)[p]? = some (far sv j p) := by simp [rowN, hp]
      rw [ez]
      refine ⟨rfl, ?_⟩
      refine ⟨_, rfl, _, rfl, t, _, _, _, rfl, rfl, SqL.of (s1 _ _ ht), at_of (j := j) rfl (by rw [List.getElem?_map, hrw]; rfl), _, rfl, rw', _, _, _, rfl, rfl, SqL.of hro, at_of (j := p) rfl (natsV_at hrp), _, rfl, _, _, rfl, rfl, _, rfl, ?_⟩
      refine ite2 (fun hc => ?_) (fun hc => ?_)
      · have hc : far sv j p ≤ r := by simp only [decide_eq_true_eq] at hc; omega
        refine ⟨_, rfl, _, rfl, t, _, _, _, rfl, rfl, SqL.of (s1 _ _ ht), at_of (j := j) rfl (by rw [List.getElem?_map, hrw]; rfl), _, rfl, rw', rowN sv j, msk ps, rfl, SqL.of hro, by rw [rowN_len]; exact hle, has_some hps hne j, fun H2 q v s2 hq hN => ?_⟩
        obtain ⟨n1, n2⟩ := near_of ok hps hj hN
        have en : nearP sv ps j = v := by unfold nearP; rw [n1]
        refine ⟨q, _, _, _, rfl, rfl, SqT.of hq, at_of (j := 1) rfl rfl, _, rfl, rfl, _, rfl, ?_⟩
        refine ite2 (fun hc2 => ?_) (fun hc2 => ?_)
        · have hc2 : v = p := by rw [int_eq] at hc2; exact of_decide_eq_true hc2
          refine ⟨_, rfl, _, s2 _ _ hd1, by rw [natsV_len]; exact small1000 (Nat.le_trans filter_len (by omega)), fun b o e => ?_, ?_⟩
          · rw [upd_ne (ne_of_none e hd)]; exact s2 b o (s1 b o e)
          · rw [upd_same, range_filter_succ, if_pos (by unfold sbyP; rw [en]; simp [hc, hc2]), natsV_snoc]
        · have hc2 : ¬ v = p := fun z => hc2 (by rw [int_eq]; exact decide_eq_true z)
          refine ⟨s1.trans s2, ?_⟩
          rw [range_filter_succ, if_neg (by unfold sbyP; rw [en]; simp [hc2]), List.append_nil]
          exact s2 _ _ hd1
      · have hc : ¬ far sv j p ≤ r := by simp only [decide_eq_true_eq] at hc; omega
        refine goF rfl ⟨s1, ?_⟩
        rw [range_filter_succ, if_neg (by unfold sbyP; simp [hc]), List.append_nil]
        exact hd1
    · rintro H' ⟨s1, hd1⟩
      rw [Int.toNat_natCast, List.length_map, hl] at hd1
      refine ⟨d, _, rfl, SqL.of hd1, fun n hn => ?_, Nat.le_trans filter_len hle, List.nodup_range.filter _, fun H2 s2 => k H2 (s1.trans s2)⟩
      have := (List.mem_filter.mp hn).1
      simp at this
      omega
theorem scWidest : FnScope ["table", "best", "v", "w"] ["table"] (defScope sWidest) := ⟨rfl, rfl, rfl, by decide +kernel, rfl, by decide +kernel, by decide +kernel⟩
def prs (n i : Nat) : List (Nat × Nat) := (List.range i).flatMap fun a => ((List.range n).filter fun j => decide (a < j)).map fun j => (a, j)
theorem prs_zero (n : Nat) : prs n 0 = [] := rfl
theorem prs_succ (n i : Nat) : prs n (i + 1) = prs n i ++ ((List.range n).filter fun j => decide (i < j)).map fun j => (i, j) := by
  unfold prs
  rw [List.range_succ, List.flatMap_append]
  simp
theorem above_eq {n i : Nat} (h : i < n) : ((List.range n).filter fun j => decide (i < j)) = (List.range (n - (i + 1))).map fun j => i + 1 + j := by
  apply List.ext_getElem?
  intro m
  have e : List.range n = List.range (i + 1) ++ (List.range (n - (i + 1))).map fun j => i + 1 + j := by
    rw [← List.range_add]
    congr 1; omega
  rw [e, List.filter_append]
  have e1 : (List.range (i + 1)).filter (fun j => decide (i < j)) = [] := by
    rw [List.filter_eq_nil_iff]
    intro a ha
    simp at ha
    simp; omega
  have e2 : ((List.range (n - (i + 1))).map fun j => i + 1 + j).filter (fun j => decide (i < j)) = (List.range (n - (i + 1))).map fun j => i + 1 + j := by
    rw [List.filter_eq_self]
    intro a ha
    simp at ha
    simp; omega
  rw [e1, e2, List.nil_append]
def wideT (s : Valley) (l : List (Nat × Nat)) : Nat × Nat := maxBy (fun p => dist (table s) p.1 p.2) (0, 0) l
theorem wideT_snoc (s : Valley) (l : List (Nat × Nat)) (p : Nat × Nat) : wideT s (l ++ [p]) = if dist (table s) (wideT s l).1 (wideT s l).2 < dist (table s) p.1 p.2 then p else wideT s l := by
  unfold wideT maxBy
  rw [List.foldl_append]; rfl
def wideV (s : Valley) (p : Nat × Nat) : List V := [.int (dist (table s) p.1 p.2 : Nat), .int (p.1 : Nat), .int (p.2 : Nat)]
def spWidest (K : PySem.W.Frag) : Sp := fun vs H Q _ => ∃ (t : Addr) (s : Valley), vs = [.ref t] ∧ TabV H t s ∧ Ok s ∧ ∀ H' q, Same H H' → H' q = some (.tup (wideV s (Km458.widest (table s)))) → Q (.ref q) H'
theorem ok_widest {f : Addr} {fd : FuncData} (F : Fun K "widest" "widest" sWidest f fd) (G : Bare mg) : FnOk P w K mg base CX0 1 f fd ["table"] (spWidest K) := by
  refine F.ok scWidest (fun vs H Q E h => ?_) (fun cdv A outer s H vs Q E hr h => ?_)
  · obtain ⟨t, s, rfl, _⟩ := h
    rfl
  · obtain ⟨t, sv, rfl, ⟨rows, ht, hl, hrow⟩, ok, k⟩ := h
    refine ⟨_, pss_cons (ps_set (i := 1) scWidest.nd rfl (Or.inl rfl) (pe_tup (pa_cons pe_int (pa_cons pe_int (pa_cons pe_int pa_nil)))))
      (pss_cons (ps_for PassesOwn.never rfl (pi_range1 rfl G.range (pa_cons (pe_callB call_len_seq (by rfl) G.len PySem.boot_len (pa_cons (pv 0) pa_nil)) pa_nil)) (pg_name (i := 2) scWidest.nd rfl (Or.inl rfl))
        (pss_one (ps_for PassesOwn.never rfl (pi_range2 rfl G.range (pa_cons (pe_op op_add (pv 2) pe_int) (pa_cons (pe_callB call_len_seq (by rfl) G.len PySem.boot_len (pa_cons (pv 0) pa_nil)) pa_nil))) (pg_name (i := 3) scWidest.nd rfl (Or.inl rfl))
          (pss_one (ps_if (pt_cmpR op_gt (pe_ix (ixL (K := K) rfl) (pe_ix (ixL (K := K) rfl) (pv 0) (pv 2) (fun _ _ => rfl)) (pv 3) (fun _ _ => rfl)) (pe_ix (ixT (K := K) rfl) (pv 1) pe_int (fun _ _ => rfl)) (nomark _))
            (pss_one (ps_set (i := 1) scWidest.nd rfl (Or.inl rfl) (pe_tup (pa_cons (pe_ix (ixL (K := K) rfl) (pe_ix (ixL (K := K) rfl) (pv 0) (pv 2) (fun _ _ => rfl)) (pv 3) (fun _ _ => rfl)) (pa_cons (pv 2) (pa_cons (pv 3) pa_nil)))))) pss_nil)))))
      (pss_one (ps_ret (pv 1)))), ?_⟩
    have hle := ok.le
    have hpos := ok.pos
    have hd0 : dist (table sv) 0 0 = 0 := by rw [dist_eq hpos hpos, far_self ok hpos]
    refine ⟨by show 3 ≤ sizeLine; decide, fun q0 hq0 => ?_⟩
    have s0 : Same H (upd H q0 (.tup [.int 0, .int 0, .int 0])) := (Same.refl H).add hq0
    refine ⟨_, rfl, t, _, rfl, .inl (SqL.of (s0 _ _ ht)), _, rfl, by omega, by rw [List.length_map]; omega, for_range (lo := 0) (n := ((rows.map V.ref).length : Int).toNat)
      (fun i σ H' => ∃ (q : Addr) (x2 x3 : Option V), σ = [some (.ref t), some (.ref q), x2, x3] ∧ Same H H' ∧ H' q = some (.tup (wideV sv (wideT sv (prs sv.length i))))) ⟨q0, none, none, rfl, s0, ?_⟩ ?_ ?_⟩
    · rw [upd_same, prs_zero]
      show _ = some (HO.tup [.int (dist (table sv) 0 0 : Nat), .int ((0 : Nat) : Int), .int ((0 : Nat) : Int)])
      rw [hd0]; rfl
    · rintro i σ H1 hi ⟨q, x2, x3, rfl, s1, hq⟩
      have hi : i < sv.length := by rw [Int.toNat_natCast, List.length_map, hl] at hi; exact hi
      have ez : (0 : Int) + (i : Nat) = ((i : Nat) : Int) := by omega
      rw [ez]
      have en : (((rows.map V.ref).length : Int) - ((i : Nat) + 1)).toNat = sv.length - (i + 1) := by rw [List.length_map, hl]; omega
      have eA := prs_succ sv.length i
      rw [above_eq hi, List.map_map] at eA
      refine ⟨_, rfl, _, _, rfl, rfl, _, rfl, t, _, rfl, .inl (SqL.of (s1 _ _ ht)), _, _, rfl, ⟨by omega, by omega, by omega, by rw [List.length_map]; omega⟩, for_range (lo := (i : Nat) + 1) (n := (((rows.map V.ref).length : Int) - ((i : Nat) + 1)).toNat)
        (fun j σ H' => ∃ (q : Addr) (x3 : Option V), σ = [some (.ref t), some (.ref q), some (.int (i : Nat)), x3] ∧ Same H H' ∧ H' q = some (.tup (wideV sv (wideT sv (prs sv.length i ++ (List.range j).map fun m => (i, i + 1 + m)))))) ⟨q, x3, rfl, s1, by rw [List.range_zero, List.map_nil, List.append_nil]; exact hq⟩ ?_ ?_⟩
      · rintro j σ H2 hj ⟨q, x3, rfl, s2, hq⟩
        rw [en] at hj
        have ew : ((i : Nat) : Int) + 1 + (j : Nat) = ((i + 1 + j : Nat) : Int) := by omega
        rw [ew]
        have hw : i + 1 + j < sv.length := by omega
        obtain ⟨rw', hrw⟩ : ∃ a, rows[i]? = some a := ⟨_, List.getElem?_eq_getElem (by omega)⟩
        have hro : H2 rw' = some (.lst (natsV (rowN sv i))) := by rw [← rowV_N]; exact s2 _ _ (hrow i rw' hrw)
        have hrp : (rowN sv i)[i + 1 + j]? = some (far sv i (i + 1 + j)) := by simp [rowN, hw]
        have hpr : prs sv.length i ++ (List.range (j + 1)).map (fun m => (i, i + 1 + m)) = (prs sv.length i ++ (List.range j).map fun m => (i, i + 1 + m)) ++ [(i, i + 1 + j)] := by rw [List.range_succ, List.map_append, List.append_assoc]; rfl
        generalize prs sv.length i ++ (List.range j).map (fun m => (i, i + 1 + m)) = L at hq hpr
        have hst := wideT_snoc sv L (i, i + 1 + j)
        rw [← hpr] at hst
        have hdd : dist (table sv) i (i + 1 + j) = far sv i (i + 1 + j) := dist_eq hi hw
        refine ⟨_, rfl, _, rfl, t, _, _, _, rfl, rfl, SqL.of (s2 _ _ ht), at_of (j := i) rfl (by rw [List.getElem?_map, hrw]; rfl), _, rfl, rw', _, _, _, rfl, rfl, SqL.of hro, at_of (j := i + 1 + j) rfl (natsV_at hrp), _, rfl, q, _, _, _, rfl, rfl, SqT.of hq, at_of (j := 0) rfl rfl, _, _, rfl, rfl, _, rfl, ?_⟩
        refine ite2 (fun hc => ?_) (fun hc => ?_)
        · have hc : dist (table sv) (wideT sv L).1 (wideT sv L).2 < far sv i (i + 1 + j) := by simp only [decide_eq_true_eq] at hc; omega
          refine ⟨_, rfl, _, rfl, t, _, _, _, rfl, rfl, SqL.of (s2 _ _ ht), at_of (j := i) rfl (by rw [List.getElem?_map, hrw]; rfl), _, rfl, rw', _, _, _, rfl, rfl, SqL.of hro, at_of (j := i + 1 + j) rfl (natsV_at hrp), _, rfl, _, rfl, by show 3 ≤ sizeLine; decide, fun q2 hq2 => ?_⟩
          refine ⟨q2, _, rfl, s2.add hq2, ?_⟩
          rw [upd_same, hst, if_pos (by rw [hdd]; exact hc)]
          unfold wideV
          rw [hdd]
        · have hc : ¬ dist (table sv) (wideT sv L).1 (wideT sv L).2 < far sv i (i + 1 + j) := by simp only [decide_eq_true_eq] at hc; omega
          refine ⟨q, _, rfl, s2, ?_⟩
          rw [hst, if_neg (by rw [hdd]; exact hc)]
          exact hq
      · rintro σ H2 ⟨q, x3, rfl, s2, hq⟩
        rw [en] at hq
        refine ⟨q, _, _, rfl, s2, ?_⟩
        rw [eA]
        exact hq
    · rintro σ H1 ⟨q, x2, x3, rfl, s1, hq⟩
      rw [Int.toNat_natCast, List.length_map, hl] at hq
      refine ⟨_, rfl, k H1 q s1 ?_⟩
      rw [hq, widest_max, table_length]
      rfl
end
end VR
end
section
set_option Elab.async false
set_option linter.all false
set_option maxRecDepth 100000
set_option maxHeartbeats 4000000
namespace VR
open PySem PySem.Spec PyProof.Rows L2 Vp
open Km457 (Valley at_ far)
open Km458 (table dist Sea Desk Call act near)
abbrev sMoreA : Stmt := top 57
abbrev sOutA : Stmt := top 58
abbrev sNearA : Stmt := top 59
abbrev sWorstA : Stmt := top 60
abbrev sIdleA : Stmt := top 61
abbrev sServA : Stmt := top 62
abbrev sWideA : Stmt := top 63
abbrev sLookA : Stmt := top 64
abbrev sPostsA : Stmt := top 65
section
variable {P : Program} {w : World} {K : PySem.W.Frag} {mg : Str → Option Value} {base : Heap} {C : Addr} {N : List Str} {T : List Tb}
theorem scMoreA : FnScope ["valley", "given"] ["valley", "given"] (defScope sMoreA) := ⟨rfl, rfl, rfl, by decide +kernel, rfl, by decide +kernel, by decide +kernel⟩
def cAdd (as : List Nat) : Call := .add (as.getD 0 0)
theorem ok_moreA {f fB fF : Addr} {fd fdB fdF : FuncData} (F : Fun K "more_posts" "more_posts" sMoreA f fd) (X : TxtC K mg C N) (hb : ("balls" : Str) ∉ N) (hpo : ("posts" : Str) ∈ N) (G : Bare mg)
    (GB : FnOk P w K mg base CX0 4 fB fdB ["self", "r"] (spBallsM C N)) (mB : Meth K C "balls" fB) (bB : Binds K fdB ["self", "r"] [])
    (GF : FnOk P w K mg base CX0 4 fF fdF ["balls", "posts"] (spMore K T)) (mF : mg "fewest_more" = some (.ref fF)) (kF : PySem.W.keepIn K (.ref fF) = true) (bF : Binds K fdF ["balls", "posts"] []) :
    FnOk P w K mg base CX0 5 f fd ["valley", "given"] (spAsk K T C N 1 cAdd) := by
  refine F.ok scMoreA (fun vs H Q E h => ?_) (fun cdv A outer s H vs Q E hr h => ?_)
  · obtain ⟨x, g, fs, d, as, rfl, _⟩ := h
    rfl
  · obtain ⟨x, g, fs, d, as, rfl, S, D, hg, hlen, hT, k⟩ := h
    obtain ⟨r, rfl⟩ := len1 hlen
    obtain ⟨hN, dx, hx⟩ := id S.ins
    have hbk : fs.lookup ("balls" : Str) = none := lookup_out (by rw [hN]; exact hb)
    refine ⟨_, pss_one (ps_ret (pe_callTy call_list_of (by rfl) G.lst (by decide +kernel) (pa_cons (pe_call GF hr rfl mF kF bF .nil pass0 (pa_cons (pe_meth (pv 0) X.cl mB GB hr bB .nil pass0 (pa_cons (pe_ix ix_list (pv 1) pe_int (fun _ _ => rfl)) pa_nil)) (pa_cons (pe_fld (pv 0) rfl) pa_nil))) pa_nil))), ?_⟩
    refine ⟨_, rfl, x, dx, fs, rfl, hx, hbk, _, rfl, g, _, _, _, rfl, rfl, hg, at0, x, fs, d.now, r, rfl, S, D.now.v, fun H1 p s1 hp hl1 => ?_⟩
    have k1 : Kp T H H1 := s1.kp
    refine ⟨_, rfl, x, C, dx, fs, _, rfl, s1 _ _ hx, X.cl, X.no _ hpo, S.posts, p, d.now.valley, r, d.now.posts, rfl, SqL.of hl1, D.now.v, D.now.lt, k1.tabs hT, fun H2 q k2 hT2 hq hl2 => ?_⟩
    refine ⟨q, _, rfl, .inr (SqT.of hl2), tell (k1.trans k2) hT k ?_⟩
    have e : (act d (cAdd [r])).2 = ⟨((Km458.add (table d.now.valley) r d.now.posts).length : Nat), [msk (Km458.add (table d.now.valley) r d.now.posts)]⟩ := by
      show (⟨(((Km458.add (table d.now.valley) r d.now.posts).length : Nat) : Int), [Km458.bits (Km458.add (table d.now.valley) r d.now.posts)]⟩ : Km458.Ans) = _
      rw [bits_msk (add_nodup _ _ _)]
    rw [e]; rfl
theorem scOutA : FnScope ["valley", "given", "villages"] ["valley", "given"] (defScope sOutA) := ⟨rfl, rfl, rfl, by decide +kernel, rfl, by decide +kernel, by decide +kernel⟩
def cWithin (as : List Nat) : Call := .within (as.getD 0 0)
theorem ok_outA {f fB fU : Addr} {fd fdB fdU : FuncData} (F : Fun K "out_of_reach" "out_of_reach" sOutA f fd) (X : TxtC K mg C N) (hb : ("balls" : Str) ∉ N) (hpo : ("posts" : Str) ∈ N)
    (GB : FnOk P w K mg base CX0 4 fB fdB ["self", "r"] (spBallsM C N)) (mB : Meth K C "balls" fB) (bB : Binds K fdB ["self", "r"] [])
    (GU : FnOk P w K mg base CX0 3 fU fdU ["balls", "posts"] (spUns K)) (mU : mg "unserved" = some (.ref fU)) (kU : PySem.W.keepIn K (.ref fU) = true) (bU : Binds K fdU ["balls", "posts"] []) :
    FnOk P w K mg base CX0 5 f fd ["valley", "given"] (spAsk K T C N 1 cWithin) := by
  refine F.ok scOutA (fun vs H Q E h => ?_) (fun cdv A outer s H vs Q E hr h => ?_)
  · obtain ⟨x, g, fs, d, as, rfl, _⟩ := h
    rfl
  · obtain ⟨x, g, fs, d, as, rfl, S, D, hg, hlen, hT, k⟩ := h
    obtain ⟨r, rfl⟩ := len1 hlen
    obtain ⟨hN, dx, hx⟩ := id S.ins
    have hbk : fs.lookup ("balls" : Str) = none := lookup_out (by rw [hN]; exact hb)
    have hr3 : Room 3 _ := hr.mono (by decide)
    refine ⟨_, pss_cons (ps_set (i := 2) scOutA.nd rfl (Or.inl rfl) (pe_call GU hr3 rfl mU kU bU .nil pass0 (pa_cons (pe_meth (pv 0) X.cl mB GB hr bB .nil pass0 (pa_cons (pe_ix ix_list (pv 1) pe_int (fun _ _ => rfl)) pa_nil)) (pa_cons (pe_fld (pv 0) rfl) pa_nil))))
      (pss_one (ps_ret (pe_lst (pa_cons (pe_ifExp (pt_cmpR op_eq (pv 2) pe_int (nomark _)) pe_int pe_int) (pa_cons (pv 2) pa_nil))))), ?_⟩
    have hle := D.now.v.le
    have hB10 : (ballsOf (table d.now.valley) r).length ≤ 10 := by rw [ballsOf_length, table_length]; exact hle
    refine ⟨_, rfl, x, dx, fs, rfl, hx, hbk, _, rfl, g, _, _, _, rfl, rfl, hg, at0, x, fs, d.now, r, rfl, S, D.now.v, fun H1 p s1 hp hl1 => ?_⟩
    have k1 : Kp T H H1 := s1.kp
    refine ⟨_, rfl, x, C, dx, fs, _, rfl, s1 _ _ hx, X.cl, X.no _ hpo, S.posts, p, _, msk d.now.posts, rfl, SqL.of hl1, hB10, ?_⟩
    have hps : ∀ p ∈ d.now.posts, p < (table d.now.valley).length := by rw [table_length]; exact D.now.lt
    have eu : (2 ^ (ballsOf (table d.now.valley) r).length - 1) ^^^ psv (ballsOf (table d.now.valley) r) (msk d.now.posts) = msk ((List.range (table d.now.valley).length).filter fun v => !Km458.served (table d.now.valley) r d.now.posts v) := by
      rw [msk_unserved hps, ballsOf_length, psv_msk (by rw [ballsOf_length]; exact hps)]
    rw [eu]
    have ea : (act d (cWithin [r])).2 = ⟨((Km458.bit (((List.range (table d.now.valley).length).filter fun v => !Km458.served (table d.now.valley) r d.now.posts v) == []) : Nat) : Int), [msk ((List.range (table d.now.valley).length).filter fun v => !Km458.served (table d.now.valley) r d.now.posts v)]⟩ := by
      rw [← bits_msk (List.nodup_range.filter _)]; rfl
    generalize ((List.range (table d.now.valley).length).filter fun v => !Km458.served (table d.now.valley) r d.now.posts v) = L at ea
    refine ⟨_, rfl, rfl, _, rfl, ?_⟩
    rw [show (V.int 0) = V.int ((0 : Nat) : Int) from rfl, int_eq]
    refine ite2 (fun hc => ?_) (fun hc => ?_)
    · have hc := msk_zero.mp (of_decide_eq_true hc)
      refine ⟨_, rfl, by show 2 ≤ sizeLine; decide, tell k1 hT k ?_⟩
      rw [ea, hc]; rfl
    · have hc : L ≠ [] := fun z => hc (decide_eq_true (msk_zero.mpr z))
      refine ⟨_, rfl, by show 2 ≤ sizeLine; decide, tell k1 hT k ?_⟩
      have eb : (L == []) = false := beq_eq_false_iff_ne.mpr hc
      rw [ea, eb]; rfl
theorem scNearA : FnScope ["valley", "given", "v", "found"] ["valley", "given"] (defScope sNearA) := ⟨rfl, rfl, rfl, by decide +kernel, rfl, by decide +kernel, by decide +kernel⟩
def cNear (as : List Nat) : Call := .near (as.getD 0 0)
theorem ok_nearA {f fL fT fN : Addr} {fd fdL fdT fdN : FuncData} (F : Fun K "nearest_post" "nearest_post" sNearA f fd) (X : TxtC K mg C N) (hl : ("lacks" : Str) ∉ N) (ht : ("table" : Str) ∉ N) (hpo : ("posts" : Str) ∈ N) (M : Nums mg)
    (GL : FnOk P w K mg base CX0 1 fL fdL ["self", "v"] (spLacks C N)) (mL : Meth K C "lacks" fL) (bL : Binds K fdL ["self", "v"] [])
    (GT : FnOk P w K mg base CX0 3 fT fdT ["self"] (spTable C N)) (mT : Meth K C "table" fT) (bT : Binds K fdT ["self"] [])
    (GN : FnOk P w K mg base CX0 2 fN fdN ["row", "posts"] (spNear K)) (mN : mg "nearest" = some (.ref fN)) (kN : PySem.W.keepIn K (.ref fN) = true) (bN : Binds K fdN ["row", "posts"] []) :
    FnOk P w K mg base CX0 4 f fd ["valley", "given"] (spAsk K T C N 1 cNear) := by
  refine F.ok scNearA (fun vs H Q E h => ?_) (fun cdv A outer s H vs Q E hr h => ?_)
  · obtain ⟨x, g, fs, d, as, rfl, _⟩ := h
    rfl
  · obtain ⟨x, g, fs, d, as, rfl, S, D, hg, hlen, hT, k⟩ := h
    obtain ⟨v, rfl⟩ := len1 hlen
    obtain ⟨tk, hNT⟩ := M.notThere
    obtain ⟨tn, hNP⟩ := M.noPosts
    obtain ⟨hN, dx, hx⟩ := id S.ins
    have hlk : fs.lookup ("lacks" : Str) = none := lookup_out (by rw [hN]; exact hl)
    have htk : fs.lookup ("table" : Str) = none := lookup_out (by rw [hN]; exact ht)
    have hr1 : Room 1 _ := hr.mono (by decide)
    have hr2 : Room 2 _ := hr.mono (by decide)
    refine ⟨_, pss_cons (ps_set (i := 2) scNearA.nd rfl (Or.inl rfl) (pe_ix ix_list (pv 1) pe_int (fun _ _ => rfl)))
      (pss_cons (ps_if (pt_val (pe_meth (pv 0) X.cl mL GL hr1 bL .nil pass0 (pa_cons (pv 2) pa_nil))) (pss_one (ps_ret (pe_lst (pa_cons (pe_glob rfl hNT (v := .int (-2)) ⟨_, rfl⟩) pa_nil)))) pss_nil)
      (pss_cons (ps_if (pt_cmpR op_eq (pe_fld (pv 0) rfl) pe_int (nomark _)) (pss_one (ps_ret (pe_lst (pa_cons (pe_glob rfl hNP (v := .int (-6)) ⟨_, rfl⟩) pa_nil)))) pss_nil)
      (pss_cons (ps_set (i := 3) scNearA.nd rfl (Or.inl rfl) (pe_call GN hr2 rfl mN kN bN .nil pass0 (pa_cons (pe_ix ix_list (pe_meth0 (pv 0) X.cl mT GT hr bT .nil pass0) (pv 2) (fun _ _ => rfl)) (pa_cons (pe_fld (pv 0) rfl) pa_nil))))
      (pss_one (ps_ret (pe_lst (pa_cons (pe_ix ix_tup (pv 3) pe_int (fun _ _ => rfl)) (pa_cons (pe_ix ix_tup (pv 3) pe_int (fun _ _ => rfl)) pa_nil)))))))), ?_⟩
    have ea0 : (act d (cNear [v])).2 = if d.now.valley.length ≤ v then Km458.only (-2) else match near (table d.now.valley) d.now.posts v with
      | none => Km458.only (-6)
      | some x => ⟨((x.1 : Nat) : Int), [x.2]⟩ := rfl
    refine ⟨_, rfl, g, _, _, _, rfl, rfl, hg, at0, ?_⟩
    refine ⟨_, rfl, x, dx, fs, rfl, hx, hlk, _, rfl, x, fs, d.now, v, rfl, S, _, rfl, ?_⟩
    refine ite2 (fun hc => ?_) (fun hc => ?_)
    · refine ⟨by show 1 ≤ sizeLine; decide, tell (Kp.refl T H) hT k ?_⟩
      rw [ea0, if_pos (of_decide_eq_true hc)]; rfl
    have hc : ¬ d.now.valley.length ≤ v := fun z => hc (decide_eq_true z)
    rw [if_neg hc] at ea0
    refine ⟨_, rfl, x, C, dx, fs, _, rfl, hx, X.cl, X.no _ hpo, S.posts, rfl, _, rfl, ?_⟩
    rw [show (V.int 0) = V.int ((0 : Nat) : Int) from rfl, int_eq]
    refine ite2 (fun hc2 => ?_) (fun hc2 => ?_)
    · refine ⟨by show 1 ≤ sizeLine; decide, tell (Kp.refl T H) hT k ?_⟩
      have hc2 := msk_zero.mp (of_decide_eq_true hc2)
      rw [ea0, near_none.mpr hc2]; rfl
    have hne : d.now.posts ≠ [] := fun z => hc2 (decide_eq_true (msk_zero.mpr z))
    have ok := D.now.v
    have hle := ok.le
    have hv : v < d.now.valley.length := by omega
    refine ⟨_, rfl, x, dx, fs, rfl, hx, htk, x, fs, d.now, rfl, S, ok, fun H1 t s1 ⟨rows, h1, h2, h3⟩ hn => ?_⟩
    obtain ⟨rw', hrw⟩ : ∃ a, rows[v]? = some a := ⟨_, List.getElem?_eq_getElem (by omega)⟩
    refine ⟨_, rfl, t, _, _, _, rfl, rfl, SqL.of h1, at_of (j := v) rfl (by rw [List.getElem?_map, hrw]; rfl), _, rfl, x, C, dx, fs, _, rfl, s1 _ _ hx, X.cl, X.no _ hpo, S.posts, rw', rowN d.now.valley v, msk d.now.posts, rfl, SqL.of (by rw [← rowV_N]; exact h3 v rw' hrw), by rw [rowN_len]; exact hle, has_some D.now.lt hne v, fun H2 q u s2 hq hND => ?_⟩
    obtain ⟨n1, n2⟩ := near_of ok D.now.lt hv hND
    refine ⟨_, rfl, q, _, _, _, rfl, rfl, SqT.of hq, at_of (j := 1) rfl rfl, _, rfl, q, _, _, _, rfl, rfl, SqT.of hq, at_of (j := 0) rfl rfl, by show 2 ≤ sizeLine; decide, tell (s1.trans s2).kp hT k ?_⟩
    rw [ea0, n1, rowN_get n2]; rfl
theorem scWorstA : FnScope ["valley", "given", "found"] ["valley", "given"] (defScope sWorstA) := ⟨rfl, rfl, rfl, by decide +kernel, rfl, by decide +kernel, by decide +kernel⟩
theorem first_fold {n : Nat} {f : Nat → Nat} {i : Nat} (hi : i < n) (h : ∀ j, j < n → f j ≤ f i ∧ (j < i → f j < f i)) : (List.range n).foldl (fun (a x : Nat) => if f a < f x then x else a) 0 = i := by
  have key : ∀ m, m ≤ n → ((List.range m).foldl (fun (a x : Nat) => if f a < f x then x else a) 0 < m ∨ (List.range m).foldl (fun (a x : Nat) => if f a < f x then x else a) 0 = 0) ∧ (i < m → (List.range m).foldl (fun (a x : Nat) => if f a < f x then x else a) 0 = i) := by
    intro m
    induction m with
    | zero => intro _; exact ⟨.inr rfl, fun z => absurd z (Nat.not_lt_zero _)⟩
    | succ m ih =>
      intro hm
      obtain ⟨a1, a2⟩ := ih (by omega)
      rw [List.range_succ, List.foldl_append]
      generalize (List.range m).foldl (fun (a x : Nat) => if f a < f x then x else a) 0 = b at a1 a2
      show ((if f b < f m then m else b) < m + 1 ∨ (if f b < f m then m else b) = 0) ∧ (i < m + 1 → (if f b < f m then m else b) = i)
      by_cases c : f b < f m
      · rw [if_pos c]
        refine ⟨.inl (by omega), fun z => ?_⟩
        by_cases y : i < m
        · have e := a2 y
          have := (h m (by omega)).1
          rw [e] at c; omega
        · omega
      · rw [if_neg c]
        refine ⟨by omega, fun z => ?_⟩
        by_cases y : i < m
        · exact a2 y
        · have e : i = m := by omega
          subst e
          by_cases x : b < i
          · have := (h b (by omega)).2 x
            omega
          · omega
  exact (key n (Nat.le_refl _)).2 hi
theorem ok_worstA {f fT fW : Addr} {fd fdT fdW : FuncData} (F : Fun K "worst_village" "worst_village" sWorstA f fd) (X : TxtC K mg C N) (ht : ("table" : Str) ∉ N) (hpo : ("posts" : Str) ∈ N) (M : Nums mg)
    (GT : FnOk P w K mg base CX0 3 fT fdT ["self"] (spTable C N)) (mT : Meth K C "table" fT) (bT : Binds K fdT ["self"] [])
    (GW : FnOk P w K mg base CX0 3 fW fdW ["table", "posts"] (spWorst K)) (mW : mg "worst" = some (.ref fW)) (kW : PySem.W.keepIn K (.ref fW) = true) (bW : Binds K fdW ["table", "posts"] []) :
    FnOk P w K mg base CX0 4 f fd ["valley", "given"] (spAsk K T C N 0 fun _ => .worst) := by
  refine F.ok scWorstA (fun vs H Q E h => ?_) (fun cdv A outer s H vs Q E hr h => ?_)
  · obtain ⟨x, g, fs, d, as, rfl, _⟩ := h
    rfl
  · obtain ⟨x, g, fs, d, as, rfl, S, D, hg, hlen, hT, k⟩ := h
    obtain ⟨tn, hNP⟩ := M.noPosts
    obtain ⟨hN, dx, hx⟩ := id S.ins
    have htk : fs.lookup ("table" : Str) = none := lookup_out (by rw [hN]; exact ht)
    refine ⟨_, pss_cons (ps_if (pt_cmpR op_eq (pe_fld (pv 0) rfl) pe_int (nomark _)) (pss_one (ps_ret (pe_lst (pa_cons (pe_glob rfl hNP (v := .int (-6)) ⟨_, rfl⟩) pa_nil)))) pss_nil)
      (pss_cons (ps_set (i := 2) scWorstA.nd rfl (Or.inl rfl) (pe_call GW hr rfl mW kW bW .nil pass0 (pa_cons (pe_meth0 (pv 0) X.cl mT GT hr bT .nil pass0) (pa_cons (pe_fld (pv 0) rfl) pa_nil))))
      (pss_one (ps_ret (pe_lst (pa_cons (pe_ix ix_tup (pv 2) pe_int (fun _ _ => rfl)) (pa_cons (pe_ix ix_tup (pv 2) pe_int (fun _ _ => rfl)) pa_nil)))))), ?_⟩
    have ea0 : (act d .worst).2 = if d.now.posts = [] then Km458.only (-6) else
      ⟨(((List.range (table d.now.valley).length).foldl (fun (a x : Nat) => if ((List.range (table d.now.valley).length).map (nearD d.now.valley d.now.posts)).getD a 0 < ((List.range (table d.now.valley).length).map (nearD d.now.valley d.now.posts)).getD x 0 then x else a) 0 : Nat) : Int),
        [((List.range (table d.now.valley).length).map (nearD d.now.valley d.now.posts)).getD ((List.range (table d.now.valley).length).foldl (fun (a x : Nat) => if ((List.range (table d.now.valley).length).map (nearD d.now.valley d.now.posts)).getD a 0 < ((List.range (table d.now.valley).length).map (nearD d.now.valley d.now.posts)).getD x 0 then x else a) 0) 0]⟩ := rfl
    refine ⟨_, rfl, x, C, dx, fs, _, rfl, hx, X.cl, X.no _ hpo, S.posts, rfl, _, rfl, ?_⟩
    rw [show (V.int 0) = V.int ((0 : Nat) : Int) from rfl, int_eq]
    refine ite2 (fun hc2 => ?_) (fun hc2 => ?_)
    · refine ⟨by show 1 ≤ sizeLine; decide, tell (Kp.refl T H) hT k ?_⟩
      rw [ea0, if_pos (msk_zero.mp (of_decide_eq_true hc2))]; rfl
    have hne : d.now.posts ≠ [] := fun z => hc2 (decide_eq_true (msk_zero.mpr z))
    rw [if_neg hne] at ea0
    have ok := D.now.v
    refine ⟨_, rfl, x, dx, fs, rfl, hx, htk, x, fs, d.now, rfl, S, ok, fun H1 t s1 htv hn => ?_⟩
    refine ⟨_, rfl, x, C, dx, fs, _, rfl, s1 _ _ hx, X.cl, X.no _ hpo, S.posts, t, d.now.valley, d.now.posts, rfl, htv, ok, D.now.lt, hne, fun H2 q i s2 hi hmax hq => ?_⟩
    refine ⟨_, rfl, q, _, _, _, rfl, rfl, SqT.of hq, at_of (j := 1) rfl rfl, _, rfl, q, _, _, _, rfl, rfl, SqT.of hq, at_of (j := 0) rfl rfl, by show 2 ≤ sizeLine; decide, tell (s1.trans s2).kp hT k ?_⟩
    have hg : ∀ j, j < d.now.valley.length → ((List.range (table d.now.valley).length).map (nearD d.now.valley d.now.posts)).getD j 0 = nearD d.now.valley d.now.posts j := fun j hj => by
      rw [table_length]; simp [List.getD_eq_getElem?_getD, hj]
    have hf := first_fold (f := fun j => ((List.range (table d.now.valley).length).map (nearD d.now.valley d.now.posts)).getD j 0) (n := (table d.now.valley).length) (i := i) (by rw [table_length]; exact hi) (fun j hj => by
      rw [table_length] at hj
      rw [hg j hj, hg i hi]; exact hmax j hj)
    rw [ea0, hf, hg i hi]
    rfl
theorem scIdleA : FnScope ["valley", "given", "balls"] ["valley", "given"] (defScope sIdleA) := ⟨rfl, rfl, rfl, by decide +kernel, rfl, by decide +kernel, by decide +kernel⟩
def cIdle (as : List Nat) : Call := .idle (as.getD 0 0)
theorem serve_dec' {s : Valley} {r : Nat} {ps : List Nat} (hps : ∀ p ∈ ps, p < s.length) : (psv (ballsOf (table s) r) (msk ps) = 2 ^ (ballsOf (table s) r).length - 1) ↔ Km458.serves (table s) r ps (List.range (table s).length) = true := by
  rw [ballsOf_length, psv_msk (by rw [ballsOf_length, table_length]; exact hps)]
  exact (serves_iff (by rw [table_length]; exact hps)).symm
theorem nodup_same_len {a b : List Nat} (ha : a.Nodup) (hb : b.Nodup) (h : ∀ i, i ∈ a ↔ i ∈ b) : a.length = b.length := by
  have e : msk a = msk b := msk_ext h
  have := pc_msk ha
  rw [e, pc_msk hb] at this
  exact this.symm
theorem ok_idleA {f fB fV fI fM : Addr} {fd fdB fdV fdI fdM : FuncData} (F : Fun K "idle_posts" "idle_posts" sIdleA f fd) (X : TxtC K mg C N) (hb : ("balls" : Str) ∉ N) (hpo : ("posts" : Str) ∈ N) (M : Nums mg)
    (GB : FnOk P w K mg base CX0 4 fB fdB ["self", "r"] (spBallsM C N)) (mB : Meth K C "balls" fB) (bB : Binds K fdB ["self", "r"] [])
    (GV : FnOk P w K mg base CX0 4 fV fdV ["balls", "posts"] (spServe K)) (mV : mg "serve_all" = some (.ref fV)) (kV : PySem.W.keepIn K (.ref fV) = true) (bV : Binds K fdV ["balls", "posts"] [])
    (GI : FnOk P w K mg base CX0 5 fI fdI ["balls", "posts"] (spIdle K)) (mI : mg "idle" = some (.ref fI)) (kI : PySem.W.keepIn K (.ref fI) = true) (bI : Binds K fdI ["balls", "posts"] [])
    (GM : FnOk P w K mg base CX0 2 fM fdM ["villages"] spCounted) (mM : mg "counted" = some (.ref fM)) (kM : PySem.W.keepIn K (.ref fM) = true) (bM : Binds K fdM ["villages"] []) :
    FnOk P w K mg base CX0 6 f fd ["valley", "given"] (spAsk K T C N 1 cIdle) := by
  refine F.ok scIdleA (fun vs H Q E h => ?_) (fun cdv A outer s H vs Q E hr h => ?_)
  · obtain ⟨x, g, fs, d, as, rfl, _⟩ := h
    rfl
  · obtain ⟨x, g, fs, d, as, rfl, S, D, hg, hlen, hT, k⟩ := h
    obtain ⟨r, rfl⟩ := len1 hlen
    obtain ⟨tc, hCB⟩ := M.cannot
    obtain ⟨hN, dx, hx⟩ := id S.ins
    have hbk : fs.lookup ("balls" : Str) = none := lookup_out (by rw [hN]; exact hb)
    have hr4 : Room 4 _ := hr.mono (by decide)
    have hr2 : Room 2 _ := hr.mono (by decide)
    refine ⟨_, pss_cons (ps_set (i := 2) scIdleA.nd rfl (Or.inl rfl) (pe_meth (pv 0) X.cl mB GB hr4 bB .nil pass0 (pa_cons (pe_ix ix_list (pv 1) pe_int (fun _ _ => rfl)) pa_nil)))
      (pss_cons (ps_if (pt_not (pt_val (pe_call GV hr4 rfl mV kV bV .nil pass0 (pa_cons (pv 2) (pa_cons (pe_fld (pv 0) rfl) pa_nil))))) (pss_one (ps_ret (pe_lst (pa_cons (pe_glob rfl hCB (v := .int (-33)) ⟨_, rfl⟩) pa_nil)))) pss_nil)
      (pss_one (ps_ret (pe_call GM hr2 rfl mM kM bM .nil pass0 (pa_cons (pe_call GI hr rfl mI kI bI .nil pass0 (pa_cons (pv 2) (pa_cons (pe_fld (pv 0) rfl) pa_nil))) pa_nil))))), ?_⟩
    have ok := D.now.v
    have hle := ok.le
    have hps := D.now.lt
    have hB10 : (ballsOf (table d.now.valley) r).length ≤ 10 := by rw [ballsOf_length, table_length]; exact hle
    have ea0 : (act d (cIdle [r])).2 = if Km458.serves (table d.now.valley) r d.now.posts (List.range (table d.now.valley).length) = false then Km458.only (-33) else
      ⟨(((d.now.posts.filter fun p => Km458.serves (table d.now.valley) r (d.now.posts.filter fun q => q != p) (List.range (table d.now.valley).length)).length : Nat) : Int), [Km458.bits (d.now.posts.filter fun p => Km458.serves (table d.now.valley) r (d.now.posts.filter fun q => q != p) (List.range (table d.now.valley).length))]⟩ := rfl
    refine ⟨_, rfl, x, dx, fs, rfl, hx, hbk, _, rfl, g, _, _, _, rfl, rfl, hg, at0, x, fs, d.now, r, rfl, S, ok, fun H1 p s1 hp hl1 => ?_⟩
    have k1 : Kp T H H1 := s1.kp
    refine ⟨_, rfl, _, rfl, x, C, dx, fs, _, rfl, s1 _ _ hx, X.cl, X.no _ hpo, S.posts, p, _, msk d.now.posts, rfl, SqL.of hl1, hB10, _, rfl, ?_⟩
    by_cases hc : Km458.serves (table d.now.valley) r d.now.posts (List.range (table d.now.valley).length) = true
    · rw [decide_eq_true ((serve_dec' hps).mpr hc)]
      refine goF rfl ?_
      rw [if_neg (by rw [hc]; decide)] at ea0
      refine ⟨_, rfl, _, rfl, x, C, dx, fs, _, rfl, s1 _ _ hx, X.cl, X.no _ hpo, S.posts, p, _, msk d.now.posts, rfl, SqL.of hl1, hB10, fun H2 s2 => ?_⟩
      refine ⟨_, rfl, tell (s1.trans s2).kp hT k ?_⟩
      have hm : ∀ i, i ∈ (List.range (ballsOf (table d.now.valley) r).length).filter (idleP (ballsOf (table d.now.valley) r) (msk d.now.posts)) ↔ i ∈ d.now.posts.filter fun p => Km458.serves (table d.now.valley) r (d.now.posts.filter fun q => q != p) (List.range (table d.now.valley).length) := by
        intro i
        rw [List.mem_filter, List.mem_filter, List.mem_range, ballsOf_length, table_length]
        unfold idleP
        rw [Bool.and_eq_true, testBit_msk, decide_eq_true_eq, decide_eq_true_eq]
        have hser : ∀ i, i ∈ d.now.posts → ((psv (ballsOf (table d.now.valley) r) (msk d.now.posts ^^^ 2 ^ i) = 2 ^ (ballsOf (table d.now.valley) r).length - 1) ↔ Km458.serves (table d.now.valley) r (d.now.posts.filter fun q => q != i) (List.range (table d.now.valley).length) = true) := fun i hi => by
          rw [← msk_erase hi]
          exact serve_dec' fun p hp => hps p (List.mem_filter.mp hp).1
        constructor
        · rintro ⟨_, h1, h2⟩
          exact ⟨h1, by have := (hser i h1).mp h2; rw [table_length] at this; exact this⟩
        · rintro ⟨h1, h2⟩
          exact ⟨hps i h1, h1, (hser i h1).mpr (by rw [table_length]; exact h2)⟩
      have n1 : ((List.range (ballsOf (table d.now.valley) r).length).filter (idleP (ballsOf (table d.now.valley) r) (msk d.now.posts))).Nodup := List.nodup_range.filter _
      have n2 : (d.now.posts.filter fun p => Km458.serves (table d.now.valley) r (d.now.posts.filter fun q => q != p) (List.range (table d.now.valley).length)).Nodup := D.now.nd.filter _
      rw [ea0, bits_msk n2, pc_msk n1, nodup_same_len n1 n2 hm, msk_ext hm]
      rfl
    · have hc' : Km458.serves (table d.now.valley) r d.now.posts (List.range (table d.now.valley).length) = false := by simpa using hc
      rw [decide_eq_false (fun z => hc ((serve_dec' hps).mp z))]
      refine goT rfl ⟨by show 1 ≤ sizeLine; decide, tell k1 hT k ?_⟩
      rw [ea0, if_pos hc']; rfl
theorem scServA : FnScope ["valley", "given", "p", "r"] ["valley", "given"] (defScope sServA) := ⟨rfl, rfl, rfl, by decide +kernel, rfl, by decide +kernel, by decide +kernel⟩
def cServ (as : List Nat) : Call := .serves (as.getD 0 0) (as.getD 1 0)
theorem ok_servA {f fL fH fT fS fM : Addr} {fd fdL fdH fdT fdS fdM : FuncData} (F : Fun K "served_villages" "served_villages" sServA f fd) (X : TxtC K mg C N) (hl : ("lacks" : Str) ∉ N) (hh : ("has_post" : Str) ∉ N) (ht : ("table" : Str) ∉ N) (hpo : ("posts" : Str) ∈ N) (M : Nums mg)
    (GL : FnOk P w K mg base CX0 1 fL fdL ["self", "v"] (spLacks C N)) (mL : Meth K C "lacks" fL) (bL : Binds K fdL ["self", "v"] [])
    (GH : FnOk P w K mg base CX0 2 fH fdH ["self", "v"] (spHasP C N)) (mH : Meth K C "has_post" fH) (bH : Binds K fdH ["self", "v"] [])
    (GT : FnOk P w K mg base CX0 3 fT fdT ["self"] (spTable C N)) (mT : Meth K C "table" fT) (bT : Binds K fdT ["self"] [])
    (GS : FnOk P w K mg base CX0 3 fS fdS ["table", "posts", "p", "r"] (spSBy K)) (mS : mg "served_by" = some (.ref fS)) (kS : PySem.W.keepIn K (.ref fS) = true) (bS : Binds K fdS ["table", "posts", "p", "r"] [])
    (GM : FnOk P w K mg base CX0 2 fM fdM ["villages"] spCounted) (mM : mg "counted" = some (.ref fM)) (kM : PySem.W.keepIn K (.ref fM) = true) (bM : Binds K fdM ["villages"] []) :
    FnOk P w K mg base CX0 4 f fd ["valley", "given"] (spAsk K T C N 2 cServ) := by
  refine F.ok scServA (fun vs H Q E h => ?_) (fun cdv A outer s H vs Q E hr h => ?_)
  · obtain ⟨x, g, fs, d, as, rfl, _⟩ := h
    rfl
  · obtain ⟨x, g, fs, d, as, rfl, S, D, hg, hlen, hT, k⟩ := h
    obtain ⟨p, r, rfl⟩ := len2 hlen
    obtain ⟨tk, hNT⟩ := M.notThere
    obtain ⟨hN, dx, hx⟩ := id S.ins
    have hlk : fs.lookup ("lacks" : Str) = none := lookup_out (by rw [hN]; exact hl)
    have hhk : fs.lookup ("has_post" : Str) = none := lookup_out (by rw [hN]; exact hh)
    have htk : fs.lookup ("table" : Str) = none := lookup_out (by rw [hN]; exact ht)
    have hr1 : Room 1 _ := hr.mono (by decide)
    have hr2 : Room 2 _ := hr.mono (by decide)
    refine ⟨_, pss_cons (ps_set (i := 2) scServA.nd rfl (Or.inl rfl) (pe_ix ix_list (pv 1) pe_int (fun _ _ => rfl)))
      (pss_cons (ps_set (i := 3) scServA.nd rfl (Or.inl rfl) (pe_ix ix_list (pv 1) pe_int (fun _ _ => rfl)))
      (pss_cons (ps_if (pt_val (pe_meth (pv 0) X.cl mL GL hr1 bL .nil pass0 (pa_cons (pv 2) pa_nil))) (pss_one (ps_ret (pe_lst (pa_cons (pe_glob rfl hNT (v := .int (-2)) ⟨_, rfl⟩) pa_nil)))) pss_nil)
      (pss_cons (ps_if (pt_not (pt_val (pe_meth (pv 0) X.cl mH GH hr2 bH .nil pass0 (pa_cons (pv 2) pa_nil)))) (pss_one (ps_ret (pe_lst (pa_cons pe_int (pa_cons pe_int pa_nil))))) pss_nil)
      (pss_one (ps_ret (pe_call GM hr2 rfl mM kM bM .nil pass0 (pa_cons (pe_call GS hr rfl mS kS bS .nil pass0 (pa_cons (pe_meth0 (pv 0) X.cl mT GT hr bT .nil pass0) (pa_cons (pe_fld (pv 0) rfl) (pa_cons (pv 2) (pa_cons (pv 3) pa_nil))))) pa_nil))))))), ?_⟩
    have ok := D.now.v
    have ea0 : (act d (cServ [p, r])).2 = if d.now.valley.length ≤ p then Km458.only (-2) else
      ⟨((((List.range (table d.now.valley).length).filter fun v => match near (table d.now.valley) d.now.posts v with
        | none => false
        | some x => x.1 == p && decide (x.2 ≤ r)).length : Nat) : Int), [Km458.bits ((List.range (table d.now.valley).length).filter fun v => match near (table d.now.valley) d.now.posts v with
        | none => false
        | some x => x.1 == p && decide (x.2 ≤ r))]⟩ := rfl
    refine ⟨_, rfl, g, _, _, _, rfl, rfl, hg, at0, _, rfl, g, _, _, _, rfl, rfl, hg, at1, ?_⟩
    refine ⟨_, rfl, x, dx, fs, rfl, hx, hlk, _, rfl, x, fs, d.now, p, rfl, S, _, rfl, ?_⟩
    refine ite2 (fun hc => ?_) (fun hc => ?_)
    · refine ⟨by show 1 ≤ sizeLine; decide, tell (Kp.refl T H) hT k ?_⟩
      rw [ea0, if_pos (of_decide_eq_true hc)]; rfl
    have hc : ¬ d.now.valley.length ≤ p := fun z => hc (decide_eq_true z)
    have hp : p < d.now.valley.length := by omega
    rw [if_neg hc, bits_msk (List.nodup_range.filter _)] at ea0
    have hin : ∀ v x, near (table d.now.valley) d.now.posts v = some x → x.1 ∈ d.now.posts := fun v x e => by
      by_cases z : d.now.posts = []
      · rw [near_none.mpr z] at e; cases e
      · obtain ⟨q, e1, e2⟩ := near_some (t := table d.now.valley) (v := v) z
        rw [e1] at e; cases e; exact e2.1
    refine ⟨_, rfl, x, dx, fs, rfl, hx, hhk, _, rfl, x, fs, d.now, p, rfl, S, _, rfl, ?_⟩
    cases hcp : d.now.posts.contains p with
    | false =>
      refine goT rfl ⟨by show 2 ≤ sizeLine; decide, tell (Kp.refl T H) hT k ?_⟩
      have hnp : p ∉ d.now.posts := by simpa using hcp
      have e : ((List.range (table d.now.valley).length).filter fun v => match near (table d.now.valley) d.now.posts v with
        | none => false
        | some x => x.1 == p && decide (x.2 ≤ r)) = [] := by
        rw [List.filter_eq_nil_iff]
        intro v hv
        cases e : near (table d.now.valley) d.now.posts v with
        | none => simp
        | some x =>
          have : x.1 ≠ p := fun z => hnp (z ▸ hin v x e)
          simp [this]
      rw [ea0, e]; rfl
    | true =>
      refine goF rfl ?_
      have hmp : p ∈ d.now.posts := by simpa using hcp
      have hne : d.now.posts ≠ [] := List.ne_nil_of_mem hmp
      refine ⟨_, rfl, x, dx, fs, rfl, hx, htk, x, fs, d.now, rfl, S, ok, fun H1 t s1 htv hn => ?_⟩
      refine ⟨_, rfl, x, C, dx, fs, _, rfl, s1 _ _ hx, X.cl, X.no _ hpo, S.posts, _, rfl, _, rfl, t, d.now.valley, d.now.posts, p, r, rfl, htv, ok, D.now.lt, hne, hp, fun H2 s2 => ?_⟩
      refine ⟨_, rfl, tell (s1.trans s2).kp hT k ?_⟩
      have e : ((List.range (table d.now.valley).length).filter fun v => match near (table d.now.valley) d.now.posts v with
        | none => false
        | some x => x.1 == p && decide (x.2 ≤ r)) = (List.range d.now.valley.length).filter (sbyP d.now.valley d.now.posts p r) := by
        rw [table_length]
        apply List.filter_congr
        intro v hv
        have hv : v < d.now.valley.length := by simpa using hv
        obtain ⟨q, e1, e2⟩ := near_some (t := table d.now.valley) (v := v) hne
        have hq := D.now.lt q e2.1
        unfold sbyP nearP
        rw [e1]
        dsimp only
        rw [dist_eq hq hv, far_comm ok hq hv, Bool.and_comm]
        by_cases z : q = p
        · subst z; simp
        · simp [z]
      rw [ea0, e, pc_msk (List.nodup_range.filter _)]
      rfl
theorem scWideA : FnScope ["valley", "given"] ["valley", "given"] (defScope sWideA) := ⟨rfl, rfl, rfl, by decide +kernel, rfl, by decide +kernel, by decide +kernel⟩
theorem ok_wideA {f fT fW : Addr} {fd fdT fdW : FuncData} (F : Fun K "widest_pair" "widest_pair" sWideA f fd) (X : TxtC K mg C N) (ht : ("table" : Str) ∉ N) (G : Bare mg)
    (GT : FnOk P w K mg base CX0 3 fT fdT ["self"] (spTable C N)) (mT : Meth K C "table" fT) (bT : Binds K fdT ["self"] [])
    (GW : FnOk P w K mg base CX0 1 fW fdW ["table"] (spWidest K)) (mW : mg "widest" = some (.ref fW)) (kW : PySem.W.keepIn K (.ref fW) = true) (bW : Binds K fdW ["table"] []) :
    FnOk P w K mg base CX0 4 f fd ["valley", "given"] (spAsk K T C N 0 fun _ => .farthest) := by
  refine F.ok scWideA (fun vs H Q E h => ?_) (fun cdv A outer s H vs Q E hr h => ?_)
  · obtain ⟨x, g, fs, d, as, rfl, _⟩ := h
    rfl
  · obtain ⟨x, g, fs, d, as, rfl, S, D, hg, hlen, hT, k⟩ := h
    obtain ⟨hN, dx, hx⟩ := id S.ins
    have htk : fs.lookup ("table" : Str) = none := lookup_out (by rw [hN]; exact ht)
    have hr1 : Room 1 _ := hr.mono (by decide)
    refine ⟨_, pss_one (ps_ret (pe_callTy call_list_of (by rfl) G.lst (by decide +kernel) (pa_cons (pe_call GW hr1 rfl mW kW bW .nil pass0 (pa_cons (pe_meth0 (pv 0) X.cl mT GT hr bT .nil pass0) pa_nil)) pa_nil))), ?_⟩
    refine ⟨_, rfl, x, dx, fs, rfl, hx, htk, x, fs, d.now, rfl, S, D.now.v, fun H1 t s1 htv hn => ?_⟩
    refine ⟨t, d.now.valley, rfl, htv, D.now.v, fun H2 q s2 hq => ?_⟩
    exact ⟨q, _, rfl, .inr (SqT.of hq), tell (s1.trans s2).kp hT k rfl⟩
theorem scLookA : FnScope ["valley", "given", "v"] ["valley", "given"] (defScope sLookA) := ⟨rfl, rfl, rfl, by decide +kernel, rfl, by decide +kernel, by decide +kernel⟩
def cLook (as : List Nat) : Call := .look (as.getD 0 0)
theorem ok_lookA {f fL fH : Addr} {fd fdL fdH : FuncData} (F : Fun K "look" "look" sLookA f fd) (X : TxtC K mg C N) (hl : ("lacks" : Str) ∉ N) (hh : ("has_post" : Str) ∉ N) (hu : ("ups" : Str) ∈ N) (hro : ("roads" : Str) ∈ N) (M : Nums mg)
    (GL : FnOk P w K mg base CX0 1 fL fdL ["self", "v"] (spLacks C N)) (mL : Meth K C "lacks" fL) (bL : Binds K fdL ["self", "v"] [])
    (GH : FnOk P w K mg base CX0 2 fH fdH ["self", "v"] (spHasP C N)) (mH : Meth K C "has_post" fH) (bH : Binds K fdH ["self", "v"] []) :
    FnOk P w K mg base CX0 3 f fd ["valley", "given"] (spAsk K T C N 1 cLook) := by
  refine F.ok scLookA (fun vs H Q E h => ?_) (fun cdv A outer s H vs Q E hr h => ?_)
  · obtain ⟨x, g, fs, d, as, rfl, _⟩ := h
    rfl
  · obtain ⟨x, g, fs, d, as, rfl, S, D, hg, hlen, hT, k⟩ := h
    obtain ⟨v, rfl⟩ := len1 hlen
    obtain ⟨tk, hNT⟩ := M.notThere
    obtain ⟨hN, dx, hx⟩ := id S.ins
    obtain ⟨u, hu1, hu2⟩ := S.ups
    obtain ⟨ro, hr1', hr2'⟩ := S.roads
    have hlk : fs.lookup ("lacks" : Str) = none := lookup_out (by rw [hN]; exact hl)
    have hhk : fs.lookup ("has_post" : Str) = none := lookup_out (by rw [hN]; exact hh)
    have hr1 : Room 1 _ := hr.mono (by decide)
    refine ⟨_, pss_cons (ps_set (i := 2) scLookA.nd rfl (Or.inl rfl) (pe_ix ix_list (pv 1) pe_int (fun _ _ => rfl)))
      (pss_cons (ps_if (pt_val (pe_meth (pv 0) X.cl mL GL hr1 bL .nil pass0 (pa_cons (pv 2) pa_nil))) (pss_one (ps_ret (pe_lst (pa_cons (pe_glob rfl hNT (v := .int (-2)) ⟨_, rfl⟩) pa_nil)))) pss_nil)
      (pss_one (ps_ret (pe_lst (pa_cons (pe_ifExp (pt_val (pe_meth (pv 0) X.cl mH GH hr bH .nil pass0 (pa_cons (pv 2) pa_nil))) pe_int pe_int) (pa_cons (pe_ix ix_list (pe_fld (pv 0) rfl) (pv 2) (fun _ _ => rfl)) (pa_cons (pe_ix ix_list (pe_fld (pv 0) rfl) (pv 2) (fun _ _ => rfl)) pa_nil))))))), ?_⟩
    have ea0 : (act d (cLook [v])).2 = if d.now.valley.length ≤ v then Km458.only (-2) else ⟨((Km458.bit (d.now.posts.contains v) : Nat) : Int), [(at_ d.now.valley v).up, (at_ d.now.valley v).long]⟩ := rfl
    refine ⟨_, rfl, g, _, _, _, rfl, rfl, hg, at0, ?_⟩
    refine ⟨_, rfl, x, dx, fs, rfl, hx, hlk, _, rfl, x, fs, d.now, v, rfl, S, _, rfl, ?_⟩
    refine ite2 (fun hc => ?_) (fun hc => ?_)
    · refine ⟨by show 1 ≤ sizeLine; decide, tell (Kp.refl T H) hT k ?_⟩
      rw [ea0, if_pos (of_decide_eq_true hc)]; rfl
    have hc : ¬ d.now.valley.length ≤ v := fun z => hc (decide_eq_true z)
    have hv : v < d.now.valley.length := by omega
    rw [if_neg hc] at ea0
    refine ⟨_, rfl, x, dx, fs, rfl, hx, hhk, _, rfl, x, fs, d.now, v, rfl, S, _, rfl, ?_⟩
    have rest : ∀ y : V, [y, V.int ((at_ d.now.valley v).up : Nat), V.int ((at_ d.now.valley v).long : Nat)] = ansV (act d (cLook [v])).2 → ∀ p, H p = none → Q (.ref p) (upd H p (.lst [y, V.int ((at_ d.now.valley v).up : Nat), V.int ((at_ d.now.valley v).long : Nat)])) := fun y e => tell (Kp.refl T H) hT k e
    refine ite2 (fun hc2 => ?_) (fun hc2 => ?_)
    · refine ⟨_, rfl, x, C, dx, fs, _, rfl, hx, X.cl, X.no _ hu, hu1, _, rfl, u, _, _, _, rfl, rfl, SqL.of hu2, atI_nat (ups_at hv), _, rfl, x, C, dx, fs, _, rfl, hx, X.cl, X.no _ hro, hr1', _, rfl, ro, _, _, _, rfl, rfl, SqL.of hr2', atI_nat (roads_at hv), by show 3 ≤ sizeLine; decide, rest _ ?_⟩
      rw [ea0, hc2]; rfl
    · refine ⟨_, rfl, x, C, dx, fs, _, rfl, hx, X.cl, X.no _ hu, hu1, _, rfl, u, _, _, _, rfl, rfl, SqL.of hu2, atI_nat (ups_at hv), _, rfl, x, C, dx, fs, _, rfl, hx, X.cl, X.no _ hro, hr1', _, rfl, ro, _, _, _, rfl, rfl, SqL.of hr2', atI_nat (roads_at hv), by show 3 ≤ sizeLine; decide, rest _ ?_⟩
      rw [ea0, Bool.eq_false_iff.mpr hc2]; rfl
theorem scPostsA : FnScope ["valley", "given"] ["valley", "given"] (defScope sPostsA) := ⟨rfl, rfl, rfl, by decide +kernel, rfl, by decide +kernel, by decide +kernel⟩
theorem ok_postsA {f fM : Addr} {fd fdM : FuncData} (F : Fun K "posts_there" "posts_there" sPostsA f fd) (X : TxtC K mg C N) (hpo : ("posts" : Str) ∈ N)
    (GM : FnOk P w K mg base CX0 2 fM fdM ["villages"] spCounted) (mM : mg "counted" = some (.ref fM)) (kM : PySem.W.keepIn K (.ref fM) = true) (bM : Binds K fdM ["villages"] []) :
    FnOk P w K mg base CX0 3 f fd ["valley", "given"] (spAsk K T C N 0 fun _ => .posts) := by
  refine F.ok scPostsA (fun vs H Q E h => ?_) (fun cdv A outer s H vs Q E hr h => ?_)
  · obtain ⟨x, g, fs, d, as, rfl, _⟩ := h
    rfl
  · obtain ⟨x, g, fs, d, as, rfl, S, D, hg, hlen, hT, k⟩ := h
    obtain ⟨hN, dx, hx⟩ := id S.ins
    refine ⟨_, pss_one (ps_ret (pe_call GM hr rfl mM kM bM .nil pass0 (pa_cons (pe_fld (pv 0) rfl) pa_nil))), ?_⟩
    refine ⟨_, rfl, x, C, dx, fs, _, rfl, hx, X.cl, X.no _ hpo, S.posts, msk d.now.posts, rfl, tell (Kp.refl T H) hT k ?_⟩
    have ea0 : (act d .posts).2 = ⟨((d.now.posts.length : Nat) : Int), [Km458.bits d.now.posts]⟩ := rfl
    rw [ea0, bits_msk D.now.nd, pc_msk D.now.nd]
    rfl
end
end VR
end
section
set_option Elab.async false
set_option linter.all false
set_option maxRecDepth 100000
set_option maxHeartbeats 4000000
namespace VR
open PySem PySem.Spec PyProof.Rows L2 Vp
open Km458 (Desk Call act)
structure Dn (K : PySem.W.Frag) (mg : Str → Option Value) (x : Str) (st : Stmt) (ps : List Str) (f : Addr) (fd : FuncData) : Prop where
  F : Fun K x x st f fd
  b : Binds K fd ps []
  m : mg x = some (.ref f)
structure Dm (K : PySem.W.Frag) (C : Addr) (x q : Str) (st : Stmt) (ps : List Str) (f : Addr) (fd : FuncData) : Prop where
  F : Fun K x q st f fd
  b : Binds K fd ps []
  m : Meth K C x f
structure Dl (K : PySem.W.Frag) (mg : Str → Option Value) (x : Str) (st : Stmt) (ps : List Str) (f : Addr) (fd : FuncData) (c pt : Addr) : Prop where
  F : FunT K x x st f fd c pt
  b : Binds K fd ps []
  m : mg x = some (.ref f)
abbrev TT (p1 p2 : Addr) : List Tb := [⟨p1, lMore⟩, ⟨p2, lLon⟩]
structure Txt (K : PySem.W.Frag) (mg : Str → Option Value) (C : Addr) (p1 p2 c1 c2 : Addr) (f : Nat → Addr) (fd : Nat → FuncData) : Prop where
  d_has : Dn K mg "has" sHas ["villages", "v"] (f 0) (fd 0)
  d_how_many : Dn K mg "how_many" sMany ["villages"] (f 1) (fd 1)
  d_how_far : Dn K mg "how_far" sFar ["ups", "roads", "v", "w"] (f 2) (fd 2)
  d_distances : Dn K mg "distances" sDist ["ups", "roads"] (f 3) (fd 3)
  d_set_of : Dn K mg "set_of" sSetOf ["numbers"] (f 4) (fd 4)
  d_ball : Dn K mg "ball" sBall ["row", "r"] (f 5) (fd 5)
  d_balls_of : Dn K mg "balls_of" sBalls ["table", "r"] (f 6) (fd 6)
  d_least_of : Dn K mg "least_of" sLeastOf ["villages"] (f 7) (fd 7)
  d_served : Dn K mg "served" sServed ["balls", "posts"] (f 8) (fd 8)
  d_everyone : Dn K mg "everyone" sEvery ["balls"] (f 9) (fd 9)
  d_unserved : Dn K mg "unserved" sUns ["balls", "posts"] (f 10) (fd 10)
  d_serve_all : Dn K mg "serve_all" sServe ["balls", "posts"] (f 11) (fd 11)
  d_idle : Dn K mg "idle" sIdle ["balls", "posts"] (f 12) (fd 12)
  d_within_all : Dn K mg "within_all" sWithin ["balls", "villages"] (f 13) (fd 13)
  d_fewest : Dn K mg "fewest" sFew ["balls"] (f 14) (fd 14)
  d_least_reach : Dn K mg "least_reach" sReach ["table", "k"] (f 15) (fd 15)
  d_nearest : Dn K mg "nearest" sNear ["row", "posts"] (f 16) (fd 16)
  d_worst : Dn K mg "worst" sWorst ["table", "posts"] (f 17) (fd 17)
  d_served_by : Dn K mg "served_by" sSBy ["table", "posts", "p", "r"] (f 18) (fd 18)
  d_widest : Dn K mg "widest" sWidest ["table"] (f 19) (fd 19)
  d_wrong_length : Dn K mg "wrong_length" sWrong ["n"] (f 20) (fd 20)
  d_village : Dn K mg "village" sVillA ["valley", "given"] (f 21) (fd 21)
  d_road : Dn K mg "road" sRoadA ["valley", "given"] (f 22) (fd 22)
  d_drop : Dn K mg "drop" sDropA ["valley", "given"] (f 23) (fd 23)
  d_post : Dn K mg "post" sPostA ["valley", "given"] (f 24) (fd 24)
  d_put : Dn K mg "put" sPutA ["valley", "given"] (f 25) (fd 25)
  d_clear_posts : Dn K mg "clear_posts" sClearA ["valley", "given"] (f 26) (fd 26)
  d_back : Dn K mg "back" sBackA ["valley", "given"] (f 27) (fd 27)
  d_again : Dn K mg "again" sAgainA ["valley", "given"] (f 28) (fd 28)
  d_state : Dn K mg "state" sStateA ["valley", "given"] (f 29) (fd 29)
  d_counted : Dn K mg "counted" sCounted ["villages"] (f 30) (fd 30)
  d_far_apart : Dn K mg "far_apart" sFarA ["valley", "given"] (f 31) (fd 31)
  d_ball_of : Dn K mg "ball_of" sBallA ["valley", "given"] (f 32) (fd 32)
  d_least_within_all : Dn K mg "least_within_all" sLWA ["balls", "villages"] (f 33) (fd 33)
  d_share : Dn K mg "share" sShareA ["valley", "given"] (f 34) (fd 34)
  d_one_for_all : Dn K mg "one_for_all" sOneA ["valley", "given"] (f 35) (fd 35)
  d_fewest_posts : Dn K mg "fewest_posts" sFewA ["valley", "given"] (f 36) (fd 36)
  d_lonely_villages : Dn K mg "lonely_villages" sLonA ["valley", "given"] (f 37) (fd 37)
  d_least : Dn K mg "least" sLeastA ["valley", "given"] (f 38) (fd 38)
  d_more_posts : Dn K mg "more_posts" sMoreA ["valley", "given"] (f 39) (fd 39)
  d_out_of_reach : Dn K mg "out_of_reach" sOutA ["valley", "given"] (f 40) (fd 40)
  d_nearest_post : Dn K mg "nearest_post" sNearA ["valley", "given"] (f 41) (fd 41)
  d_worst_village : Dn K mg "worst_village" sWorstA ["valley", "given"] (f 42) (fd 42)
  d_idle_posts : Dn K mg "idle_posts" sIdleA ["valley", "given"] (f 43) (fd 43)
  d_served_villages : Dn K mg "served_villages" sServA ["valley", "given"] (f 44) (fd 44)
  d_widest_pair : Dn K mg "widest_pair" sWideA ["valley", "given"] (f 45) (fd 45)
  d_look : Dn K mg "look" sLookA ["valley", "given"] (f 46) (fd 46)
  d_posts_there : Dn K mg "posts_there" sPostsA ["valley", "given"] (f 47) (fd 47)
  d_start : Dn K mg "start" sStartA ["valley", "given"] (f 48) (fd 48)
  d_all_calls : Dn K mg "all_calls" sAll [] (f 49) (fd 49)
  m_init : Dm K C "__init__" "Valley.__init__" sInit ["self"] (f 50) (fd 50)
  m_begin : Dm K C "begin" "Valley.begin" sBegin ["self"] (f 51) (fd 51)
  m_now : Dm K C "now" "Valley.now" sNow ["self"] (f 52) (fd 52)
  m_become : Dm K C "become" "Valley.become" sBecome ["self", "kept"] (f 53) (fd 53)
  m_change : Dm K C "change" "Valley.change" sChange ["self", "ups", "roads", "posts"] (f 54) (fd 54)
  m_change_posts : Dm K C "change_posts" "Valley.change_posts" sChPosts ["self", "posts"] (f 55) (fd 55)
  m_take_back : Dm K C "take_back" "Valley.take_back" sBackM ["self"] (f 56) (fd 56)
  m_do_again : Dm K C "do_again" "Valley.do_again" sAgainM ["self"] (f 57) (fd 57)
  m_size : Dm K C "size" "Valley.size" sSize ["self"] (f 58) (fd 58)
  m_lacks : Dm K C "lacks" "Valley.lacks" sLacks ["self", "v"] (f 59) (fd 59)
  m_has_post : Dm K C "has_post" "Valley.has_post" sHasP ["self", "v"] (f 60) (fd 60)
  m_table : Dm K C "table" "Valley.table" sTable ["self"] (f 61) (fd 61)
  m_balls : Dm K C "balls" "Valley.balls" sBallsM ["self", "r"] (f 62) (fd 62)
  d_fewest_more : Dl K mg "fewest_more" sMore ["balls", "posts"] (f 63) (fd 63) c1 p1
  d_lonely : Dl K mg "lonely" sLon ["balls"] (f 64) (fd 64) c2 p2
def rowF (f : Nat → Addr) : List Addr := [f 21, f 22, f 23, f 24, f 25, f 26, f 31, f 32, f 34, f 36, f 37, f 38, f 39, f 40, f 41, f 42, f 43, f 35, f 45, f 44, f 46, f 47, f 27, f 28, f 29]
section
variable {P : Program} {w : World} {K : PySem.W.Frag} {mg : Str → Option Value} {base : Heap} {C p1 p2 c1 c2 : Addr} {f : Nat → Addr} {fd : Nat → FuncData}
theorem all_ok {ts : List Addr} (hp : p1 ≠ p2) (t : Txt K mg C p1 p2 c1 c2 f fd) (X : TxtC K mg C N5) (G : Bare mg) (M : Nums mg) (MC : NumsC mg) (hMT : ∃ t, mg "MOST_TAKEN_BACK" = some (.int 20 t)) (hB : BMain mg base)
    (hts : ∀ q n, givenOf[q + 1]? = some n → ∃ a g, ts[q]? = some a ∧ (rowF f)[q]? = some g ∧ ∀ H, SqT K H a [.ref g, .int (n : Nat)]) :
    (FnOk P w K mg base CX0 7 (f 50) (fd 50) ["self"] (spNew C (TT p1 p2) (DA C))) ∧ Tbl P w K mg base (TT p1 p2) (DA C) 7 (f 48) ts := by
  have hu : ("ups" : Str) ∈ N5 := by decide +kernel
  have hro : ("roads" : Str) ∈ N5 := by decide +kernel
  have hpo : ("posts" : Str) ∈ N5 := by decide +kernel
  have n_lacks : ("lacks" : Str) ∉ N5 := by decide +kernel
  have n_table : ("table" : Str) ∉ N5 := by decide +kernel
  have n_balls : ("balls" : Str) ∉ N5 := by decide +kernel
  have n_has_post : ("has_post" : Str) ∉ N5 := by decide +kernel
  have i1 : (⟨p1, lMore⟩ : Tb) ∈ TT p1 p2 := List.mem_cons_self
  have i2 : (⟨p2, lLon⟩ : Tb) ∈ TT p1 p2 := List.mem_cons_of_mem _ List.mem_cons_self
  have u1 : ∀ u ∈ TT p1 p2, u.P = p1 → u = ⟨p1, lMore⟩ := fun u hu e => by
    rcases List.mem_cons.mp hu with z | z
    · exact z
    · obtain rfl : u = ⟨p2, lLon⟩ := by simpa using z
      exact absurd e.symm hp
  have u2 : ∀ u ∈ TT p1 p2, u.P = p2 → u = ⟨p2, lLon⟩ := fun u hu e => by
    rcases List.mem_cons.mp hu with z | z
    · subst z; exact absurd e hp
    · simpa using z
  have G_has : FnOk P w K mg base CX0 1 (f 0) (fd 0) ["villages", "v"] (spHas) := ok_has t.d_has.F
  have G_how_many : FnOk P w K mg base CX0 1 (f 1) (fd 1) ["villages"] (spMany) := ok_many t.d_how_many.F
  have G_how_far : FnOk P w K mg base CX0 1 (f 2) (fd 2) ["ups", "roads", "v", "w"] (spFar K) := ok_far t.d_how_far.F
  have G_distances : FnOk P w K mg base CX0 2 (f 3) (fd 3) ["ups", "roads"] (spDist K) := ok_dist t.d_distances.F G t.d_how_far.F t.d_how_far.m t.d_how_far.b
  have G_set_of : FnOk P w K mg base CX0 1 (f 4) (fd 4) ["numbers"] (spSetOf K) := ok_setOf t.d_set_of.F G
  have G_ball : FnOk P w K mg base CX0 2 (f 5) (fd 5) ["row", "r"] (spBall K) := ok_ball t.d_ball.F G t.d_set_of.F t.d_set_of.m t.d_set_of.b
  have G_balls_of : FnOk P w K mg base CX0 3 (f 6) (fd 6) ["table", "r"] (spBalls) := ok_balls t.d_balls_of.F G G_ball t.d_ball.m t.d_ball.F.kp t.d_ball.b
  have G_least_of : FnOk P w K mg base CX0 2 (f 7) (fd 7) ["villages"] (spLeastOf) := ok_leastOf t.d_least_of.F t.d_has.F t.d_has.m t.d_has.b
  have G_served : FnOk P w K mg base CX0 2 (f 8) (fd 8) ["balls", "posts"] (spServed K) := ok_served t.d_served.F G t.d_has.F t.d_has.m t.d_has.b
  have G_everyone : FnOk P w K mg base CX0 1 (f 9) (fd 9) ["balls"] (spEvery K) := ok_every t.d_everyone.F G
  have G_unserved : FnOk P w K mg base CX0 3 (f 10) (fd 10) ["balls", "posts"] (spUns K) := ok_uns t.d_unserved.F G_served t.d_served.m t.d_served.F.kp t.d_served.b G_everyone t.d_everyone.m t.d_everyone.F.kp t.d_everyone.b
  have G_serve_all : FnOk P w K mg base CX0 4 (f 11) (fd 11) ["balls", "posts"] (spServe K) := ok_serve t.d_serve_all.F G_unserved t.d_unserved.m t.d_unserved.F.kp t.d_unserved.b
  have G_idle : FnOk P w K mg base CX0 5 (f 12) (fd 12) ["balls", "posts"] (spIdle K) := ok_idle t.d_idle.F G G_set_of t.d_set_of.m t.d_set_of.F.kp t.d_set_of.b G_has t.d_has.m t.d_has.F.kp t.d_has.b G_serve_all t.d_serve_all.m t.d_serve_all.F.kp t.d_serve_all.b
  have G_within_all : FnOk P w K mg base CX0 2 (f 13) (fd 13) ["balls", "villages"] (spWithin K) := ok_within t.d_within_all.F G G_has t.d_has.m t.d_has.F.kp t.d_has.b G_everyone t.d_everyone.m t.d_everyone.F.kp t.d_everyone.b
  have G_fewest_more : FnOk P w K mg base CX0 4 (f 63) (fd 63) ["balls", "posts"] (spMore K (TT p1 p2)) := ok_more t.d_fewest_more.F hB i1 u1 G G_served t.d_served.m t.d_served.F.kp t.d_served.b G_everyone t.d_everyone.m t.d_everyone.F.kp t.d_everyone.b G_has t.d_has.m t.d_has.F.kp t.d_has.b
  have G_fewest : FnOk P w K mg base CX0 5 (f 14) (fd 14) ["balls"] (spFew K (TT p1 p2)) := ok_few t.d_fewest.F G_fewest_more t.d_fewest_more.m t.d_fewest_more.F.fn.kp t.d_fewest_more.b
  have G_lonely : FnOk P w K mg base CX0 4 (f 64) (fd 64) ["balls"] (spLon K (TT p1 p2)) := ok_lon t.d_lonely.F hB i2 u2 G G_served t.d_served.m t.d_served.F.kp t.d_served.b
  have G_least_reach : FnOk P w K mg base CX0 6 (f 15) (fd 15) ["table", "k"] (spReach (TT p1 p2)) := ok_reach t.d_least_reach.F G G_fewest t.d_fewest.m t.d_fewest.F.kp t.d_fewest.b G_balls_of t.d_balls_of.m t.d_balls_of.F.kp t.d_balls_of.b
  have G_nearest : FnOk P w K mg base CX0 2 (f 16) (fd 16) ["row", "posts"] (spNear K) := ok_near t.d_nearest.F G G_has t.d_has.m t.d_has.F.kp t.d_has.b
  have G_worst : FnOk P w K mg base CX0 3 (f 17) (fd 17) ["table", "posts"] (spWorst K) := ok_worst t.d_worst.F G G_nearest t.d_nearest.m t.d_nearest.F.kp t.d_nearest.b
  have G_served_by : FnOk P w K mg base CX0 3 (f 18) (fd 18) ["table", "posts", "p", "r"] (spSBy K) := ok_sby t.d_served_by.F G G_set_of t.d_set_of.m t.d_set_of.F.kp t.d_set_of.b G_nearest t.d_nearest.m t.d_nearest.F.kp t.d_nearest.b
  have G_widest : FnOk P w K mg base CX0 1 (f 19) (fd 19) ["table"] (spWidest K) := ok_widest t.d_widest.F G
  have G_wrong_length : FnOk P w K mg base CX0 1 (f 20) (fd 20) ["n"] (spWrong) := ok_wrong t.d_wrong_length.F MC
  have M_size : FnOk P w K mg base CX0 1 (f 58) (fd 58) ["self"] (spSize C N5) := ok_size t.m_size.F X hu G
  have M_lacks : FnOk P w K mg base CX0 1 (f 59) (fd 59) ["self", "v"] (spLacks C N5) := ok_lacks t.m_lacks.F X hu G
  have M_has_post : FnOk P w K mg base CX0 2 (f 60) (fd 60) ["self", "v"] (spHasP C N5) := ok_hasP t.m_has_post.F X hpo t.d_has.F t.d_has.m t.d_has.b
  have M_table : FnOk P w K mg base CX0 3 (f 61) (fd 61) ["self"] (spTable C N5) := ok_table t.m_table.F X hu hro G_distances t.d_distances.m t.d_distances.F.kp t.d_distances.b
  have M_balls : FnOk P w K mg base CX0 4 (f 62) (fd 62) ["self", "r"] (spBallsM C N5) := ok_ballsM t.m_balls.F X n_table M_table t.m_table.m t.m_table.b G_balls_of t.d_balls_of.m t.d_balls_of.F.kp t.d_balls_of.b
  have M_now : FnOk P w K mg base CX0 1 (f 52) (fd 52) ["self"] (spNow C) := ok_now t.m_now.F X
  have M_become : FnOk P w K mg base CX0 1 (f 53) (fd 53) ["self", "kept"] (spBecome C) := ok_become t.m_become.F X
  have M_begin : FnOk P w K mg base CX0 2 (f 51) (fd 51) ["self"] (spBegin C) := ok_begin t.m_begin.F X M_become t.m_become.m t.m_become.b
  have M_init : FnOk P w K mg base CX0 3 (f 50) (fd 50) ["self"] (spNew C (TT p1 p2) (DA C)) := ok_init t.m_init.F X M_begin t.m_begin.m t.m_begin.b
  have M_change : FnOk P w K mg base CX0 2 (f 54) (fd 54) ["self", "ups", "roads", "posts"] (spChange (TT p1 p2) C) := ok_change t.m_change.F X hMT M_become t.m_become.m t.m_become.b M_now t.m_now.m t.m_now.b
  have M_change_posts : FnOk P w K mg base CX0 3 (f 55) (fd 55) ["self", "posts"] (spChPosts (TT p1 p2) C) := ok_chPosts t.m_change_posts.F X M_change t.m_change.m t.m_change.b
  have M_take_back : FnOk P w K mg base CX0 2 (f 56) (fd 56) ["self"] (spBackM (TT p1 p2) C) := ok_backM t.m_take_back.F X M_become t.m_become.m t.m_become.b M_now t.m_now.m t.m_now.b
  have M_do_again : FnOk P w K mg base CX0 2 (f 57) (fd 57) ["self"] (spAgainM (TT p1 p2) C) := ok_againM t.m_do_again.F X M_become t.m_become.m t.m_become.b M_now t.m_now.m t.m_now.b
  have G_counted : FnOk P w K mg base CX0 2 (f 30) (fd 30) ["villages"] (spCounted) := ok_counted t.d_counted.F G_how_many t.d_how_many.m t.d_how_many.F.kp t.d_how_many.b
  have G_least_within_all : FnOk P w K mg base CX0 3 (f 33) (fd 33) ["balls", "villages"] (spLWA K) := ok_lwa t.d_least_within_all.F M G_within_all t.d_within_all.m t.d_within_all.F.kp t.d_within_all.b G_least_of t.d_least_of.m t.d_least_of.F.kp t.d_least_of.b
  have G_start : FnOk P w K mg base CX0 3 (f 48) (fd 48) ["valley", "given"] (spDo K (TT p1 p2) (DA C) 0 (callAt 0)) := ok_startA t.d_start.F X M_begin t.m_begin.m t.m_begin.b
  have G_village : FnOk P w K mg base CX0 3 (f 21) (fd 21) ["valley", "given"] (spDo K (TT p1 p2) (DA C) 2 (callAt 1)) := ok_villA t.d_village.F X M MC M_lacks t.m_lacks.m t.m_lacks.b M_size t.m_size.m t.m_size.b G_wrong_length t.d_wrong_length.m t.d_wrong_length.F.kp t.d_wrong_length.b M_change t.m_change.m t.m_change.b
  have G_road : FnOk P w K mg base CX0 3 (f 22) (fd 22) ["valley", "given"] (spDo K (TT p1 p2) (DA C) 2 (callAt 2)) := ok_roadA t.d_road.F X M MC M_lacks t.m_lacks.m t.m_lacks.b G_wrong_length t.d_wrong_length.m t.d_wrong_length.F.kp t.d_wrong_length.b M_change t.m_change.m t.m_change.b
  have G_drop : FnOk P w K mg base CX0 3 (f 23) (fd 23) ["valley", "given"] (spDo K (TT p1 p2) (DA C) 0 (callAt 3)) := ok_dropA t.d_drop.F X M MC M_has_post t.m_has_post.m t.m_has_post.b M_size t.m_size.m t.m_size.b M_change t.m_change.m t.m_change.b
  have G_post : FnOk P w K mg base CX0 4 (f 24) (fd 24) ["valley", "given"] (spDo K (TT p1 p2) (DA C) 2 (callAt 4)) := ok_postA t.d_post.F X M MC M_lacks t.m_lacks.m t.m_lacks.b M_has_post t.m_has_post.m t.m_has_post.b G_how_many t.d_how_many.m t.d_how_many.F.kp t.d_how_many.b M_change_posts t.m_change_posts.m t.m_change_posts.b
  have G_put : FnOk P w K mg base CX0 5 (f 25) (fd 25) ["valley", "given"] (spDo K (TT p1 p2) (DA C) 1 (callAt 5)) := ok_putA t.d_put.F X M MC G M_balls t.m_balls.m t.m_balls.b G_serve_all t.d_serve_all.m t.d_serve_all.F.kp t.d_serve_all.b G_fewest_more t.d_fewest_more.m t.d_fewest_more.F.fn.kp t.d_fewest_more.b M_change_posts t.m_change_posts.m t.m_change_posts.b
  have G_clear_posts : FnOk P w K mg base CX0 4 (f 26) (fd 26) ["valley", "given"] (spDo K (TT p1 p2) (DA C) 0 (callAt 6)) := ok_clearA t.d_clear_posts.F X MC G_how_many t.d_how_many.m t.d_how_many.F.kp t.d_how_many.b M_change_posts t.m_change_posts.m t.m_change_posts.b
  have G_far_apart : FnOk P w K mg base CX0 2 (f 31) (fd 31) ["valley", "given"] (spAsk K (TT p1 p2) C N5 2 (callAt 7)) := ok_farA t.d_far_apart.F X hu hro n_lacks M M_lacks t.m_lacks.m t.m_lacks.b G_how_far t.d_how_far.m t.d_how_far.F.kp t.d_how_far.b
  have G_ball_of : FnOk P w K mg base CX0 4 (f 32) (fd 32) ["valley", "given"] (spAsk K (TT p1 p2) C N5 2 (callAt 8)) := ok_ballA t.d_ball_of.F X n_lacks n_table M M_lacks t.m_lacks.m t.m_lacks.b M_table t.m_table.m t.m_table.b G_ball t.d_ball.m t.d_ball.F.kp t.d_ball.b G_counted t.d_counted.m t.d_counted.F.kp t.d_counted.b
  have G_share : FnOk P w K mg base CX0 5 (f 34) (fd 34) ["valley", "given"] (spAsk K (TT p1 p2) C N5 3 (callAt 9)) := ok_shareA t.d_share.F X n_lacks n_balls M M_lacks t.m_lacks.m t.m_lacks.b M_balls t.m_balls.m t.m_balls.b G_least_within_all t.d_least_within_all.m t.d_least_within_all.F.kp t.d_least_within_all.b
  have G_fewest_posts : FnOk P w K mg base CX0 6 (f 36) (fd 36) ["valley", "given"] (spAsk K (TT p1 p2) C N5 1 (callAt 10)) := ok_fewA t.d_fewest_posts.F X n_balls G M_balls t.m_balls.m t.m_balls.b G_fewest t.d_fewest.m t.d_fewest.F.kp t.d_fewest.b
  have G_lonely_villages : FnOk P w K mg base CX0 5 (f 37) (fd 37) ["valley", "given"] (spAsk K (TT p1 p2) C N5 1 (callAt 11)) := ok_lonA t.d_lonely_villages.F X n_balls G M_balls t.m_balls.m t.m_balls.b G_lonely t.d_lonely.m t.d_lonely.F.fn.kp t.d_lonely.b
  have G_least : FnOk P w K mg base CX0 7 (f 38) (fd 38) ["valley", "given"] (spAsk K (TT p1 p2) C N5 1 (callAt 12)) := ok_leastA t.d_least.F X n_balls n_table M M_table t.m_table.m t.m_table.b M_balls t.m_balls.m t.m_balls.b G_fewest t.d_fewest.m t.d_fewest.F.kp t.d_fewest.b G_least_reach t.d_least_reach.m t.d_least_reach.F.kp t.d_least_reach.b
  have G_more_posts : FnOk P w K mg base CX0 5 (f 39) (fd 39) ["valley", "given"] (spAsk K (TT p1 p2) C N5 1 (callAt 13)) := ok_moreA t.d_more_posts.F X n_balls hpo G M_balls t.m_balls.m t.m_balls.b G_fewest_more t.d_fewest_more.m t.d_fewest_more.F.fn.kp t.d_fewest_more.b
  have G_out_of_reach : FnOk P w K mg base CX0 5 (f 40) (fd 40) ["valley", "given"] (spAsk K (TT p1 p2) C N5 1 (callAt 14)) := ok_outA t.d_out_of_reach.F X n_balls hpo M_balls t.m_balls.m t.m_balls.b G_unserved t.d_unserved.m t.d_unserved.F.kp t.d_unserved.b
  have G_nearest_post : FnOk P w K mg base CX0 4 (f 41) (fd 41) ["valley", "given"] (spAsk K (TT p1 p2) C N5 1 (callAt 15)) := ok_nearA t.d_nearest_post.F X n_lacks n_table hpo M M_lacks t.m_lacks.m t.m_lacks.b M_table t.m_table.m t.m_table.b G_nearest t.d_nearest.m t.d_nearest.F.kp t.d_nearest.b
  have G_worst_village : FnOk P w K mg base CX0 4 (f 42) (fd 42) ["valley", "given"] (spAsk K (TT p1 p2) C N5 0 (callAt 16)) := ok_worstA t.d_worst_village.F X n_table hpo M M_table t.m_table.m t.m_table.b G_worst t.d_worst.m t.d_worst.F.kp t.d_worst.b
  have G_idle_posts : FnOk P w K mg base CX0 6 (f 43) (fd 43) ["valley", "given"] (spAsk K (TT p1 p2) C N5 1 (callAt 17)) := ok_idleA t.d_idle_posts.F X n_balls hpo M M_balls t.m_balls.m t.m_balls.b G_serve_all t.d_serve_all.m t.d_serve_all.F.kp t.d_serve_all.b G_idle t.d_idle.m t.d_idle.F.kp t.d_idle.b G_counted t.d_counted.m t.d_counted.F.kp t.d_counted.b
  have G_one_for_all : FnOk P w K mg base CX0 5 (f 35) (fd 35) ["valley", "given"] (spAsk K (TT p1 p2) C N5 2 (callAt 18)) := ok_oneA t.d_one_for_all.F X n_balls M M_balls t.m_balls.m t.m_balls.b G_everyone t.d_everyone.m t.d_everyone.F.kp t.d_everyone.b G_least_within_all t.d_least_within_all.m t.d_least_within_all.F.kp t.d_least_within_all.b
  have G_widest_pair : FnOk P w K mg base CX0 4 (f 45) (fd 45) ["valley", "given"] (spAsk K (TT p1 p2) C N5 0 (callAt 19)) := ok_wideA t.d_widest_pair.F X n_table G M_table t.m_table.m t.m_table.b G_widest t.d_widest.m t.d_widest.F.kp t.d_widest.b
  have G_served_villages : FnOk P w K mg base CX0 4 (f 44) (fd 44) ["valley", "given"] (spAsk K (TT p1 p2) C N5 2 (callAt 20)) := ok_servA t.d_served_villages.F X n_lacks n_has_post n_table hpo M M_lacks t.m_lacks.m t.m_lacks.b M_has_post t.m_has_post.m t.m_has_post.b M_table t.m_table.m t.m_table.b G_served_by t.d_served_by.m t.d_served_by.F.kp t.d_served_by.b G_counted t.d_counted.m t.d_counted.F.kp t.d_counted.b
  have G_look : FnOk P w K mg base CX0 3 (f 46) (fd 46) ["valley", "given"] (spAsk K (TT p1 p2) C N5 1 (callAt 21)) := ok_lookA t.d_look.F X n_lacks n_has_post hu hro M M_lacks t.m_lacks.m t.m_lacks.b M_has_post t.m_has_post.m t.m_has_post.b
  have G_posts_there : FnOk P w K mg base CX0 3 (f 47) (fd 47) ["valley", "given"] (spAsk K (TT p1 p2) C N5 0 (callAt 22)) := ok_postsA t.d_posts_there.F X hpo G_counted t.d_counted.m t.d_counted.F.kp t.d_counted.b
  have G_back : FnOk P w K mg base CX0 3 (f 27) (fd 27) ["valley", "given"] (spDo K (TT p1 p2) (DA C) 0 (callAt 23)) := ok_backA t.d_back.F X M G M_take_back t.m_take_back.m t.m_take_back.b
  have G_again : FnOk P w K mg base CX0 3 (f 28) (fd 28) ["valley", "given"] (spDo K (TT p1 p2) (DA C) 0 (callAt 24)) := ok_againA t.d_again.F X M G M_do_again t.m_do_again.m t.m_do_again.b
  have G_state : FnOk P w K mg base CX0 2 (f 29) (fd 29) ["valley", "given"] (spDo K (TT p1 p2) (DA C) 0 (callAt 25)) := ok_stateA t.d_state.F X G M_size t.m_size.m t.m_size.b
  have row : ∀ q n, givenOf[q + 1]? = some n → ∀ g, (rowF f)[q]? = some g → ∃ fd ps, FnOk P w K mg base CX0 7 g fd ps (spDo K (TT p1 p2) (DA C) n (callAt (q + 1))) ∧ PySem.W.keepIn K (.ref g) = true ∧ Binds K fd ps [] := by
    intro q n hn g hg
    match q, hn, hg with
    | 0, hn, hg =>
      cases hn; cases hg
      exact ⟨fd 21, _, FnOk.mono G_village (by decide), t.d_village.F.kp, t.d_village.b⟩
    | 1, hn, hg =>
      cases hn; cases hg
      exact ⟨fd 22, _, FnOk.mono G_road (by decide), t.d_road.F.kp, t.d_road.b⟩
    | 2, hn, hg =>
      cases hn; cases hg
      exact ⟨fd 23, _, FnOk.mono G_drop (by decide), t.d_drop.F.kp, t.d_drop.b⟩
    | 3, hn, hg =>
      cases hn; cases hg
      exact ⟨fd 24, _, FnOk.mono G_post (by decide), t.d_post.F.kp, t.d_post.b⟩
    | 4, hn, hg =>
      cases hn; cases hg
      exact ⟨fd 25, _, FnOk.mono G_put (by decide), t.d_put.F.kp, t.d_put.b⟩
    | 5, hn, hg =>
      cases hn; cases hg
      exact ⟨fd 26, _, FnOk.mono G_clear_posts (by decide), t.d_clear_posts.F.kp, t.d_clear_posts.b⟩
    | 6, hn, hg =>
      cases hn; cases hg
      exact ⟨fd 31, _, FnOk.mono (ask_do (fine C) sea_of (fun _ _ => rfl) G_far_apart) (by decide), t.d_far_apart.F.kp, t.d_far_apart.b⟩
    | 7, hn, hg =>
      cases hn; cases hg
      exact ⟨fd 32, _, FnOk.mono (ask_do (fine C) sea_of (fun _ _ => rfl) G_ball_of) (by decide), t.d_ball_of.F.kp, t.d_ball_of.b⟩
    | 8, hn, hg =>
      cases hn; cases hg
      exact ⟨fd 34, _, FnOk.mono (ask_do (fine C) sea_of (fun _ _ => rfl) G_share) (by decide), t.d_share.F.kp, t.d_share.b⟩
    | 9, hn, hg =>
      cases hn; cases hg
      exact ⟨fd 36, _, FnOk.mono (ask_do (fine C) sea_of (fun _ _ => rfl) G_fewest_posts) (by decide), t.d_fewest_posts.F.kp, t.d_fewest_posts.b⟩
    | 10, hn, hg =>
      cases hn; cases hg
      exact ⟨fd 37, _, FnOk.mono (ask_do (fine C) sea_of (fun _ _ => rfl) G_lonely_villages) (by decide), t.d_lonely_villages.F.kp, t.d_lonely_villages.b⟩
    | 11, hn, hg =>
      cases hn; cases hg
      exact ⟨fd 38, _, FnOk.mono (ask_do (fine C) sea_of (fun _ _ => rfl) G_least) (by decide), t.d_least.F.kp, t.d_least.b⟩
    | 12, hn, hg =>
      cases hn; cases hg
      exact ⟨fd 39, _, FnOk.mono (ask_do (fine C) sea_of (fun _ _ => rfl) G_more_posts) (by decide), t.d_more_posts.F.kp, t.d_more_posts.b⟩
    | 13, hn, hg =>
      cases hn; cases hg
      exact ⟨fd 40, _, FnOk.mono (ask_do (fine C) sea_of (fun _ _ => rfl) G_out_of_reach) (by decide), t.d_out_of_reach.F.kp, t.d_out_of_reach.b⟩
    | 14, hn, hg =>
      cases hn; cases hg
      exact ⟨fd 41, _, FnOk.mono (ask_do (fine C) sea_of (fun _ _ => rfl) G_nearest_post) (by decide), t.d_nearest_post.F.kp, t.d_nearest_post.b⟩
    | 15, hn, hg =>
      cases hn; cases hg
      exact ⟨fd 42, _, FnOk.mono (ask_do (fine C) sea_of (fun _ _ => rfl) G_worst_village) (by decide), t.d_worst_village.F.kp, t.d_worst_village.b⟩
    | 16, hn, hg =>
      cases hn; cases hg
      exact ⟨fd 43, _, FnOk.mono (ask_do (fine C) sea_of (fun _ _ => rfl) G_idle_posts) (by decide), t.d_idle_posts.F.kp, t.d_idle_posts.b⟩
    | 17, hn, hg =>
      cases hn; cases hg
      exact ⟨fd 35, _, FnOk.mono (ask_do (fine C) sea_of (fun _ _ => rfl) G_one_for_all) (by decide), t.d_one_for_all.F.kp, t.d_one_for_all.b⟩
    | 18, hn, hg =>
      cases hn; cases hg
      exact ⟨fd 45, _, FnOk.mono (ask_do (fine C) sea_of (fun _ _ => rfl) G_widest_pair) (by decide), t.d_widest_pair.F.kp, t.d_widest_pair.b⟩
    | 19, hn, hg =>
      cases hn; cases hg
      exact ⟨fd 44, _, FnOk.mono (ask_do (fine C) sea_of (fun _ _ => rfl) G_served_villages) (by decide), t.d_served_villages.F.kp, t.d_served_villages.b⟩
    | 20, hn, hg =>
      cases hn; cases hg
      exact ⟨fd 46, _, FnOk.mono (ask_do (fine C) sea_of (fun _ _ => rfl) G_look) (by decide), t.d_look.F.kp, t.d_look.b⟩
    | 21, hn, hg =>
      cases hn; cases hg
      exact ⟨fd 47, _, FnOk.mono (ask_do (fine C) sea_of (fun _ _ => rfl) G_posts_there) (by decide), t.d_posts_there.F.kp, t.d_posts_there.b⟩
    | 22, hn, hg =>
      cases hn; cases hg
      exact ⟨fd 27, _, FnOk.mono G_back (by decide), t.d_back.F.kp, t.d_back.b⟩
    | 23, hn, hg =>
      cases hn; cases hg
      exact ⟨fd 28, _, FnOk.mono G_again (by decide), t.d_again.F.kp, t.d_again.b⟩
    | 24, hn, hg =>
      cases hn; cases hg
      exact ⟨fd 29, _, FnOk.mono G_state (by decide), t.d_state.F.kp, t.d_state.b⟩
    | q + 25, hn, hg => simp [rowF] at hg
  refine ⟨FnOk.mono M_init (by decide), ⟨fd 48, _, FnOk.mono G_start (by decide), t.d_start.F.kp, t.d_start.b⟩, fun q n hn => ?_⟩
  obtain ⟨a, g, h1, h2, h3⟩ := hts q n hn
  obtain ⟨fd1, ps, g1, g2, g3⟩ := row q n hn g h2
  exact ⟨a, g, fd1, ps, h1, h3, g1, g2, g3⟩
end
end VR
end
section
set_option linter.all false
section
set_option Elab.async false
set_option linter.all false
set_option maxRecDepth 100000
set_option maxHeartbeats 2000000
namespace L2
open PySem PySem.Spec PyProof.Rows
open PySem.W (WData Codec OpenSpec Well WellAll ReadsW ReadsAllW)
mutual
inductive Dw (K : PySem.W.Frag) (H : Hp) : V → WData → Prop
  | non : Dw K H .non .none
  | bl (b : Bool) : Dw K H (.bl b) (.bool b)
  | int (i : Int) : Dw K H (.int i) (.int i)
  | str (x : Str) : Dw K H (.str x) (.str x)
  | byt (b : Array UInt8) : Dw K H (.byt b) (.bytes b.toList)
  | lst {a : Addr} {xs : List V} {ds : List WData} : SqL K H a xs → DwAll K H xs ds → Dw K H (.ref a) (.list ds)
  | tup {a : Addr} {xs : List V} {ds : List WData} : SqT K H a xs → DwAll K H xs ds → Dw K H (.ref a) (.tuple ds)
inductive DwAll (K : PySem.W.Frag) (H : Hp) : List V → List WData → Prop
  | nil : DwAll K H [] []
  | cons {v : V} {vs : List V} {d : WData} {ds : List WData} : Dw K H v d → DwAll K H vs ds → DwAll K H (v :: vs) (d :: ds)
end
theorem dw_ints {K : PySem.W.Frag} {H : Hp} : ∀ ns : List Int, DwAll K H (ns.map V.int) (ns.map WData.int)
  | [] => .nil
  | n :: r => .cons (.int n) (dw_ints r)
theorem ints_dw {K : PySem.W.Frag} {H : Hp} : ∀ (ns : List Int) (xs : List V), DwAll K H xs (ns.map WData.int) → xs = ns.map V.int
  | [], xs, h => by
    cases h
    rfl
  | n :: r, xs, h => by
    cases h with
    | cons h1 h2 =>
      cases h1
      rw [ints_dw r _ h2] <;> rfl
section
variable {P : Program} {w : World} {K : PySem.W.Frag} {H : Hp} {h : Heap} {R : PySem.W.WRecords} {cl : Str → Option Addr}
theorem sqL_at {a : Addr} {xs : List V} (hok : HOk P w H h) (KX : K.In h) (q : SqL K H a xs) : ∃ (its : List Value) (o : Obj) (n : Nat), Vals xs its ∧ h.get? a = some o ∧ o.cls = .type "list" ∧ o.data = .seq its.toArray n := by
  rcases q with q | ⟨o, its, n, e, hc, _, hd, _, hv⟩
  · obtain ⟨_, its, n, hv, e⟩ := (show ObjOk P w H h a (.lst xs) from q.ok hok)
    exact ⟨its, _, n, hv, e, rfl, rfl⟩
  · exact ⟨its.toList, o, n, hv, KX _ _ e, hc, by simp [hd]⟩
theorem sqT_at {a : Addr} {xs : List V} (hok : HOk P w H h) (KX : K.In h) (q : SqT K H a xs) : ∃ (its : List Value) (o : Obj) (n : Nat), Vals xs its ∧ h.get? a = some o ∧ o.cls = .type "tuple" ∧ o.data = .seq its.toArray n := by
  rcases q with q | ⟨o, its, n, e, hc, hd, _, hv⟩
  · obtain ⟨_, its, hv, o, e, hc, n, hd⟩ := (show ObjOk P w H h a (.tup xs) from q.ok hok)
    exact ⟨its, o, n, hv, e, hc, hd⟩
  · exact ⟨its.toList, o, n, hv, KX _ _ e, hc, by simp [hd]⟩
mutual
theorem Dw.reads (hok : HOk P w H h) (KX : K.In h) : ∀ (d : WData) (v : V) (u : Value), Dw K H v d → RelV v u → ∃ as, ReadsW R cl h u d as
  | .none, _, _, x, r => by
    cases x
    cases r
    exact ⟨_, ReadsW.none⟩
  | .bool b, _, _, x, r => by
    cases x
    cases r
    exact ⟨_, ReadsW.bool b⟩
  | .int i, _, _, x, r => by
    cases x
    obtain ⟨t, rfl⟩ := r
    exact ⟨_, ReadsW.int i t⟩
  | .str s, _, _, x, r => by
    cases x
    obtain ⟨t, rfl⟩ := r
    exact ⟨_, ReadsW.str s t⟩
  | .bytes b, _, _, x, r => by
    cases x
    obtain ⟨t, rfl⟩ := r
    exact ⟨_, ReadsW.bytes _ t⟩
  | .list ds, _, _, x, r => by
    cases x with
    | lst hs ha =>
      cases r
      obtain ⟨its, o, n, rv, ho, hc, hd⟩ := sqL_at hok KX hs
      obtain ⟨as, hr⟩ := Dw.readsAll hok KX ds _ its ha rv
      exact ⟨_, ReadsW.list ho hc hd hr⟩
  | .tuple ds, _, _, x, r => by
    cases x with
    | tup hs ha =>
      cases r
      obtain ⟨its, o, n, rv, ho, hc, hd⟩ := sqT_at hok KX hs
      obtain ⟨as, hr⟩ := Dw.readsAll hok KX ds _ its ha rv
      exact ⟨_, ReadsW.tuple ho hc hd hr⟩
  | .float _, _, _, x, _ => by cases x
  | .dict _, _, _, x, _ => by cases x
  | .bytearray _, _, _, x, _ => by cases x
  | .set _, _, _, x, _ => by cases x
  | .frozenset _, _, _, x, _ => by cases x
  | .obj _ _, _, _, x, _ => by cases x
theorem Dw.readsAll (hok : HOk P w H h) (KX : K.In h) : ∀ (ds : List WData) (vs : List V) (us : List Value), DwAll K H vs ds → Vals vs us → ∃ as, ReadsAllW R cl h us ds as
  | [], _, _, x, r => by
    cases x
    cases r
    exact ⟨_, ReadsAllW.nil⟩
  | d :: ds, _, _, x, r => by
    cases x with
    | cons h1 h2 =>
      cases r with
      | cons r1 r2 =>
        obtain ⟨as, q1⟩ := Dw.reads hok KX d _ _ h1 r1
        obtain ⟨bs, q2⟩ := Dw.readsAll hok KX ds _ _ h2 r2
        exact ⟨_, ReadsAllW.cons q1 q2⟩
end
end
mutual
def plW : WData → Bool
  | .none => true
  | .bool _ => true
  | .int _ => true
  | .str _ => true
  | .bytes _ => true
  | .list xs => plWs xs
  | .tuple xs => plWs xs
  | _ => false
def plWs : List WData → Bool
  | [] => true
  | x :: r => plW x && plWs r
end
theorem plWs_map {α : Type} {f : α → WData} (h : ∀ a, plW (f a) = true) : ∀ l : List α, plWs (l.map f) = true
  | [] => rfl
  | x :: r => by
    show (plW (f x) && plWs (r.map f)) = true
    rw [h x, plWs_map h r] <;> rfl
theorem pl_enc : ∀ (c : Codec) (a : c.denote), plW (c.enc a) = true
  | .unit, _ => rfl
  | .bool, _ => rfl
  | .int _ _, _ => rfl
  | .nat _ _, _ => rfl
  | .u8, _ => rfl
  | .bytes _ _, _ => rfl
  | .text _ _ _ _, _ => rfl
  | .list _ _ c, a => plWs_map (fun x => pl_enc c x) a
  | .pair c d, a => by
    show (plW (c.enc a.1) && (plW (d.enc a.2) && true)) = true
    rw [pl_enc c a.1, pl_enc d a.2] <;> rfl
  | .triple c d e, a => by
    show (plW (c.enc a.1) && (plW (d.enc a.2.1) && (plW (e.enc a.2.2) && true))) = true
    rw [pl_enc c a.1, pl_enc d a.2.1, pl_enc e a.2.2] <;> rfl
  | .option c, none => rfl
  | .option c, some x => pl_enc c x
theorem pl_encAll : ∀ (cs : List Codec) (a : Codec.denoteAll cs), plWs (Codec.encAll cs a) = true
  | [], _ => rfl
  | c :: cs, a => by
    show (plW (c.enc a.1) && plWs (Codec.encAll cs a.2)) = true
    rw [pl_enc c a.1, pl_encAll cs a.2] <;> rfl
theorem weight_mem : ∀ {xs : List WData} {d : WData}, d ∈ xs → d.weight ≤ WData.weightAll xs
  | [], d, h => absurd h (by simp)
  | x :: r, d, h => by
    show d.weight ≤ x.weight + 1 + WData.weightAll r
    rcases List.mem_cons.mp h with e | m
    · rw [e]
      omega
    · have z := weight_mem m
      omega
def toV : Value → V
  | .none => .non
  | .bool b => .bl b
  | .int i _ => .int i
  | .str x _ => .str x
  | .bytes b _ => .byt b
  | .ref a => .ref a
  | _ => .non
def OkU (A : List Addr) : Value → Prop
  | .none => True
  | .bool _ => True
  | .int _ _ => True
  | .str _ _ => True
  | .bytes _ _ => True
  | .ref a => a ∈ A
  | _ => False
theorem OkU.mono {A B : List Addr} (h : ∀ a ∈ A, a ∈ B) : ∀ {u : Value}, OkU A u → OkU B u := fun {u} x => by
  cases u with
  | ref a => exact h a x
  | none => trivial
  | bool b => trivial
  | int i t => trivial
  | str s t => trivial
  | bytes b t => trivial
  | _ => exact False.elim x
theorem relV_toV {A : List Addr} {u : Value} (x : OkU A u) : RelV (toV u) u := by
  cases u with
  | ref a => rfl
  | none => rfl
  | bool b => rfl
  | int i t => exact ⟨t, rfl⟩
  | str s t => exact ⟨t, rfl⟩
  | bytes b t => exact ⟨t, rfl⟩
  | _ => exact False.elim x
theorem vals_toV {A : List Addr} : ∀ {vs : List Value}, (∀ u ∈ vs, OkU A u) → Vals (vs.map toV) vs
  | [], _ => .nil
  | u :: r, h => .cons (relV_toV (h u (List.mem_cons_self ..))) (vals_toV fun x hx => h x (List.mem_cons_of_mem _ hx))
def ArgOb (h : Heap) (A : List Addr) (a : Addr) : Prop := ∃ vs : List Value, vs.length ≤ sizeLine ∧ (∀ u ∈ vs, OkU A u) ∧
  (h.get? a = some { cls := .type "list", data := .seq vs.toArray } ∨ h.get? a = some { cls := .type "tuple", data := .seq vs.toArray })
theorem ArgOb.mono {h : Heap} {A B : List Addr} {a : Addr} (k : ∀ a ∈ A, a ∈ B) (x : ArgOb h A a) : ArgOb h B a := by
  obtain ⟨vs, h1, h2, h3⟩ := x
  exact ⟨vs, h1, fun u hu => (h2 u hu).mono k, h3⟩
theorem wellAll_len {P : Params} {h : Heap} : ∀ {vs : List Value} {ds : List WData}, WellAll P h vs ds → vs.length = ds.length
  | _, _, .nil => rfl
  | _, _, .cons _ b => by
    show _ + 1 = _ + 1
    rw [wellAll_len b]
theorem well_list {P : Params} {h : Heap} {v : Value} {ds : List WData} (x : Well P h v (.list ds)) : ∃ (a : Addr) (vs : List Value), v = .ref a ∧ h.get? a = some { cls := .type "list", data := .seq vs.toArray } ∧ WellAll P h vs ds := by
  cases x with
  | list ho hall => exact ⟨_, _, rfl, ho, hall⟩
theorem well_tuple {P : Params} {h : Heap} {v : Value} {ds : List WData} (x : Well P h v (.tuple ds)) : ∃ (a : Addr) (vs : List Value), v = .ref a ∧ h.get? a = some { cls := .type "tuple", data := .seq vs.toArray } ∧ WellAll P h vs ds := by
  cases x with
  | tuple ho hall => exact ⟨_, _, rfl, ho, hall⟩
theorem well_cons {P : Params} {h : Heap} {us : List Value} {d : WData} {ds : List WData} (x : WellAll P h us (d :: ds)) : ∃ (v : Value) (vs : List Value), us = v :: vs ∧ Well P h v d ∧ WellAll P h vs ds := by
  cases x with
  | cons a b => exact ⟨_, _, rfl, a, b⟩
theorem line_of {n : Nat} (h : n ≤ 1048576) : n ≤ sizeLine := Nat.le_trans h (by decide)
section
variable {P : Params} {h : Heap}
mutual
theorem area_one : ∀ (d : WData) (v : Value), Well P h v d → plW d = true → d.weight ≤ 1048576 → ∃ A : List Addr, OkU A v ∧ ∀ a ∈ A, ArgOb h A a
  | .none, _, x, _, _ => by
    cases x
    exact ⟨[], trivial, fun a m => absurd m (by simp)⟩
  | .bool b, _, x, _, _ => by
    cases x
    exact ⟨[], trivial, fun a m => absurd m (by simp)⟩
  | .int i, _, x, _, _ => by
    cases x
    exact ⟨[], trivial, fun a m => absurd m (by simp)⟩
  | .str s, _, x, _, _ => by
    cases x
    exact ⟨[], trivial, fun a m => absurd m (by simp)⟩
  | .bytes b, _, x, _, _ => by
    cases x
    exact ⟨[], trivial, fun a m => absurd m (by simp)⟩
  | .list ds, _, x, p, z => by
    obtain ⟨a, vs, rfl, ho, hall⟩ := well_list x
    have z2 : WData.weightAll ds ≤ 1048576 := z
    obtain ⟨A, h1, h2⟩ := area_all ds _ hall p fun d hd => Nat.le_trans (weight_mem hd) z2
    have k : ∀ b ∈ A, b ∈ a :: A := fun b hb => List.mem_cons_of_mem _ hb
    refine ⟨a :: A, List.mem_cons_self .., fun b hb => ?_⟩
    rcases List.mem_cons.mp hb with e | m
    · rw [e]
      exact ⟨vs, line_of (by rw [wellAll_len hall]; exact Nat.le_trans (PySem.W.length_le_weightAllW ds) z2), fun u hu => (h1 u hu).mono k, .inl ho⟩
    · exact (h2 b m).mono k
  | .tuple ds, _, x, p, z => by
    obtain ⟨a, vs, rfl, ho, hall⟩ := well_tuple x
    have z2 : WData.weightAll ds ≤ 1048576 := z
    obtain ⟨A, h1, h2⟩ := area_all ds _ hall p fun d hd => Nat.le_trans (weight_mem hd) z2
    have k : ∀ b ∈ A, b ∈ a :: A := fun b hb => List.mem_cons_of_mem _ hb
    refine ⟨a :: A, List.mem_cons_self .., fun b hb => ?_⟩
    rcases List.mem_cons.mp hb with e | m
    · rw [e]
      exact ⟨vs, line_of (by rw [wellAll_len hall]; exact Nat.le_trans (PySem.W.length_le_weightAllW ds) z2), fun u hu => (h1 u hu).mono k, .inr ho⟩
    · exact (h2 b m).mono k
  | .float _, _, _, p, _ => Bool.noConfusion (show false = true from p)
  | .dict _, _, _, p, _ => Bool.noConfusion (show false = true from p)
  | .bytearray _, _, _, p, _ => Bool.noConfusion (show false = true from p)
  | .set _, _, _, p, _ => Bool.noConfusion (show false = true from p)
  | .frozenset _, _, _, p, _ => Bool.noConfusion (show false = true from p)
  | .obj _ _, _, _, p, _ => Bool.noConfusion (show false = true from p)
theorem area_all : ∀ (ds : List WData) (vs : List Value), WellAll P h vs ds → plWs ds = true → (∀ d ∈ ds, d.weight ≤ 1048576) → ∃ A : List Addr, (∀ u ∈ vs, OkU A u) ∧ ∀ a ∈ A, ArgOb h A a
  | [], _, x, _, _ => by
    cases x
    exact ⟨[], fun u m => absurd m (by simp), fun a m => absurd m (by simp)⟩
  | d :: ds, _, x, p, z => by
    obtain ⟨v, vs, rfl, x1, x2⟩ := well_cons x
    have q : plW d = true ∧ plWs ds = true := Bool.and_eq_true_iff.mp p
    obtain ⟨A, a1, a2⟩ := area_one d v x1 q.1 (z d (List.mem_cons_self ..))
    obtain ⟨B, b1, b2⟩ := area_all ds vs x2 q.2 fun e he => z e (List.mem_cons_of_mem _ he)
    have kA : ∀ b ∈ A, b ∈ A ++ B := fun b hb => List.mem_append.mpr (.inl hb)
    have kB : ∀ b ∈ B, b ∈ A ++ B := fun b hb => List.mem_append.mpr (.inr hb)
    refine ⟨A ++ B, fun u hu => ?_, fun b hb => ?_⟩
    · rcases List.mem_cons.mp hu with e | m
      · rw [e]
        exact a1.mono kA
      · exact (b1 u m).mono kB
    · rcases List.mem_append.mp hb with m | m
      · exact (a2 b m).mono kA
      · exact (b2 b m).mono kB
end
end
def hoOf (o : Obj) : Option HO := match o.data with
  | .seq vs _ => if (o.cls == Value.type "list") = true then some (.frz o (.lst (vs.toList.map toV))) else some (.frz o (.tup (vs.toList.map toV)))
  | _ => none
def argH (K : PySem.W.Frag) (h : Heap) (A : List Addr) : Hp := fun b => if b ∈ A then (if (K.lookup b).isNone = true then (h.get? b).bind hoOf else none) else none
def OnlyF (H : Hp) : Prop := ∀ b, H b = none ∨ ∃ o u, H b = some (.frz o u)
theorem hoOf_lst (vs : List Value) : hoOf { cls := .type "list", data := .seq vs.toArray } = some (.frz { cls := .type "list", data := .seq vs.toArray } (.lst (vs.map toV))) := by
  show (if (Value.type "list" == Value.type "list") = true then some (HO.frz { cls := .type "list", data := .seq vs.toArray } (.lst (vs.toArray.toList.map toV))) else some (HO.frz { cls := .type "list", data := .seq vs.toArray } (.tup (vs.toArray.toList.map toV)))) = _
  rw [if_pos (beq_self_eq_true _)]
theorem hoOf_tup (vs : List Value) : hoOf { cls := .type "tuple", data := .seq vs.toArray } = some (.frz { cls := .type "tuple", data := .seq vs.toArray } (.tup (vs.map toV))) := by
  show (if (Value.type "tuple" == Value.type "list") = true then some (HO.frz { cls := .type "tuple", data := .seq vs.toArray } (.lst (vs.toArray.toList.map toV))) else some (HO.frz { cls := .type "tuple", data := .seq vs.toArray } (.tup (vs.toArray.toList.map toV)))) = _
  rw [if_neg (by decide)]
section
variable {P : Program} {w : World} {K : PySem.W.Frag} {h : Heap} {A : List Addr}
theorem argH_at {b : Addr} {o : Obj} (hb : b ∈ A) (hk : K.lookup b = none) (e : h.get? b = some o) : argH K h A b = hoOf o := by
  unfold argH
  rw [if_pos hb, hk, if_pos (show (none : Option Obj).isNone = true from rfl), e] <;> rfl
theorem of_argH {b : Addr} {u : HO} (q : argH K h A b = some u) : b ∈ A ∧ K.lookup b = none := by
  unfold argH at q
  by_cases hb : b ∈ A
  · rw [if_pos hb] at q
    cases hk : K.lookup b with
    | none => exact ⟨hb, rfl⟩
    | some o =>
      rw [hk, if_neg (by simp)] at q
      cases q
  · rw [if_neg hb] at q
    cases q
theorem argH_is (ar : ∀ a ∈ A, ArgOb h A a) {b : Addr} {u : HO} (q : argH K h A b = some u) : K.lookup b = none ∧ ∃ vs : List Value, vs.length ≤ sizeLine ∧ (∀ u ∈ vs, OkU A u) ∧
    ((h.get? b = some { cls := .type "list", data := .seq vs.toArray } ∧ u = .frz { cls := .type "list", data := .seq vs.toArray } (.lst (vs.map toV))) ∨
     (h.get? b = some { cls := .type "tuple", data := .seq vs.toArray } ∧ u = .frz { cls := .type "tuple", data := .seq vs.toArray } (.tup (vs.map toV)))) := by
  obtain ⟨hb, hk⟩ := of_argH q
  obtain ⟨vs, h1, h2, h3⟩ := ar b hb
  refine ⟨hk, vs, h1, h2, ?_⟩
  rcases h3 with e | e
  · rw [argH_at hb hk e, hoOf_lst] at q
    exact .inl ⟨e, (Option.some.inj q).symm⟩
  · rw [argH_at hb hk e, hoOf_tup] at q
    exact .inr ⟨e, (Option.some.inj q).symm⟩
theorem argH_only (ar : ∀ a ∈ A, ArgOb h A a) : OnlyF (argH K h A) := fun b => by
  cases q : argH K h A b with
  | none => exact .inl rfl
  | some u =>
    obtain ⟨_, vs, _, _, ⟨_, e⟩ | ⟨_, e⟩⟩ := argH_is ar q
    · exact .inr ⟨_, _, by rw [e]⟩
    · exact .inr ⟨_, _, by rw [e]⟩
theorem argH_ok (ar : ∀ a ∈ A, ArgOb h A a) : HOk P w (argH K h A) h := fun b u q => by
  obtain ⟨_, vs, h1, h2, ⟨e, rfl⟩ | ⟨e, rfl⟩⟩ := argH_is ar q
  · exact ⟨e, by rw [List.length_map]; exact h1, vs, _, vals_toV h2, e⟩
  · exact ⟨e, by rw [List.length_map]; exact h1, vs, vals_toV h2, _, e, rfl, _, rfl⟩
theorem seq_inj {c c' : Value} {vs us : List Value} (e : (some { cls := c, data := .seq vs.toArray } : Option Obj) = some { cls := c', data := .seq us.toArray }) : c = c' ∧ vs = us := by
  have e1 := Option.some.inj e
  have e2 : c = c' := congrArg Obj.cls e1
  have e3 : Data.seq vs.toArray = Data.seq us.toArray := congrArg Obj.data e1
  injection e3 with e4
  refine ⟨e2, ?_⟩
  have e5 := congrArg Array.toList e4
  simpa using e5
theorem argL (KX : K.In h) (ar : ∀ a ∈ A, ArgOb h A a) {a : Addr} {vs : List Value} (ha : a ∈ A) (e : h.get? a = some { cls := .type "list", data := .seq vs.toArray }) : (∀ u ∈ vs, OkU A u) ∧ SqL K (argH K h A) a (vs.map toV) := by
  obtain ⟨us, h1, h2, h3⟩ := ar a ha
  have hu : us = vs := by
    rcases h3 with q | q
    · rw [e] at q
      exact (seq_inj q).2.symm
    · rw [e] at q
      exact absurd (Value.type.inj (seq_inj q).1) (by decide)
  subst hu
  refine ⟨h2, ?_⟩
  cases hk : K.lookup a with
  | none => exact .inl (.inr ⟨_, by rw [argH_at ha hk e, hoOf_lst]⟩)
  | some o =>
    have e2 := KX a o hk
    rw [e] at e2
    obtain rfl := Option.some.inj e2
    exact .inr ⟨_, us.toArray, _, hk, rfl, rfl, rfl, by rw [List.size_toArray]; exact h1, by simpa using vals_toV h2⟩
theorem argT (KX : K.In h) (ar : ∀ a ∈ A, ArgOb h A a) {a : Addr} {vs : List Value} (ha : a ∈ A) (e : h.get? a = some { cls := .type "tuple", data := .seq vs.toArray }) : (∀ u ∈ vs, OkU A u) ∧ SqT K (argH K h A) a (vs.map toV) := by
  obtain ⟨us, h1, h2, h3⟩ := ar a ha
  have hu : us = vs := by
    rcases h3 with q | q
    · rw [e] at q
      exact absurd (Value.type.inj (seq_inj q).1) (by decide)
    · rw [e] at q
      exact (seq_inj q).2.symm
  subst hu
  refine ⟨h2, ?_⟩
  cases hk : K.lookup a with
  | none => exact .inl (.inr ⟨_, by rw [argH_at ha hk e, hoOf_tup]⟩)
  | some o =>
    have e2 := KX a o hk
    rw [e] at e2
    obtain rfl := Option.some.inj e2
    exact .inr ⟨_, us.toArray, _, hk, rfl, rfl, by rw [List.size_toArray]; exact h1, by simpa using vals_toV h2⟩
mutual
theorem dw_one {Pm : Params} (KX : K.In h) (ar : ∀ a ∈ A, ArgOb h A a) : ∀ (d : WData) (v : Value), Well Pm h v d → plW d = true → OkU A v → Dw K (argH K h A) (toV v) d
  | .none, _, x, _, _ => by
    cases x
    exact .non
  | .bool b, _, x, _, _ => by
    cases x
    exact .bl b
  | .int i, _, x, _, _ => by
    cases x
    exact .int i
  | .str s, _, x, _, _ => by
    cases x
    exact .str s
  | .bytes b, _, x, _, _ => by
    cases x
    have z := Dw.byt (K := K) (H := argH K h A) b.toArray
    exact z
  | .list ds, _, x, p, hu => by
    obtain ⟨a, vs, rfl, ho, hall⟩ := well_list x
    obtain ⟨h2, hs⟩ := argL KX ar hu ho
    exact .lst hs (dw_all KX ar ds _ hall p h2)
  | .tuple ds, _, x, p, hu => by
    obtain ⟨a, vs, rfl, ho, hall⟩ := well_tuple x
    obtain ⟨h2, hs⟩ := argT KX ar hu ho
    exact .tup hs (dw_all KX ar ds _ hall p h2)
  | .float _, _, _, p, _ => Bool.noConfusion (show false = true from p)
  | .dict _, _, _, p, _ => Bool.noConfusion (show false = true from p)
  | .bytearray _, _, _, p, _ => Bool.noConfusion (show false = true from p)
  | .set _, _, _, p, _ => Bool.noConfusion (show false = true from p)
  | .frozenset _, _, _, p, _ => Bool.noConfusion (show false = true from p)
  | .obj _ _, _, _, p, _ => Bool.noConfusion (show false = true from p)
theorem dw_all {Pm : Params} (KX : K.In h) (ar : ∀ a ∈ A, ArgOb h A a) : ∀ (ds : List WData) (vs : List Value), WellAll Pm h vs ds → plWs ds = true → (∀ u ∈ vs, OkU A u) → DwAll K (argH K h A) (vs.map toV) ds
  | [], _, x, _, _ => by
    cases x
    exact .nil
  | d :: ds, _, x, p, hu => by
    obtain ⟨v, vs, rfl, x1, x2⟩ := well_cons x
    have q : plW d = true ∧ plWs ds = true := Bool.and_eq_true_iff.mp p
    exact .cons (dw_one KX ar d v x1 q.1 (hu _ (List.mem_cons_self ..))) (dw_all KX ar ds vs x2 q.2 fun u m => hu u (List.mem_cons_of_mem _ m))
end
end
theorem layable_weight {ds : List WData} (h : WData.layableAll ds = true) : ∀ d ∈ ds, d.weight ≤ 1048576 := fun d hd =>
  (PySem.W.layableW_iff.mp (List.all_eq_true.mp h d hd)).2.2
theorem encAll_len : ∀ (cs : List Codec) (a : Codec.denoteAll cs), (Codec.encAll cs a).length = cs.length
  | [], _ => rfl
  | c :: cs, a => by
    show (Codec.encAll cs a.2).length + 1 = cs.length + 1
    rw [encAll_len cs a.2]
end L2
end
end
section
set_option Elab.async false
set_option linter.all false
set_option maxRecDepth 100000
set_option maxHeartbeats 4000000
namespace L2
open PySem PySem.Spec PyProof.Rows
open PySem.W (WData Codec OpenSpec Well WellAll ReadsW ReadsAllW)
theorem SqL.same {K : PySem.W.Frag} {H H' : Hp} {a : Addr} {xs : List V} (e : Same H H') (h : SqL K H a xs) : SqL K H' a xs := e.seq h
theorem SqT.same {K : PySem.W.Frag} {H H' : Hp} {a : Addr} {xs : List V} (e : Same H H') (h : SqT K H a xs) : SqT K H' a xs := by
  rcases h with (q | ⟨o, q⟩) | q
  · exact .inl (.inl (e _ _ q))
  · exact .inl (.inr ⟨o, e _ _ q⟩)
  · exact .inr q
mutual
theorem Dw.same {K : PySem.W.Frag} {H H' : Hp} (e : Same H H') : ∀ {v : V} {d : WData}, Dw K H v d → Dw K H' v d
  | _, _, .non => .non
  | _, _, .bl b => .bl b
  | _, _, .int i => .int i
  | _, _, .str x => .str x
  | _, _, .byt b => .byt b
  | _, _, .lst hs ha => .lst (SqL.same e hs) (DwAll.same e ha)
  | _, _, .tup hs ha => .tup (SqT.same e hs) (DwAll.same e ha)
theorem DwAll.same {K : PySem.W.Frag} {H H' : Hp} (e : Same H H') : ∀ {vs : List V} {ds : List WData}, DwAll K H vs ds → DwAll K H' vs ds
  | _, _, .nil => .nil
  | _, _, .cons h r => .cons (Dw.same e h) (DwAll.same e r)
end
def withTabs (ts : List (Addr × Addr)) (H : Hp) : Hp := fun b => if b ∈ ts.map (·.2) then some (.tbl #[]) else H b
theorem withTabs_at {ts : List (Addr × Addr)} {H : Hp} {x : Addr × Addr} (h : x ∈ ts) : withTabs ts H x.2 = some (.tbl #[]) := by
  unfold withTabs; rw [if_pos (List.mem_map_of_mem h)]
theorem withTabs_ne {ts : List (Addr × Addr)} {H : Hp} {b : Addr} (h : b ∉ ts.map (·.2)) : withTabs ts H b = H b := by unfold withTabs; rw [if_neg h]
theorem spec_callT {P : Program} {w : World} {K : PySem.W.Frag} {mg mb : Str → Option Value} {CX : CXT} {k : Nat} {fa : Addr} {fd : FuncData} {ps : List Str} {sp : Sp} {s₁ : Shared} {vals : List Value} {ds : List WData} {R : PySem.W.WRecords} {cl : Str → Option Addr} {d0 : WData} {ts : List (Addr × Addr)}
    (hT : PySem.W.TabsAt ts s₁.heap) (hKT : ∀ x ∈ ts, K.lookup x.2 = none) (hBM : BMain mg s₁.heap)
    (KX : K.In s₁.heap) (hns : s₁.heap.Ns mainGlobals mg) (hb : s₁.heap.Ns builtinsNs mb) (hbb : ∀ x : Str, x ≠ "__name__" → mb x = bootBuiltins x) (hlim : s₁.heap.NoLimit) (hg : s₁.gens = #[])
    (hwl : WellAll w.params s₁.heap vals ds) (hpl : plWs ds = true) (hwt : ∀ d ∈ ds, d.weight ≤ 1048576) (hr : Room k callerA)
    (F : ∀ base : Heap, K.In base → base.Ns mainGlobals mg → BMain mg base → FnOk P w K mg base CX k fa fd ps sp) (hbind : ∀ (s : Shared) (us : List Value), us.length = ps.length → BindsTo s fd ⟨us, []⟩ (ps.zip us)) (hlen : ds.length = ps.length)
    (hsp : ∀ (H : Hp) (xs : List V), (∀ x ∈ ts, H x.2 = some (.tbl #[])) → DwAll K H xs ds → sp xs H (fun v H' => Dw K H' v d0) fun _ _ _ => False)
    (hCX : ∀ H e s', CX [] H s₁ (fun _ _ _ => False) e s' → False) :
    codeAny (model P w) callerA (.call (.ref fa) ⟨vals, []⟩) (fun r s' => ∃ u as, r = .ok (.ret u) ∧ ReadsW R cl s'.heap u d0 as ∧ OldK s₁.heap s'.heap ∧ s'.os = s₁.os ∧ AllBare s'.gens) s₁ := by
  obtain ⟨A, ho, ar⟩ := area_all ds vals hwl hpl hwt
  have hO : OnlyF (argH K s₁.heap A) := argH_only ar
  have hok0 : HOk P w (argH K s₁.heap A) s₁.heap := argH_ok ar
  have hS0 := dw_all KX ar ds vals hwl hpl ho
  have hV := vals_toV ho
  have hK0 : ∀ b u, argH K s₁.heap A b = some u → K.lookup b = none := fun b u q => (argH_is ar q).1
  have seqs : ∀ {b : Addr} {u : HO} {o : Obj}, argH K s₁.heap A b = some u → s₁.heap.get? b = some o → ∃ xs n, o.data = .seq xs n := fun {b u o} q e => by
    obtain ⟨_, vs, _, _, ⟨e2, _⟩ | ⟨e2, _⟩⟩ := argH_is ar q
    · rw [e2] at e; cases e; exact ⟨_, _, rfl⟩
    · rw [e2] at e; cases e; exact ⟨_, _, rfl⟩
  generalize argH K s₁.heap A = H0 at hO hok0 hS0 hK0 seqs
  have n0 : ∀ x ∈ ts, H0 x.2 = none := fun x hx => by
    cases q : H0 x.2 with
    | none => rfl
    | some u =>
      obtain ⟨xs, n, e⟩ := seqs q (hT x hx).2
      cases e
  have e0 : Same H0 (withTabs ts H0) := fun b o e => by
    rw [withTabs_ne fun z => ?_]
    · exact e
    · obtain ⟨x, hx, rfl⟩ := List.mem_map.mp z
      rw [n0 x hx] at e; cases e
  have hok : HOk P w (withTabs ts H0) s₁.heap := fun b u e => by
    by_cases z : b ∈ ts.map (·.2)
    · obtain ⟨x, hx, rfl⟩ := List.mem_map.mp z
      rw [withTabs_at hx] at e
      cases e
      exact (hT x hx).2
    · rw [withTabs_ne z] at e
      exact (hok0 b u e).stay (fun _ _ _ q => q) (fun c q => e0 c _ q) fun c xs q => e0 c _ q
  have noH : ∀ {b : Addr} {o : Obj}, s₁.heap.get? b = some o → (∀ xs n, o.data ≠ .seq xs n) → (∀ vs, o.data ≠ .fields vs) → withTabs ts H0 b = none := fun {b o} e d1 d2 => by
    rw [withTabs_ne fun z => ?_]
    · cases q : H0 b with
      | none => rfl
      | some u =>
        obtain ⟨xs, n, e'⟩ := seqs q e
        exact absurd e' (d1 xs n)
    · obtain ⟨x, hx, rfl⟩ := List.mem_map.mp z
      have q := (hT x hx).2
      rw [e] at q
      cases q
      exact d2 _ rfl
  have hS := DwAll.same e0 hS0
  have tabs : ∀ x ∈ ts, withTabs ts H0 x.2 = some (.tbl #[]) := fun x hx => withTabs_at hx
  have only : ∀ b, withTabs ts H0 b = none ∨ (∃ o u, withTabs ts H0 b = some (.frz o u)) ∨ ∃ x ∈ ts, b = x.2 := fun b => by
    by_cases z : b ∈ ts.map (·.2)
    · obtain ⟨x, hx, rfl⟩ := List.mem_map.mp z
      exact .inr (.inr ⟨x, hx, rfl⟩)
    · rw [withTabs_ne z]
      rcases hO b with q | q
      · exact .inl q
      · exact .inr (.inl q)
  have nK : ∀ b o, K.lookup b = some o → withTabs ts H0 b = none := fun b o e => by
    rw [withTabs_ne fun z => ?_]
    · cases q : H0 b with
      | none => rfl
      | some u => rw [hK0 b u q] at e; cases e
    · obtain ⟨x, hx, rfl⟩ := List.mem_map.mp z
      rw [hKT x hx] at e; cases e
  generalize withTabs ts H0 = H at hok noH hS tabs only nK
  have base_of : ∀ {b : Addr} {o : Obj}, s₁.heap.get? b = some o → H b = none → (hidT s₁.heap H).get? b = some o := fun e n => hidT_get e n
  have nsK : ∀ {b : Addr} {m : Str → Option Value}, s₁.heap.Ns b m → (hidT s₁.heap H).Ns b m := fun {b m} ⟨o, es, ep, e, d, r⟩ => ⟨o, es, ep, base_of e (noH e (fun _ _ z => by rw [d] at z; cases z) (fun _ z => by rw [d] at z; cases z)), d, r⟩
  have hKb : K.In (hidT s₁.heap H) := fun b o e => base_of (KX b o e) (nK b o e)
  have hBb : BMain mg (hidT s₁.heap H) := by
    obtain ⟨bm, ob, b1, b2, b3, b4, b5, b6, b7⟩ := hBM
    exact ⟨bm, ob, b1, b2, b3, base_of b4 (noH b4 (fun _ _ z => by rw [b7] at z; cases z) (fun _ z => by rw [b7] at z; cases z)), b5, b6, b7⟩
  have hM : Mod K mg (hidT s₁.heap H) := ⟨hKb, nsK hns, ⟨mb, nsK hb, hbb⟩, let ⟨mc, h1, h2⟩ := hlim; ⟨mc, nsK h1, h2⟩⟩
  have en : Env0 P w K mg (hidT s₁.heap H) callerA [] s₁ H := ⟨rfl, hM, fun b o e => of_hidT e, Nat.le_of_eq (hidT_size _ _), trivial, fun b hb => absurd (show b ∈ ([] : List Addr) from hb) (by simp), hok, .of_eq hg⟩
  have hl : vals.length = ps.length := by rw [wellAll_len hwl]; exact hlen
  refine codeAny_mono ((F _ hKb (nsK hns) hBb).run callerA [] s₁ H ⟨vals, []⟩ vals (vals.map toV) _ _ hr en (hbind s₁ vals hl) hV (hsp H _ tabs hS)) fun r s' x => ?_
  cases r with
  | error e => exact (hCX H e s' x).elim
  | ok fl =>
    cases fl with
    | next => exact False.elim x
    | brk => exact False.elim x
    | cont => exact False.elim x
    | ret u =>
      obtain ⟨v, H', os, bare, un, hok', r', q⟩ := x
      have grown : ∀ x ∈ ts, ∃ more, s'.heap.get? x.2 = some (PySem.W.tabObj more) := fun x hx => by
        obtain ⟨more, e⟩ := un.tbls x.2 #[] (tabs x hx)
        exact ⟨_, hok' _ _ e⟩
      have kept : ∀ b o, b ∉ ts.map (·.2) → s₁.heap.get? b = some o → s'.heap.get? b = some o := fun b o hb e => by
        rcases only b with z | ⟨ob, u3, z⟩ | ⟨x, hx, z⟩
        · exact un.keep b o e z (by intro y; exact absurd (show b ∈ ([] : List Addr) from y) (by simp)) (by simp)
        · have z2 := un.frzs b ob _ z
          obtain ⟨e1, _⟩ := hok b _ z
          obtain ⟨e2, _⟩ := hok' b _ z2
          rw [e] at e1
          cases e1
          exact e2
        · exact absurd (by rw [z]; exact List.mem_map_of_mem hx) hb
      have KX' : K.In s'.heap := fun b o e => kept b o (fun z => by
        obtain ⟨x, hx, rfl⟩ := List.mem_map.mp z
        rw [hKT x hx] at e; cases e) (KX b o e)
      obtain ⟨as, hrd⟩ := Dw.reads (R := R) (cl := cl) hok' KX' d0 v u q r'
      refine ⟨u, as, rfl, hrd, ⟨fun b o e => ?_, fun b o e => ?_⟩, os, bare⟩
      · by_cases z : b ∈ ts.map (·.2)
        · obtain ⟨x, hx, rfl⟩ := List.mem_map.mp z
          have e2 := (hT x hx).2
          rw [e] at e2
          cases e2
          obtain ⟨more, g⟩ := grown x hx
          exact .inr (.inl ⟨((hT x hx).1.tab (hT x hx).2).isCodeTable, rfl, #[], more, rfl, by rw [Array.empty_append]; exact g⟩)
        · exact .inl (kept b o z e)
      · by_cases z : b ∈ ts.map (·.2)
        · obtain ⟨x, hx, rfl⟩ := List.mem_map.mp z
          obtain ⟨more, g⟩ := grown x hx
          exact ⟨_, g⟩
        · exact ⟨o, kept b o z e⟩
theorem walk_specT {r : OpenSpec} {k : Nat} {q : Program} {loose : List Str} {XP : (Str → Option Value) → Heap → Prop} {YP : World → Heap → Prop} {d : DefRec} {K : Params → PySem.W.Frag} {CX : CXT} {ps : List Str} {sp : PySem.W.Frag → Sp} (ts : List (Addr × Addr))
    (hwell : r.wellSaid = true) (hdf : d.params.defaults = []) (hlen : r.args.length = ps.length) (hr : Room k callerA)
    (hY : ∀ (w : World) (h : Heap), YP w h → (K w.params).In h)
    (hTab : ∀ (w : World) (h : Heap) (lo : List Str) (mean : ExcName → Option Value) (mg mb : Str → Option Value), YP w h → Top q lo mean mg mb h → (K w.params).In h → PySem.W.TabsAt ts h)
    (hKT : ∀ (w : World), ∀ x ∈ ts, (K w.params).lookup x.2 = none)
    (F : ∀ (w : World) (mg : Str → Option Value) (fa : Addr) (h : Heap), YP w h → (K w.params).In h → h.Ns mainGlobals mg → mg d.name = some (.ref fa) →
      ∃ fd : FuncData, (∀ (s : Shared) (us : List Value), us.length = ps.length → BindsTo s fd ⟨us, []⟩ (ps.zip us)) ∧
        ∀ base : Heap, (K w.params).In base → base.Ns mainGlobals mg → BMain mg base → FnOk r.prog w (K w.params) mg base CX k fa fd ps (sp (K w.params)))
    (hsp : ∀ (K : PySem.W.Frag) (H : Hp) (xs : List V) (a : Codec.denoteAll r.args), (∀ x ∈ ts, H x.2 = some (.tbl #[])) → Codec.withinAll r.args a = true → Codec.app r.args r.asked a = true → DwAll K H xs (Codec.encAll r.args a) →
      sp K xs H (fun v H' => Dw K H' v (r.ret.enc (Codec.app r.args r.f a))) fun _ _ _ => False)
    (hCX : ∀ (H : Hp) (s : Shared) (e : Value) (s' : Shared), CX [] H s (fun _ _ _ => False) e s' → False) :
    PySem.W.WalkOS q loose XP YP r d [] (fun f vs => PySem.call f vs) := by
  intro w s_0 s₁ mg mb G Y fa o pm cd doc dV kV ho hd hcd hD hmg hg args vals as hpre hlay hrd hwl hlo
  obtain ⟨a, e1, e2⟩ := PySem.W.os_pre_some hpre
  obtain ⟨e3, hwi⟩ := Codec.encAll_of_decAll r.args args a e1
  subst e3
  have KX := hY w _ Y
  obtain ⟨fd, hb, hF⟩ := F w mg fa _ Y KX G.T.g hmg
  have hBM : BMain mg s₁.heap := by
    obtain ⟨bm, ob, b1, b2, b3, b4, b5, b6⟩ := G.T.bmain
    refine ⟨bm, ob, b1, b2, fun z => ?_, b3, b4, b5, b6⟩
    obtain ⟨o', es, ep, g1, g2, _⟩ := G.T.g
    rw [z, g1] at b3
    cases b3
    rw [g2] at b6
    cases b6
  refine PySem.W.enter_call (codeAny_mono (spec_callT (R := []) (cl := classAt s_0.heap) (d0 := r.ret.enc (Codec.app r.args r.f a)) (hTab w _ _ _ _ _ Y G.T KX) (hKT w) hBM KX G.T.g G.T.b G.T.builtins G.T.nolimit hg hwl (pl_encAll _ _) (layable_weight hlay) hr hF hb (by rw [encAll_len]; exact hlen)
    (fun H xs hO hS => hsp _ H xs a hO hwi e2 hS) fun H e s' => hCX H s₁ e s') fun r' s' hq => ?_)
  obtain ⟨u, as', rfl, h1, h2, h3, h4⟩ := hq
  exact ⟨.inl ⟨u, _, as', rfl, fun _ => rfl, h1, (OpenSpec.post_iff hwell hwi _ _).mpr rfl, fun z => Bool.noConfusion (show false = true from z)⟩, h2, h3, h4⟩
end L2
end
section
set_option Elab.async false
set_option linter.all false
set_option maxRecDepth 100000
set_option maxHeartbeats 4000000
namespace VR
open PySem PySem.Spec PyProof.Rows L2 Vp
section
variable {K : PySem.W.Frag} {h : Heap} {mg : Str → Option Value} {C : Addr}
theorem mkF {x qual : Str} {st : Stmt} {f : Addr} {oc : Value} {od an : Option Addr} {osl : Array (Option Value)} {kV doc pm cdv ct : Value} (l : K.lookup f = some ⟨oc, od, .func (PySem.W.fnOf x qual (defArgs st) (defBody st) (defScope st) .none kV doc pm an cdv ct), osl⟩)
    (c : PySem.W.codeIn K cdv qual = true) (k : PySem.W.keepIn K (.ref f) = true) : Fun K x qual st f (PySem.W.fnOf x qual (defArgs st) (defBody st) (defScope st) .none kV doc pm an cdv ct) := ⟨⟨oc, od, kV, doc, pm, an, cdv, ct, osl, rfl, l, c⟩, k⟩
abbrev Bd (x q : Str) (st : Stmt) (ps : List Str) : Prop := ∀ (kV doc pm : Value) (an : Option Addr) (cdv ct : Value) (us : List Value), us.length = ps.length → bindArgs (PySem.W.fnOf x q (defArgs st) (defBody st) (defScope st) .none kV doc pm an cdv ct) ⟨us, []⟩ = pure (ps.zip us)
theorem dn_mk {x : Str} {st : Stmt} {ps : List Str} {f : Addr} {oc : Value} {od an : Option Addr} {osl : Array (Option Value)} {kV doc pm cdv ct : Value} (X : K.In h) (G : h.Ns mainGlobals mg) (b : Bd x x st ps) (a : PySem.W.nsIn K mainGlobals x = some (some (.ref f)))
    (l : K.lookup f = some ⟨oc, od, .func (PySem.W.fnOf x x (defArgs st) (defBody st) (defScope st) .none kV doc pm an cdv ct), osl⟩) (c : PySem.W.codeIn K cdv x = true) (k : PySem.W.keepIn K (.ref f) = true) :
    Dn K mg x st ps f (PySem.W.fnOf x x (defArgs st) (defBody st) (defScope st) .none kV doc pm an cdv ct) := ⟨mkF l c k, (mkF l c k).binds b, PySem.W.mg_of X G a⟩
theorem dm_mk {x q : Str} {st : Stmt} {ps : List Str} {f : Addr} {oc : Value} {od an : Option Addr} {osl : Array (Option Value)} {kV doc pm cdv ct : Value} (X : K.In h) (b : Bd x q st ps) (a : PySem.W.findIn K (.ref C) x = some (some (.ref f)))
    (l : K.lookup f = some ⟨oc, od, .func (PySem.W.fnOf x q (defArgs st) (defBody st) (defScope st) .none kV doc pm an cdv ct), osl⟩) (c : PySem.W.codeIn K cdv q = true) (k : PySem.W.keepIn K (.ref f) = true) (i : PySem.W.isFn K (.ref f) = true) :
    Dm K C x q st ps f (PySem.W.fnOf x q (defArgs st) (defBody st) (defScope st) .none kV doc pm an cdv ct) := ⟨mkF l c k, (mkF l c k).binds b, ⟨a, i, k⟩⟩
theorem dl_mk {x : Str} {st : Stmt} {ps : List Str} {f co pt : Addr} {oc : Value} {od an : Option Addr} {osl : Array (Option Value)} {kV doc pm ct : Value} (X : K.In h) (G : h.Ns mainGlobals mg) (b : Bd x x st ps) (a : PySem.W.nsIn K mainGlobals x = some (some (.ref f)))
    (l : K.lookup f = some ⟨oc, od, .func (PySem.W.fnOf x x (defArgs st) (defBody st) (defScope st) .none kV doc pm an (.ref co) ct), osl⟩) (c : PySem.W.codeIn K (.ref co) x = true) (k : PySem.W.keepIn K (.ref f) = true) (hd : PySem.W.codeHdIn K co pt = true) :
    Dl K mg x st ps f (PySem.W.fnOf x x (defArgs st) (defBody st) (defScope st) .none kV doc pm an (.ref co) ct) co pt := ⟨⟨mkF l c k, rfl, hd⟩, (mkF l c k).binds b, PySem.W.mg_of X G a⟩
theorem num_mk {x : Str} {z y : Int} {t : Tok} (X : K.In h) (G : h.Ns mainGlobals mg) (a : PySem.W.nsIn K mainGlobals x = some (some (.int z t))) (e : z = y) : ∃ t, mg x = some (.int y t) := ⟨t, e ▸ PySem.W.mg_of X G a⟩
theorem row_mk {a g : Addr} {z : Int} {t : Tok} {m : Nat} {sl : Array (Option Value)} {n : Nat} (l : K.lookup a = some ⟨.type "tuple", none, .seq #[.ref g, .int z t] m, sl⟩) (e : z = (n : Int)) : ∀ H : Hp, SqT K H a [.ref g, .int (n : Nat)] := fun H =>
  .inr ⟨_, _, _, l, rfl, rfl, by show 2 ≤ sizeLine; decide, .cons rfl (.cons ⟨t, by rw [e]⟩ .nil)⟩
theorem vals_refs : ∀ as : List Addr, Vals (as.map V.ref) (as.map Value.ref)
  | [] => .nil
  | a :: as => .cons rfl (vals_refs as)
theorem tab_mk {a : Addr} {as : List Addr} {its : Array Value} {m : Nat} {sl : Array (Option Value)} (l : K.lookup a = some ⟨.type "tuple", none, .seq its m, sl⟩) (e : its.toList = as.map Value.ref) (hs : its.size ≤ 100) : ∀ H : Hp, SqT K H a (as.map V.ref) := fun H =>
  .inr ⟨_, _, _, l, rfl, rfl, Nat.le_trans hs (by decide), by rw [e]; exact vals_refs as⟩
end
theorem top_mk {P : Program} {w : World} {K : PySem.W.Frag} {h : Heap} {mg : Str → Option Value} {fa fA C p1 p2 c1 c2 aC aQ aH : Addr} {fdA : FuncData} {f0 f1 f2 f3 f4 f5 f6 f7 f8 f9 f10 f11 f12 f13 f14 f15 f16 f17 f18 f19 f20 f21 f22 f23 f24 f25 f26 f27 f28 f29 f30 f31 f32 f33 f34 f35 f36 f37 f38 f39 f40 f41 f42 f43 f44 f45 f46 f47 f48 f49 f50 f51 f52 f53 f54 f55 f56 f57 f58 f59 f60 f61 f62 f63 f64 : Addr} {g0 g1 g2 g3 g4 g5 g6 g7 g8 g9 g10 g11 g12 g13 g14 g15 g16 g17 g18 g19 g20 g21 g22 g23 g24 g25 g26 g27 g28 g29 g30 g31 g32 g33 g34 g35 g36 g37 g38 g39 g40 g41 g42 g43 g44 g45 g46 g47 g48 g49 g50 g51 g52 g53 g54 g55 g56 g57 g58 g59 g60 g61 g62 g63 g64 : FuncData} {t0 t1 t2 t3 t4 t5 t6 t7 t8 t9 t10 t11 t12 t13 t14 t15 t16 t17 t18 t19 t20 t21 t22 t23 t24 : Addr}
    (X : K.In h) (G : h.Ns mainGlobals mg) (hfa : mg "answers" = some (.ref fa)) (hp : p1 ≠ p2)
    (aCl : PySem.W.nsIn K mainGlobals "Valley" = some (some (.ref C)))
    (pg : PySem.W.plainGet K C Str.empty = true) (hd : PySem.W.hasDictIn K C = true) (po : PySem.W.plainOver K C = true) (sa : PySem.W.findIn K (.ref C) "__setattr__" = some (some (.builtin "object.__setattr__"))) (mk : PySem.W.makesIn K C = true) (kc : PySem.W.keepIn K (.ref C) = true)
    (n1 : PySem.W.findIn K (.ref C) "ups" = some none) (n2 : PySem.W.findIn K (.ref C) "roads" = some none) (n3 : PySem.W.findIn K (.ref C) "posts" = some none) (n4 : PySem.W.findIn K (.ref C) "earlier" = some none) (n5 : PySem.W.findIn K (.ref C) "undone" = some none)
    (B : Bare mg) (M : Nums mg) (MC : NumsC mg) (hMT : ∃ t, mg "MOST_TAKEN_BACK" = some (.int 20 t))
    (d0 : Dn K mg "has" sHas ["villages", "v"] f0 g0)
    (d1 : Dn K mg "how_many" sMany ["villages"] f1 g1)
    (d2 : Dn K mg "how_far" sFar ["ups", "roads", "v", "w"] f2 g2)
    (d3 : Dn K mg "distances" sDist ["ups", "roads"] f3 g3)
    (d4 : Dn K mg "set_of" sSetOf ["numbers"] f4 g4)
    (d5 : Dn K mg "ball" sBall ["row", "r"] f5 g5)
    (d6 : Dn K mg "balls_of" sBalls ["table", "r"] f6 g6)
    (d7 : Dn K mg "least_of" sLeastOf ["villages"] f7 g7)
    (d8 : Dn K mg "served" sServed ["balls", "posts"] f8 g8)
    (d9 : Dn K mg "everyone" sEvery ["balls"] f9 g9)
    (d10 : Dn K mg "unserved" sUns ["balls", "posts"] f10 g10)
    (d11 : Dn K mg "serve_all" sServe ["balls", "posts"] f11 g11)
    (d12 : Dn K mg "idle" sIdle ["balls", "posts"] f12 g12)
    (d13 : Dn K mg "within_all" sWithin ["balls", "villages"] f13 g13)
    (d14 : Dn K mg "fewest" sFew ["balls"] f14 g14)
    (d15 : Dn K mg "least_reach" sReach ["table", "k"] f15 g15)
    (d16 : Dn K mg "nearest" sNear ["row", "posts"] f16 g16)
    (d17 : Dn K mg "worst" sWorst ["table", "posts"] f17 g17)
    (d18 : Dn K mg "served_by" sSBy ["table", "posts", "p", "r"] f18 g18)
    (d19 : Dn K mg "widest" sWidest ["table"] f19 g19)
    (d20 : Dn K mg "wrong_length" sWrong ["n"] f20 g20)
    (d21 : Dn K mg "village" sVillA ["valley", "given"] f21 g21)
    (d22 : Dn K mg "road" sRoadA ["valley", "given"] f22 g22)
    (d23 : Dn K mg "drop" sDropA ["valley", "given"] f23 g23)
    (d24 : Dn K mg "post" sPostA ["valley", "given"] f24 g24)
    (d25 : Dn K mg "put" sPutA ["valley", "given"] f25 g25)
    (d26 : Dn K mg "clear_posts" sClearA ["valley", "given"] f26 g26)
    (d27 : Dn K mg "back" sBackA ["valley", "given"] f27 g27)
    (d28 : Dn K mg "again" sAgainA ["valley", "given"] f28 g28)
    (d29 : Dn K mg "state" sStateA ["valley", "given"] f29 g29)
    (d30 : Dn K mg "counted" sCounted ["villages"] f30 g30)
    (d31 : Dn K mg "far_apart" sFarA ["valley", "given"] f31 g31)
    (d32 : Dn K mg "ball_of" sBallA ["valley", "given"] f32 g32)
    (d33 : Dn K mg "least_within_all" sLWA ["balls", "villages"] f33 g33)
    (d34 : Dn K mg "share" sShareA ["valley", "given"] f34 g34)
    (d35 : Dn K mg "one_for_all" sOneA ["valley", "given"] f35 g35)
    (d36 : Dn K mg "fewest_posts" sFewA ["valley", "given"] f36 g36)
    (d37 : Dn K mg "lonely_villages" sLonA ["valley", "given"] f37 g37)
    (d38 : Dn K mg "least" sLeastA ["valley", "given"] f38 g38)
    (d39 : Dn K mg "more_posts" sMoreA ["valley", "given"] f39 g39)
    (d40 : Dn K mg "out_of_reach" sOutA ["valley", "given"] f40 g40)
    (d41 : Dn K mg "nearest_post" sNearA ["valley", "given"] f41 g41)
    (d42 : Dn K mg "worst_village" sWorstA ["valley", "given"] f42 g42)
    (d43 : Dn K mg "idle_posts" sIdleA ["valley", "given"] f43 g43)
    (d44 : Dn K mg "served_villages" sServA ["valley", "given"] f44 g44)
    (d45 : Dn K mg "widest_pair" sWideA ["valley", "given"] f45 g45)
    (d46 : Dn K mg "look" sLookA ["valley", "given"] f46 g46)
    (d47 : Dn K mg "posts_there" sPostsA ["valley", "given"] f47 g47)
    (d48 : Dn K mg "start" sStartA ["valley", "given"] f48 g48)
    (d49 : Dn K mg "all_calls" sAll [] f49 g49)
    (d50 : Dm K C "__init__" "Valley.__init__" sInit ["self"] f50 g50)
    (d51 : Dm K C "begin" "Valley.begin" sBegin ["self"] f51 g51)
    (d52 : Dm K C "now" "Valley.now" sNow ["self"] f52 g52)
    (d53 : Dm K C "become" "Valley.become" sBecome ["self", "kept"] f53 g53)
    (d54 : Dm K C "change" "Valley.change" sChange ["self", "ups", "roads", "posts"] f54 g54)
    (d55 : Dm K C "change_posts" "Valley.change_posts" sChPosts ["self", "posts"] f55 g55)
    (d56 : Dm K C "take_back" "Valley.take_back" sBackM ["self"] f56 g56)
    (d57 : Dm K C "do_again" "Valley.do_again" sAgainM ["self"] f57 g57)
    (d58 : Dm K C "size" "Valley.size" sSize ["self"] f58 g58)
    (d59 : Dm K C "lacks" "Valley.lacks" sLacks ["self", "v"] f59 g59)
    (d60 : Dm K C "has_post" "Valley.has_post" sHasP ["self", "v"] f60 g60)
    (d61 : Dm K C "table" "Valley.table" sTable ["self"] f61 g61)
    (d62 : Dm K C "balls" "Valley.balls" sBallsM ["self", "r"] f62 g62)
    (d63 : Dl K mg "fewest_more" sMore ["balls", "posts"] f63 g63 c1 p1)
    (d64 : Dl K mg "lonely" sLon ["balls"] f64 g64 c2 p2)
    (dA : Dn K mg "answers" sAns ["calls"] fA fdA) (hbA : ∀ (s : Shared) (us : List Value), us.length = (["calls"] : List Str).length → BindsTo s fdA ⟨us, []⟩ ((["calls"] : List Str).zip us))
    (aCh : PySem.W.nsIn K mainGlobals "CHANGES" = some (some (.ref aC))) (aQu : PySem.W.nsIn K mainGlobals "QUESTIONS" = some (some (.ref aQ))) (aHi : PySem.W.nsIn K mainGlobals "HISTORY" = some (some (.ref aH)))
    (sC : ∀ H, SqT K H aC (([t0, t1, t2, t3, t4, t5] : List Addr).map V.ref)) (sQ : ∀ H, SqT K H aQ (([t6, t7, t8, t9, t10, t11, t12, t13, t14, t15, t16, t17, t18, t19, t20, t21] : List Addr).map V.ref)) (sH : ∀ H, SqT K H aH (([t22, t23, t24] : List Addr).map V.ref))
    (r0 : ∀ H, SqT K H t0 [.ref f21, .int ((2 : Nat) : Int)])
    (r1 : ∀ H, SqT K H t1 [.ref f22, .int ((2 : Nat) : Int)])
    (r2 : ∀ H, SqT K H t2 [.ref f23, .int ((0 : Nat) : Int)])
    (r3 : ∀ H, SqT K H t3 [.ref f24, .int ((2 : Nat) : Int)])
    (r4 : ∀ H, SqT K H t4 [.ref f25, .int ((1 : Nat) : Int)])
    (r5 : ∀ H, SqT K H t5 [.ref f26, .int ((0 : Nat) : Int)])
    (r6 : ∀ H, SqT K H t6 [.ref f31, .int ((2 : Nat) : Int)])
    (r7 : ∀ H, SqT K H t7 [.ref f32, .int ((2 : Nat) : Int)])
    (r8 : ∀ H, SqT K H t8 [.ref f34, .int ((3 : Nat) : Int)])
    (r9 : ∀ H, SqT K H t9 [.ref f36, .int ((1 : Nat) : Int)])
    (r10 : ∀ H, SqT K H t10 [.ref f37, .int ((1 : Nat) : Int)])
    (r11 : ∀ H, SqT K H t11 [.ref f38, .int ((1 : Nat) : Int)])
    (r12 : ∀ H, SqT K H t12 [.ref f39, .int ((1 : Nat) : Int)])
    (r13 : ∀ H, SqT K H t13 [.ref f40, .int ((1 : Nat) : Int)])
    (r14 : ∀ H, SqT K H t14 [.ref f41, .int ((1 : Nat) : Int)])
    (r15 : ∀ H, SqT K H t15 [.ref f42, .int ((0 : Nat) : Int)])
    (r16 : ∀ H, SqT K H t16 [.ref f43, .int ((1 : Nat) : Int)])
    (r17 : ∀ H, SqT K H t17 [.ref f35, .int ((2 : Nat) : Int)])
    (r18 : ∀ H, SqT K H t18 [.ref f45, .int ((0 : Nat) : Int)])
    (r19 : ∀ H, SqT K H t19 [.ref f44, .int ((2 : Nat) : Int)])
    (r20 : ∀ H, SqT K H t20 [.ref f46, .int ((1 : Nat) : Int)])
    (r21 : ∀ H, SqT K H t21 [.ref f47, .int ((0 : Nat) : Int)])
    (r22 : ∀ H, SqT K H t22 [.ref f27, .int ((0 : Nat) : Int)])
    (r23 : ∀ H, SqT K H t23 [.ref f28, .int ((0 : Nat) : Int)])
    (r24 : ∀ H, SqT K H t24 [.ref f29, .int ((0 : Nat) : Int)])
    : ∃ fd : FuncData, (∀ (s : Shared) (us : List Value), us.length = (["calls"] : List Str).length → BindsTo s fd ⟨us, []⟩ ((["calls"] : List Str).zip us)) ∧ ∀ base : Heap, K.In base → base.Ns mainGlobals mg → BMain mg base → FnOk P w K mg base CX0 9 fa fd ["calls"] (spAnsT K (TT p1 p2)) := by
  have e := hfa.symm.trans dA.m
  cases e
  have XC : TxtC K mg C N5 := ⟨⟨pg, hd, po, sa⟩, fun f hf => by
    unfold N5 at hf
    simp only [List.mem_cons, List.not_mem_nil, or_false] at hf
    rcases hf with z | z | z | z | z <;> subst z
    · exact n1
    · exact n2
    · exact n3
    · exact n4
    · exact n5, by decide, PySem.W.mg_of X G aCl⟩
  have t : Txt K mg C p1 p2 c1 c2 (fun i => ([f0, f1, f2, f3, f4, f5, f6, f7, f8, f9, f10, f11, f12, f13, f14, f15, f16, f17, f18, f19, f20, f21, f22, f23, f24, f25, f26, f27, f28, f29, f30, f31, f32, f33, f34, f35, f36, f37, f38, f39, f40, f41, f42, f43, f44, f45, f46, f47, f48, f49, f50, f51, f52, f53, f54, f55, f56, f57, f58, f59, f60, f61, f62, f63, f64] : List Addr).getD i 0) (fun i => ([g0, g1, g2, g3, g4, g5, g6, g7, g8, g9, g10, g11, g12, g13, g14, g15, g16, g17, g18, g19, g20, g21, g22, g23, g24, g25, g26, g27, g28, g29, g30, g31, g32, g33, g34, g35, g36, g37, g38, g39, g40, g41, g42, g43, g44, g45, g46, g47, g48, g49, g50, g51, g52, g53, g54, g55, g56, g57, g58, g59, g60, g61, g62, g63, g64] : List FuncData).getD i fdA) := ⟨d0, d1, d2, d3, d4, d5, d6, d7, d8, d9, d10, d11, d12, d13, d14, d15, d16, d17, d18, d19, d20, d21, d22, d23, d24, d25, d26, d27, d28, d29, d30, d31, d32, d33, d34, d35, d36, d37, d38, d39, d40, d41, d42, d43, d44, d45, d46, d47, d48, d49, d50, d51, d52, d53, d54, d55, d56, d57, d58, d59, d60, d61, d62, d63, d64⟩
  have hts : ∀ q n, givenOf[q + 1]? = some n → ∃ a g, ([t0, t1, t2, t3, t4, t5, t6, t7, t8, t9, t10, t11, t12, t13, t14, t15, t16, t17, t18, t19, t20, t21, t22, t23, t24] : List Addr)[q]? = some a ∧ (rowF (fun i => ([f0, f1, f2, f3, f4, f5, f6, f7, f8, f9, f10, f11, f12, f13, f14, f15, f16, f17, f18, f19, f20, f21, f22, f23, f24, f25, f26, f27, f28, f29, f30, f31, f32, f33, f34, f35, f36, f37, f38, f39, f40, f41, f42, f43, f44, f45, f46, f47, f48, f49, f50, f51, f52, f53, f54, f55, f56, f57, f58, f59, f60, f61, f62, f63, f64] : List Addr).getD i 0))[q]? = some g ∧ ∀ H, SqT K H a [.ref g, .int (n : Nat)] := by
    intro q n hn
    match q, hn with
    | 0, hn => cases hn; exact ⟨t0, f21, rfl, rfl, r0⟩
    | 1, hn => cases hn; exact ⟨t1, f22, rfl, rfl, r1⟩
    | 2, hn => cases hn; exact ⟨t2, f23, rfl, rfl, r2⟩
    | 3, hn => cases hn; exact ⟨t3, f24, rfl, rfl, r3⟩
    | 4, hn => cases hn; exact ⟨t4, f25, rfl, rfl, r4⟩
    | 5, hn => cases hn; exact ⟨t5, f26, rfl, rfl, r5⟩
    | 6, hn => cases hn; exact ⟨t6, f31, rfl, rfl, r6⟩
    | 7, hn => cases hn; exact ⟨t7, f32, rfl, rfl, r7⟩
    | 8, hn => cases hn; exact ⟨t8, f34, rfl, rfl, r8⟩
    | 9, hn => cases hn; exact ⟨t9, f36, rfl, rfl, r9⟩
    | 10, hn => cases hn; exact ⟨t10, f37, rfl, rfl, r10⟩
    | 11, hn => cases hn; exact ⟨t11, f38, rfl, rfl, r11⟩
    | 12, hn => cases hn; exact ⟨t12, f39, rfl, rfl, r12⟩
    | 13, hn => cases hn; exact ⟨t13, f40, rfl, rfl, r13⟩
    | 14, hn => cases hn; exact ⟨t14, f41, rfl, rfl, r14⟩
    | 15, hn => cases hn; exact ⟨t15, f42, rfl, rfl, r15⟩
    | 16, hn => cases hn; exact ⟨t16, f43, rfl, rfl, r16⟩
    | 17, hn => cases hn; exact ⟨t17, f35, rfl, rfl, r17⟩
    | 18, hn => cases hn; exact ⟨t18, f45, rfl, rfl, r18⟩
    | 19, hn => cases hn; exact ⟨t19, f44, rfl, rfl, r19⟩
    | 20, hn => cases hn; exact ⟨t20, f46, rfl, rfl, r20⟩
    | 21, hn => cases hn; exact ⟨t21, f47, rfl, rfl, r21⟩
    | 22, hn => cases hn; exact ⟨t22, f27, rfl, rfl, r22⟩
    | 23, hn => cases hn; exact ⟨t23, f28, rfl, rfl, r23⟩
    | 24, hn => cases hn; exact ⟨t24, f29, rfl, rfl, r24⟩
    | q + 25, hn => have := (List.getElem?_eq_some_iff.mp hn).1; exact absurd this (by show ¬ q + 25 + 1 < 26; omega)
  refine ⟨fdA, hbA, fun base _ _ hB => ?_⟩
  · obtain ⟨GI, TB⟩ := all_ok (P := P) (w := w) (base := base) hp t XC B M MC hMT hB hts
    exact ok_ans (k := 7) dA.F B ⟨mk, d50.m.at_, d50.m.fn, kc⟩ XC.mgC GI d50.b (ok_all d49.F d48.m (PySem.W.mg_of X G aCh) (PySem.W.mg_of X G aQu) (PySem.W.mg_of X G aHi) sC sQ sH (by simp) (by simp) (by simp) (by simp)) d49.m d49.F.kp d49.b TB (fine C)
end VR
end
set_option Elab.async false
set_option linter.all false
set_option maxRecDepth 100000
namespace VR
open PySem PySem.Spec PyProof.Rows L2 Vp
theorem tab0 {P : Addr} {L : List (Pos × Str)} {H : Hp} (h : H P = some (.tbl #[])) : TabAt P L H := ⟨#[], h, True.intro, fun q _ => .inl rfl⟩
end VR
abbrev PySem.W.Fast.tw3077943428608812681 : Unit := ()
abbrev PySem.W.Fast.tw3715585186404288719 : Unit := ()
abbrev PySem.W.Fast.tw846885296248512789 : Unit := ()
abbrev PySem.W.Fast.tw12445646188174742816 : Unit := ()
abbrev PySem.W.Fast.tw350581185241619650 : Unit := ()
abbrev PySem.W.Fast.tw14396309581594835194 : Unit := ()
abbrev PySem.W.Fast.tw526878320192927725 : Unit := ()
abbrev PySem.W.Fast.tw9563154443713154909 : Unit := ()
abbrev PySem.W.Fast.tw10523626071224851174 : Unit := ()
abbrev PySem.W.Fast.tw11975352378612015797 : Unit := ()
open PySem PySem.W PyProof.Rows
set_option maxRecDepth 100000 in
set_option maxHeartbeats 0 in
theorem PySem.Challenge.cw_valleyposts_s01_answers_holds : PySem.Challenge.rw_valleyposts_s01_answers.Holds := by
  w_on; k_headS; (case hw => exact ⟨[.list [.int 0]], by decide +kernel, by decide +kernel⟩)
  k_fillS
  refine L2.walk_specT (r := PySem.Challenge.rw_valleyposts_s01_answers) (k := 9) (CX := L2.CX0) (ps := ["calls"]) (sp := fun K => VR.spAnsT K (VR.TT 104 116)) [(106, 104), (118, 116)] (by decide +kernel) rfl rfl ⟨rfl, by decide, by decide⟩ (fun w h Y => PySem.W.kIn_of Y) ?TT ?NK ?F ?S (fun _ _ _ _ z => z)
  case TT =>
    intro w h lo mean mg mb Y T KX
    exact List.forall_mem_cons.mpr ⟨PySem.W.tab_of (x := "fewest_more") (c := 106) (P := 104) T KX rfl (by kernel_rfl), List.forall_mem_cons.mpr ⟨PySem.W.tab_of (x := "lonely") (c := 118) (P := 116) T KX rfl (by kernel_rfl), fun x hx => absurd hx List.not_mem_nil⟩⟩
  case NK =>
    intro w
    exact List.forall_mem_cons.mpr ⟨by kernel_rfl, List.forall_mem_cons.mpr ⟨by kernel_rfl, fun x hx => absurd hx List.not_mem_nil⟩⟩
  case S =>
    intro K H xs a hO hwi hask hx
    cases hx with
    | cons h1 h2 =>
      cases h2
      cases h1 with
      | lst hs ha =>
        have e := L2.ints_dw a.1 _ ha
        subst e
        have q : ((Codec.inLen 0 30000 a.1 && a.1.all (Codec.inInt 0 4294967295)) && true) = true := hwi
        rw [Bool.and_eq_true, Bool.and_eq_true] at q
        refine ⟨_, a.1, rfl, hs, fun x hx => (Codec.inInt_iff.mp (List.all_eq_true.mp q.1.2 x hx)).1, (Codec.inNat_iff.mp q.1.1).2, hask, fun t ht => ?_, fun H' p hp => .lst (L2.SqL.of hp) (L2.dw_ints _)⟩
        rcases List.mem_cons.mp ht with z | z
        · subst z; exact VR.tab0 (hO (106, 104) List.mem_cons_self)
        · obtain rfl : t = ⟨116, VR.lLon⟩ := by simpa using z
          exact VR.tab0 (hO (118, 116) (List.mem_cons_of_mem _ List.mem_cons_self))
  case F =>
    intro w mg fa h Y KX G hmg
    have B : VR.Bare mg := by
      refine' ⟨PySem.W.mg_none_of KX G ?b0, PySem.W.mg_none_of KX G ?b1, PySem.W.mg_none_of KX G ?b2, PySem.W.mg_none_of KX G ?b3, PySem.W.mg_none_of KX G ?b4, PySem.W.mg_none_of KX G ?b5, PySem.W.mg_none_of KX G ?b6, PySem.W.mg_none_of KX G ?b7⟩
      (case b0 => k_is); (case b1 => k_is); (case b2 => k_is); (case b3 => k_is); (case b4 => k_is); (case b5 => k_is); (case b6 => k_is); (case b7 => k_is)
    have M : VR.Nums mg := by
      refine' ⟨VR.num_mk KX G ?a0 ?e0, VR.num_mk KX G ?a1 ?e1, VR.num_mk KX G ?a2 ?e2, VR.num_mk KX G ?a3 ?e3⟩
      (case a0 => k_is); (case e0 => rfl); (case a1 => k_is); (case e1 => rfl); (case a2 => k_is); (case e2 => rfl); (case a3 => k_is); (case e3 => rfl)
    have MC : VR.NumsC mg := by
      refine' ⟨VR.num_mk KX G ?a0 ?e0, VR.num_mk KX G ?a1 ?e1, VR.num_mk KX G ?a2 ?e2, VR.num_mk KX G ?a3 ?e3, VR.num_mk KX G ?a4 ?e4, VR.num_mk KX G ?a5 ?e5⟩
      (case a0 => k_is); (case e0 => rfl); (case a1 => k_is); (case e1 => rfl); (case a2 => k_is); (case e2 => rfl); (case a3 => k_is); (case e3 => rfl); (case a4 => k_is); (case e4 => rfl); (case a5 => k_is); (case e5 => rfl)
    have hMT : ∃ t, mg "MOST_TAKEN_BACK" = some (.int 20 t) := by
      refine' VR.num_mk KX G ?a0 ?e0
      (case a0 => k_is); (case e0 => rfl)
    refine' VR.top_mk KX G hmg (by decide) ?aCl ?pg ?hd ?po ?sa ?mk ?kc ?n1 ?n2 ?n3 ?n4 ?n5 B M MC hMT (VR.dn_mk KX G (fun _ _ _ _ _ _ us hl => match us, hl with | [_, _], _ => rfl) ?a0 ?l0 ?c0 ?k0) (VR.dn_mk KX G (fun _ _ _ _ _ _ us hl => match us, hl with | [_], _ => rfl) ?a1 ?l1 ?c1 ?k1) (VR.dn_mk KX G (fun _ _ _ _ _ _ us hl => match us, hl with | [_, _, _, _], _ => rfl) ?a2 ?l2 ?c2 ?k2) (VR.dn_mk KX G (fun _ _ _ _ _ _ us hl => match us, hl with | [_, _], _ => rfl) ?a3 ?l3 ?c3 ?k3) (VR.dn_mk KX G (fun _ _ _ _ _ _ us hl => match us, hl with | [_], _ => rfl) ?a4 ?l4 ?c4 ?k4) (VR.dn_mk KX G (fun _ _ _ _ _ _ us hl => match us, hl with | [_, _], _ => rfl) ?a5 ?l5 ?c5 ?k5) (VR.dn_mk KX G (fun _ _ _ _ _ _ us hl => match us, hl with | [_, _], _ => rfl) ?a6 ?l6 ?c6 ?k6) (VR.dn_mk KX G (fun _ _ _ _ _ _ us hl => match us, hl with | [_], _ => rfl) ?a7 ?l7 ?c7 ?k7) (VR.dn_mk KX G (fun _ _ _ _ _ _ us hl => match us, hl with | [_, _], _ => rfl) ?a8 ?l8 ?c8 ?k8) (VR.dn_mk KX G (fun _ _ _ _ _ _ us hl => match us, hl with | [_], _ => rfl) ?a9 ?l9 ?c9 ?k9) (VR.dn_mk KX G (fun _ _ _ _ _ _ us hl => match us, hl with | [_, _], _ => rfl) ?a10 ?l10 ?c10 ?k10) (VR.dn_mk KX G (fun _ _ _ _ _ _ us hl => match us, hl with | [_, _], _ => rfl) ?a11 ?l11 ?c11 ?k11) (VR.dn_mk KX G (fun _ _ _ _ _ _ us hl => match us, hl with | [_, _], _ => rfl) ?a12 ?l12 ?c12 ?k12) (VR.dn_mk KX G (fun _ _ _ _ _ _ us hl => match us, hl with | [_, _], _ => rfl) ?a13 ?l13 ?c13 ?k13) (VR.dn_mk KX G (fun _ _ _ _ _ _ us hl => match us, hl with | [_], _ => rfl) ?a14 ?l14 ?c14 ?k14) (VR.dn_mk KX G (fun _ _ _ _ _ _ us hl => match us, hl with | [_, _], _ => rfl) ?a15 ?l15 ?c15 ?k15) (VR.dn_mk KX G (fun _ _ _ _ _ _ us hl => match us, hl with | [_, _], _ => rfl) ?a16 ?l16 ?c16 ?k16) (VR.dn_mk KX G (fun _ _ _ _ _ _ us hl => match us, hl with | [_, _], _ => rfl) ?a17 ?l17 ?c17 ?k17) (VR.dn_mk KX G (fun _ _ _ _ _ _ us hl => match us, hl with | [_, _, _, _], _ => rfl) ?a18 ?l18 ?c18 ?k18) (VR.dn_mk KX G (fun _ _ _ _ _ _ us hl => match us, hl with | [_], _ => rfl) ?a19 ?l19 ?c19 ?k19) (VR.dn_mk KX G (fun _ _ _ _ _ _ us hl => match us, hl with | [_], _ => rfl) ?a20 ?l20 ?c20 ?k20) (VR.dn_mk KX G (fun _ _ _ _ _ _ us hl => match us, hl with | [_, _], _ => rfl) ?a21 ?l21 ?c21 ?k21) (VR.dn_mk KX G (fun _ _ _ _ _ _ us hl => match us, hl with | [_, _], _ => rfl) ?a22 ?l22 ?c22 ?k22) (VR.dn_mk KX G (fun _ _ _ _ _ _ us hl => match us, hl with | [_, _], _ => rfl) ?a23 ?l23 ?c23 ?k23) (VR.dn_mk KX G (fun _ _ _ _ _ _ us hl => match us, hl with | [_, _], _ => rfl) ?a24 ?l24 ?c24 ?k24) (VR.dn_mk KX G (fun _ _ _ _ _ _ us hl => match us, hl with | [_, _], _ => rfl) ?a25 ?l25 ?c25 ?k25) (VR.dn_mk KX G (fun _ _ _ _ _ _ us hl => match us, hl with | [_, _], _ => rfl) ?a26 ?l26 ?c26 ?k26) (VR.dn_mk KX G (fun _ _ _ _ _ _ us hl => match us, hl with | [_, _], _ => rfl) ?a27 ?l27 ?c27 ?k27) (VR.dn_mk KX G (fun _ _ _ _ _ _ us hl => match us, hl with | [_, _], _ => rfl) ?a28 ?l28 ?c28 ?k28) (VR.dn_mk KX G (fun _ _ _ _ _ _ us hl => match us, hl with | [_, _], _ => rfl) ?a29 ?l29 ?c29 ?k29) (VR.dn_mk KX G (fun _ _ _ _ _ _ us hl => match us, hl with | [_], _ => rfl) ?a30 ?l30 ?c30 ?k30) (VR.dn_mk KX G (fun _ _ _ _ _ _ us hl => match us, hl with | [_, _], _ => rfl) ?a31 ?l31 ?c31 ?k31) (VR.dn_mk KX G (fun _ _ _ _ _ _ us hl => match us, hl with | [_, _], _ => rfl) ?a32 ?l32 ?c32 ?k32) (VR.dn_mk KX G (fun _ _ _ _ _ _ us hl => match us, hl with | [_, _], _ => rfl) ?a33 ?l33 ?c33 ?k33) (VR.dn_mk KX G (fun _ _ _ _ _ _ us hl => match us, hl with | [_, _], _ => rfl) ?a34 ?l34 ?c34 ?k34) (VR.dn_mk KX G (fun _ _ _ _ _ _ us hl => match us, hl with | [_, _], _ => rfl) ?a35 ?l35 ?c35 ?k35) (VR.dn_mk KX G (fun _ _ _ _ _ _ us hl => match us, hl with | [_, _], _ => rfl) ?a36 ?l36 ?c36 ?k36) (VR.dn_mk KX G (fun _ _ _ _ _ _ us hl => match us, hl with | [_, _], _ => rfl) ?a37 ?l37 ?c37 ?k37) (VR.dn_mk KX G (fun _ _ _ _ _ _ us hl => match us, hl with | [_, _], _ => rfl) ?a38 ?l38 ?c38 ?k38) (VR.dn_mk KX G (fun _ _ _ _ _ _ us hl => match us, hl with | [_, _], _ => rfl) ?a39 ?l39 ?c39 ?k39) (VR.dn_mk KX G (fun _ _ _ _ _ _ us hl => match us, hl with | [_, _], _ => rfl) ?a40 ?l40 ?c40 ?k40) (VR.dn_mk KX G (fun _ _ _ _ _ _ us hl => match us, hl with | [_, _], _ => rfl) ?a41 ?l41 ?c41 ?k41) (VR.dn_mk KX G (fun _ _ _ _ _ _ us hl => match us, hl with | [_, _], _ => rfl) ?a42 ?l42 ?c42 ?k42) (VR.dn_mk KX G (fun _ _ _ _ _ _ us hl => match us, hl with | [_, _], _ => rfl) ?a43 ?l43 ?c43 ?k43) (VR.dn_mk KX G (fun _ _ _ _ _ _ us hl => match us, hl with | [_, _], _ => rfl) ?a44 ?l44 ?c44 ?k44) (VR.dn_mk KX G (fun _ _ _ _ _ _ us hl => match us, hl with | [_, _], _ => rfl) ?a45 ?l45 ?c45 ?k45) (VR.dn_mk KX G (fun _ _ _ _ _ _ us hl => match us, hl with | [_, _], _ => rfl) ?a46 ?l46 ?c46 ?k46) (VR.dn_mk KX G (fun _ _ _ _ _ _ us hl => match us, hl with | [_, _], _ => rfl) ?a47 ?l47 ?c47 ?k47) (VR.dn_mk KX G (fun _ _ _ _ _ _ us hl => match us, hl with | [_, _], _ => rfl) ?a48 ?l48 ?c48 ?k48) (VR.dn_mk KX G (fun _ _ _ _ _ _ us hl => match us, hl with | [], _ => rfl) ?a49 ?l49 ?c49 ?k49) (VR.dm_mk KX (fun _ _ _ _ _ _ us hl => match us, hl with | [_], _ => rfl) ?a50 ?l50 ?c50 ?k50 ?i50) (VR.dm_mk KX (fun _ _ _ _ _ _ us hl => match us, hl with | [_], _ => rfl) ?a51 ?l51 ?c51 ?k51 ?i51) (VR.dm_mk KX (fun _ _ _ _ _ _ us hl => match us, hl with | [_], _ => rfl) ?a52 ?l52 ?c52 ?k52 ?i52) (VR.dm_mk KX (fun _ _ _ _ _ _ us hl => match us, hl with | [_, _], _ => rfl) ?a53 ?l53 ?c53 ?k53 ?i53) (VR.dm_mk KX (fun _ _ _ _ _ _ us hl => match us, hl with | [_, _, _, _], _ => rfl) ?a54 ?l54 ?c54 ?k54 ?i54) (VR.dm_mk KX (fun _ _ _ _ _ _ us hl => match us, hl with | [_, _], _ => rfl) ?a55 ?l55 ?c55 ?k55 ?i55) (VR.dm_mk KX (fun _ _ _ _ _ _ us hl => match us, hl with | [_], _ => rfl) ?a56 ?l56 ?c56 ?k56 ?i56) (VR.dm_mk KX (fun _ _ _ _ _ _ us hl => match us, hl with | [_], _ => rfl) ?a57 ?l57 ?c57 ?k57 ?i57) (VR.dm_mk KX (fun _ _ _ _ _ _ us hl => match us, hl with | [_], _ => rfl) ?a58 ?l58 ?c58 ?k58 ?i58) (VR.dm_mk KX (fun _ _ _ _ _ _ us hl => match us, hl with | [_, _], _ => rfl) ?a59 ?l59 ?c59 ?k59 ?i59) (VR.dm_mk KX (fun _ _ _ _ _ _ us hl => match us, hl with | [_, _], _ => rfl) ?a60 ?l60 ?c60 ?k60 ?i60) (VR.dm_mk KX (fun _ _ _ _ _ _ us hl => match us, hl with | [_], _ => rfl) ?a61 ?l61 ?c61 ?k61 ?i61) (VR.dm_mk KX (fun _ _ _ _ _ _ us hl => match us, hl with | [_, _], _ => rfl) ?a62 ?l62 ?c62 ?k62 ?i62) (VR.dl_mk KX G (fun _ _ _ _ _ _ us hl => match us, hl with | [_, _], _ => rfl) ?a63 ?l63 ?c63 ?k63 ?h63) (VR.dl_mk KX G (fun _ _ _ _ _ _ us hl => match us, hl with | [_], _ => rfl) ?a64 ?l64 ?c64 ?k64 ?h64) (VR.dn_mk KX G (fun _ _ _ _ _ _ us hl => match us, hl with | [_], _ => rfl) ?aA ?lA ?cA ?kA) (fun s us hu => match us, hu with | [_], _ => .of_eq rfl) ?aCh ?aQu ?aHi (VR.tab_mk ?lC ?eC ?sC) (VR.tab_mk ?lQ ?eQ ?sQ) (VR.tab_mk ?lH ?eH ?sH) (VR.row_mk ?r0 ?z0) (VR.row_mk ?r1 ?z1) (VR.row_mk ?r2 ?z2) (VR.row_mk ?r3 ?z3) (VR.row_mk ?r4 ?z4) (VR.row_mk ?r5 ?z5) (VR.row_mk ?r6 ?z6) (VR.row_mk ?r7 ?z7) (VR.row_mk ?r8 ?z8) (VR.row_mk ?r9 ?z9) (VR.row_mk ?r10 ?z10) (VR.row_mk ?r11 ?z11) (VR.row_mk ?r12 ?z12) (VR.row_mk ?r13 ?z13) (VR.row_mk ?r14 ?z14) (VR.row_mk ?r15 ?z15) (VR.row_mk ?r16 ?z16) (VR.row_mk ?r17 ?z17) (VR.row_mk ?r18 ?z18) (VR.row_mk ?r19 ?z19) (VR.row_mk ?r20 ?z20) (VR.row_mk ?r21 ?z21) (VR.row_mk ?r22 ?z22) (VR.row_mk ?r23 ?z23) (VR.row_mk ?r24 ?z24)
    (case aCl => k_is); (case pg => k_is); (case hd => k_is); (case po => k_is); (case sa => k_is); (case mk => k_is); (case kc => k_is); (case n1 => k_is)
    (case n2 => k_is); (case n3 => k_is); (case n4 => k_is); (case n5 => k_is); (case a0 => k_is); (case l0 => k_is); (case c0 => k_is); (case k0 => k_is)
    (case a1 => k_is); (case l1 => k_is); (case c1 => k_is); (case k1 => k_is); (case a2 => k_is); (case l2 => k_is); (case c2 => k_is); (case k2 => k_is)
    (case a3 => k_is); (case l3 => k_is); (case c3 => k_is); (case k3 => k_is); (case a4 => k_is); (case l4 => k_is); (case c4 => k_is); (case k4 => k_is)
    (case a5 => k_is); (case l5 => k_is); (case c5 => k_is); (case k5 => k_is); (case a6 => k_is); (case l6 => k_is); (case c6 => k_is); (case k6 => k_is)
    (case a7 => k_is); (case l7 => k_is); (case c7 => k_is); (case k7 => k_is); (case a8 => k_is); (case l8 => k_is); (case c8 => k_is); (case k8 => k_is)
    (case a9 => k_is); (case l9 => k_is); (case c9 => k_is); (case k9 => k_is); (case a10 => k_is); (case l10 => k_is); (case c10 => k_is); (case k10 => k_is)
    (case a11 => k_is); (case l11 => k_is); (case c11 => k_is); (case k11 => k_is); (case a12 => k_is); (case l12 => k_is); (case c12 => k_is); (case k12 => k_is)
    (case a13 => k_is); (case l13 => k_is); (case c13 => k_is); (case k13 => k_is); (case a14 => k_is); (case l14 => k_is); (case c14 => k_is); (case k14 => k_is)
    (case a15 => k_is); (case l15 => k_is); (case c15 => k_is); (case k15 => k_is); (case a16 => k_is); (case l16 => k_is); (case c16 => k_is); (case k16 => k_is)
    (case a17 => k_is); (case l17 => k_is); (case c17 => k_is); (case k17 => k_is); (case a18 => k_is); (case l18 => k_is); (case c18 => k_is); (case k18 => k_is)
    (case a19 => k_is); (case l19 => k_is); (case c19 => k_is); (case k19 => k_is); (case a20 => k_is); (case l20 => k_is); (case c20 => k_is); (case k20 => k_is)
    (case a21 => k_is); (case l21 => k_is); (case c21 => k_is); (case k21 => k_is); (case a22 => k_is); (case l22 => k_is); (case c22 => k_is); (case k22 => k_is)
    (case a23 => k_is); (case l23 => k_is); (case c23 => k_is); (case k23 => k_is); (case a24 => k_is); (case l24 => k_is); (case c24 => k_is); (case k24 => k_is)
    (case a25 => k_is); (case l25 => k_is); (case c25 => k_is); (case k25 => k_is); (case a26 => k_is); (case l26 => k_is); (case c26 => k_is); (case k26 => k_is)
    (case a27 => k_is); (case l27 => k_is); (case c27 => k_is); (case k27 => k_is); (case a28 => k_is); (case l28 => k_is); (case c28 => k_is); (case k28 => k_is)
    (case a29 => k_is); (case l29 => k_is); (case c29 => k_is); (case k29 => k_is); (case a30 => k_is); (case l30 => k_is); (case c30 => k_is); (case k30 => k_is)
    (case a31 => k_is); (case l31 => k_is); (case c31 => k_is); (case k31 => k_is); (case a32 => k_is); (case l32 => k_is); (case c32 => k_is); (case k32 => k_is)
    (case a33 => k_is); (case l33 => k_is); (case c33 => k_is); (case k33 => k_is); (case a34 => k_is); (case l34 => k_is); (case c34 => k_is); (case k34 => k_is)
    (case a35 => k_is); (case l35 => k_is); (case c35 => k_is); (case k35 => k_is); (case a36 => k_is); (case l36 => k_is); (case c36 => k_is); (case k36 => k_is)
    (case a37 => k_is); (case l37 => k_is); (case c37 => k_is); (case k37 => k_is); (case a38 => k_is); (case l38 => k_is); (case c38 => k_is); (case k38 => k_is)
    (case a39 => k_is); (case l39 => k_is); (case c39 => k_is); (case k39 => k_is); (case a40 => k_is); (case l40 => k_is); (case c40 => k_is); (case k40 => k_is)
    (case a41 => k_is); (case l41 => k_is); (case c41 => k_is); (case k41 => k_is); (case a42 => k_is); (case l42 => k_is); (case c42 => k_is); (case k42 => k_is)
    (case a43 => k_is); (case l43 => k_is); (case c43 => k_is); (case k43 => k_is); (case a44 => k_is); (case l44 => k_is); (case c44 => k_is); (case k44 => k_is)
    (case a45 => k_is); (case l45 => k_is); (case c45 => k_is); (case k45 => k_is); (case a46 => k_is); (case l46 => k_is); (case c46 => k_is); (case k46 => k_is)
    (case a47 => k_is); (case l47 => k_is); (case c47 => k_is); (case k47 => k_is); (case a48 => k_is); (case l48 => k_is); (case c48 => k_is); (case k48 => k_is)
    (case a49 => k_is); (case l49 => k_is); (case c49 => k_is); (case k49 => k_is); (case a50 => k_is); (case l50 => k_is); (case c50 => k_is); (case k50 => k_is)
    (case i50 => k_is); (case a51 => k_is); (case l51 => k_is); (case c51 => k_is); (case k51 => k_is); (case i51 => k_is); (case a52 => k_is); (case l52 => k_is)
    (case c52 => k_is); (case k52 => k_is); (case i52 => k_is); (case a53 => k_is); (case l53 => k_is); (case c53 => k_is); (case k53 => k_is); (case i53 => k_is)
    (case a54 => k_is); (case l54 => k_is); (case c54 => k_is); (case k54 => k_is); (case i54 => k_is); (case a55 => k_is); (case l55 => k_is); (case c55 => k_is)
    (case k55 => k_is); (case i55 => k_is); (case a56 => k_is); (case l56 => k_is); (case c56 => k_is); (case k56 => k_is); (case i56 => k_is); (case a57 => k_is)
    (case l57 => k_is); (case c57 => k_is); (case k57 => k_is); (case i57 => k_is); (case a58 => k_is); (case l58 => k_is); (case c58 => k_is); (case k58 => k_is)
    (case i58 => k_is); (case a59 => k_is); (case l59 => k_is); (case c59 => k_is); (case k59 => k_is); (case i59 => k_is); (case a60 => k_is); (case l60 => k_is)
    (case c60 => k_is); (case k60 => k_is); (case i60 => k_is); (case a61 => k_is); (case l61 => k_is); (case c61 => k_is); (case k61 => k_is); (case i61 => k_is)
    (case a62 => k_is); (case l62 => k_is); (case c62 => k_is); (case k62 => k_is); (case i62 => k_is); (case a63 => k_is); (case l63 => k_is); (case c63 => k_is)
    (case k63 => k_is); (case h63 => kernel_rfl); (case a64 => k_is); (case l64 => k_is); (case c64 => k_is); (case k64 => k_is); (case h64 => kernel_rfl); (case aA => k_is)
    (case lA => k_is); (case cA => k_is); (case kA => k_is); (case aCh => k_is); (case aQu => k_is); (case aHi => k_is); (case lC => k_is); (case eC => rfl)
    (case sC => decide); (case lQ => k_is); (case eQ => rfl); (case sQ => decide); (case lH => k_is); (case eH => rfl); (case sH => decide); (case r0 => k_is)
    (case z0 => rfl); (case r1 => k_is); (case z1 => rfl); (case r2 => k_is); (case z2 => rfl); (case r3 => k_is); (case z3 => rfl); (case r4 => k_is)
    (case z4 => rfl); (case r5 => k_is); (case z5 => rfl); (case r6 => k_is); (case z6 => rfl); (case r7 => k_is); (case z7 => rfl); (case r8 => k_is)
    (case z8 => rfl); (case r9 => k_is); (case z9 => rfl); (case r10 => k_is); (case z10 => rfl); (case r11 => k_is); (case z11 => rfl); (case r12 => k_is)
    (case z12 => rfl); (case r13 => k_is); (case z13 => rfl); (case r14 => k_is); (case z14 => rfl); (case r15 => k_is); (case z15 => rfl); (case r16 => k_is)
    (case z16 => rfl); (case r17 => k_is); (case z17 => rfl); (case r18 => k_is); (case z18 => rfl); (case r19 => k_is); (case z19 => rfl); (case r20 => k_is)
    (case z20 => rfl); (case r21 => k_is); (case z21 => rfl); (case r22 => k_is); (case z22 => rfl); (case r23 => k_is); (case z23 => rfl); (case r24 => k_is)
    (case z24 => rfl)
