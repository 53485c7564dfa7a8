import PyProof.Rows.All
import Wide.All
import OpenK.AllK
import Wide.FinOn
import PyProof.EqAt
import PyProof.EqKinds
import PyProof.TupleCall
import KE.BitLaws
import Open.SpecLaws
import KE.OsHead
import KE.OsGo
import PyProof.Rows.SortShellAny
import KE.KDictSum
import PySem.Challenge.RW_ringcells_s01_answers
section
set_option Elab.async false
set_option linter.all false
set_option maxRecDepth 100000
namespace L2
open PySem PySem.Spec PyProof.Rows
abbrev Key := Sum Int Str
def keyIs : Key → Value → Bool
  | .inl k, v => Value.isInt k v
  | .inr x, v => Value.isStrOf x v
def keyH (w : World) : Key → Int
  | .inl k => hashInt k
  | .inr x => hashStr w x
theorem keyIs_shape : ∀ {k : Key} {v : Value}, keyIs k v = true → (∃ i t, k = Sum.inl i ∧ v = Value.int i t) ∨ (∃ x t, k = Sum.inr x ∧ v = Value.str x t)
  | .inl i, v, h => by
    obtain ⟨t, e⟩ := Value.isInt_shape (k := i) (v := v) h
    exact .inl ⟨i, t, rfl, e⟩
  | .inr x, v, h => by
    obtain ⟨t, e⟩ := Value.isStrOf_shape (x := x) (v := v) h
    exact .inr ⟨x, t, rfl, e⟩
theorem keyIs_int (i : Int) (t : Tok) : keyIs (.inl i) (.int i t) = true := by simp [keyIs, Value.isInt]
theorem keyIs_str (x : Str) (t : Tok) : keyIs (.inr x) (.str x t) = true := by simp [keyIs, Value.isStrOf]
theorem key_ll (a b : Int) : decide ((Sum.inl a : Key) = Sum.inl b) = (a == b) := by
  by_cases e : a = b
  · subst e; simp
  · have h : ¬ (Sum.inl a : Key) = Sum.inl b := fun q => e (Sum.inl.inj q)
    rw [decide_eq_false h]
    exact (beq_eq_false_iff_ne.mpr e).symm
theorem key_rr (a b : Str) : decide ((Sum.inr a : Key) = Sum.inr b) = decide (a = b) := by
  by_cases e : a = b
  · subst e; simp
  · have h : ¬ (Sum.inr a : Key) = Sum.inr b := fun q => e (Sum.inr.inj q)
    rw [decide_eq_false h, decide_eq_false e]
theorem key_lr (a : Int) (b : Str) : decide ((Sum.inl a : Key) = Sum.inr b) = false := decide_eq_false (fun q => nomatch q)
theorem key_rl (a : Str) (b : Int) : decide ((Sum.inr a : Key) = Sum.inl b) = false := decide_eq_false (fun q => nomatch q)
def mixKind (prog : Program) (w : World) : PySem.KeyKind prog w Key where
  is := keyIs
  hash := keyH w
  inj := fun v a b ha hb => by
    rcases keyIs_shape ha with ⟨i, t, rfl, rfl⟩ | ⟨x, t, rfl, rfl⟩
    · rcases keyIs_shape hb with ⟨j, u, rfl, e⟩ | ⟨y, u, rfl, e⟩
      · injection e with e1 _; rw [e1]
      · exact nomatch e
    · rcases keyIs_shape hb with ⟨j, u, rfl, e⟩ | ⟨y, u, rfl, e⟩
      · exact nomatch e
      · injection e with e1 _; rw [e1]
  byValue := fun k v h => by
    rcases keyIs_shape h with ⟨i, t, rfl, rfl⟩ | ⟨x, t, rfl, rfl⟩ <;> rfl
  pyHash := fun hv h => by
    rcases keyIs_shape hv with ⟨i, t, rfl, rfl⟩ | ⟨x, t, rfl, rfl⟩
    · exact wpAny_pyHash_int h
    · exact wpAny_pyHash_str h
  eqBool := fun hu hv h => by
    rcases keyIs_shape hu with ⟨i, t, rfl, rfl⟩ | ⟨x, t, rfl, rfl⟩
    · rcases keyIs_shape hv with ⟨j, u, rfl, rfl⟩ | ⟨y, u, rfl, rfl⟩
      · rw [key_ll] at h; exact wpAny_eqBool_int h
      · rw [key_lr] at h; exact SeqAt.EqAt.int_str i t y u _ _ _ _ h
    · rcases keyIs_shape hv with ⟨j, u, rfl, rfl⟩ | ⟨y, u, rfl, rfl⟩
      · rw [key_rl] at h; exact SeqAt.EqAt.str_int x t j u _ _ _ _ h
      · rw [key_rr] at h; exact wpAny_eqBool_str h
  «strs» := fun k x t v h => by
    rcases keyIs_shape h with ⟨i, u, rfl, e⟩ | ⟨y, u, rfl, e⟩
    · exact nomatch e
    · injection e with e1 _
      subst e1
      cases v <;> rfl
theorem mixKind_int (prog : Program) (w : World) (i : Int) (t : Tok) : (mixKind prog w).is (.inl i) (.int i t) = true := keyIs_int i t
theorem mixKind_str (prog : Program) (w : World) (x : Str) (t : Tok) : (mixKind prog w).is (.inr x) (.str x t) = true := keyIs_str x t
end L2
namespace L2
open PySem PySem.Spec PyProof.Rows
inductive V where
  | non | bl (b : Bool) | int (i : Int) | str (x : Str) | byt (b : Array UInt8) | flt (b : UInt64) | ref (a : Addr) | ty (n : String)
  deriving DecidableEq
def RelV : V → Value → Prop
  | .non, u => u = Value.none
  | .bl b, u => u = Value.bool b
  | .int i, u => ∃ t, u = Value.int i t
  | .str x, u => ∃ t, u = Value.str x t
  | .byt b, u => ∃ t, u = Value.bytes b t
  | .flt b, u => ∃ t, u = Value.float b t
  | .ref a, u => u = Value.ref a
  | .ty n, u => u = Value.type n
abbrev Vals : List V → List Value → Prop := Paired RelV
theorem Vals.length {xs : List V} {us : List Value} (r : Vals xs us) : xs.length = us.length := Paired.length r
theorem Vals.get : ∀ {xs : List V} {us : List Value} {i : Nat} {x : V}, Vals xs us → xs[i]? = some x → ∃ u, us[i]? = some u ∧ RelV x u
  | _, _, _, _, .nil, e => by simp at e
  | _, _, 0, _, .cons r _, e => by simp at e; subst e; exact ⟨_, rfl, r⟩
  | _, _, i + 1, x, .cons _ t, e => by
    obtain ⟨u, h1, h2⟩ := Vals.get (i := i) (x := x) t (by simpa using e)
    exact ⟨u, by simpa using h1, h2⟩
theorem Vals.set {x : V} {u : Value} (r : RelV x u) : ∀ {xs : List V} {us : List Value} (i : Nat), Vals xs us → Vals (xs.set i x) (us.set i u)
  | _, _, _, .nil => .nil
  | _, _, 0, .cons _ t => .cons r t
  | _, _, i + 1, .cons q t => .cons q (Vals.set r i t)
theorem Vals.append : ∀ {xs ys : List V} {us ws : List Value}, Vals xs us → Vals ys ws → Vals (xs ++ ys) (us ++ ws)
  | _, _, _, _, .nil, s => s
  | _, _, _, _, .cons r t, s => .cons r (Vals.append t s)
theorem Vals.take : ∀ {xs : List V} {us : List Value} (n : Nat), Vals xs us → Vals (xs.take n) (us.take n)
  | _, _, 0, _ => .nil
  | _, _, _ + 1, .nil => .nil
  | _, _, n + 1, .cons r t => .cons r (Vals.take n t)
theorem Vals.drop : ∀ {xs : List V} {us : List Value} (n : Nat), Vals xs us → Vals (xs.drop n) (us.drop n)
  | _, _, 0, r => r
  | _, _, _ + 1, .nil => .nil
  | _, _, n + 1, .cons _ t => Vals.drop n t
def RelO : Option V → Option Value → Prop
  | some v, some u => RelV v u
  | none, none => True
  | _, _ => False
def KV {κ : Type} : List (κ × V) → List (κ × Value) → Prop := Paired fun (p : κ × V) (q : κ × Value) => p.1 = q.1 ∧ RelV p.2 q.2
def kV : Key → V
  | .inl i => .int i
  | .inr x => .str x
inductive HO where
  | lst (xs : List V)
  | tup (xs : List V)
  | dK (kvs : List (Key × V)) | dT (kvs : List (List Key × V))
  | set (S : Int → Bool) (n : Nat)
  | ins (C dx : Addr) (fs : List (Str × V))
  | own (x : Addr)
  | xd (fs : List (Str × V))
  | met (f x : Addr)
  | rng (lo hi : Int)
  | frz (o : Obj) (u : HO)
  | tbl (ps : Array Value)
  | ext (φ : Heap → Prop)
abbrev Hp := Addr → Option HO
def upd (H : Hp) (a : Addr) (o : HO) : Hp := fun b => if b = a then some o else H b
theorem upd_same {H : Hp} {a : Addr} {o : HO} : upd H a o a = some o := by unfold upd; rw [if_pos rfl]
theorem upd_ne {H : Hp} {a b : Addr} {o : HO} (h : b ≠ a) : upd H a o b = H b := by unfold upd; rw [if_neg h]
theorem upd_upd {H : Hp} {a : Addr} {o u : HO} : upd (upd H a o) a u = upd H a u := by
  funext b; unfold upd; split <;> rfl
theorem ne_of {H : Hp} {a b : Addr} {o u : HO} (h : H a = some o) (h' : H b = some u) (d : o ≠ u) : a ≠ b := by
  intro e; subst e; rw [h] at h'; exact d (Option.some.inj h')
theorem ne_of_none {H : Hp} {a b : Addr} {o : HO} (h : H a = some o) (h' : H b = none) : a ≠ b := by
  intro e; subst e; rw [h] at h'; cases h'
section
variable (P : Program) (w : World)
def ObjOk (H : Hp) (h : Heap) (a : Addr) : HO → Prop
  | .lst xs => xs.length ≤ sizeLine ∧ ∃ (its : List Value) (n : Nat), Vals xs its ∧ h.get? a = some { cls := .type "list", data := .seq its.toArray n }
  | .tup xs => xs.length ≤ sizeLine ∧ ∃ its : List Value, Vals xs its ∧ IsTup h a its.toArray
  | .dK kvs => kvs.length ≤ sizeLine ∧ (a == sysModules) = false ∧ ∃ vs, KV kvs vs ∧ h.DictOf (mixKind P w) a vs
  | .dT kvs => kvs.length ≤ sizeLine ∧ (a == sysModules) = false ∧ ∃ xs : List (List Key × Addr × Value),
      Paired (fun (p : List Key × V) (q : List Key × Addr × Value) => p.1 = q.1 ∧ H q.2.1 = some (.tup (p.1.map kV)) ∧ RelV p.2 q.2.2) kvs xs ∧
      ∃ o es ep, h.get? a = some o ∧ o.ExactDict ∧ o.data = .dict es ep ∧ es.toList = xs.map (entryOfKey (tupleKind (mixKind P w))) ∧ (xs.map (·.1)).Nodup
  | .set S n => h.SetOf (intKind P w) a S n
  | .ins C dx fs => H dx = some (.own a) ∧ fs.length ≤ 1000 ∧ dx ≠ a ∧ h.get? a = some (PySem.W.instObj C dx) ∧
      ∃ mA, h.Ns1 dx mA ∧ (∀ f, RelO (fs.lookup f) (mA f)) ∧ PySem.Within mA (fs.map (·.1))
  | .own _ => ∃ o, h.get? a = some o
  | .xd fs => ∃ mA, h.Ns1 a mA ∧ ∀ f, RelO (fs.lookup f) (mA f)
  | .rng lo hi => ∃ t u v, h.get? a = some { cls := .type "range", data := .fields #[.int lo t, .int hi u, .int 1 v] }
  | .frz o u => h.get? a = some o ∧ ObjOk H h a u
  | .tbl ps => h.get? a = some { cls := .none, data := .fields ps }
  | .met f x => h.get? a = some (PySem.W.methodObj (.ref f) (.ref x))
  | .ext φ => φ h ∧ (∃ o, h.get? a = some o) ∧ ∀ h1 h2 : Heap, φ h1 → (∀ o, h1.get? a = some o → h2.get? a = some o) → φ h2
def HOk (H : Hp) (h : Heap) : Prop := ∀ a o, H a = some o → ObjOk P w H h a o
end
section
variable {P : Program} {w : World} {H H' : Hp} {h h' : Heap} {a : Addr} {o : HO}
theorem ObjOk.lt (x : ObjOk P w H h a o) : a < h.objs.size := by
  cases o with
  | lst xs => obtain ⟨_, _, _, _, e⟩ := x; exact Heap.lt_size e
  | tup xs => obtain ⟨_, _, _, p⟩ := x; exact p.lt
  | dK kvs => obtain ⟨_, _, _, _, o, _, _, e, _⟩ := x; exact Heap.lt_size e
  | dT kvs => obtain ⟨_, _, _, _, o, _, _, e, _⟩ := x; exact Heap.lt_size e
  | set S n => obtain ⟨o, _, _, _, e, _⟩ := x; exact Heap.lt_size e
  | ins C dx fs => obtain ⟨_, _, _, e, _⟩ := x; exact Heap.lt_size e
  | own y => obtain ⟨_, e⟩ := x; exact Heap.lt_size e
  | xd fs => obtain ⟨_, ⟨_, _, _, e, _⟩, _⟩ := x; exact Heap.lt_size e
  | rng lo hi => obtain ⟨_, _, _, e⟩ := x; exact Heap.lt_size e
  | frz ob u => obtain ⟨e, _⟩ := x; exact Heap.lt_size e
  | tbl ps => exact Heap.lt_size (show h.get? a = some _ from x)
  | met f y => exact Heap.lt_size (show h.get? a = some _ from x)
  | ext φ => obtain ⟨_, ⟨_, e⟩, _⟩ := x; exact Heap.lt_size e
theorem Paired.mapP {α β : Type} {F G : α → β → Prop} : ∀ {l₁ : List α} {l₂ : List β}, Paired F l₁ l₂ → (∀ a b, F a b → G a b) → Paired G l₁ l₂
  | _, _, .nil, _ => .nil
  | _, _, .cons r t, f => .cons (f _ _ r) (Paired.mapP t f)
theorem ObjOk.stay (x : ObjOk P w H h a o) (k : ∀ b u, (b = a ∨ H b = some (.own a)) → h.get? b = some u → h'.get? b = some u)
    (ho : ∀ b, H b = some (.own a) → H' b = some (.own a)) (ht : ∀ b xs, H b = some (.tup xs) → H' b = some (.tup xs)) : ObjOk P w H' h' a o := by
  induction o with
  | lst xs => obtain ⟨z, its, n, r, e⟩ := x; exact ⟨z, its, n, r, k _ _ (.inl rfl) e⟩
  | tup xs => obtain ⟨z, its, r, ob, e, c⟩ := x; exact ⟨z, its, r, ob, k _ _ (.inl rfl) e, c⟩
  | dK kvs => obtain ⟨z, y, vs, r, ob, es, ep, e, c⟩ := x; exact ⟨z, y, vs, r, ob, es, ep, k _ _ (.inl rfl) e, c⟩
  | dT kvs =>
    obtain ⟨z, y, xs, r, ob, es, ep, e, c⟩ := x
    exact ⟨z, y, xs, Paired.mapP r fun p q z => ⟨z.1, ht _ _ z.2.1, z.2.2⟩, ob, es, ep, k _ _ (.inl rfl) e, c⟩
  | set S n => obtain ⟨ob, es, ep, t, e, c⟩ := x; exact ⟨ob, es, ep, t, k _ _ (.inl rfl) e, c⟩
  | ins C dx fs =>
    obtain ⟨d, z, ne, e, mA, ⟨od, es, ep, e2, c⟩, r⟩ := x
    exact ⟨ho _ d, z, ne, k _ _ (.inl rfl) e, mA, ⟨od, es, ep, k _ _ (.inr d) e2, c⟩, r⟩
  | own y => obtain ⟨ob, e⟩ := x; exact ⟨ob, k _ _ (.inl rfl) e⟩
  | xd fs => obtain ⟨mA, ⟨od, es, ep, e, c⟩, r⟩ := x; exact ⟨mA, ⟨od, es, ep, k _ _ (.inl rfl) e, c⟩, r⟩
  | rng lo hi => obtain ⟨t, u, v, e⟩ := x; exact ⟨t, u, v, k _ _ (.inl rfl) e⟩
  | frz ob u ih => obtain ⟨e, q⟩ := x; exact ⟨k _ _ (.inl rfl) e, ih q⟩
  | tbl ps =>
    have e : h.get? a = some { cls := .none, data := .fields ps } := x
    show h'.get? a = some { cls := .none, data := .fields ps }
    exact k a _ (.inl rfl) e
  | met f y =>
    have e : h.get? a = some (PySem.W.methodObj (.ref f) (.ref y)) := x
    show h'.get? a = some (PySem.W.methodObj (.ref f) (.ref y))
    exact k a _ (.inl rfl) e
  | ext φ => obtain ⟨p, ⟨o, e⟩, st⟩ := x; exact ⟨st _ _ p fun o q => k _ _ (.inl rfl) q, ⟨o, k _ _ (.inl rfl) e⟩, st⟩
theorem HOk.lt (x : HOk P w H h) (e : H a = some o) : a < h.objs.size := (x a o e).lt
theorem HOk.fresh (x : HOk P w H h) (e : h.objs.size ≤ a) : H a = none := by
  cases q : H a with
  | none => rfl
  | some u => exact absurd (Nat.lt_of_lt_of_le (x.lt q) e) (Nat.lt_irrefl _)
theorem HOk.kept (x : HOk P w H h) (k : ∀ b u, h.get? b = some u → h'.get? b = some u) : HOk P w H h' := fun a o e =>
  (x a o e).stay (fun b u _ q => k b u q) (fun _ q => q) fun _ _ q => q
theorem HOk.laid (x : HOk P w H h) (k : ∀ b u, h.get? b = some u → h'.get? b = some u) (hp : h.objs.size ≤ a) (new : ObjOk P w (upd H a o) h' a o) : HOk P w (upd H a o) h' := fun b u e => by
  have hn := x.fresh hp
  by_cases hb : b = a
  · subst hb; rw [upd_same] at e; cases e; exact new
  · rw [upd_ne hb] at e
    exact (x b u e).stay (fun c v _ q => k c v q) (fun c q => by rw [upd_ne (ne_of_none q hn)]; exact q) fun c xs q => by rw [upd_ne (ne_of_none q hn)]; exact q
end
def Rd (H : Hp) (a : Addr) (u : HO) : Prop := H a = some u ∨ ∃ o, H a = some (.frz o u)
theorem Rd.ok {P : Program} {w : World} {H : Hp} {h : Heap} {a : Addr} {u : HO} (r : Rd H a u) (x : HOk P w H h) : ObjOk P w H h a u := by
  rcases r with r | ⟨o, r⟩
  · exact x a u r
  · obtain ⟨_, q⟩ := x a _ r
    exact q
def Mut : Option HO → Prop
  | some (.lst _) => True
  | some (.dK _) => True
  | some (.dT _) => True
  | some (.set _ _) => True
  | some (.ins _ _ _) => True
  | some (.ext _) => True
  | _ => False
section
variable {P : Program} {w : World} {H : Hp} {h h' : Heap} {x e : Addr} {o' : HO}
theorem HOk.write (ok : HOk P w H h) (mu : Mut (H x)) (he : e = x ∨ H e = some (.own x)) (k : ∀ b u, b ≠ e → h.get? b = some u → h'.get? b = some u) (heo : ∃ u, h'.get? e = some u)
    (new : ObjOk P w (upd H x o') h' x o') : HOk P w (upd H x o') h' := fun b u q => by
  have nown : ∀ c y, H c = some (.own y) → c ≠ x := fun c y r z => by subst z; rw [r] at mu; exact mu
  have ntup : ∀ c xs, H c = some (.tup xs) → c ≠ x := fun c xs r z => by subst z; rw [r] at mu; exact mu
  by_cases hb : b = x
  · subst hb; rw [upd_same] at q; cases q; exact new
  · rw [upd_ne hb] at q
    by_cases hbe : b = e
    · have q' : H b = some (.own x) := by
        rcases he with z | z
        · exact absurd (hbe.trans z) hb
        · rw [hbe]; exact z
      rw [q] at q'; cases q'
      obtain ⟨v, hv⟩ := heo
      exact ⟨v, by rw [hbe]; exact hv⟩
    · refine (ok b u q).stay (fun c v hc r => k c v ?_ r) (fun c r => by rw [upd_ne (nown c b r)]; exact r) fun c xs r => by rw [upd_ne (ntup c xs r)]; exact r
      rcases hc with rfl | hc
      · exact hbe
      · rintro rfl
        rcases he with z | z
        · exact nown c b hc z
        · rw [hc] at z; cases z; exact hb rfl
end
structure Un (fs ex : List Addr) (H H' : Hp) (h h' : Heap) : Prop where
  keep : ∀ b o, h.get? b = some o → H b = none → b ∉ fs → b ∉ ex → h'.get? b = some o
  slot : ∀ b o, h.get? b = some o → H b = none → b ∈ fs → b ∉ ex → ∃ sl, h'.get? b = some { o with slots := sl }
  free : ∀ b o, h.get? b = some o → H b = none → b ∉ ex → H' b = none
  there : ∀ b o, h.get? b = some o → b ∉ ex → ∃ o', h'.get? b = some o'
  tups : ∀ b xs, H b = some (.tup xs) → H' b = some (.tup xs)
  frzs : ∀ b o u, H b = some (.frz o u) → H' b = some (.frz o u)
  tbls : ∀ b ps, H b = some (.tbl ps) → ∃ more, H' b = some (.tbl (ps ++ more))
section
variable {fs fs' ex ex' : List Addr} {H H1 H2 : Hp} {h h1 h2 h' : Heap} {a x e : Addr} {o : HO}
theorem Un.any (u : Un fs ex H H1 h h1) {b : Addr} {ob : Obj} (q : h.get? b = some ob) (n : H b = none) (hx : b ∉ ex) : ∃ sl, h1.get? b = some { ob with slots := sl } := by
  by_cases hb : b ∈ fs
  · exact u.slot b ob q n hb hx
  · exact ⟨ob.slots, u.keep b ob q n hb hx⟩
theorem Un.kept (k : ∀ b u, h.get? b = some u → h'.get? b = some u) : Un fs ex H H h h' :=
  ⟨fun b ob q _ _ _ => k b ob q, fun b ob q _ _ _ => ⟨ob.slots, k b ob q⟩, fun _ _ _ n _ => n, fun b ob q _ => ⟨ob, k b ob q⟩, fun _ _ q => q, fun _ _ _ q => q, fun _ ps q => ⟨#[], by rw [q]; simp⟩⟩
theorem Un.refl : Un fs ex H H h h := Un.kept fun _ _ q => q
theorem Un.laid (k : ∀ b u, h.get? b = some u → h'.get? b = some u) (hp : h.objs.size ≤ a) (hn : H a = none) : Un fs ex H (upd H a o) h h' where
  keep := fun b u q _ _ _ => k b u q
  slot := fun b u q _ _ _ => ⟨u.slots, k b u q⟩
  free := fun b u q n _ => by rw [upd_ne (Nat.ne_of_lt (Nat.lt_of_lt_of_le (Heap.lt_size q) hp))]; exact n
  there := fun b u q _ => ⟨u, k b u q⟩
  tups := fun b xs q => by rw [upd_ne (ne_of_none q hn)]; exact q
  frzs := fun b u xs q => by rw [upd_ne (ne_of_none q hn)]; exact q
  tbls := fun b ps q => ⟨#[], by rw [upd_ne (ne_of_none q hn), q]; simp⟩
theorem Un.write (mu : Mut (H x)) (he : e = x ∨ H e = some (.own x)) (k : ∀ b u, b ≠ e → h.get? b = some u → h'.get? b = some u) (heo : ∃ u, h'.get? e = some u) : Un fs ex H (upd H x o) h h' := by
  have hx : ∀ b, H b = none → b ≠ x := fun b n z => by subst z; rw [n] at mu; exact mu
  have hb : ∀ b, H b = none → b ≠ e := fun b n z => by
    subst z
    rcases he with r | r
    · exact hx b n r
    · rw [n] at r; cases r
  have hm : ∀ b u, H b = some u → ¬ Mut (some u) → b ≠ x := fun b u q nm z => by subst z; rw [q] at mu; exact nm mu
  refine ⟨fun b u q n _ _ => k b u (hb b n) q, fun b u q n _ _ => ⟨u.slots, k b u (hb b n) q⟩, fun b u q n _ => by rw [upd_ne (hx b n)]; exact n, fun b u q _ => ?_,
    fun b xs q => by rw [upd_ne (hm b _ q fun z => z)]; exact q, fun b u xs q => by rw [upd_ne (hm b _ q fun z => z)]; exact q, fun b ps q => ⟨#[], by rw [upd_ne (hm b _ q fun z => z), q]; simp⟩⟩
  by_cases hbe : b = e
  · subst hbe; exact heo
  · exact ⟨u, k b u hbe q⟩
end
def trk (h : Heap) (H : Hp) : List Addr := (List.range h.objs.size).filter fun a => (H a).isSome
def hidT (h : Heap) (H : Hp) : Heap := PySem.W.hideAll h (trk h H)
theorem hidT_size (h : Heap) (H : Hp) : (hidT h H).objs.size = h.objs.size := PySem.W.hideAll_size _ _
theorem hidT_get {h : Heap} {H : Hp} {b : Addr} {o : Obj} (e : h.get? b = some o) (n : H b = none) : (hidT h H).get? b = some o :=
  PySem.W.hideAll_get _ e fun hm => by
    have q : (H b).isSome = true := (List.mem_filter.mp hm).2
    rw [n] at q; simp at q
theorem of_hidT {h : Heap} {H : Hp} {b : Addr} {o : Obj} (e : (hidT h H).get? b = some o) : h.get? b = some o ∧ H b = none := by
  have e' : h.get? b = some o := PySem.W.of_hideAll (trk h H) e
  refine ⟨e', ?_⟩
  cases q : H b with
  | none => rfl
  | some x =>
    have hm : b ∈ trk h H := List.mem_filter.mpr ⟨List.mem_range.mpr (Heap.lt_size e'), by simp [q]⟩
    have z : (hidT h H).get? b = none := PySem.W.hideAll_none (trk h H) hm
    rw [z] at e; cases e
end L2
namespace L2
open PySem PySem.Spec PyProof.Rows
structure Mod (K : PySem.W.Frag) (mg : Str → Option Value) (base : Heap) : Prop where
  kin : K.In base
  glob : base.Ns mainGlobals mg
  blt : ∃ mb, base.Ns builtinsNs mb ∧ ∀ x : Str, x ≠ "__name__" → mb x = bootBuiltins x
  nolimit : base.NoLimit
structure Cx where
  prog : Program
  w : World
  K : PySem.W.Frag
  mg : Str → Option Value
  base : Heap
  A : Around
  N : List Str
  s_0 : Shared
  H_0 : Hp
  env : Env
  outer : List Env
  stack : List Env
  ex : List Addr
  fn : Str → Bool
  calm : Bool
  pn : List (Addr × Obj)
  xe : Value → Shared → Prop
def frs (l : List Env) : List Addr := l.filterMap (·.frame)
abbrev Cx.fs (X : Cx) : List Addr := frs X.outer
def Vis (sc : Scope) (x : Str) : Prop := sc.names.lookup x = some .local ∨ sc.names.lookup x = some .cell ∨ sc.names.lookup x = some .free
def Loc (sc : Scope) (x : Str) : Prop := sc.names.lookup x = some .local ∨ sc.names.lookup x = some .cell
def Look (env : Env) (h : Heap) (m : Str → Option Value) (x : Str) (u : Value) : Prop :=
  (env.kindOf x = some .local ∧ m x = some u) ∨ ((env.kindOf x = some .cell ∨ env.kindOf x = some .free) ∧ ∃ c, env.cells.lookup x = some c ∧ h.IsCell c (some u))
structure Cx.Ok (X : Cx) : Prop where
  mod : Mod X.K X.mg X.base
  kind : X.env.scope.kind = .function
  glob : X.env.globals = mainGlobals
  blt : X.env.builtins = builtinsNs
  above : X.s_0.heap.objs.size ≤ X.env.locals
  inj : ∀ x y c, X.env.cells.lookup x = some c → X.env.cells.lookup y = some c → x = y
  has : ∀ x, (X.env.kindOf x = some .cell ∨ X.env.kindOf x = some .free) → ∃ c, X.env.cells.lookup x = some c
  cab : ∀ x c, X.fn x = true → X.env.cells.lookup x = some c → X.s_0.heap.objs.size ≤ c
  hd : X.calm = true → X.A.handled = none
  frames : X.A.frames = some X.stack
  stk : X.stack = X.outer ∨ (X.stack = X.env :: X.outer ∧ X.env.frame = some X.env.locals)
  exf : ∀ b ∈ X.ex, b ≠ X.env.locals ∧ ∀ x c, X.env.cells.lookup x = some c → c ≠ b
  bs : ∀ b o, X.base.get? b = some o → X.s_0.heap.get? b = some o ∧ X.H_0 b = none
  bsz : X.base.objs.size ≤ X.s_0.heap.objs.size
  noex : ∀ b o, X.base.get? b = some o → b ∉ X.ex
  exfs : ∀ b ∈ X.ex, b ∉ X.fs
  funs : X.s_0.heap.FunFrames X.base X.outer
  frf : ∀ b ∈ X.fs, X.H_0 b = none
structure Inv (X : Cx) (pins : List (Addr × Obj)) (σ : List (Option V)) (H : Hp) (s : Shared) : Prop where
  ok : X.Ok
  os : s.os = X.s_0.os
  bare : AllBare s.gens
  base : Un X.fs X.ex X.H_0 H X.s_0.heap s.heap
  loc : ∃ m, s.heap.Ns X.env.locals m ∧ ∀ (i : Nat) (x : Str) (v : V), X.N[i]? = some x → σ[i]? = some (some v) → Vis X.env.scope x → ∃ u, RelV v u ∧ Look X.env s.heap m x u
  cell : ∀ x c, X.env.cells.lookup x = some c → ∃ v, s.heap.IsCell c v
  free : H X.env.locals = none
  freeC : ∀ x c, X.env.cells.lookup x = some c → H c = none
  pin : ∀ p ∈ X.pn ++ pins, s.heap.get? p.1 = some p.2 ∧ H p.1 = none ∧ p.1 ≠ X.env.locals ∧ p.1 ∉ X.fs ∧ ∀ v, p.2.data ≠ .cell v
  hok : HOk X.prog X.w H s.heap
  len : σ.length = X.N.length
section
variable {X : Cx} {pins : List (Addr × Obj)} {σ : List (Option V)} {H H' : Hp} {s : Shared} {h' : Heap}
theorem Cx.Ok.nofr (ok : X.Ok) {b : Addr} {o : Obj} (e : X.base.get? b = some o) : b ∉ X.fs := fun hb => by
  have := (ok.funs.mem hb).1
  rw [e] at this; cases this
theorem Inv.bs (I : Inv X pins σ H s) : ∀ b o, X.base.get? b = some o → s.heap.get? b = some o ∧ H b = none := fun b o e =>
  ⟨I.base.keep b o (I.ok.bs b o e).1 (I.ok.bs b o e).2 (I.ok.nofr e) (I.ok.noex b o e), I.base.free b o (I.ok.bs b o e).1 (I.ok.bs b o e).2 (I.ok.noex b o e)⟩
theorem Inv.bk (I : Inv X pins σ H s) : ∀ b o, X.base.get? b = some o → s.heap.get? b = some o := fun b o e => (I.bs b o e).1
theorem Inv.mod (I : Inv X pins σ H s) : Mod X.K X.mg X.base := I.ok.mod
theorem Inv.kIn (I : Inv X pins σ H s) : X.K.In s.heap := I.ok.mod.kin.keeps I.bk
theorem Inv.fr (I : Inv X pins σ H s) : ∃ m, Fr X.base X.env.locals s.heap m :=
  let ⟨m, hn, _⟩ := I.loc
  ⟨m, hn, I.bk, Nat.le_trans I.ok.bsz I.ok.above⟩
theorem Inv.lt (I : Inv X pins σ H s) : X.env.locals < s.heap.objs.size := let ⟨_, hn, _⟩ := I.loc; hn.lt
theorem Inv.sz (I : Inv X pins σ H s) : X.s_0.heap.objs.size ≤ s.heap.objs.size := Nat.le_trans I.ok.above (Nat.le_of_lt I.lt)
theorem Inv.nofs (I : Inv X pins σ H s) {a : Addr} (h : s.heap.objs.size ≤ a) : a ∉ X.fs := fun hb => by
  obtain ⟨_, o, ho, _⟩ := I.ok.funs.mem hb
  exact absurd (Nat.lt_of_lt_of_le (Heap.lt_size ho) (Nat.le_trans I.sz h)) (Nat.lt_irrefl _)
theorem Inv.cne (I : Inv X pins σ H s) : ∀ x c, X.env.cells.lookup x = some c → c ≠ X.env.locals := fun x c e z => by
  obtain ⟨v, o, ho, hd⟩ := I.cell x c e
  obtain ⟨m, ⟨o', es, ep, ho', hd', _⟩, _⟩ := I.loc
  rw [z, ho'] at ho; cases ho; rw [hd'] at hd; cases hd
theorem Inv.funs (I : Inv X pins σ H s) : s.heap.FunFrames X.base X.outer := by
  have all : ∀ (l : List Env), (∀ b ∈ frs l, b ∈ X.fs) → X.s_0.heap.FunFrames X.base l → s.heap.FunFrames X.base l := by
    intro l
    induction l with
    | nil => intro _ _; trivial
    | cons env r ih =>
      intro hs hl
      obtain ⟨hk, ⟨L, o, hf, hn, ho, hd⟩, hr⟩ := hl
      have hL : L ∈ X.fs := hs L (by unfold frs; rw [List.filterMap_cons, hf]; exact List.mem_cons_self)
      obtain ⟨sl, e⟩ := I.base.slot L o ho (I.ok.frf L hL) hL fun z => I.ok.exfs L z hL
      exact ⟨hk, ⟨L, _, hf, hn, e, hd⟩, ih (fun b hb => hs b (by unfold frs; rw [List.filterMap_cons, hf]; exact List.mem_cons_of_mem _ hb)) hr⟩
  exact all X.outer (fun _ hb => hb) I.ok.funs
theorem Inv.stack (I : Inv X pins σ H s) : s.heap.FunFrames X.base X.stack := by
  rcases I.ok.stk with e | ⟨e, hf⟩
  · rw [e]; exact I.funs
  · rw [e]
    obtain ⟨m, hn, _⟩ := I.loc
    refine .cons (by rw [I.ok.kind]; decide) hf hn ?_ I.funs
    exact Heap.get?_none_of_le (Nat.le_trans I.ok.bsz I.ok.above)
theorem Inv.stkSub (I : Inv X pins σ H s) : ∀ b ∈ frs X.stack, b ∈ X.env.locals :: X.fs := fun b hb => by
  rcases I.ok.stk with e | ⟨e, hf⟩
  · rw [e] at hb; exact List.mem_cons_of_mem _ hb
  · rw [e] at hb
    unfold frs at hb
    rw [List.filterMap_cons, hf] at hb
    exact hb
theorem Inv.stkFree (I : Inv X pins σ H s) : ∀ b ∈ frs X.stack, H b = none := fun b hb => by
  rcases List.mem_cons.mp (I.stkSub b hb) with e | hb
  · rw [e]; exact I.free
  · obtain ⟨_, o, ho, _⟩ := I.ok.funs.mem hb
    exact I.base.free b o ho (I.ok.frf b hb) fun z => I.ok.exfs b z hb
theorem Inv.step {g' : Array GenState} {t' : Nat} {d' : Drawn} {ch : List Addr} (I : Inv X pins σ H s)
    (hch : ∀ b ∈ ch, (b ∈ X.ex ∨ X.s_0.heap.objs.size ≤ b) ∧ b ≠ X.env.locals ∧ (∀ x c, X.env.cells.lookup x = some c → c ≠ b) ∧ ∀ p ∈ X.pn ++ pins, p.1 ≠ b)
    (keep : ∀ b o, b ≠ X.env.locals → b ∉ X.fs → b ∉ ch → s.heap.get? b = some o → H b = none → h'.get? b = some o)
    (slot : ∀ b o, b ≠ X.env.locals → b ∈ X.fs → b ∉ ch → s.heap.get? b = some o → H b = none → ∃ sl, h'.get? b = some { o with slots := sl }) (free : ∀ b o, b ∉ ch → s.heap.get? b = some o → H b = none → H' b = none)
    (there : ∀ b o, b ∉ ch → s.heap.get? b = some o → ∃ o', h'.get? b = some o')
    (tups : ∀ b xs, H b = some (.tup xs) → H' b = some (.tup xs)) (frzs : ∀ b o u, H b = some (.frz o u) → H' b = some (.frz o u)) (tbls : ∀ b ps, H b = some (.tbl ps) → ∃ more, H' b = some (.tbl (ps ++ more)))
    (ns : ∀ m, s.heap.Ns X.env.locals m → h'.Ns X.env.locals m) (hok : HOk X.prog X.w H' h') (hg : AllBare g') :
    Inv X pins σ H' { s with heap := h', gens := g', drawn := d', toks := t' } := by
  have neL : ∀ b o, X.s_0.heap.get? b = some o → b ≠ X.env.locals := fun b o e => Nat.ne_of_lt (Nat.lt_of_lt_of_le (Heap.lt_size e) I.ok.above)
  have neC : ∀ b o, X.s_0.heap.get? b = some o → b ∉ X.ex → b ∉ ch := fun b o e hx hb => by
    rcases (hch b hb).1 with z | z
    · exact hx z
    · exact absurd (Nat.lt_of_lt_of_le (Heap.lt_size e) z) (Nat.lt_irrefl _)
  have cellK : ∀ x c, X.env.cells.lookup x = some c → ∀ v, s.heap.IsCell c v → h'.IsCell c v := fun x c e v ⟨o, ho, hd⟩ => by
    have nch : c ∉ ch := fun z => (hch c z).2.2.1 x c e rfl
    by_cases hc : c ∈ X.fs
    · obtain ⟨sl, q⟩ := slot c o (I.cne x c e) hc nch ho (I.freeC x c e)
      exact ⟨_, q, hd⟩
    · exact ⟨o, keep c o (I.cne x c e) hc nch ho (I.freeC x c e), hd⟩
  refine ⟨I.ok, I.os, hg, ⟨fun b o e n hb hx => ?_, fun b o e n hb hx => ?_, fun b o e n hx => ?_, fun b o e hx => ?_, fun b xs e => tups b xs (I.base.tups b xs e), fun b o xs e => frzs b o xs (I.base.frzs b o xs e), fun b ps e => ?_⟩, ?_, fun x c e => ?_, ?_, fun x c e => ?_, fun p hp => ?_, hok, I.len⟩
  · exact keep b o (neL b o e) hb (neC b o e hx) (I.base.keep b o e n hb hx) (I.base.free b o e n hx)
  · obtain ⟨sl, e1⟩ := I.base.slot b o e n hb hx
    obtain ⟨sl', e2⟩ := slot b _ (neL b o e) hb (neC b o e hx) e1 (I.base.free b o e n hx)
    exact ⟨sl', e2⟩
  · obtain ⟨o', e1⟩ := I.base.there b o e hx
    exact free b o' (neC b o e hx) e1 (I.base.free b o e n hx)
  · obtain ⟨o', e1⟩ := I.base.there b o e hx
    exact there b o' (neC b o e hx) e1
  · obtain ⟨m1, e1⟩ := I.base.tbls b ps e
    obtain ⟨m2, e2⟩ := tbls b _ e1
    exact ⟨m1 ++ m2, by rw [e2, Array.append_assoc]⟩
  · obtain ⟨m, hn, hl⟩ := I.loc
    refine ⟨m, ns m hn, fun i x v e1 e2 e3 => ?_⟩
    obtain ⟨u, r, l⟩ := hl i x v e1 e2 e3
    refine ⟨u, r, ?_⟩
    rcases l with l | ⟨k, c, e, z⟩
    · exact .inl l
    · exact .inr ⟨k, c, e, cellK x c e _ z⟩
  · obtain ⟨v, z⟩ := I.cell x c e
    exact ⟨v, cellK x c e v z⟩
  · obtain ⟨m, ⟨o, _, _, ho, _⟩, _⟩ := I.loc
    exact free _ o (fun z => (hch _ z).2.1 rfl) ho I.free
  · obtain ⟨v, o, ho, hd⟩ := I.cell x c e
    exact free c o (fun z => (hch c z).2.2.1 x c e rfl) ho (I.freeC x c e)
  · obtain ⟨e, n, ne, nf, d⟩ := I.pin p hp
    have nch : p.1 ∉ ch := fun z => (hch p.1 z).2.2.2 p hp rfl
    exact ⟨keep p.1 p.2 ne nf nch e n, free p.1 p.2 nch e n, ne, nf, d⟩
theorem Inv.un {t' : Nat} (I : Inv X pins σ H s) (u : Un X.fs [] H H' s.heap h') (hok : HOk X.prog X.w H' h') : Inv X pins σ H' { s with heap := h', toks := t' } := by
  obtain ⟨m, ⟨o, es, ep, ho, r⟩, _⟩ := id I.loc
  obtain ⟨sl, hL⟩ := u.any ho I.free (by simp)
  exact I.step (g' := s.gens) (d' := s.drawn) (ch := []) (fun _ z => nomatch z) (fun b o _ hb _ e n => u.keep b o e n hb (by simp)) (fun b o _ hb _ e n => u.slot b o e n hb (by simp)) (fun b o _ e n => u.free b o e n (by simp)) (fun b o _ e => u.there b o e (by simp)) u.tups u.frzs u.tbls (fun m' hm => by
    obtain ⟨o', es', ep', ho', r'⟩ := hm
    rw [ho] at ho'; cases ho'
    exact ⟨_, es', ep', hL, r'⟩) hok I.bare
theorem Inv.call {g' : Array GenState} {t' : Nat} {d' : Drawn} {ch : List Addr} (I : Inv X pins σ H s) (u : Un (frs X.stack) ch H H' s.heap h') (hok : HOk X.prog X.w H' h') (hg : AllBare g')
    (hch : ∀ b ∈ ch, (b ∈ X.ex ∨ X.s_0.heap.objs.size ≤ b) ∧ b ≠ X.env.locals ∧ (∀ x c, X.env.cells.lookup x = some c → c ≠ b) ∧ ∀ p ∈ X.pn ++ pins, p.1 ≠ b) :
    Inv X pins σ H' { s with heap := h', gens := g', drawn := d', toks := t' } := by
  obtain ⟨m, ⟨o, es, ep, ho, r⟩, _⟩ := id I.loc
  obtain ⟨sl, hL⟩ := u.any ho I.free fun z => (hch _ z).2.1 rfl
  exact I.step (ch := ch) hch (fun b o hL hb hc e n => u.keep b o e n (fun z => (List.mem_cons.mp (I.stkSub b z)).elim hL hb) hc) (fun b o _ _ hc e n => u.any e n hc) (fun b o hc e n => u.free b o e n hc) (fun b o hc e => u.there b o e hc) u.tups u.frzs u.tbls (fun m' hm => by
    obtain ⟨o', es', ep', ho', r'⟩ := hm
    rw [ho] at ho'; cases ho'
    exact ⟨_, es', ep', hL, r'⟩) hok hg
theorem Inv.turned {t' : Nat} {it : Addr} (I : Inv X pins σ H s) (k : ∀ b o, b ≠ it → s.heap.get? b = some o → h'.get? b = some o) (hn : H it = none) (hL : it ≠ X.env.locals)
    (h1 : it ∈ X.ex ∨ X.s_0.heap.objs.size ≤ it) (h2 : ∀ x c, X.env.cells.lookup x = some c → c ≠ it) (h3 : ∀ p ∈ X.pn ++ pins, p.1 ≠ it) : Inv X pins σ H { s with heap := h', toks := t' } := by
  have nit : ∀ b u, H b = some u → b ≠ it := fun b u e z => by rw [z, hn] at e; cases e
  refine I.step (g' := s.gens) (d' := s.drawn) (ch := [it]) (fun b hb => ?_) (fun b o _ _ hc e _ => k b o (fun z => hc (by simp [z])) e) (fun b o _ _ hc e _ => ⟨o.slots, k b o (fun z => hc (by simp [z])) e⟩) (fun _ _ _ _ n => n)
    (fun b o hc e => ⟨o, k b o (fun z => hc (by simp [z])) e⟩) (fun _ _ e => e) (fun _ _ _ e => e) (fun b ps e => ⟨#[], by rw [e]; simp⟩) (fun m hm => ?_) (fun b u e => ?_) I.bare
  · have e : b = it := by simpa using hb
    subst e
    exact ⟨h1, hL, h2, h3⟩
  · obtain ⟨o, es, ep, ho, r⟩ := hm
    exact ⟨o, es, ep, k _ o (Ne.symm hL) ho, r⟩
  · refine (I.hok b u e).stay (fun c v hc q => k c v ?_ q) (fun _ q => q) fun _ _ q => q
    rcases hc with z | z
    · rw [z]; exact nit b u e
    · exact nit c _ z
theorem Inv.tok (I : Inv X pins σ H s) (t : Nat) : Inv X pins σ H { s with toks := t } := I.un (h' := s.heap) (t' := t) Un.refl I.hok
theorem Inv.kept {t' : Nat} (I : Inv X pins σ H s) (k : ∀ b u, s.heap.get? b = some u → h'.get? b = some u) : Inv X pins σ H { s with heap := h', toks := t' } := I.un (Un.kept k) (I.hok.kept k)
theorem Inv.laid {a : Addr} {o : HO} {t' : Nat} (I : Inv X pins σ H s) (k : ∀ b u, s.heap.get? b = some u → h'.get? b = some u) (hp : s.heap.objs.size ≤ a) (new : ObjOk X.prog X.w (upd H a o) h' a o) :
    Inv X pins σ (upd H a o) { s with heap := h', toks := t' } := I.un (Un.laid k hp (I.hok.fresh hp)) (I.hok.laid k hp new)
theorem Inv.write {x e : Addr} {o : HO} {t' : Nat} (I : Inv X pins σ H s) (mu : Mut (H x)) (he : e = x ∨ H e = some (.own x)) (k : ∀ b u, b ≠ e → s.heap.get? b = some u → h'.get? b = some u) (heo : ∃ u, h'.get? e = some u)
    (new : ObjOk X.prog X.w (upd H x o) h' x o) : Inv X pins σ (upd H x o) { s with heap := h', toks := t' } := I.un (Un.write mu he k heo) (I.hok.write mu he k heo new)
theorem Inv.weak {σ' : List (Option V)} (I : Inv X pins σ H s) (hl : σ'.length = σ.length) (w : ∀ (i : Nat) v, σ'[i]? = some (some v) → σ[i]? = some (some v)) : Inv X pins σ' H s :=
  ⟨I.ok, I.os, I.bare, I.base, let ⟨m, hn, hl'⟩ := I.loc; ⟨m, hn, fun i x v e1 e2 e3 => hl' i x v e1 (w i v e2) e3⟩, I.cell, I.free, I.freeC, I.pin, I.hok, hl.trans I.len⟩
theorem Inv.pins_of {pins' : List (Addr × Obj)} (I : Inv X pins σ H s) (h : ∀ p ∈ pins', s.heap.get? p.1 = some p.2 ∧ H p.1 = none ∧ p.1 ≠ X.env.locals ∧ p.1 ∉ X.fs ∧ ∀ v, p.2.data ≠ .cell v) : Inv X pins' σ H s :=
  ⟨I.ok, I.os, I.bare, I.base, I.loc, I.cell, I.free, I.freeC, fun p hp => (List.mem_append.mp hp).elim (fun z => I.pin p (List.mem_append_left _ z)) (h p), I.hok, I.len⟩
theorem nodup_ix {N : List Str} (hN : N.Nodup) {i j : Nat} {x : Str} (a : N[i]? = some x) (b : N[j]? = some x) : i = j := by
  obtain ⟨h1, e1⟩ := List.getElem?_eq_some_iff.mp a
  obtain ⟨h2, e2⟩ := List.getElem?_eq_some_iff.mp b
  exact (List.getElem_inj hN).mp (e1.trans e2.symm)
theorem store_ok2 {M : Model} {A : Around} {E : Value → Shared → Prop} {i : Nat} {x : Str} {v : V} {u : Value} {Q : Unit → Shared → Prop} (I : Inv X pins σ H s) (hN : X.N.Nodup) (hi : X.N[i]? = some x) (hx : Loc X.env.scope x) (r : RelV v u)
    (h : ∀ s', Inv X pins (σ.set i (some v)) H s' → (∃ a, Heap.SameBut a s.heap s'.heap ∧ (a = X.env.locals ∨ X.env.cells.lookup x = some a)) → Q () s') (hf : X.fn x = true ∨ X.env.scope.names.lookup x = some .local := by first | exact .inl rfl | exact .inr rfl | assumption) : wpAny M A (storeName X.env x u) Q E s := by
  obtain ⟨m, hn, hl⟩ := id I.loc
  have hcls : (X.env.scope.kind == .class || (X.env.scope.kind == .module && X.env.locals != X.env.globals)) = false := by rw [I.ok.kind]; rfl
  have hiσ : i < σ.length := by rw [I.len]; exact (List.getElem?_eq_some_iff.mp hi).1
  have cne := I.cne
  have tracked : ∀ {a : Addr} {h' : Heap}, (∃ o, s.heap.get? a = some o ∧ H a = none) → Heap.SameBut a s.heap h' → HOk X.prog X.w H h' := fun {a h'} ha hs b ob e => by
    obtain ⟨_, _, hfree⟩ := ha
    refine (I.hok b ob e).stay (fun c w' hc q => (hs.2 c ?_).trans q) (fun _ q => q) fun _ _ q => q
    rintro rfl
    rcases hc with rfl | hc
    · rw [hfree] at e; cases e
    · rw [hfree] at hc; cases hc
  rcases hx with hk | hk
  · refine wpAny_storeName_local hk hn (fun h' hn' hs => ?_) hcls
    obtain ⟨oL, _, _, hoL, _⟩ := id hn
    refine h _ ⟨I.ok, I.os, I.bare, ⟨fun b o e n hb hx => ?_, fun b o e n hb hx => ?_, I.base.free, fun b o e hx => ?_, I.base.tups, I.base.frzs, I.base.tbls⟩, ⟨_, hn', fun j y v' e1 e2 e3 => ?_⟩, fun y c e => ?_, I.free, I.freeC, fun p hp => ?_, tracked ⟨oL, hoL, I.free⟩ hs, by simpa using I.len⟩ ⟨_, hs, .inl rfl⟩
    · exact (hs.2 b (Nat.ne_of_lt (Nat.lt_of_lt_of_le (Heap.lt_size e) I.ok.above))).trans (I.base.keep b o e n hb hx)
    · obtain ⟨sl, e1⟩ := I.base.slot b o e n hb hx
      exact ⟨sl, (hs.2 b (Nat.ne_of_lt (Nat.lt_of_lt_of_le (Heap.lt_size e) I.ok.above))).trans e1⟩
    · obtain ⟨o', e1⟩ := I.base.there b o e hx
      exact ⟨o', (hs.2 b (Nat.ne_of_lt (Nat.lt_of_lt_of_le (Heap.lt_size e) I.ok.above))).trans e1⟩
    · by_cases hj : j = i
      · subst hj
        rw [hi] at e1; cases e1
        rw [List.getElem?_set_self hiσ] at e2
        cases e2
        exact ⟨u, r, .inl ⟨hk, by simp⟩⟩
      · rw [List.getElem?_set_ne (Ne.symm hj)] at e2
        obtain ⟨u', r', q⟩ := hl j y v' e1 e2 e3
        refine ⟨u', r', ?_⟩
        rcases q with ⟨k, e⟩ | ⟨k, c, e, z⟩
        · refine .inl ⟨k, ?_⟩
          have : y ≠ x := fun e => hj (nodup_ix hN e1 (e ▸ hi))
          simp [this, e]
        · exact .inr ⟨k, c, e, z.sameBut hs (cne y c e)⟩
    · obtain ⟨w', z⟩ := I.cell y c e
      exact ⟨w', z.sameBut hs (cne y c e)⟩
    · obtain ⟨e, n, ne, nf, d⟩ := I.pin p hp
      exact ⟨(hs.2 p.1 ne).trans e, n, ne, nf, d⟩
  · have hfn : X.fn x = true := by
      rcases hf with z | z
      · exact z
      · rw [z] at hk; cases hk
    obtain ⟨c, hc⟩ := I.ok.has x (.inl hk)
    obtain ⟨w', z⟩ := I.cell x c hc
    refine wpAny_storeName_cell I.ok.kind hk hc z (fun h' hc' hs => ?_)
    obtain ⟨oc, hoc, hocd⟩ := id z
    refine h { s with heap := h' } ⟨I.ok, I.os, I.bare, ⟨fun b o e n hb hx => ?_, fun b o e n hb hx => ?_, I.base.free, fun b o e hx => ?_, I.base.tups, I.base.frzs, I.base.tbls⟩, ⟨m, hn.sameBut hs (Ne.symm (cne x c hc)), fun j y v' e1 e2 e3 => ?_⟩, fun y c' e => ?_, I.free, I.freeC, fun p hp => ?_, tracked ⟨oc, hoc, I.freeC x c hc⟩ hs, by simpa using I.len⟩ ⟨c, hs, .inr hc⟩
    · exact (hs.2 b (Nat.ne_of_lt (Nat.lt_of_lt_of_le (Heap.lt_size e) (I.ok.cab x c hfn hc)))).trans (I.base.keep b o e n hb hx)
    · obtain ⟨sl, e1⟩ := I.base.slot b o e n hb hx
      exact ⟨sl, (hs.2 b (Nat.ne_of_lt (Nat.lt_of_lt_of_le (Heap.lt_size e) (I.ok.cab x c hfn hc)))).trans e1⟩
    · obtain ⟨o', e1⟩ := I.base.there b o e hx
      exact ⟨o', (hs.2 b (Nat.ne_of_lt (Nat.lt_of_lt_of_le (Heap.lt_size e) (I.ok.cab x c hfn hc)))).trans e1⟩
    · by_cases hj : j = i
      · subst hj
        rw [hi] at e1; cases e1
        rw [List.getElem?_set_self hiσ] at e2
        cases e2
        exact ⟨u, r, .inr ⟨.inl hk, c, hc, hc'⟩⟩
      · rw [List.getElem?_set_ne (Ne.symm hj)] at e2
        obtain ⟨u', r', q⟩ := hl j y v' e1 e2 e3
        refine ⟨u', r', ?_⟩
        rcases q with q | ⟨k, c', e, z'⟩
        · exact .inl q
        · refine .inr ⟨k, c', e, z'.sameBut hs ?_⟩
          rintro rfl
          exact hj (nodup_ix hN e1 (I.ok.inj _ _ _ e hc ▸ hi))
    · by_cases hcc : c' = c
      · subst hcc; exact ⟨_, hc'⟩
      · obtain ⟨w2, z2⟩ := I.cell y c' e
        exact ⟨w2, z2.sameBut hs hcc⟩
    · obtain ⟨e, n, ne, nf, d⟩ := I.pin p hp
      refine ⟨(hs.2 p.1 ?_).trans e, n, ne, nf, d⟩
      intro q
      rw [q, hoc] at e
      have q' : oc = p.2 := Option.some.inj e
      exact d w' (by rw [← q']; exact hocd)
theorem store_ok {M : Model} {A : Around} {E : Value → Shared → Prop} {i : Nat} {x : Str} {v : V} {u : Value} {Q : Unit → Shared → Prop} (I : Inv X pins σ H s) (hN : X.N.Nodup) (hi : X.N[i]? = some x) (hx : Loc X.env.scope x) (r : RelV v u)
    (h : ∀ s', Inv X pins (σ.set i (some v)) H s' → Q () s') (hf : X.fn x = true ∨ X.env.scope.names.lookup x = some .local := by first | exact .inl rfl | exact .inr rfl | assumption) : wpAny M A (storeName X.env x u) Q E s :=
  store_ok2 I hN hi hx r (fun s' I' _ => h s' I') hf
theorem Inv.call' {s' : Shared} {ch : List Addr} (I : Inv X pins σ H s) (ho : s'.os = s.os) (u : Un (frs X.stack) ch H H' s.heap s'.heap) (hok : HOk X.prog X.w H' s'.heap) (hg : AllBare s'.gens)
    (hch : ∀ b ∈ ch, (b ∈ X.ex ∨ X.s_0.heap.objs.size ≤ b) ∧ b ≠ X.env.locals ∧ (∀ x c, X.env.cells.lookup x = some c → c ≠ b) ∧ ∀ p ∈ X.pn ++ pins, p.1 ≠ b) : Inv X pins σ H' s' := by
  obtain ⟨h', g', d', t', o'⟩ := s'
  have e : o' = s.os := ho
  subst e
  exact I.call (g' := g') (t' := t') (d' := d') u hok hg hch
end
abbrev XK := Value → Option Addr → Hp → Prop
abbrev St := List (Option V)
abbrev VK := V → Hp → Prop
abbrev TE := St → Hp → VK → Prop
abbrev TT := St → Hp → (Bool → Hp → Prop) → Prop
abbrev TA := St → Hp → (List V → Hp → Prop) → Prop
structure Ends where
  nx : St → Hp → Prop
  rt : VK
  bk : St → Hp → Prop := fun _ _ => False
  ct : St → Hp → Prop := fun _ _ => False
abbrev TS := Ends → St → Hp → Prop
def EP (X : Cx) (pins : List (Addr × Obj)) (σ : St) (Q : VK) (u : Value) (s' : Shared) : Prop := ∃ v H', Inv X pins σ H' s' ∧ RelV v u ∧ Q v H'
def TP (X : Cx) (pins : List (Addr × Obj)) (σ : St) (Q : Bool → Hp → Prop) (b : Bool) (s' : Shared) : Prop := ∃ H', Inv X pins σ H' s' ∧ Q b H'
def AP (X : Cx) (pins : List (Addr × Obj)) (σ : St) (Q : List V → Hp → Prop) (us : List Value) (s' : Shared) : Prop := ∃ vs H', Inv X pins σ H' s' ∧ Vals vs us ∧ Q vs H'
def SP (X : Cx) (pins : List (Addr × Obj)) (D : Ends) (f : Flow) (s' : Shared) : Prop :=
  match f with
  | .next => ∃ σ' H', Inv X pins σ' H' s' ∧ D.nx σ' H'
  | .brk => ∃ σ' H', Inv X pins σ' H' s' ∧ D.bk σ' H'
  | .cont => ∃ σ' H', Inv X pins σ' H' s' ∧ D.ct σ' H'
  | .ret u => ∃ v σ' H', Inv X pins σ' H' s' ∧ RelV v u ∧ D.rt v H'
def PE (X : Cx) (e : Expr) (t : TE) : Prop :=
  ∀ (pins : List (Addr × Obj)) (s : Shared) (σ : St) (H : Hp) (Q : VK), Inv X pins σ H s → t σ H Q → wpAny (model X.prog X.w) X.A (eval e X.env) (EP X pins σ Q) X.xe s
def PT (X : Cx) (e : Expr) (t : TT) : Prop :=
  ∀ (pins : List (Addr × Obj)) (s : Shared) (σ : St) (H : Hp) (Q : Bool → Hp → Prop), Inv X pins σ H s → t σ H Q → wpAny (model X.prog X.w) X.A (isTrue e X.env (eval e X.env)) (TP X pins σ Q) X.xe s
def PW (X : Cx) (e : Expr) (t : TT) : Prop :=
  ∀ (whole : Sem Value) (pins : List (Addr × Obj)) (s : Shared) (σ : St) (H : Hp) (Q : Bool → Hp → Prop), Inv X pins σ H s → t σ H Q → wpAny (model X.prog X.w) X.A (isTrue e X.env whole) (TP X pins σ Q) X.xe s
theorem PW.pt {X : Cx} {e : Expr} {t : TT} (h : PW X e t) : PT X e t := h _
def PA (X : Cx) (es : List Expr) (t : TA) : Prop :=
  ∀ (pos : Pos) (pins : List (Addr × Obj)) (s : Shared) (σ : St) (H : Hp) (Q : List V → Hp → Prop), Inv X pins σ H s → t σ H Q → wpAny (model X.prog X.w) X.A (spliced (backTo pos (starEach es X.env))) (AP X pins σ Q) X.xe s
def PS (X : Cx) (st : Stmt) (t : TS) : Prop :=
  ∀ (pins : List (Addr × Obj)) (s : Shared) (σ : St) (H : Hp) (D : Ends), Inv X pins σ H s → t D σ H → wpAny (model X.prog X.w) X.A (exec st X.env) (SP X pins D) X.xe s
def PSs (X : Cx) (st : List Stmt) (t : TS) : Prop :=
  ∀ (pins : List (Addr × Obj)) (s : Shared) (σ : St) (H : Hp) (D : Ends), Inv X pins σ H s → t D σ H → wpAny (model X.prog X.w) X.A (execs st X.env) (SP X pins D) X.xe s
theorem thn {α : Type} {t : Sem α} {Q Q' : α → Shared → Prop} {M : Model} {A : Around} {E : Value → Shared → Prop} {s : Shared} (h : wpAny M A t Q E s) (hQ : ∀ a s, Q a s → Q' a s) : wpAny M A t Q' E s := wpAny_mono h hQ fun _ _ x => x
end L2
namespace L2
open PySem PySem.Spec PyProof.Rows
section
variable {X : Cx}
theorem bin {a b : Expr} {ta tb : TE} (ha : PE X a ta) (hb : PE X b tb) {pins : List (Addr × Obj)} {s : Shared} {σ : St} {H : Hp} {R : V → V → Hp → Prop} (I : Inv X pins σ H s) (h : ta σ H fun x H1 => tb σ H1 fun y H2 => R x y H2)
    {α : Type} {Q : α → Shared → Prop} {f : Value → Value → Sem α}
    (hf : ∀ v u s2 x y H2, Inv X pins σ H2 s2 → RelV x v → RelV y u → R x y H2 → wpAny (model X.prog X.w) X.A (f v u) Q X.xe s2) :
    wpAny (model X.prog X.w) X.A (eval a X.env) (fun v s₁ => wpAny (model X.prog X.w) X.A (eval b X.env) (fun u s₂ => wpAny (model X.prog X.w) X.A (f v u) Q X.xe s₂) X.xe s₁) X.xe s := by
  refine thn (ha pins s σ H _ I h) fun v s1 ⟨x, H1, I1, r1, q1⟩ => ?_
  refine thn (hb pins s1 σ H1 _ I1 q1) fun u s2 ⟨y, H2, I2, r2, q2⟩ => ?_
  exact hf v u s2 x y H2 I2 r1 r2 q2
def tVar (i : Nat) : TE := fun σ H Q => ∃ v, σ[i]? = some (some v) ∧ Q v H
def tC (v : V) : TE := fun _ H Q => Q v H
theorem pe_var {i : Nat} {x : Str} {pos : Pos} (hN : X.N[i]? = some x) (hv : Vis X.env.scope x) (hd : (x == ("__debug__" : Str)) = false := by decide) (hcd : (x == ("__classdict__" : Str)) = false := by decide) : PE X (.Name x pos) (tVar i) := by
  intro pins s σ H Q I h
  obtain ⟨v, e, h⟩ := h
  obtain ⟨m, hn, hl⟩ := I.loc
  obtain ⟨u, r, l⟩ := hl i x v hN e hv
  have fin : EP X pins σ Q u s := ⟨v, H, I, r, h⟩
  rcases l with ⟨hk, hm⟩ | ⟨hk, c, hc, hcell⟩
  · exact wpAny_Name (wpAny_loadName_local I.ok.kind hk hn hm fin) hd
  · rcases hk with hk | hk
    · exact wpAny_Name (wpAny_loadName_cell I.ok.kind hk hc hcell fin) hd
    · exact wpAny_Name (wpAny_loadName_free I.ok.kind hk hc hcell fin hcd) hd
theorem pe_int {i j pos} : PE X (.Constant (.int i) j pos) (tC (.int i)) := fun _ _ _ H _ I h => wpAny_Constant_int ⟨.int i, H, I.tok _, ⟨_, rfl⟩, h⟩
theorem pe_bl {b j pos} : PE X (.Constant (.bool b) j pos) (tC (.bl b)) := fun _ _ _ H _ I h => Constant_bool ⟨.bl b, H, I, rfl, h⟩
def Gl (X : Cx) (x : Str) : Prop := X.env.kindOf x = some .globalImplicit
theorem ld_glob {E : Value → Shared → Prop} {pins : List (Addr × Obj)} {s : Shared} {σ : St} {H : Hp} {x : Str} {u : Value} {pos : Pos} {Q : Value → Shared → Prop} (I : Inv X pins σ H s) (hg : Gl X x) (hm : X.mg x = some u) (h : Q u s)
    (hd : (x == ("__debug__" : Str)) = false := by decide) : wpAny (model X.prog X.w) X.A (eval (.Name x pos) X.env) Q E s :=
  Calls.Name_function_global I.ok.kind hg (Calls.loadGlobal_global (by rw [I.ok.glob]; exact I.mod.glob.keeps I.bk) hm h) hd
theorem ld_blt {E : Value → Shared → Prop} {pins : List (Addr × Obj)} {s : Shared} {σ : St} {H : Hp} {x : Str} {u : Value} {pos : Pos} {Q : Value → Shared → Prop} (I : Inv X pins σ H s) (hg : Gl X x) (hm : X.mg x = none) (hv : bootBuiltins x = some u) (h : Q u s)
    (hn : x ≠ "__name__" := by decide) (hd : (x == ("__debug__" : Str)) = false := by decide) : wpAny (model X.prog X.w) X.A (eval (.Name x pos) X.env) Q E s := by
  obtain ⟨mb, h1, h2⟩ := I.mod.blt
  exact Calls.Name_function_global I.ok.kind hg (Calls.loadGlobal_builtin (by rw [I.ok.glob]; exact I.mod.glob.keeps I.bk) hm (by rw [I.ok.blt]; exact h1.keeps I.bk) ((h2 x hn).trans hv) h) hd
theorem pe_glob {x : Str} {v : V} {u : Value} {pos : Pos} (hg : Gl X x) (hm : X.mg x = some u) (r : RelV v u) (hd : (x == ("__debug__" : Str)) = false := by decide) : PE X (.Name x pos) (tC v) :=
  fun _ _ _ H _ I h => ld_glob I hg hm ⟨v, H, I, r, h⟩ hd
variable {a b : Expr} {ta tb : TE} {pos : Pos}
def PC (X : Cx) (op : CmpOp) (a b : Expr) (t : TE) : Prop :=
  ∀ (pins : List (Addr × Obj)) (s : Shared) (σ : St) (H : Hp) (Q : VK), Inv X pins σ H s → t σ H Q →
    wpAny (model X.prog X.w) X.A (eval a X.env) (fun v s₁ => wpAny (model X.prog X.w) X.A (eval b X.env) (fun u s₂ => wpAny (model X.prog X.w) X.A (compareOp op v u) (EP X pins σ Q) X.xe s₂) X.xe s₁) X.xe s
def tB (t : TE) : TT := fun σ H Q => t σ H fun x H1 => ∃ c, x = .bl c ∧ Q c H1
theorem pt_cmp {op : CmpOp} {t : TE} (h : PC X op a b t) (h1 : behindInMarks op b = false := by first | exact nobehind _ (by decide) (by decide) | rfl) : PT X (.Compare a [op] [b] pos) (tB t) := by
  intro pins s σ H Q I hw
  refine wpAny_isTrue_Compare1 (thn (h pins s σ H _ I hw) fun v s1 h1 => thn h1 fun u s2 h2 => thn h2 fun c s3 ⟨x, H1, I1, r1, q1⟩ => ?_) h1
  obtain ⟨d, rfl, q⟩ := q1
  cases r1
  exact wpAny_truthy_bool ⟨H1, I1, q⟩
theorem pt_val {e : Expr} {t : TE} (h : PE X e t) (he : ∀ whole, isTrue e X.env whole = (do let v ← whole; standAt e.pos; holding [v] (truthy v)) := by intro _; rfl) : PT X e (tB t) := by
  intro pins s σ H Q I hw
  refine isTrue_plain (thn (h pins s σ H _ I hw) fun v s1 ⟨x, H1, I1, r1, q1⟩ => ?_) (he _)
  obtain ⟨d, rfl, q⟩ := q1
  cases r1
  exact wpAny_truthy_bool ⟨H1, I1, q⟩
variable {tA tB' : TT} {rest : List Expr}
def tAnd (t u : TT) : TT := fun σ H Q => t σ H fun c H1 => if c = true then u σ H1 Q else Q false H1
def tOr (t u : TT) : TT := fun σ H Q => t σ H fun c H1 => if c = true then Q true H1 else u σ H1 Q
theorem pw_and1 (ha : PT X a tA) : PW X (.BoolOp .And [a] pos) tA := by
  intro wh pins s σ H Q I h
  refine isTrue_and (thn (ha pins s σ H Q I h) fun c s1 e => ?_)
  cases c with
  | true => exact isTrue_and_nil e
  | false => exact e
theorem pw_or1 (ha : PT X a tA) : PW X (.BoolOp .Or [a] pos) tA := by
  intro wh pins s σ H Q I h
  refine isTrue_or (thn (ha pins s σ H Q I h) fun c s1 e => ?_)
  cases c with
  | false => exact isTrue_or_nil e
  | true => exact e
theorem pw_and (ha : PT X a tA) (hb : PW X (.BoolOp .And (b :: rest) pos) tB') : PW X (.BoolOp .And (a :: b :: rest) pos) (tAnd tA tB') := by
  intro wh pins s σ H Q I h
  refine isTrue_and (thn (ha pins s σ H _ I h) fun c s1 ⟨H1, I1, q1⟩ => ?_)
  cases c with
  | true => exact hb wh pins s1 σ H1 Q I1 q1
  | false => exact ⟨H1, I1, q1⟩
theorem pw_or (ha : PT X a tA) (hb : PW X (.BoolOp .Or (b :: rest) pos) tB') : PW X (.BoolOp .Or (a :: b :: rest) pos) (tOr tA tB') := by
  intro wh pins s σ H Q I h
  refine isTrue_or (thn (ha pins s σ H _ I h) fun c s1 ⟨H1, I1, q1⟩ => ?_)
  cases c with
  | true => exact ⟨H1, I1, q1⟩
  | false => exact hb wh pins s1 σ H1 Q I1 q1
def tIf (t : TT) (ta tb : TE) : TE := fun σ H Q => t σ H fun c H1 => if c = true then ta σ H1 Q else tb σ H1 Q
theorem pe_ifExp {c : Expr} (hc : PT X c tA) (ha : PE X a ta) (hb : PE X b tb) : PE X (.IfExp c a b pos) (tIf tA ta tb) := by
  intro pins s σ H Q I h
  refine wpAny_IfExp (thn (hc pins s σ H _ I h) fun d s1 ⟨H1, I1, q1⟩ => ?_)
  cases d with
  | true => exact ha pins s1 σ H1 Q I1 q1
  | false => exact hb pins s1 σ H1 Q I1 q1
end
end L2
namespace L2
open PySem PySem.Spec PyProof.Rows
def SqL (K : PySem.W.Frag) (H : Hp) (a : Addr) (xs : List V) : Prop :=
  Rd H a (.lst xs) ∨
    ∃ (o : Obj) (its : Array Value) (n : Nat), K.lookup a = some o ∧ o.cls = .type "list" ∧ o.dict = none ∧ o.data = .seq its n ∧ its.size ≤ sizeLine ∧ Vals xs its.toList
def SqT (K : PySem.W.Frag) (H : Hp) (a : Addr) (xs : List V) : Prop :=
  Rd H a (.tup xs) ∨
    ∃ (o : Obj) (its : Array Value) (n : Nat), K.lookup a = some o ∧ o.cls = .type "tuple" ∧ o.data = .seq its n ∧ its.size ≤ sizeLine ∧ Vals xs its.toList
def absV : Value → Option V
  | .none => some .non
  | .bool b => some (.bl b)
  | .int i _ => some (.int i)
  | .str x _ => some (.str x)
  | .bytes b _ => some (.byt b)
  | .float b _ => some (.flt b)
  | .ref a => some (.ref a)
  | .type n => some (.ty n)
  | _ => none
theorem RelV.abs {x : V} {u : Value} (r : RelV x u) : absV u = some x := by
  cases x with
  | non => cases r; rfl
  | bl _ => cases r; rfl
  | int _ => obtain ⟨t, rfl⟩ := r; rfl
  | str _ => obtain ⟨t, rfl⟩ := r; rfl
  | byt _ => obtain ⟨t, rfl⟩ := r; rfl
  | flt _ => obtain ⟨t, rfl⟩ := r; rfl
  | ref _ => cases r; rfl
  | ty _ => cases r; rfl
theorem RelV.inj {x y : V} {u : Value} (r : RelV x u) (q : RelV y u) : x = y := Option.some.inj (r.abs.symm.trans q.abs)
theorem Vals.inj : ∀ {xs ys : List V} {us : List Value}, Vals xs us → Vals ys us → xs = ys
  | _, _, _, .nil, .nil => rfl
  | _, _, _, .cons r t, .cons r' t' => by rw [r.inj r', Vals.inj t t']
section
variable {X : Cx} {pins : List (Addr × Obj)} {σ : St} {H : Hp} {s : Shared} {a : Addr} {xs ys : List V}
theorem SqL.of {K : PySem.W.Frag} (h : H a = some (.lst xs)) : SqL K H a xs := .inl (.inl h)
theorem SqT.of {K : PySem.W.Frag} (h : H a = some (.tup xs)) : SqT K H a xs := .inl (.inl h)
theorem Inv.list (I : Inv X pins σ H s) (h : SqL X.K H a xs) : ∃ its : List Value, Vals xs its ∧ PlainL s.heap a its.toArray ∧ xs.length ≤ sizeLine := by
  rcases h with h | ⟨o, its, n, hk, hc, hd, hs, hz, r⟩
  · obtain ⟨z, its, n, r, e⟩ := h.ok I.hok
    exact ⟨its, r, ⟨_, n, e, rfl, rfl, rfl⟩, z⟩
  · refine ⟨its.toList, r, ⟨o, n, I.kIn a o hk, hc, hd, by simpa using hs⟩, ?_⟩
    have e := r.length
    simp only [Array.length_toList] at e
    omega
theorem Inv.tuple (I : Inv X pins σ H s) (h : SqT X.K H a xs) : ∃ its : List Value, Vals xs its ∧ IsTup s.heap a its.toArray ∧ xs.length ≤ sizeLine := by
  rcases h with h | ⟨o, its, n, hk, hc, hs, hz, r⟩
  · obtain ⟨z, its, r, p⟩ := h.ok I.hok
    exact ⟨its, r, p, z⟩
  · refine ⟨its.toList, r, ⟨o, I.kIn a o hk, hc, n, by simpa using hs⟩, ?_⟩
    have e := r.length
    simp only [Array.length_toList] at e
    omega
theorem Inv.list_inj (I : Inv X pins σ H s) (h : SqL X.K H a xs) (h' : SqL X.K H a ys) : xs = ys := by
  obtain ⟨its, r, ⟨o, n, e, _, _, d⟩, _⟩ := I.list h
  obtain ⟨its', r', ⟨o', n', e', _, _, d'⟩, _⟩ := I.list h'
  rw [e] at e'; cases e'
  rw [d] at d'
  injection d' with d1 _
  have : its = its' := by simpa using congrArg Array.toList d1
  subst this
  exact r.inj r'
end
abbrev Cx.wish (X : Cx) (E : Value → Shared → Prop) : Cx := { X with xe := E }
abbrev Cx.nox (X : Cx) : Cx := X.wish fun _ _ => False
theorem Cx.Ok.wish {X : Cx} (ok : X.Ok) (E : Value → Shared → Prop) : (X.wish E).Ok :=
  ⟨ok.mod, ok.kind, ok.glob, ok.blt, ok.above, ok.inj, ok.has, ok.cab, ok.hd, ok.frames, ok.stk, ok.exf, ok.bs, ok.bsz, ok.noex, ok.exfs, ok.funs, ok.frf⟩
theorem Cx.Ok.unwish {X : Cx} {E : Value → Shared → Prop} (ok : (X.wish E).Ok) : X.Ok :=
  ⟨ok.mod, ok.kind, ok.glob, ok.blt, ok.above, ok.inj, ok.has, ok.cab, ok.hd, ok.frames, ok.stk, ok.exf, ok.bs, ok.bsz, ok.noex, ok.exfs, ok.funs, ok.frf⟩
section
variable {X : Cx} {pins : List (Addr × Obj)} {σ : St} {H : Hp} {s : Shared} {E : Value → Shared → Prop}
theorem Inv.wish (I : Inv X pins σ H s) (E : Value → Shared → Prop) : Inv (X.wish E) pins σ H s := ⟨I.ok.wish E, I.os, I.bare, I.base, I.loc, I.cell, I.free, I.freeC, I.pin, I.hok, I.len⟩
theorem Inv.unwish (I : Inv (X.wish E) pins σ H s) : Inv X pins σ H s := ⟨I.ok.unwish, I.os, I.bare, I.base, I.loc, I.cell, I.free, I.freeC, I.pin, I.hok, I.len⟩
theorem SP.unwish {D : Ends} {f : Flow} {s' : Shared} (h : SP (X.wish E) pins D f s') : SP X pins D f s' := by
  cases f with
  | next => obtain ⟨σ', H', I, q⟩ := h; exact ⟨σ', H', I.unwish, q⟩
  | brk => obtain ⟨σ', H', I, q⟩ := h; exact ⟨σ', H', I.unwish, q⟩
  | cont => obtain ⟨σ', H', I, q⟩ := h; exact ⟨σ', H', I.unwish, q⟩
  | ret u => obtain ⟨v, σ', H', I, r, q⟩ := h; exact ⟨v, σ', H', I.unwish, r, q⟩
theorem PSs.nox {st : List Stmt} {t : TS} (h : PSs X.nox st t) : PSs X st t := fun pins s σ H D I hw =>
  wpAny_mono (h pins s σ H D (I.wish _) hw) (fun _ _ q => q.unwish) fun _ _ z => False.elim z
end
section
variable {X : Cx} {st : Stmt} {rest : List Stmt} {t u : TS} {e : Expr} {te : TE} {pos : Pos}
def tNext : TS := fun D σ H => D.nx σ H
def tSeq (t u : TS) : TS := fun D σ H => t { D with nx := u D } σ H
theorem pss_nil : PSs X [] tNext := fun _ _ σ H _ I h => wpAny_execs_nil ⟨σ, H, I, h⟩
theorem pss_cons (h1 : PS X st t) (h2 : PSs X rest u) : PSs X (st :: rest) (tSeq t u) := by
  intro pins s σ H D I h
  refine wpAny_execs_cons (thn (h1 pins s σ H { D with nx := u D } I h) fun f s1 q => ?_)
  cases f with
  | next =>
    obtain ⟨σ', H', I', q⟩ := q
    exact h2 pins s1 σ' H' D I' q
  | ret v => exact q
  | brk => exact q
  | cont => exact q
theorem pss_one (h1 : PS X st t) : PSs X [st] t := by
  intro pins s σ H D I h
  refine wpAny_execs_cons (thn (h1 pins s σ H D I h) fun f s1 q => ?_)
  cases f with
  | next => exact wpAny_execs_nil q
  | ret v => exact q
  | brk => exact q
  | cont => exact q
theorem Inv.quiet {pins : List (Addr × Obj)} {σ : St} {H : Hp} {s : Shared} (I : Inv X pins σ H s) : interactive X.env = false := by simp [interactive, I.ok.kind]
def tDrop (te : TE) : TS := fun D σ H => te σ H fun _ H1 => D.nx σ H1
theorem ps_expr (he : PE X e te) (hs : swapsWith e none pos.line X.env = pure false := by rfl) : PS X (.Expr e pos) (tDrop te) := by
  intro pins s σ H D I h
  exact wpAny_Expr_any (thn (he pins s σ H _ I h) fun v s1 ⟨x, H1, I1, r1, q1⟩ => ⟨σ, H1, I1, q1⟩) I.quiet hs
def tRet (te : TE) : TS := fun D σ H => te σ H D.rt
theorem ps_ret (he : PE X e te) : PS X (.Return (some e) pos) (tRet te) := by
  intro pins s σ H D I h
  exact wpAny_Return_some (thn (he pins s σ H _ I h) fun v s1 ⟨x, H1, I1, r1, q1⟩ => ⟨x, σ, H1, I1, r1, q1⟩)
def tIfS (c : TT) (t u : TS) : TS := fun D σ H => c σ H fun b H1 => if b = true then t D σ H1 else u D σ H1
theorem ps_if {c : Expr} {a b : List Stmt} {tc : TT} (hc : PT X c tc) (ha : PSs X a t) (hb : PSs X b u) : PS X (.If c a b pos) (tIfS tc t u) := by
  intro pins s σ H D I h
  refine wpAny_If (thn (hc pins s σ H _ I h) fun d s1 ⟨H1, I1, q1⟩ => ?_)
  cases d with
  | true => exact ha pins s1 σ H1 D I1 q1
  | false => exact hb pins s1 σ H1 D I1 q1
end
abbrev TG := V → St → Hp → (St → Hp → Prop) → Prop
abbrev TGs := List V → St → Hp → (St → Hp → Prop) → Prop
def PG (X : Cx) (target : Expr) (t : TG) : Prop :=
  ∀ (pins : List (Addr × Obj)) (s : Shared) (σ : St) (H : Hp) (v : V) (u : Value) (Q : St → Hp → Prop), Inv X pins σ H s → RelV v u → t v σ H Q →
    wpAny (model X.prog X.w) X.A (assign target X.env u) (fun _ s' => ∃ σ' H', Inv X pins σ' H' s' ∧ Q σ' H') X.xe s
def PGs (X : Cx) (ts : List Expr) (t : TGs) : Prop :=
  ∀ (pins : List (Addr × Obj)) (s : Shared) (σ : St) (H : Hp) (vs : List V) (us : List Value) (Q : St → Hp → Prop), Inv X pins σ H s → Vals vs us → t vs σ H Q →
    wpAny (model X.prog X.w) X.A (assignInOrder ((assignEach ts X.env).map (·.2)) us) (fun _ s' => ∃ σ' H', Inv X pins σ' H' s' ∧ Q σ' H') X.xe s
abbrev TSet := V → V → V → Hp → (Hp → Prop) → Prop
def PSet (X : Cx) (t : TSet) : Prop :=
  ∀ (pins : List (Addr × Obj)) (s : Shared) (σ : St) (H : Hp) (o i v : V) (ov iv u : Value) (Q : Hp → Prop), Inv X pins σ H s → RelV o ov → RelV i iv → RelV v u → t o i v H Q →
    wpAny (model X.prog X.w) X.A (setItem ov iv u) (fun _ s' => ∃ H', Inv X pins σ H' s' ∧ Q H') X.xe s
section
variable {X : Cx} {pos : Pos}
def gName (i : Nat) : TG := fun v σ H Q => Q (σ.set i (some v)) H
theorem pg_name {i : Nat} {x : Str} (hN : X.N.Nodup) (hi : X.N[i]? = some x) (hx : Loc X.env.scope x) (hf : X.fn x = true ∨ X.env.scope.names.lookup x = some .local := by first | exact .inl rfl | exact .inr rfl | assumption) : PG X (.Name x pos) (gName i) := by
  intro pins s σ H v u Q I r h
  exact wpAny_assign_Name (store_ok I hN hi hx r (fun s' I' => ⟨_, H, I', h⟩) hf)
def gNil : TGs := fun vs σ H Q => vs = [] ∧ Q σ H
def gCons (t : TG) (u : TGs) : TGs := fun vs σ H Q => ∃ v r, vs = v :: r ∧ t v σ H fun σ' H' => u r σ' H' Q
theorem pgs_nil : PGs X [] gNil := by
  intro pins s σ H vs us Q I r h
  obtain ⟨e, h⟩ := h
  subst e
  cases r
  exact assignInOrder_nil ⟨σ, H, I, h⟩
theorem pgs_cons {e : Expr} {es : List Expr} {t : TG} {u : TGs} (h1 : PG X e t) (h2 : PGs X es u)
    (hs : (assignEach (e :: es) X.env).map (·.2) = assign e X.env :: (assignEach es X.env).map (·.2) := by rfl) : PGs X (e :: es) (gCons t u) := by
  intro pins s σ H vs us Q I r h
  obtain ⟨v, vr, e1, h⟩ := h
  subst e1
  cases r with
  | cons r rr =>
    rw [hs]
    refine assignInOrder_cons (thn (h1 pins s σ H _ _ _ I r h) fun _ s1 ⟨σ1, H1, I1, q1⟩ => ?_)
    exact h2 pins s1 σ1 H1 _ _ Q I1 rr q1
def gTup (K : PySem.W.Frag) (n : Nat) (t : TGs) : TG := fun v σ H Q => ∃ a xs, v = .ref a ∧ SqT K H a xs ∧ xs.length = n ∧ t xs σ H Q
theorem pg_tup {es : List Expr} {k : Nat} {t : TGs} {n : Nat} (hc : X.calm = true) (h : PGs X es t)
    (hn : (assignEach es X.env).length = n := by rfl) (hst : (assignEach es X.env).findIdx? (·.1) = none := by rfl) : PG X (.Tuple es k pos) (gTup X.K n t) := by
  intro pins s σ H v u Q I r hw
  obtain ⟨a, xs, e1, hq, hl, hw⟩ := hw
  subst e1
  cases r
  obtain ⟨its, rv, ht, hz⟩ := I.tuple hq
  refine assign_Tuple_tuple (I.ok.hd hc) ht (by simp [hn, ← hl, rv.length]) hst fun h' hx => ?_
  have I1 : Inv X pins σ H { s with heap := h' } := I.kept (t' := s.toks) fun b o e => hx b o (Nat.ne_of_lt (Heap.lt_size e)) e
  exact h pins _ σ H xs _ Q I1 (by simpa using rv) hw
def gSub (to ti : TE) (t : TSet) : TG := fun v σ H Q => to σ H fun o H1 => ti σ H1 fun i H2 => t o i v H2 fun H3 => Q σ H3
theorem pg_sub {o i : Expr} {to ti : TE} {t : TSet} (ho : PE X o to) (hi : PE X i ti) (hs : PSet X t)
    (ha : ∀ v, assign (.Subscript o i pos) X.env v = (do
      let ov ← holding [v] (eval o X.env)
      let iv ← holding [v, ov] (eval i X.env)
      standAt pos
      holding [v, ov, iv] (setItem ov iv v)
      release [v, ov, iv] []) := by intro _; rfl) : PG X (.Subscript o i pos) (gSub to ti t) := by
  intro pins s σ H v u Q I r h
  rw [ha]
  refine wpAny_bind (wpAny_holding (thn (ho pins s σ H _ I h) fun ov s1 ⟨x, H1, I1, r1, q1⟩ => ?_))
  refine wpAny_bind (wpAny_holding (thn (hi pins s1 σ H1 _ I1 q1) fun iv s2 ⟨y, H2, I2, r2, q2⟩ => ?_))
  refine wpAny_bind (wpAny_standAt (wpAny_bind (wpAny_holding (thn (hs pins s2 σ H2 x y v ov iv u _ I2 r1 r2 r q2) fun _ s3 ⟨H3, I3, q3⟩ => ?_))))
  exact wpAny_release ⟨σ, H3, I3, q3⟩
def tAsg (te : TE) (g : TG) : TS := fun D σ H => te σ H fun x H1 => g x σ H1 D.nx
theorem ps_asg {tg e : Expr} {te : TE} {g : TG} (he : PE X e te) (hg : PG X tg g) (hs : swapsWithSole [tg] e pos.line X.env = pure false := by rfl) (hw : swappedStores [tg] e X.env = pure none := by rfl)
    (h1 : (assignEach [tg] X.env).map (·.2) = [assign tg X.env] := by rfl) : PS X (.Assign [tg] e pos) (tAsg te g) := by
  intro pins s σ H D I h
  refine wpAny_Assign_stores (thn (he pins s σ H _ I h) fun v s1 ⟨x, H1, I1, r1, q1⟩ => ?_) hs hw
  rw [h1]
  exact thn (hg pins s1 σ H1 x v _ I1 r1 q1) fun _ s2 q => q
theorem ps_set {i : Nat} {x : Str} {e : Expr} {te : TE} {pos' : Pos} (hN : X.N.Nodup) (hi : X.N[i]? = some x) (hx : Loc X.env.scope x) (he : PE X e te) (hs : swapsWith e (some (.Name x pos')) pos.line X.env = pure false := by rfl) (hf : X.fn x = true ∨ X.env.scope.names.lookup x = some .local := by first | exact .inl rfl | exact .inr rfl | assumption) :
    PS X (.Assign [.Name x pos'] e pos) (tAsg te (gName i)) := by
  intro pins s σ H D I h
  refine wpAny_Assign_Name (thn (he pins s σ H _ I h) fun v s1 ⟨y, H1, I1, r1, q1⟩ => ?_) hs
  exact store_ok I1 hN hi hx r1 (fun s2 I2 => ⟨_, H1, I2, q1⟩) hf
end
section
variable {X : Cx} {pos : Pos}
def tWhile (c : TT) (tb : TS) : TS := fun D σ H => ∃ W : Nat → St → Hp → Prop, (∃ m, W m σ H) ∧ ∀ m σ H, W m σ H →
  c σ H fun b H1 => if b = true then ∃ N : St → Hp → Prop, (∀ σ' H', N σ' H' → ∃ m', m' < m ∧ W m' σ' H') ∧ tb { D with nx := N, ct := N, bk := D.nx } σ H1 else D.nx σ H1
theorem ps_while {c : Expr} {body : List Stmt} {tc : TT} {tb : TS} (hp : PassesOwn (model X.prog X.w) X.A X.env X.xe) (hc : PT X c tc) (hb : PSs X body tb) : PS X (.While c body [] pos) (tWhile tc tb) := by
  intro pins s σ H D I h
  obtain ⟨W, ⟨m0, w0⟩, turn⟩ := h
  refine wpAny_While (codeAny_whileLoop (fun n s' => ∃ σ' H', Inv X pins σ' H' s' ∧ W n σ' H') ?_ m0 ⟨σ, H, I, w0⟩)
  rintro n s1 ⟨σ1, H1, I1, w1⟩
  refine wpAny_passesOwn hp (thn (hc pins s1 σ1 H1 _ I1 (turn n σ1 H1 w1)) fun b s2 ⟨H2, I2, q2⟩ => ?_)
  cases b with
  | true =>
    obtain ⟨N, hN, q2⟩ := q2
    rw [if_pos rfl]
    refine wpAny_passesOwn hp (thn (hb pins s2 σ1 H2 _ I2 q2) fun f s3 q3 => ?_)
    cases f with
    | next =>
      obtain ⟨σ3, H3, I3, n3⟩ := q3
      obtain ⟨m', hm, w3⟩ := hN σ3 H3 n3
      exact ⟨m', hm, σ3, H3, I3, w3⟩
    | cont =>
      obtain ⟨σ3, H3, I3, n3⟩ := q3
      obtain ⟨m', hm, w3⟩ := hN σ3 H3 n3
      exact ⟨m', hm, σ3, H3, I3, w3⟩
    | brk => exact q3
    | ret v => exact q3
  | false =>
    rw [if_neg Bool.false_ne_true]
    exact wpAny_execs_nil ⟨σ1, H2, I2, q2⟩
end
structure It where
  go : Nat → Hp → Prop
  yld : Nat → Hp → V → Hp → Prop
  stop : Nat → Hp → Prop
def FpOk (X : Cx) (pins : List (Addr × Obj)) (H : Hp) (b : Addr) : Prop :=
  H b = none ∧ b ≠ X.env.locals ∧ b ∉ X.fs ∧ (b ∈ X.ex ∨ X.s_0.heap.objs.size ≤ b) ∧ (∀ x c, X.env.cells.lookup x = some c → c ≠ b) ∧ ∀ p ∈ X.pn ++ pins, p.1 ≠ b
theorem Inv.fpOk {X : Cx} {pins : List (Addr × Obj)} {σ : St} {H H' : Hp} {s : Shared} {b : Addr} (I : Inv X pins σ H s) (hb : s.heap.objs.size ≤ b) (hn : H' b = none) : FpOk X pins H' b := by
  refine ⟨hn, Nat.ne_of_gt (Nat.lt_of_lt_of_le I.lt hb), I.nofs hb, .inr (Nat.le_trans I.sz hb), fun x c e z => ?_, fun p hp z => ?_⟩
  · obtain ⟨v, q⟩ := I.cell x c e
    exact absurd (Nat.lt_of_lt_of_le q.lt (by rw [z]; exact hb)) (Nat.lt_irrefl _)
  · exact absurd (Nat.lt_of_lt_of_le (Heap.lt_size (I.pin p hp).1) (by rw [z]; exact hb)) (Nat.lt_irrefl _)
structure Turn (P : Program) (w : World) (K : PySem.W.Frag) (tg : Expr) (J : It) (fp : List Addr) (it : Addr) (tn : Nat → Heap → Prop) : Prop where
  mem : it ∈ fp
  obj : ∀ i h, tn i h → ∀ b ∈ fp, ∃ o, h.get? b = some o ∧ ∀ v, o.data ≠ .cell v
  keep : ∀ i h h', tn i h → (∀ b ∈ fp, ∀ o, h.get? b = some o → h'.get? b = some o) → tn i h'
  item : ∀ (X : Cx), X.prog = P → X.w = w → X.K = K → X.calm = true → ∀ (i : Nat) (pins : List (Addr × Obj)) (s : Shared) (σ : St) (H : Hp) (E : Value → Shared → Prop), Inv X pins σ H s → (∀ b ∈ fp, FpOk X pins H b) → tn i s.heap → J.go i H →
    wpAny (model P w) X.A (pyNext (.ref it)) (fun r s1 => ∃ u, r = some u ∧
      wpAny (model P w) X.A (letOwnedTupleGo tg (.ref it) u) (fun _ s2 => ∃ x H', Inv X pins σ H' s2 ∧ RelV x u ∧ J.yld i H x H' ∧ tn (i + 1) s2.heap ∧ ∀ b ∈ fp, H' b = none) E s1) E s
  done : ∀ (X : Cx), X.prog = P → X.w = w → X.K = K → X.calm = true → ∀ (i : Nat) (pins : List (Addr × Obj)) (s : Shared) (σ : St) (H : Hp) (E : Value → Shared → Prop), Inv X pins σ H s → (∀ b ∈ fp, FpOk X pins H b) → tn i s.heap → J.stop i H →
    wpAny (model P w) X.A (pyNext (.ref it)) (fun r s1 => r = none ∧ Inv X pins σ H s1) E s
  self : ∀ (A : Around) (i : Nat) (s : Shared) (Q : Value → Shared → Prop) (E : Value → Shared → Prop), tn i s.heap → Q (.ref it) s → wpAny (model P w) A (pyIter (.ref it)) Q E s
abbrev TI := St → Hp → (It → Hp → Prop) → Prop
def PIE (X : Cx) (pins : List (Addr × Obj)) (σ : St) (tg : Expr) (R : It → Hp → Prop) (itv : Value) (s2 : Shared) : Prop :=
  ∃ (it : Addr) (fp : List Addr) (tn : Nat → Heap → Prop) (J : It) (H' : Hp), itv = .ref it ∧ Inv X pins σ H' s2 ∧ Turn X.prog X.w X.K tg J fp it tn ∧ tn 0 s2.heap ∧ (∀ b ∈ fp, FpOk X pins H' b) ∧ R J H'
def PI (X : Cx) (tg iter : Expr) (wi : TI) : Prop :=
  ∀ (pins : List (Addr × Obj)) (s : Shared) (σ : St) (H : Hp) (R : It → Hp → Prop), Inv X pins σ H s → wi σ H R →
    wpAny (model X.prog X.w) X.A (eval iter X.env) (fun v s1 => wpAny (model X.prog X.w) X.A (pyIter v) (PIE X pins σ tg R) X.xe s1) X.xe s
theorem go_of {M : Model} {A : Around} {E : Value → Shared → Prop} {s : Shared} {tg : Expr} {it : Addr} {u : Value} {o : Obj} {n : String} {vs : Array Value} {Q : Unit → Shared → Prop} (ho : s.heap.get? it = some o) (hc : o.cls = .type n) (hd : o.data = .fields vs)
    (hn : ["enumerate", "zip", "dict_itemiterator", "dict_reverseitemiterator", "odict_iterator", "itertools.zip_longest", "itertools.pairwise"].contains n = false) (hQ : Q () s) : wpAny M A (letOwnedTupleGo tg (.ref it) u) Q E s := by
  unfold letOwnedTupleGo
  cases tg <;> first
    | exact wpAny_pure hQ
    | (cases u <;> first
        | exact wpAny_pure hQ
        | (refine wpAny_bind (wpAny_load ho ?_)
           rw [hc, hd]
           show wpAny M A (if (["enumerate", "zip", "dict_itemiterator", "dict_reverseitemiterator", "odict_iterator", "itertools.zip_longest", "itertools.pairwise"].contains n && vs[0]? == some (rawInt _)) = true then _ else _) Q E s
           rw [if_neg (by intro h; rw [hn, Bool.false_and] at h; cases h)]
           exact wpAny_pure hQ))
def Itl (K : PySem.W.Frag) (a : Addr) : It :=
  ⟨fun i H => ∃ xs x, SqL K H a xs ∧ xs[i]? = some x, fun i H x H' => H' = H ∧ ∀ xs, SqL K H a xs → xs[i]? = some x, fun i H => ∃ xs, SqL K H a xs ∧ xs.length ≤ i⟩
theorem turn_list {P : Program} {w : World} {K : PySem.W.Frag} {tg : Expr} (a it : Addr) : Turn P w K tg (Itl K a) [it] it (fun i h => h.IsListIter it a i) where
  mem := by simp
  obj := fun i h st b hb => by
    have e : b = it := by simpa using hb
    subst e
    obtain ⟨o, e, c, d⟩ := st
    exact ⟨o, e, fun v z => by rw [d] at z; cases z⟩
  keep := fun i h h' st k => st.at fun o e => k it (by simp) o e
  item := by
    intro X hP hw hK hc i pins s σ H E I hf st hg
    subst hP hw hK
    obtain ⟨xs, x, hq, hx⟩ := hg
    obtain ⟨its, rv, p, hz⟩ := I.list hq
    obtain ⟨u, hu, ru⟩ := rv.get hx
    obtain ⟨f0, f1, f2, f3, f4, f5⟩ := hf it (by simp)
    refine wpAny_pyNext_list_item st p.isList (x := u) (by simpa using hu) fun h' st' sb => ?_
    have I1 : Inv X pins σ H { s with heap := h' } := I.turned (t' := s.toks) (fun b o hb e => (sb.2 b hb).trans e) f0 f1 f3 f4 f5
    obtain ⟨o, e, c, d⟩ := id st'
    exact ⟨u, rfl, go_of (s := { s with heap := h' }) e c d (by decide) ⟨x, H, I1, ru, ⟨rfl, fun ys hy => by rw [I.list_inj hy hq]; exact hx⟩, st', fun b hb => (hf b hb).1⟩⟩
  done := by
    intro X hP hw hK hc i pins s σ H E I hf st hg
    subst hP hw hK
    obtain ⟨xs, hq, hx⟩ := hg
    obtain ⟨its, rv, p, hz⟩ := I.list hq
    obtain ⟨f0, f1, f2, f3, f4, f5⟩ := hf it (by simp)
    have hl := rv.length
    exact wpAny_pyNext_list_end (I.ok.hd hc) st p.isList (by simp; omega) fun h' eb => ⟨rfl, I.turned (t' := s.toks) (fun b o hb e => eb b o hb e) f0 f1 f3 f4 f5⟩
  self := fun _ _ _ _ _ st h => wpAny_pyIter_listiter st h
end L2
namespace L2
open PySem PySem.Spec PyProof.Rows
section
variable {X : Cx} {tg : Expr}
def iList (K : PySem.W.Frag) (tl : TE) : TI := fun σ H R => tl σ H fun x H1 => ∃ a, x = .ref a ∧ (∃ xs, SqL K H1 a xs) ∧ R (Itl K a) H1
theorem pi_list {l : Expr} {tl : TE} (hl : PE X l tl) : PI X tg l (iList X.K tl) := by
  intro pins s σ H R I h
  refine thn (hl pins s σ H _ I h) fun v s1 ⟨x, H1, I1, r1, q1⟩ => ?_
  obtain ⟨a, e, ⟨xs, hq⟩, q⟩ := q1
  subst e
  cases r1
  obtain ⟨its, rv, p, hz⟩ := I1.list hq
  refine wpAny_pyIter_list p.isList ?_
  refine ⟨s1.heap.objs.size, [s1.heap.objs.size], _, _, H1, rfl, I1.kept (t' := s1.toks) fun b o e => Heap.get?_push_of_some _ e, turn_list a _, ⟨_, Heap.get?_push_size _ rfl, rfl, rfl⟩, fun b hb => ?_, q⟩
  have e : b = s1.heap.objs.size := by simpa using hb
  subst e
  exact I1.fpOk (Nat.le_refl _) (I1.hok.fresh (Nat.le_refl _))
def tFor (wi : TI) (g : TG) (tb : TS) : TS := fun D σ H => wi σ H fun J H1 => ∃ W : Nat → Nat → St → Hp → Prop, (∃ m, W 0 m σ H1) ∧ ∀ i m σ H, W i m σ H →
  (J.stop i H ∧ D.nx σ H) ∨ (J.go i H ∧ ∃ N : St → Hp → Prop, (∀ σ' H', N σ' H' → ∃ m', m' < m ∧ W (i + 1) m' σ' H') ∧ ∀ x H', J.yld i H x H' → g x σ H' fun σ2 H2 => tb { D with nx := N, ct := N, bk := D.nx } σ2 H2)
def pinsAt (fp : List Addr) (h : Heap) : List (Addr × Obj) := fp.filterMap fun b => (h.get? b).map fun o => (b, o)
theorem mem_pinsAt {fp : List Addr} {h : Heap} {b : Addr} {o : Obj} (hb : b ∈ fp) (e : h.get? b = some o) : (b, o) ∈ pinsAt fp h := List.mem_filterMap.mpr ⟨b, hb, by rw [e]; rfl⟩
theorem of_pinsAt {fp : List Addr} {h : Heap} {p : Addr × Obj} (hp : p ∈ pinsAt fp h) : p.1 ∈ fp ∧ h.get? p.1 = some p.2 := by
  obtain ⟨b, hb, e⟩ := List.mem_filterMap.mp hp
  cases q : h.get? b with
  | none => rw [q] at e; cases e
  | some o =>
    rw [q] at e
    have e' : (b, o) = p := Option.some.inj e
    subst e'
    exact ⟨hb, q⟩
theorem Inv.pinned {pins : List (Addr × Obj)} {σ : St} {H : Hp} {s : Shared} {fp : List Addr} (I : Inv X pins σ H s) (hf : ∀ b ∈ fp, FpOk X pins H b) (ho : ∀ b ∈ fp, ∃ o, s.heap.get? b = some o ∧ ∀ v, o.data ≠ .cell v) : Inv X (pins ++ pinsAt fp s.heap) σ H s :=
  I.pins_of fun p hp => (List.mem_append.mp hp).elim (fun z => I.pin p (List.mem_append_right _ z)) fun z => by
    obtain ⟨hb, e⟩ := of_pinsAt z
    obtain ⟨f0, f1, f2, _⟩ := hf p.1 hb
    obtain ⟨o, e', d⟩ := ho p.1 hb
    rw [e] at e'; cases e'
    exact ⟨e, f0, f1, f2, d⟩
theorem Inv.unpinned {pins pl : List (Addr × Obj)} {σ : St} {H : Hp} {s : Shared} (I : Inv X (pins ++ pl) σ H s) : Inv X pins σ H s := I.pins_of fun p hp => I.pin p (List.mem_append_right _ (List.mem_append_left _ hp))
theorem ps_for {iter : Expr} {body : List Stmt} {wi : TI} {g : TG} {tb : TS} {pos : Pos} (hp : PassesOwn (model X.prog X.w) X.A X.env X.xe) (hc : X.calm = true) (hi : PI X tg iter wi) (hg : PG X tg g) (hb : PSs X body tb)
    (hs : ∀ x, foldedSetIterable iter X.env x = pure x := by intro _; rfl) : PS X (.For tg iter body [] pos) (tFor wi g tb) := by
  intro pins s σ H D I h
  refine wpAny_For (thn (hi pins s σ H _ I h) fun v s1 h1 => thn h1 fun itv s2 h2 => ?_) hs
  obtain ⟨it, fp, tn, J, H2, e, I2, T, st2, f2, W, ⟨m0, w0⟩, turn⟩ := h2
  subst e
  have stat : ∀ {H' : Hp}, (∀ b ∈ fp, H' b = none) → ∀ b ∈ fp, FpOk X pins H' b := fun hn b hb => ⟨hn b hb, (f2 b hb).2⟩
  refine codeAny_forLoop_any (fun n s' => ∃ i σ' H', Inv X pins σ' H' s' ∧ tn i s'.heap ∧ (∀ b ∈ fp, H' b = none) ∧ W i n σ' H') ?_ m0 ⟨0, σ, H2, I2, st2, fun b hb => (f2 b hb).1, w0⟩
  rintro n s3 ⟨i, σ3, H3, I3, st3, fr3, w3⟩
  rcases turn i n σ3 H3 w3 with ⟨stop, qn⟩ | ⟨go, N, hN, step⟩
  · refine wpAny_passesOwn hp (thn (T.done X rfl rfl rfl hc i pins s3 σ3 H3 X.xe I3 (stat fr3) st3 stop) fun r s4 ⟨hr, I4⟩ => ?_)
    subst hr
    exact wpAny_execs_nil ⟨σ3, H3, I4, qn⟩
  · refine wpAny_passesOwn hp (thn (T.item X rfl rfl rfl hc i pins s3 σ3 H3 X.xe I3 (stat fr3) st3 go) fun r s4 ⟨u, hr, h4⟩ => ?_)
    subst hr
    refine wpAny_passesOwn hp (thn h4 fun _ s5 ⟨x, H5, I5, r5, y5, st5, fr5⟩ => ?_)
    have I5' := I5.pinned (stat fr5) (T.obj _ _ st5)
    refine wpAny_passesOwn hp (thn (hg _ s5 σ3 H5 x u _ I5' r5 (step x H5 y5)) fun _ s6 ⟨σ6, H6, I6, q6⟩ => ?_)
    refine wpAny_passesOwn hp (thn (hb _ s6 σ6 H6 _ I6 q6) fun f s7 q7 => ?_)
    have again : ∀ {σ7 : St} {H7 : Hp}, Inv X (pins ++ pinsAt fp s5.heap) σ7 H7 s7 → N σ7 H7 → ∃ m, m < n ∧ ∃ i σ' H', Inv X pins σ' H' s7 ∧ tn i s7.heap ∧ (∀ b ∈ fp, H' b = none) ∧ W i m σ' H' := fun {σ7 H7} I7 n7 => by
      obtain ⟨m', hm, w7⟩ := hN σ7 H7 n7
      refine ⟨m', hm, i + 1, σ7, H7, I7.unpinned, T.keep _ _ _ st5 fun b hb o e => (I7.pin (b, o) (List.mem_append_right _ (List.mem_append_right _ (mem_pinsAt hb e)))).1, fun b hb => ?_, w7⟩
      obtain ⟨o, e, d⟩ := T.obj _ _ st5 b hb
      exact (I7.pin (b, o) (List.mem_append_right _ (List.mem_append_right _ (mem_pinsAt hb e)))).2.1
    cases f with
    | next => obtain ⟨σ7, H7, I7, n7⟩ := q7; exact again I7 n7
    | cont => obtain ⟨σ7, H7, I7, n7⟩ := q7; exact again I7 n7
    | brk => obtain ⟨σ7, H7, I7, q7⟩ := q7; exact ⟨σ7, H7, I7.unpinned, q7⟩
    | ret v => obtain ⟨x7, σ7, H7, I7, r7, q7⟩ := q7; exact ⟨x7, σ7, H7, I7.unpinned, r7, q7⟩
end
theorem for_list {K : PySem.W.Frag} {a : Addr} {xs : List V} {g : TG} {tb : TS} {D : Ends} {σ : St} {H : Hp} (Pv : Nat → St → Hp → Prop) (h0 : Pv 0 σ H) (hl : ∀ i σ H, i ≤ xs.length → Pv i σ H → SqL K H a xs)
    (hs : ∀ i x σ H, xs[i]? = some x → Pv i σ H → g x σ H fun σ2 H2 => tb { D with nx := Pv (i + 1), ct := Pv (i + 1), bk := D.nx } σ2 H2) (hd : ∀ σ H, Pv xs.length σ H → D.nx σ H) :
    ∃ W : Nat → Nat → St → Hp → Prop, (∃ m, W 0 m σ H) ∧ ∀ i m σ H, W i m σ H →
      ((Itl K a).stop i H ∧ D.nx σ H) ∨ ((Itl K a).go i H ∧ ∃ N : St → Hp → Prop, (∀ σ' H', N σ' H' → ∃ m', m' < m ∧ W (i + 1) m' σ' H') ∧ ∀ x H', (Itl K a).yld i H x H' → g x σ H' fun σ2 H2 => tb { D with nx := N, ct := N, bk := D.nx } σ2 H2) := by
  refine ⟨fun i m σ H => m = xs.length - i ∧ i ≤ xs.length ∧ Pv i σ H, ⟨xs.length, by simp, Nat.zero_le _, h0⟩, ?_⟩
  rintro i m σ H ⟨rfl, hi, p⟩
  have q := hl i σ H hi p
  by_cases hlt : i < xs.length
  · refine .inr ⟨⟨xs, xs[i], q, by simp [hlt]⟩, Pv (i + 1), fun σ' H' p' => ⟨xs.length - (i + 1), by omega, rfl, hlt, p'⟩, fun x H' y => ?_⟩
    obtain ⟨e, y⟩ := y
    subst e
    exact hs i x σ _ (y xs q) p
  · have e : i = xs.length := by omega
    subst e
    exact .inl ⟨⟨xs, q, Nat.le_refl _⟩, hd σ H p⟩
end L2
namespace L2
open PySem PySem.Spec PyProof.Rows
abbrev R2 := V → V → Hp → VK → Prop
def OpR (X : Cx) (f : Value → Value → Sem Value) (r : R2) : Prop :=
  ∀ (pins : List (Addr × Obj)) (s : Shared) (σ : St) (H : Hp) (x y : V) (v u : Value) (Q : VK), Inv X pins σ H s → RelV x v → RelV y u → r x y H Q →
    wpAny (model X.prog X.w) X.A (f v u) (EP X pins σ Q) X.xe s
def CallR (X : Cx) (f : Value) (r : List V → Hp → VK → Prop) : Prop :=
  ∀ (pins : List (Addr × Obj)) (s : Shared) (σ : St) (H : Hp) (xs : List V) (us : List Value) (Q : VK), Inv X pins σ H s → Vals xs us → r xs H Q →
    wpAny (model X.prog X.w) X.A (call f us) (EP X pins σ Q) X.xe s
def TruR (X : Cx) (r : V → Hp → (Bool → Hp → Prop) → Prop) : Prop :=
  ∀ (pins : List (Addr × Obj)) (s : Shared) (σ : St) (H : Hp) (x : V) (v : Value) (Q : Bool → Hp → Prop), Inv X pins σ H s → RelV x v → r x H Q →
    wpAny (model X.prog X.w) X.A (truthy v) (TP X pins σ Q) X.xe s
def tOp (r : R2) (ta tb : TE) : TE := fun σ H Q => ta σ H fun x H1 => tb σ H1 fun y H2 => r x y H2 Q
def rI0 (g : Int → Int → V) : R2 := fun x y H Q => ∃ i j, x = .int i ∧ y = .int j ∧ Q (g i j) H
section
variable {X : Cx} {a b c : Expr} {ta tb tc : TE} {pos : Pos}
theorem binT (ha : PE X a ta) (hb : PE X b tb) {pins : List (Addr × Obj)} {s : Shared} {σ : St} {H : Hp} {R : V → V → Hp → Prop} (I : Inv X pins σ H s)
    (h : ta σ H fun x H1 => tb σ H1 fun y H2 => R x y H2) {Q : Value → Shared → Prop} {f : Value → Value → Sem Value}
    (hf : ∀ v u s2 x y H2, Inv X pins σ H2 s2 → RelV x v → RelV y u → R x y H2 → wpAny (model X.prog X.w) X.A (f v u) Q X.xe s2) :
    wpAny (model X.prog X.w) X.A (eval a X.env) (fun v s₁ => wpAny (model X.prog X.w) X.A (eval b X.env) (fun u s₂ => wpAny (model X.prog X.w) X.A (f v u) Q X.xe s₂) X.xe s₁) X.xe s := by
  refine thn (ha pins s σ H _ I h) fun v s1 ⟨x, H1, I1, r1, q1⟩ => ?_
  refine thn (hb pins s1 σ H1 _ I1 q1) fun u s2 ⟨y, H2, I2, r2, q2⟩ => ?_
  exact hf v u s2 x y H2 I2 r1 r2 q2
theorem pe_op {op : Operator} {r : R2} (ho : OpR X (binaryOp op) r) (ha : PE X a ta) (hb : PE X b tb) : PE X (.BinOp a op b pos) (tOp r ta tb) := by
  intro pins s σ H Q I h
  exact wpAny_BinOp (binT ha hb I h fun v u s2 x y H2 I2 rx ry q => ho pins s2 σ H2 x y v u Q I2 rx ry q)
theorem opI0 {f : Value → Value → Sem Value} {g : Int → Int → Int}
    (rule : ∀ (i j : Int) (t u : Tok) (s : Shared) (Q : Value → Shared → Prop) (E : Value → Shared → Prop), Q (.int (g i j) s.toks) { s with toks := s.toks + 1 } → wpAny (model X.prog X.w) X.A (f (.int i t) (.int j u)) Q E s) :
    OpR X f (rI0 fun i j => .int (g i j)) := by
  intro pins s σ H x y v u Q I rx ry h
  obtain ⟨i, j, rfl, rfl, q⟩ := h
  obtain ⟨t, rfl⟩ := rx
  obtain ⟨t', rfl⟩ := ry
  exact rule i j t t' s _ _ ⟨.int (g i j), H, I.tok _, ⟨_, rfl⟩, q⟩
theorem opB0 {f : Value → Value → Sem Value} {g : Int → Int → Bool}
    (rule : ∀ (i j : Int) (t u : Tok) (s : Shared) (Q : Value → Shared → Prop) (E : Value → Shared → Prop), Q (.bool (g i j)) s → wpAny (model X.prog X.w) X.A (f (.int i t) (.int j u)) Q E s) :
    OpR X f (rI0 fun i j => .bl (g i j)) := by
  intro pins s σ H x y v u Q I rx ry h
  obtain ⟨i, j, rfl, rfl, q⟩ := h
  obtain ⟨t, rfl⟩ := rx
  obtain ⟨t', rfl⟩ := ry
  exact rule i j t t' s _ _ ⟨.bl (g i j), H, I, rfl, q⟩
theorem op_add : OpR X (binaryOp .Add) (rI0 fun i j => .int (i + j)) := opI0 fun _ _ _ _ _ _ _ q => add_int q
end
def scal : V → V → Bool
  | .non, .non => true | .non, .int _ => true | .int _, .non => true | .non, .bl _ => true | .bl _, .non => true | .non, .str _ => true | .str _, .non => true
  | .int _, .int _ => true | .bl _, .bl _ => true | .str _, .str _ => true | .byt _, .byt _ => true
  | .int _, .str _ => true | .str _, .int _ => true | .bl _, .str _ => true | .str _, .bl _ => true
  | _, _ => false
def rEq : R2 := fun x y H Q => scal x y = true ∧ Q (.bl (decide (x = y))) H
def rNe : R2 := fun x y H Q => scal x y = true ∧ Q (.bl (!decide (x = y))) H
theorem dec_int {i j : Int} : decide (V.int i = V.int j) = (i == j) := by
  rw [Bool.eq_iff_iff]
  simp
theorem dec_bl {i j : Bool} : decide (V.bl i = V.bl j) = (i == j) := by
  rw [Bool.eq_iff_iff]
  simp
theorem dec_str {i j : Str} : decide (V.str i = V.str j) = (i == j) := by
  rw [Bool.eq_iff_iff]
  simp
theorem dec_byt {i j : Array UInt8} : decide (V.byt i = V.byt j) = (i.toList == j.toList) := by
  rw [Bool.eq_iff_iff]
  cases i
  cases j
  simp
section
variable {X : Cx} {a b c : Expr} {ta tb tc : TE} {pos : Pos}
theorem fin_bl {pins : List (Addr × Obj)} {σ : St} {H : Hp} {s : Shared} {Q : VK} {k k' : Bool} (I : Inv X pins σ H s) (q : Q (.bl k) H) (e : k = k') : EP X pins σ Q (.bool k') s := by
  subst e
  exact ⟨.bl k, H, I, rfl, q⟩
theorem op_eq : OpR X (compareOp .Eq) rEq := by
  intro pins s σ H x y v u Q I rx ry h
  obtain ⟨hs, q⟩ := h
  cases x with
  | non =>
    cases rx
    cases y with
    | non => cases ry; exact PySem.EqNone.eq_none_none (fin_bl I q (by simp))
    | bl j => cases ry; exact PySem.EqNone.eq_none_bool (fin_bl I q (by simp))
    | int j => obtain ⟨t', rfl⟩ := ry; exact PySem.EqNone.eq_none_int (fin_bl I q (by simp))
    | str j => obtain ⟨t', rfl⟩ := ry; exact PySem.EqNone.eq_none_str (fin_bl I q (by simp))
    | _ => exact absurd (show false = true from hs) Bool.false_ne_true
  | bl i =>
    cases rx
    cases y with
    | non => cases ry; exact PySem.EqNone.eq_bool_none (fin_bl I q (by simp))
    | bl j => cases ry; exact eq_bool (fin_bl I q dec_bl)
    | str j => obtain ⟨t', rfl⟩ := ry; exact PySem.EqMixed.eq_bool_str (fin_bl I q (by simp))
    | _ => exact absurd (show false = true from hs) Bool.false_ne_true
  | int i =>
    obtain ⟨t, rfl⟩ := rx
    cases y with
    | non => cases ry; exact PySem.EqNone.eq_int_none (fin_bl I q (by simp))
    | int j => obtain ⟨t', rfl⟩ := ry; exact eq_int (fin_bl I q dec_int)
    | str j => obtain ⟨t', rfl⟩ := ry; exact PySem.EqMixed.eq_int_str (fin_bl I q (by simp))
    | _ => exact absurd (show false = true from hs) Bool.false_ne_true
  | str i =>
    obtain ⟨t, rfl⟩ := rx
    cases y with
    | non => cases ry; exact PySem.EqNone.eq_str_none (fin_bl I q (by simp))
    | bl j => cases ry; exact PySem.EqMixed.eq_str_bool (fin_bl I q (by simp))
    | int j => obtain ⟨t', rfl⟩ := ry; exact PySem.EqMixed.eq_str_int (fin_bl I q (by simp))
    | str j => obtain ⟨t', rfl⟩ := ry; exact eq_str (fin_bl I q dec_str)
    | _ => exact absurd (show false = true from hs) Bool.false_ne_true
  | byt i =>
    obtain ⟨t, rfl⟩ := rx
    cases y with
    | byt j => obtain ⟨t', rfl⟩ := ry; exact PySem.W.eq_bytes (fin_bl I q dec_byt)
    | _ => exact absurd (show false = true from hs) Bool.false_ne_true
  | _ => cases y <;> exact absurd (show false = true from hs) Bool.false_ne_true
theorem op_ne : OpR X (compareOp .NotEq) rNe := by
  intro pins s σ H x y v u Q I rx ry h
  obtain ⟨hs, q⟩ := h
  cases x with
  | non =>
    cases rx
    cases y with
    | non => cases ry; exact PySem.EqNone.ne_none_none (fin_bl I q (by simp))
    | bl j => cases ry; exact PySem.EqNone.ne_none_bool (fin_bl I q (by simp))
    | int j => obtain ⟨t', rfl⟩ := ry; exact PySem.EqNone.ne_none_int (fin_bl I q (by simp))
    | str j => obtain ⟨t', rfl⟩ := ry; exact PySem.EqNone.ne_none_str (fin_bl I q (by simp))
    | _ => exact absurd (show false = true from hs) Bool.false_ne_true
  | bl i =>
    cases rx
    cases y with
    | non => cases ry; exact PySem.EqNone.ne_bool_none (fin_bl I q (by simp))
    | bl j => cases ry; exact ne_bool (fin_bl I q (congrArg not dec_bl))
    | str j => obtain ⟨t', rfl⟩ := ry; exact PySem.EqMixed.ne_bool_str (fin_bl I q (by simp))
    | _ => exact absurd (show false = true from hs) Bool.false_ne_true
  | int i =>
    obtain ⟨t, rfl⟩ := rx
    cases y with
    | non => cases ry; exact PySem.EqNone.ne_int_none (fin_bl I q (by simp))
    | int j => obtain ⟨t', rfl⟩ := ry; exact ne_int (fin_bl I q (congrArg not dec_int))
    | str j => obtain ⟨t', rfl⟩ := ry; exact PySem.EqMixed.ne_int_str (fin_bl I q (by simp))
    | _ => exact absurd (show false = true from hs) Bool.false_ne_true
  | str i =>
    obtain ⟨t, rfl⟩ := rx
    cases y with
    | non => cases ry; exact PySem.EqNone.ne_str_none (fin_bl I q (by simp))
    | bl j => cases ry; exact PySem.EqMixed.ne_str_bool (fin_bl I q (by simp))
    | int j => obtain ⟨t', rfl⟩ := ry; exact PySem.EqMixed.ne_str_int (fin_bl I q (by simp))
    | str j => obtain ⟨t', rfl⟩ := ry; exact ne_str (fin_bl I q (congrArg not dec_str))
    | _ => exact absurd (show false = true from hs) Bool.false_ne_true
  | byt i =>
    obtain ⟨t, rfl⟩ := rx
    cases y with
    | byt j => obtain ⟨t', rfl⟩ := ry; exact PySem.W.ne_bytes (fin_bl I q (congrArg not dec_byt))
    | _ => exact absurd (show false = true from hs) Bool.false_ne_true
  | _ => cases y <;> exact absurd (show false = true from hs) Bool.false_ne_true
theorem op_lt : OpR X (compareOp .Lt) (rI0 fun i j => .bl (decide (i < j))) := opB0 fun _ _ _ _ _ _ _ q => lt_int q
theorem op_gt : OpR X (compareOp .Gt) (rI0 fun i j => .bl (decide (j < i))) := opB0 fun _ _ _ _ _ _ _ q => gt_int q
theorem op_ge : OpR X (compareOp .GtE) (rI0 fun i j => .bl (decide (j ≤ i))) := opB0 fun _ _ _ _ _ _ _ q => ge_int q
theorem nomark (b : Expr) {op : CmpOp} (h : op ≠ .In := by decide) (h2 : op ≠ .NotIn := by decide) : behindInMarks op b = false := by
  have e1 : (op == CmpOp.In) = false := by cases op <;> first | rfl | exact absurd rfl h
  have e2 : (op == CmpOp.NotIn) = false := by cases op <;> first | rfl | exact absurd rfl h2
  cases b <;> simp [behindInMarks, e1, e2]
def tTest (t : TE) : TT := fun σ H Q => t σ H fun x H' => ∃ k, x = .bl k ∧ Q k H'
theorem pt_cmpR {op : CmpOp} {r : R2} (ho : OpR X (compareOp op) r) (ha : PE X a ta) (hb : PE X b tb) (hm : behindInMarks op b = false) : PT X (.Compare a [op] [b] pos) (tTest (tOp r ta tb)) := by
  intro pins s σ H Q I h
  refine wpAny_isTrue_Compare1 (thn (ha pins s σ H _ I h) fun v s1 ⟨x, H1, I1, r1, q1⟩ => thn (hb pins s1 σ H1 _ I1 q1) fun u s2 ⟨y, H2, I2, r2, q2⟩ =>
    thn (ho pins s2 σ H2 x y v u _ I2 r1 r2 q2) fun c s3 ⟨z, H3, I3, r3, k, e, q3⟩ => ?_) hm
  subst e
  cases r3
  exact wpAny_truthy_bool ⟨H3, I3, q3⟩
def TruV (K : PySem.W.Frag) (x : V) (H : Hp) (k : Bool) : Prop :=
  match x with
  | .non => k = false
  | .bl b => k = b
  | .int i => k = (i != 0)
  | .str y => y.length ≤ sizeLine ∧ k = ((y.length : Int) != 0)
  | .byt y => y.size ≤ sizeLine ∧ k = ((y.size : Int) != 0)
  | .ref p => (∃ xs, SqL K H p xs ∧ k = !xs.isEmpty) ∨ (∃ xs, SqT K H p xs ∧ k = !xs.isEmpty) ∨ ∃ kvs, H p = some (.dK kvs) ∧ k = !kvs.isEmpty
  | _ => False
theorem isEmpty_kv {κ : Type} {kvs : List (κ × V)} {vs : List (κ × Value)} (r : KV kvs vs) : (!vs.isEmpty) = !kvs.isEmpty := by
  cases r <;> rfl
theorem isEmpty_of {xs : List V} {its : List Value} (r : Vals xs its) : (!its.toArray.isEmpty) = !xs.isEmpty := by
  cases r <;> simp
theorem line63 : (sizeLine : Nat) < 2 ^ 63 := by rw [sizeLine_eq]; decide
theorem tru_ok : TruR X (fun x H Q => ∃ k, TruV X.K x H k ∧ Q k H) := by
  intro pins s σ H x v Q I rx h
  obtain ⟨k, e, q⟩ := h
  have hl := line63
  have hs : sizeLine = 16777216 := sizeLine_eq
  cases x with
  | non =>
    cases rx
    have e' : k = false := e
    subst e'
    exact truthy_none ⟨H, I, q⟩
  | bl b =>
    cases rx
    have e' : k = b := e
    subst e'
    exact wpAny_truthy_bool ⟨H, I, q⟩
  | int i =>
    obtain ⟨t, rfl⟩ := rx
    have e' : k = (i != 0) := e
    subst e'
    exact PySem.P.truthy_int ⟨H, I, q⟩
  | str y =>
    obtain ⟨t, rfl⟩ := rx
    obtain ⟨hy, e'⟩ : y.length ≤ sizeLine ∧ k = ((y.length : Int) != 0) := e
    subst e'
    exact PySem.P.truthy_str (by omega) ⟨H, I.tok _, q⟩
  | byt y =>
    obtain ⟨t, rfl⟩ := rx
    obtain ⟨hy, e'⟩ : y.size ≤ sizeLine ∧ k = ((y.size : Int) != 0) := e
    subst e'
    exact PySem.W.truthy_bytes (by omega) ⟨H, I.tok _, q⟩
  | ref p =>
    cases rx
    have e' : (∃ xs, SqL X.K H p xs ∧ k = !xs.isEmpty) ∨ (∃ xs, SqT X.K H p xs ∧ k = !xs.isEmpty) ∨ ∃ kvs, H p = some (.dK kvs) ∧ k = !kvs.isEmpty := e
    rcases e' with ⟨xs, hx, e'⟩ | ⟨xs, hx, e'⟩ | ⟨kvs, hx, e'⟩
    · subst e'
      obtain ⟨its, r, pl, hz⟩ := I.list hx
      have hlen := r.length
      exact wpAny_truthy_list pl.isList (by simp only [List.size_toArray]; omega) ⟨H, I.tok _, by rw [isEmpty_of r]; exact q⟩
    · subst e'
      obtain ⟨its, r, pl, hz⟩ := I.tuple hx
      have hlen := r.length
      exact truthy_tuple pl (by simp only [List.size_toArray]; omega) ⟨H, I.tok _, by rw [isEmpty_of r]; exact q⟩
    · subst e'
      obtain ⟨hz, hS, vs, r, m⟩ : kvs.length ≤ sizeLine ∧ (p == sysModules) = false ∧ ∃ vs, KV kvs vs ∧ s.heap.DictOf (mixKind X.prog X.w) p vs := I.hok p _ hx
      have hlen : kvs.length = vs.length := Paired.length r
      exact wpAny_truthy_dict hS m (by omega) ⟨H, I.tok _, by rw [isEmpty_kv r]; exact q⟩
  | _ => exact (show False from e).elim
theorem pt_truth (ha : PE X a ta) (he : ∀ whole, isTrue a X.env whole = (do let v ← whole; standAt a.pos; holding [v] (truthy v))) :
    PT X a (fun σ H Q => ta σ H fun x H' => ∃ k, TruV X.K x H' k ∧ Q k H') := by
  intro pins s σ H Q I h
  exact isTrue_plain (thn (ha pins s σ H _ I h) fun v s1 ⟨x, H1, I1, r1, q1⟩ => tru_ok pins s1 σ H1 x v Q I1 r1 q1) (he _)
theorem vals1 {x : V} {us : List Value} (r : Vals [x] us) : ∃ u, us = [u] ∧ RelV x u := by
  cases r with
  | cons r1 r2 => cases r2; exact ⟨_, rfl, r1⟩
end
end L2
namespace L2
open PySem PySem.Spec PyProof.Rows
structure ObjM (h : Heap) (x dx C : Addr) (mA : Str → Option Value) : Prop where
  obj : h.get? x = some (PySem.W.instObj C dx)
  ns : h.Ns1 dx mA
  ne : dx ≠ x
theorem lookIn_ns {h : Heap} {dx : Addr} {mA : Str → Option Value} (n : h.Ns1 dx mA) : ∃ od, h.get? dx = some od ∧ ∀ name, PySem.W.lookIn name od = some (mA name) := by
  obtain ⟨o, es, ep, ho, hd, hk, _, hm⟩ := n
  refine ⟨o, ho, fun name => ?_⟩
  have e := hm name
  unfold nsFind findBy at e
  rw [← Array.find?_toList] at e
  unfold PySem.W.lookIn
  rw [hd]
  dsimp only
  split
  · rename_i y q
    rw [q] at e
    exact congrArg some e
  · rename_i q
    rw [q] at e
    have a : es.toList.any (·.refKey) = false := by
      rw [List.any_eq_false]
      intro y hy
      obtain ⟨z, t, hkey⟩ := hk y (Array.mem_toList_iff.mp hy)
      simp [DictEntry.refKey, hkey]
    have a' : ¬ es.toList.any (·.refKey) = true := by rw [a]; exact Bool.false_ne_true
    rw [if_neg a']
    exact congrArg some e
theorem ObjM.look {h : Heap} {x dx C : Addr} {mA : Str → Option Value} (I : ObjM h x dx C mA) : ∃ od, PySem.W.InstAt h x (PySem.W.instObj C dx) C (some od) ∧ ∀ name, PySem.W.lookIn name od = some (mA name) :=
  let ⟨od, ho, hl⟩ := lookIn_ns I.ns
  ⟨od, ⟨I.obj, rfl, rfl, ho⟩, hl⟩
section
variable {prog : Program} {w : World} {A : Around} {E : Value → Shared → Prop} {s : Shared} {K : PySem.W.Frag} {x dx C f : Addr} {mA : Str → Option Value} {name : Str} {v : Value}
theorem get_map {expr : Bool} {Q : Value → Shared → Prop} (X : K.In s.heap) (I : ObjM s.heap x dx C mA) (hg : PySem.W.plainGet K C name = true) (hh : PySem.W.hasDictIn K C = true)
    (ha : PySem.W.findIn K (.ref C) name = some none) (hv : mA name = some v) (hv' : PySem.W.handedIn v = true) (h : Q v { s with toks := s.toks + 1 }) :
    wpAny (model prog w) A (getAttr (.ref x) name expr) Q E s := by
  obtain ⟨od, J, hl⟩ := I.look
  exact PySem.W.get_value X J (PySem.W.plainGet_of hg).1 (PySem.W.findObj_own hh ha rfl (by rw [hl, hv])) hv' h
theorem get_meth {pl : Sem Bool} {Q : Value × List Value → Shared → Prop} (X : K.In s.heap) (I : ObjM s.heap x dx C mA) (hg : PySem.W.plainGet K C name = true)
    (hf : PySem.W.findIn K (.ref C) name = some (some (.ref f))) (ht : PySem.W.isFn K (.ref f) = true) (hv : mA name = none) (h : Q (.ref f, [.ref x]) s) :
    wpAny (model prog w) A (getMethod (.ref x) name pl) Q E s := by
  obtain ⟨od, J, hl⟩ := I.look
  exact PySem.W.method_fn X J (PySem.W.plainGet_of hg).1 (PySem.W.plainGet_of hg).2 hf (beq_iff_eq.mp ht) (by show (PySem.W.lookIn name od).map (·.isSome) = some false; rw [hl, hv]; rfl) h
theorem set_map {ns : List Str} {Q : Unit → Shared → Prop} (X : K.In s.heap) (I : ObjM s.heap x dx C mA)
    (hs : PySem.W.findIn K (.ref C) "__setattr__" = some (some (.builtin "object.__setattr__"))) (hp : PySem.W.plainOver K C = true) (ht : PySem.W.takerIn K C name = some none) (hh : PySem.W.hasDictIn K C = true)
    (hw : PySem.Within mA ns) (hsz : ns.length ≤ sizeLine)
    (h : ∀ h', ObjM h' x dx C (fun y => if y = name then some v else mA y) → Heap.SameBut dx s.heap h' → Q () { s with heap := h', toks := s.toks + 2 }) :
    wpAny (model prog w) A (setAttr (.ref x) name v) Q E s := by
  obtain ⟨od, J, hl⟩ := I.look
  refine PySem.W.set_plain X J hs (PySem.W.osa_open (s := { s with toks := s.toks + 1 }) (r := none) X J hp ht fun b => ?_)
  obtain ⟨cd, hc, hd'⟩ := PySem.W.any_some hh
  have hx : s.heap.get? x = some ⟨.ref C, some dx, .plain, #[]⟩ := I.obj
  refine wpAny_bind (wpAny_pure (wpAny_bind (wpAny_bind (wpAny_loadPart hx (wpAny_bind (PySem.W.Looks.here (s := { s with toks := s.toks + 1 }) (PySem.W.looks_clsIn X hc) ?_))))))
  rw [hd']
  refine wpAny_pure (a := some dx) (wpAny_bind (wpAny_pure (wpAny_bind ?_)))
  refine wpAny_nsSet1 (s := { s with toks := s.toks + 1 }) I.ns fun h' hn2 hs2 => ?_
  obtain ⟨oD, esD, epD, hoD, hdD, hcD⟩ := hn2.count (PySem.Within.cons name v hw)
  refine wpAny_bind (wpAny_lookBehind hoD (by rw [hdD]; exact pastItsLine_dict (Nat.le_trans hcD (by rw [List.length_cons]; omega))) ?_)
  exact wpAny_pure (h _ ⟨(hs2.2 _ (Ne.symm I.ne)).trans I.obj, hn2, I.ne⟩ hs2)
theorem make_map {R : Result → Shared → Prop} {vs : List Value} {kw : List (Str × Value)} (X : K.In s.heap) (hm : PySem.W.makesIn K C = true)
    (hi : PySem.W.findIn K (.ref C) "__init__" = some (some (.ref f))) (hf : PySem.W.typeIn K (.ref f) = some (.type "function"))
    (h : codeAny (model prog w) (A.under (.builtin "type.__call__" ⟨.ref C :: vs, kw⟩)) (.call (.ref f) ⟨.ref (s.heap.objs.size + 1) :: vs, kw⟩) (PySem.W.InitBack (s.heap.objs.size + 1) R)
      { s with heap := (s.heap.push PySem.W.emptyDict).push (PySem.W.instObj C s.heap.objs.size) }) :
    codeAny (model prog w) A (.call (.ref C) ⟨vs, kw⟩) R s := by
  obtain ⟨hh, g, d, t, os⟩ := s
  exact PySem.W.make_core (PySem.W.makes_of X hm) (PySem.W.looks_findIn X hi) (fun self => PySem.W.bind_fn X self hf) (.inl rfl) h
end
def putF (f : Str) (v : V) : List (Str × V) → List (Str × V)
  | [] => [(f, v)]
  | (g, x) :: r => if g = f then (g, v) :: r else (g, x) :: putF f v r
theorem lookup_putF (f g : Str) (v : V) : ∀ fs : List (Str × V), (putF f v fs).lookup g = if g = f then some v else fs.lookup g
  | [] => by
    show List.lookup g [(f, v)] = _
    by_cases h : g = f
    · have hb : (g == f) = true := beq_iff_eq.mpr h
      simp only [List.lookup, hb, if_pos h]
    · have hb : (g == f) = false := beq_eq_false_iff_ne.mpr h
      simp only [List.lookup, hb, if_neg h]
  | (k, x) :: r => by
    have ih := lookup_putF f g v r
    rw [show putF f v ((k, x) :: r) = (if k = f then (k, v) :: r else (k, x) :: putF f v r) from rfl]
    by_cases hk : k = f
    · rw [if_pos hk]
      by_cases h : g = k
      · have hb : (g == k) = true := beq_iff_eq.mpr h
        simp only [List.lookup, hb, if_pos (h.trans hk)]
      · have hb : (g == k) = false := beq_eq_false_iff_ne.mpr h
        simp only [List.lookup, hb, if_neg (fun e : g = f => h (e.trans hk.symm))]
    · rw [if_neg hk]
      by_cases h : g = k
      · have hb : (g == k) = true := beq_iff_eq.mpr h
        simp only [List.lookup, hb, if_neg (fun e : g = f => hk (h.symm.trans e))]
      · have hb : (g == k) = false := beq_eq_false_iff_ne.mpr h
        simp only [List.lookup, hb]
        exact ih
theorem keys_putF (f : Str) (v : V) : ∀ fs : List (Str × V), f ∈ (putF f v fs).map (·.1) ∧ ∀ g, g ∈ fs.map (·.1) → g ∈ (putF f v fs).map (·.1)
  | [] => ⟨by simp [putF], fun g h => by simp at h⟩
  | (k, x) :: r => by
    obtain ⟨i1, i2⟩ := keys_putF f v r
    rw [show putF f v ((k, x) :: r) = (if k = f then (k, v) :: r else (k, x) :: putF f v r) from rfl]
    by_cases hk : k = f
    · rw [if_pos hk]
      subst hk
      exact ⟨by simp, fun g h => by simpa using h⟩
    · rw [if_neg hk]
      refine ⟨?_, fun g h => ?_⟩
      · rw [List.map_cons]
        exact List.mem_cons_of_mem _ i1
      · rw [List.map_cons] at h ⊢
        rcases List.mem_cons.mp h with e | e
        · exact List.mem_cons.mpr (.inl e)
        · exact List.mem_cons_of_mem _ (i2 g e)
theorem length_putF (f : Str) (v : V) : ∀ fs : List (Str × V), (putF f v fs).length ≤ fs.length + 1
  | [] => by simp [putF]
  | (k, x) :: r => by
    have ih := length_putF f v r
    rw [show putF f v ((k, x) :: r) = (if k = f then (k, v) :: r else (k, x) :: putF f v r) from rfl]
    by_cases hk : k = f
    · rw [if_pos hk, List.length_cons, List.length_cons]; omega
    · rw [if_neg hk, List.length_cons, List.length_cons]; omega
theorem RelO.some_of {v : V} {o : Option Value} (r : RelO (some v) o) : ∃ u, o = some u ∧ RelV v u := by
  cases o with
  | none => exact (show False from r).elim
  | some u => exact ⟨u, rfl, r⟩
theorem RelO.none_of {o : Option Value} (r : RelO none o) : o = none := by
  cases o with
  | none => rfl
  | some u => exact (show False from r).elim
theorem handed_of {v : V} {u : Value} (r : RelV v u) : PySem.W.handedIn u = true := by
  cases v with
  | non => cases (show u = Value.none from r); rfl
  | bl b => cases (show u = Value.bool b from r); rfl
  | int i => obtain ⟨t, e⟩ := (show ∃ t, u = Value.int i t from r); cases e; rfl
  | str x => obtain ⟨t, e⟩ := (show ∃ t, u = Value.str x t from r); cases e; rfl
  | byt b => obtain ⟨t, e⟩ := (show ∃ t, u = Value.bytes b t from r); cases e; rfl
  | flt b => obtain ⟨t, e⟩ := (show ∃ t, u = Value.float b t from r); cases e; rfl
  | ref a => cases (show u = Value.ref a from r); rfl
  | ty n => cases (show u = Value.type n from r); rfl
section
variable {P : Program} {w : World} {H H' : Hp} {h h' : Heap} {a C dx : Addr} {fs fs' : List (Str × V)}
theorem ins_get (hok : HOk P w H h) (e : H a = some (.ins C dx fs)) : ∃ mA, ObjM h a dx C mA ∧ (∀ f, RelO (fs.lookup f) (mA f)) ∧ PySem.Within mA (fs.map (·.1)) ∧ fs.length ≤ 1000 ∧ H dx = some (.own a) := by
  obtain ⟨d, z, ne, ob, mA, n, r, q⟩ := (show ObjOk P w H h a (.ins C dx fs) from hok a _ e)
  exact ⟨mA, ⟨ob, n, ne⟩, r, q, z, d⟩
end
structure Cls (K : PySem.W.Frag) (C : Addr) : Prop where
  pg : PySem.W.plainGet K C Str.empty = true
  hd : PySem.W.hasDictIn K C = true
  po : PySem.W.plainOver K C = true
  sa : PySem.W.findIn K (.ref C) "__setattr__" = some (some (.builtin "object.__setattr__"))
theorem Cls.get {K : PySem.W.Frag} {C : Addr} (c : Cls K C) (f : Str) : PySem.W.plainGet K C f = true := c.pg
def NoAttr (K : PySem.W.Frag) (C : Addr) (f : Str) : Prop := PySem.W.findIn K (.ref C) f = some none
theorem NoAttr.taker {K : PySem.W.Frag} {C : Addr} {f : Str} (n : NoAttr K C f) : PySem.W.takerIn K C f = some none := by
  unfold PySem.W.takerIn
  rw [show PySem.W.findIn K (.ref C) f = some none from n]
  rfl
structure Meth (K : PySem.W.Frag) (C : Addr) (m : Str) (f : Addr) : Prop where
  at_ : PySem.W.findIn K (.ref C) m = some (some (.ref f))
  fn : PySem.W.isFn K (.ref f) = true
  kp : PySem.W.keepIn K (.ref f) = true
section
variable {X : Cx} {pins : List (Addr × Obj)} {σ : St} {H : Hp} {s : Shared} {a C dx : Addr} {fs : List (Str × V)} {f : Str} {v : V} {A : Around} {E : Value → Shared → Prop}
theorem getattr_ok {b : Bool} {Q : Value → Shared → Prop} (I : Inv X pins σ H s) (e : H a = some (.ins C dx fs)) (c : Cls X.K C) (n : NoAttr X.K C f) (l : fs.lookup f = some v)
    (h : ∀ u s', Inv X pins σ H s' → RelV v u → Q u s') : wpAny (model X.prog X.w) A (getAttr (.ref a) f b) Q E s := by
  obtain ⟨mA, O, r, _, _, _⟩ := ins_get I.hok e
  obtain ⟨u, hu, ru⟩ := RelO.some_of (v := v) (o := mA f) (by rw [← l]; exact r f)
  exact get_map I.kIn O (c.get f) c.hd n hu (handed_of ru) (h u _ (I.tok _) ru)
theorem getmeth_ok {m : Str} {g : Addr} {pl : Sem Bool} {Q : Value × List Value → Shared → Prop} (I : Inv X pins σ H s) (e : H a = some (.ins C dx fs)) (c : Cls X.K C) (k : Meth X.K C m g) (l : fs.lookup m = none)
    (h : Q (.ref g, [.ref a]) s) : wpAny (model X.prog X.w) A (getMethod (.ref a) m pl) Q E s := by
  obtain ⟨mA, O, r, _, _, _⟩ := ins_get I.hok e
  have hn : mA m = none := RelO.none_of (by rw [← l]; exact r m)
  exact get_meth I.kIn O (c.get m) k.at_ k.fn hn h
theorem setattr_ok {y : V} {u : Value} {Q : Unit → Shared → Prop} (I : Inv X pins σ H s) (e : H a = some (.ins C dx fs)) (c : Cls X.K C) (n : NoAttr X.K C f) (hl : fs.length < 1000) (ry : RelV y u)
    (h : ∀ s', Inv X pins σ (upd H a (.ins C dx (putF f y fs))) s' → Q () s') : wpAny (model X.prog X.w) A (setAttr (.ref a) f u) Q E s := by
  obtain ⟨mA, O, r, wi, _, ho⟩ := ins_get I.hok e
  have hz : (fs.map (·.1)).length ≤ sizeLine := by rw [List.length_map, sizeLine_eq]; omega
  refine set_map I.kIn O c.sa c.po n.taker c.hd wi hz fun h' O' sb => h _ ?_
  have hd : ∃ o, h'.get? dx = some o := let ⟨o, _, _, e', _⟩ := O'.ns; ⟨o, e'⟩
  refine I.write (x := a) (e := dx) (by rw [e]; exact True.intro) (.inr ho) (fun b q hb z => (sb.2 b hb).trans z) hd ?_
  refine ⟨by rw [upd_ne O.ne]; exact ho, ?_, O.ne, O'.obj, _, O'.ns, fun g => ?_, fun g hg => ?_⟩
  · have := length_putF f y fs; omega
  · show RelO ((putF f y fs).lookup g) (if g = f then some u else mA g)
    rw [lookup_putF]
    by_cases q : g = f
    · rw [if_pos q, if_pos q]; exact ry
    · rw [if_neg q, if_neg q]; exact r g
  · by_cases q : g = f
    · rw [q]; exact (keys_putF f y fs).1
    · refine (keys_putF f y fs).2 g (wi g fun z => hg ?_)
      show (if g = f then some u else mA g) = none
      rw [if_neg q]; exact z
theorem Inv.made (I : Inv X pins σ H s) : Inv X pins σ (upd (upd H s.heap.objs.size (.own (s.heap.objs.size + 1))) (s.heap.objs.size + 1) (.ins C s.heap.objs.size []))
    { s with heap := (s.heap.push PySem.W.emptyDict).push (PySem.W.instObj C s.heap.objs.size) } := by
  have e1 : (s.heap.push PySem.W.emptyDict).get? s.heap.objs.size = some PySem.W.emptyDict := Heap.get?_push_size s.heap rfl
  have e2 : ((s.heap.push PySem.W.emptyDict).push (PySem.W.instObj C s.heap.objs.size)).get? (s.heap.objs.size + 1) = some (PySem.W.instObj C s.heap.objs.size) := by
    have := Heap.get?_push_size (s.heap.push PySem.W.emptyDict) (o := PySem.W.instObj C s.heap.objs.size) rfl
    rwa [Heap.size_push] at this
  have e3 : (s.heap.push PySem.W.emptyDict).Ns s.heap.objs.size (fun _ => none) := ⟨PySem.W.emptyDict, #[], _, e1, rfl, (fun e he => absurd he (by simp)), fun _ => rfl⟩
  have I1 := I.laid (a := s.heap.objs.size) (o := .own (s.heap.objs.size + 1)) (h' := s.heap.push PySem.W.emptyDict) (t' := s.toks) (fun b u q => Heap.get?_push_of_some _ q) (Nat.le_refl _) ⟨_, e1⟩
  refine I1.laid (a := s.heap.objs.size + 1) (o := .ins C s.heap.objs.size []) (t' := s.toks) (fun b u q => Heap.get?_push_of_some _ q) (Nat.le_of_eq (Heap.size_push _ _)) ?_
  have ne : s.heap.objs.size ≠ s.heap.objs.size + 1 := Nat.ne_of_lt (Nat.lt_succ_self _)
  refine ⟨by rw [upd_ne ne, upd_same], Nat.zero_le _, ne, e2, fun _ => none, (Heap.Ns1.of_empty e3).at fun o q => Heap.get?_push_of_some _ q, fun _ => True.intro, fun y hy => absurd rfl hy⟩
theorem attr_of {prog : Program} {w : World} {env : Env} {e : Expr} {f : Str} {pos : Pos} {s : Shared} {Q : Value → Shared → Prop} (hb : attributeBase e f env (eval e env) = eval e env)
    (h : wpAny (model prog w) A (eval e env) (fun o s₁ => wpAny (model prog w) A (getAttr o f true) Q E s₁) E s) : wpAny (model prog w) A (eval (.Attribute e f pos) env) Q E s :=
  Attribute_any_ h (by rw [arm_eval_Attribute, hb])
end
def tFld (K : PySem.W.Frag) (ta : TE) (f : Str) : TE := fun σ H Q => ta σ H fun x H1 => ∃ a C dx fs v, x = .ref a ∧ H1 a = some (.ins C dx fs) ∧ Cls K C ∧ NoAttr K C f ∧ fs.lookup f = some v ∧ Q v H1
def sFld (K : PySem.W.Frag) (ta tv : TE) (f : Str) : TS := fun D σ H => tv σ H fun y H1 => ta σ H1 fun x H2 => ∃ a C dx fs, x = .ref a ∧ H2 a = some (.ins C dx fs) ∧ Cls K C ∧ NoAttr K C f ∧ fs.length < 1000 ∧
  D.nx σ (upd H2 a (.ins C dx (putF f y fs)))
def InOp (X : Cx) (op : Operator) (rd : V → V → Hp → VK → Prop) : Prop :=
  ∀ (pins : List (Addr × Obj)) (s : Shared) (σ : St) (H : Hp) (x y : V) (u v : Value) (Q : VK), Inv X pins σ H s → RelV x u → RelV y v → rd x y H Q → wpAny (model X.prog X.w) X.A (inplaceOp op u v) (EP X pins σ Q) X.xe s
def sFldAug (K : PySem.W.Frag) (ta tv : TE) (rd : V → V → Hp → VK → Prop) (f : Str) : TS := fun D σ H => ta σ H fun x H1 => ∃ a C dx fs v, x = .ref a ∧ H1 a = some (.ins C dx fs) ∧ Cls K C ∧ NoAttr K C f ∧ fs.lookup f = some v ∧
  tv σ H1 fun y H2 => rd v y H2 fun z H3 => ∃ dx' fs', H3 a = some (.ins C dx' fs') ∧ fs'.length < 1000 ∧ D.nx σ (upd H3 a (.ins C dx' (putF f z fs')))
section
variable {X : Cx} {o e value : Expr} {f : Str} {pos pos' tpos : Pos} {ta tv : TE}
theorem pe_fld (he : PE X e ta) (hb : attributeBase e f X.env (eval e X.env) = eval e X.env) : PE X (.Attribute e f pos) (tFld X.K ta f) := by
  intro pins s σ H Q I h
  refine attr_of hb (thn (he pins s σ H _ I h) fun u s1 ⟨x, H1, I1, rx, a, C, dx, fs, v, ex, ea, c, n, l, q⟩ => ?_)
  subst ex
  obtain rfl : u = Value.ref a := rx
  exact getattr_ok I1 ea c n l fun u' s2 I2 ru => ⟨v, H1, I2, ru, q⟩
theorem ps_fld (ha : PE X o ta) (hv : PE X value tv) (hs : swapsWith value (some (.Attribute o f pos')) pos.line X.env = pure false) : PS X (.Assign [.Attribute o f pos'] value pos) (sFld X.K ta tv f) := by
  intro pins s σ H D I h
  refine plainObj_wpAny_Assign_Attribute (thn (hv pins s σ H _ I h) fun u s1 ⟨y, H1, I1, ry, q⟩ => thn (ha pins s1 σ H1 _ I1 q) fun ov s2 ⟨x, H2, I2, rx, a, C, dx, fs, ex, ea, c, n, l, q2⟩ => ?_) hs
  subst ex
  obtain rfl : ov = Value.ref a := rx
  exact setattr_ok I2 ea c n l ry fun s3 I3 => ⟨σ, _, I3, q2⟩
theorem ps_fldaug {op : Operator} {rd : V → V → Hp → VK → Prop} (ha : PE X o ta) (hv : PE X value tv) (hop : InOp X op rd) : PS X (.AugAssign (.Attribute o f tpos) op value pos) (sFldAug X.K ta tv rd f) := by
  intro pins s σ H D I h
  refine wpAny_AugAssign_AttributeAny (thn (ha pins s σ H _ I h) fun ov s1 ⟨x, H1, I1, rx, a, C, dx, fs, v, ex, ea, c, n, l, q⟩ => ?_)
  subst ex
  obtain rfl : ov = Value.ref a := rx
  refine getattr_ok I1 ea c n l fun u s2 I2 ru => thn (hv pins s2 σ H1 _ I2 q) fun w3 s3 ⟨y, H2, I3, ry, q3⟩ => thn (hop pins s3 σ H2 v y u w3 _ I3 ru ry q3) fun w4 s4 ⟨z, H3, I4, rz, dx', fs', ea', l', q4⟩ => ?_
  exact setattr_ok I4 ea' c n l' rz fun s5 I5 => ⟨σ, _, I5, q4⟩
def rAdd : V → V → Hp → VK → Prop := fun x y H Q => ∃ i j, x = .int i ∧ y = .int j ∧ Q (.int (i + j)) H
theorem in_add : InOp X .Add rAdd := by
  rintro pins s σ H x y u v Q I rx ry ⟨i, j, rfl, rfl, q⟩
  obtain ⟨t, rfl⟩ := (show ∃ t, u = Value.int i t from rx)
  obtain ⟨t', rfl⟩ := (show ∃ t', v = Value.int j t' from ry)
  exact PyProof.Rows.iadd_int ⟨.int (i + j), H, I.tok _, ⟨_, rfl⟩, q⟩
theorem methcall_of {pl : Sem Bool} {m : Str} {apos : Pos} {args : List Expr} {pins : List (Addr × Obj)} {s : Shared} {σ : St} {H : Hp} {Q : Value → Shared → Prop} {te : TE} (he : PE X e te) (I : Inv X pins σ H s)
    (h : te σ H fun x H1 => ∃ a C dx fs g, x = .ref a ∧ H1 a = some (.ins C dx fs) ∧ Cls X.K C ∧ Meth X.K C m g ∧ fs.lookup m = none ∧
      ∀ s1, Inv X pins σ H1 s1 → wpAny (model X.prog X.w) X.A (callWith pos (.ref g) [.ref a] (backTo pos (starEach args X.env)) (backToKw pos (keywordEach [] X.env))) Q X.xe s1)
    (ht : eval (.Call (.Attribute e m apos) args [] pos) X.env = (do
      let ov ← eval e X.env
      standAt apos.atName
      let (f, first) ← holding [ov] (getMethod ov m pl)
      callWith pos f first (backTo pos (starEach args X.env)) (backToKw pos (keywordEach [] X.env)))) :
    wpAny (model X.prog X.w) X.A (eval (.Call (.Attribute e m apos) args [] pos) X.env) Q X.xe s := by
  refine PySem.W.methodCall_KW (pl := pl) (thn (he pins s σ H _ I h) fun u s1 ⟨x, H1, I1, rx, a, C, dx, fs, g, ex, ea, c, k, l, q⟩ => ?_) ht
  subst ex
  obtain rfl : u = Value.ref a := rx
  exact getmeth_ok I1 ea c k l (q s1 I1)
end
section
variable {X : Cx} {pins : List (Addr × Obj)} {σ : St} {H : Hp} {s : Shared} {A : Around} {E : Value → Shared → Prop} {Q : Value → Shared → Prop} {c : Value} {b : Bool}
end
end L2
namespace L2
open PySem PySem.Spec PyProof.Rows
structure Room (k : Nat) (A : Around) : Prop where
  hd : A.handled = none
  dp : A.depth + 3 * k + 5 < recursionLimit
  un : A.units + 16 * k + 200 < cLine
theorem Room.mono {j k : Nat} {A : Around} (r : Room k A) (h : j ≤ k) : Room j A := ⟨r.hd, by have := r.dp; omega, by have := r.un; omega⟩
theorem Room.deeper {k : Nat} {A : Around} (r : Room (k + 1) A) (env : Env) : Room k (A.deeper env) :=
  ⟨r.hd, by have := r.dp; show A.depth + 1 + 3 * k + 5 < _; omega, by have := r.un; show A.units + 3 + 16 * k + 200 < _; omega⟩
theorem make_depth {A : Around} {C : Addr} {us : List Value} {kw : List (Str × Value)} : (A.under (.builtin "type.__call__" ⟨.ref C :: us, kw⟩)).depth = A.depth + 1 := by
  first | rfl | simp [Around.under, Code.weight, Code.isCreation, Code.isGuard, Code.isCaller, Code.frames, Code.isFrame, guardIds]
theorem make_units {A : Around} {C : Addr} {us : List Value} {kw : List (Str × Value)} : (A.under (.builtin "type.__call__" ⟨.ref C :: us, kw⟩)).units = A.units + 1 := by
  first | rfl | simp [Around.under, Code.cUnits, Code.frames, Code.isFrame]
theorem Room.make {k : Nat} {A : Around} (r : Room (k + 1) A) (C : Addr) (us : List Value) (kw : List (Str × Value)) : Room k (A.under (.builtin "type.__call__" ⟨.ref C :: us, kw⟩)) :=
  ⟨r.hd, by have := r.dp; rw [make_depth]; omega, by have := r.un; rw [make_units]; omega⟩
theorem Room.depth {k : Nat} {A : Around} (r : Room k A) : A.depth < recursionLimit := by have := r.dp; omega
theorem Room.units {k : Nat} {A : Around} (r : Room k A) : A.units + 64 < cLine := by have := r.un; omega
def tNil : TA := fun _ H Q => Q [] H
def tCons (ta : TE) (tr : TA) : TA := fun σ H Q => ta σ H fun x H1 => tr σ H1 fun xs H2 => Q (x :: xs) H2
section
variable {X : Cx} {e : Expr} {es : List Expr} {te : TE} {t : TA} {pos : Pos}
theorem pa_nil : PA X [] tNil := fun _ _ _ _ H Q I h => Calls.spliced_nil ⟨[], H, I, .nil, h⟩
theorem pa_cons (ha : PE X e te) (hr : PA X es t) (hs : starEach (e :: es) X.env = (false, eval e X.env) :: starEach es X.env := by rfl) : PA X (e :: es) (tCons te t) := by
  intro pos pins s σ H Q I h
  rw [hs]
  show wpAny _ _ (spliced ((false, eval e X.env) :: backTo pos (starEach es X.env))) _ _ s
  refine Calls.spliced_cons (thn (ha pins s σ H _ I h) fun u s1 ⟨x, H1, I1, r1, q1⟩ => ?_)
  exact thn (hr pos pins s1 σ H1 _ I1 q1) fun us s2 ⟨xs, H2, I2, r2, q2⟩ => ⟨x :: xs, H2, I2, .cons r1 r2, q2⟩
def tTup (t : TA) : TE := fun σ H Q => t σ H fun xs H1 => xs.length ≤ sizeLine ∧ ∀ p, H1 p = none → Q (.ref p) (upd H1 p (.tup xs))
def tLst (t : TA) : TE := fun σ H Q => t σ H fun xs H1 => xs.length ≤ sizeLine ∧ ∀ p, H1 p = none → Q (.ref p) (upd H1 p (.lst xs))
theorem pe_tup {x1} (h : PA X es t) : PE X (.Tuple es x1 pos) (tTup t) := by
  intro pins s σ H Q I hq
  refine wpAny_Tuple_spliced (thn (h pos pins s σ H _ I hq) fun us s1 ⟨xs, H1, I1, r, z, q⟩ => ⟨by rw [← r.length]; exact z, ?_⟩)
  have hf : H1 s1.heap.objs.size = none := I1.hok.fresh (Nat.le_refl _)
  refine ⟨.ref s1.heap.objs.size, upd H1 s1.heap.objs.size (.tup xs), I1.laid (t' := s1.toks) (fun b u e => Heap.get?_push_of_some _ e) (Nat.le_refl _) ?_, rfl, q _ hf⟩
  exact ⟨z, us, r, ⟨_, Heap.get?_push_size _ rfl, rfl, _, rfl⟩⟩
theorem pe_lst (h : PA X es t) : PE X (.List es pos) (tLst t) := by
  intro pins s σ H Q I hq
  refine wpAny_List_spliced (thn (h pos pins s σ H _ I hq) fun us s1 ⟨xs, H1, I1, r, z, q⟩ => ⟨by rw [← r.length]; exact z, ?_⟩)
  have hf : H1 s1.heap.objs.size = none := I1.hok.fresh (Nat.le_refl _)
  refine ⟨.ref s1.heap.objs.size, upd H1 s1.heap.objs.size (.lst xs), I1.laid (t' := s1.toks) (fun b u e => Heap.get?_push_of_some _ e) (Nat.le_refl _) ?_, rfl, q _ hf⟩
  exact ⟨z, us, 0, r, Heap.get?_push_size _ rfl⟩
end
abbrev Sp := List V → Hp → VK → XK → Prop
abbrev CXT := List Env → Hp → Shared → XK → Value → Shared → Prop
structure Env0 (P : Program) (w : World) (K : PySem.W.Frag) (mg : Str → Option Value) (base : Heap) (A : Around) (outer : List Env) (s : Shared) (H : Hp) : Prop where
  frames : A.frames = some outer
  mod : Mod K mg base
  bs : ∀ b o, base.get? b = some o → s.heap.get? b = some o ∧ H b = none
  bsz : base.objs.size ≤ s.heap.objs.size
  funs : s.heap.FunFrames base outer
  frf : ∀ b ∈ frs outer, H b = none
  hok : HOk P w H s.heap
  bare : AllBare s.gens
def CE (outer : List Env) (P : Program) (w : World) (H : Hp) (s : Shared) (Q : VK) (u : Value) (s' : Shared) : Prop :=
  ∃ v H', s'.os = s.os ∧ AllBare s'.gens ∧ Un (frs outer) [] H H' s.heap s'.heap ∧ HOk P w H' s'.heap ∧ RelV v u ∧ Q v H'
def CR (CX : CXT) (outer : List Env) (P : Program) (w : World) (H : Hp) (s : Shared) (Q : VK) (E : XK) (r : Result) (s' : Shared) : Prop :=
  match r with
  | .ok (.ret u) => CE outer P w H s Q u s'
  | .ok _ => False
  | .error e => CX outer H s E e s'
structure FnOk (P : Program) (w : World) (K : PySem.W.Frag) (mg : Str → Option Value) (base : Heap) (CX : CXT) (k : Nat) (f : Addr) (fd : FuncData) (ps : List Str) (sp : Sp) : Prop where
  len : ∀ vs H Q E, sp vs H Q E → vs.length = ps.length
  run : ∀ (A : Around) (outer : List Env) (s : Shared) (H : Hp) (args : Args) (us : List Value) (vs : List V) (Q : VK) (E : XK), Room k A → Env0 P w K mg base A outer s H → BindsTo s fd args (ps.zip us) → Vals vs us → sp vs H Q E →
    codeAny (model P w) A (.call (.ref f) args) (CR CX outer P w H s Q E) s
theorem Env0.make {P : Program} {w : World} {K : PySem.W.Frag} {mg : Str → Option Value} {base : Heap} {A : Around} {outer : List Env} {s : Shared} {H : Hp} (e : Env0 P w K mg base A outer s H) (C : Addr) (us : List Value) (kw : List (Str × Value)) :
    Env0 P w K mg base (A.under (.builtin "type.__call__" ⟨.ref C :: us, kw⟩)) outer s H := ⟨by first | exact e.frames | (simpa [Around.under, Code.envs, Code.isFrame, pushEnvs] using e.frames), e.mod, e.bs, e.bsz, e.funs, e.frf, e.hok, e.bare⟩
section
variable {X : Cx} {pins : List (Addr × Obj)} {σ : St} {H : Hp} {s s' : Shared}
theorem Inv.env0 (I : Inv X pins σ H s) : Env0 X.prog X.w X.K X.mg X.base X.A X.stack s H :=
  ⟨I.ok.frames, I.ok.mod, I.bs, Nat.le_trans I.ok.bsz I.sz, I.stack, I.stkFree, I.hok, I.bare⟩
theorem Inv.after {Q : VK} {u : Value} (I : Inv X pins σ H s) (h : CE X.stack X.prog X.w H s Q u s') : EP X pins σ Q u s' := by
  obtain ⟨v, H', os, bare, un, hok, r, q⟩ := h
  obtain ⟨hh, g, d, t, os'⟩ := s'
  obtain rfl : os' = s.os := os
  exact ⟨v, H', I.call (h' := hh) (g' := g) (d' := d) (t' := t) (ch := []) un hok bare (fun b z => absurd z (by simp)), r, q⟩
end
def tCall (sp : Sp) (dvs : List V) (E : XK) (t : TA) : TE := fun σ H Q => t σ H fun vs H1 => sp (vs ++ dvs) H1 Q E
def tMeth (C : Addr) (m : Str) (sp : Sp) (dvs : List V) (E : XK) (ta : TE) (t : TA) : TE := fun σ H Q => ta σ H fun x H1 => ∃ a dx fs, x = .ref a ∧ H1 a = some (.ins C dx fs) ∧ fs.lookup m = none ∧
  t σ H1 fun vs H2 => sp (x :: (vs ++ dvs)) H2 Q E
def tMake (C : Addr) (sp : Sp) (dvs : List V) (E : XK) (t : TA) : TE := fun σ H Q => t σ H fun vs H1 => ∀ x dx, H1 x = none → H1 dx = none → dx ≠ x →
  sp (.ref x :: (vs ++ dvs)) (upd (upd H1 dx (.own x)) x (.ins C dx [])) (fun v H2 => v = .non ∧ Q (.ref x) H2) E
def Binds (K : PySem.W.Frag) (fd : FuncData) (ps : List Str) (ds : List Value) : Prop :=
  ∀ (s : Shared) (us : List Value), K.In s.heap → (us ++ ds).length = ps.length → BindsTo s fd ⟨us, []⟩ (ps.zip (us ++ ds))
theorem Binds.all {K : PySem.W.Frag} {fd : FuncData} {ps : List Str} (h : ∀ us : List Value, us.length = ps.length → bindArgs fd ⟨us, []⟩ = pure (ps.zip us)) : Binds K fd ps [] := fun s us _ hl => by
  rw [List.append_nil] at hl ⊢
  exact .of_eq (h us hl)
def Passes (CX : CXT) (X : Cx) (E : XK) : Prop := ∀ (pins : List (Addr × Obj)) (σ : St) (H : Hp) (s : Shared) (e : Value) (s' : Shared), Inv X pins σ H s → CX X.stack H s E e s' → X.xe e s'
section
variable {X : Cx} {CX : CXT} {k : Nat} {f C : Addr} {fd : FuncData} {ps : List Str} {sp : Sp} {dvs : List V} {ds : List Value} {E : XK} {x m : Str} {p pos apos : Pos} {e o : Expr} {es : List Expr} {ta : TE} {t : TA}
theorem run_fn {pins : List (Addr × Obj)} {σ : St} {H : Hp} {s : Shared} {Q : VK} {us : List Value} {vs : List V} (F : FnOk X.prog X.w X.K X.mg X.base CX k f fd ps sp) (hr : Room k X.A) (hb : Binds X.K fd ps ds) (hd : Vals dvs ds) (hx : Passes CX X E)
    (I : Inv X pins σ H s) (r : Vals vs us) (h : sp (vs ++ dvs) H Q E) : wpAny (model X.prog X.w) X.A (call (.ref f) us) (EP X pins σ Q) X.xe s := by
  have r2 : Vals (vs ++ dvs) (us ++ ds) := r.append hd
  have hl : (us ++ ds).length = ps.length := by rw [← r2.length]; exact F.len _ _ _ _ h
  refine wpAny_call (codeAny_mono (F.run X.A X.stack s H ⟨us, []⟩ (us ++ ds) (vs ++ dvs) Q E hr I.env0 (hb s us I.kIn hl) r2 h) fun r s' hq => ?_)
  cases r with
  | error e => exact hx pins σ H s e s' I hq
  | ok fl =>
    cases fl with
    | ret u => exact I.after hq
    | next => exact False.elim hq
    | brk => exact False.elim hq
    | cont => exact False.elim hq
theorem pe_call (F : FnOk X.prog X.w X.K X.mg X.base CX k f fd ps sp) (hr : Room k X.A) (hg : Gl X x) (hm : X.mg x = some (.ref f)) (hk : PySem.W.keepIn X.K (.ref f) = true) (hb : Binds X.K fd ps ds) (hd : Vals dvs ds) (hx : Passes CX X E)
    (ha : PA X (e :: es) t) (hdb : (x == ("__debug__" : Str)) = false := by decide) (he : starEach (e :: es) X.env = (false, eval e X.env) :: starEach es X.env := by rfl) (hpl : (backTo pos (starEach es X.env)).any (·.1) = false := by rfl) :
    PE X (.Call (.Name x p) (e :: es) [] pos) (tCall sp dvs E t) := by
  intro pins s σ H Q I h
  refine wpAny_Call_Name_kw (ld_glob I hg hm ?_ hdb)
  refine PySem.W.callWith_K (h₀ := X.base) I.ok.mod.kin hk (thn (ha pos pins s σ H _ I h) fun us s1 ⟨vs, H1, I1, r, q⟩ => ⟨I1.kIn, ?_⟩) he hpl
  exact run_fn F hr hb hd hx I1 r q
theorem pe_meth {pl : Sem Bool} (he : PE X o ta) (c : Cls X.K C) (hm : Meth X.K C m f) (F : FnOk X.prog X.w X.K X.mg X.base CX k f fd ps sp) (hr : Room k X.A) (hb : Binds X.K fd ps ds) (hd : Vals dvs ds) (hx : Passes CX X E) (ha : PA X (e :: es) t)
    (hst : starEach (e :: es) X.env = (false, eval e X.env) :: starEach es X.env := by rfl) (hpl : (backTo pos (starEach es X.env)).any (·.1) = false := by rfl)
    (ht : eval (.Call (.Attribute o m apos) (e :: es) [] pos) X.env = (do
      let ov ← eval o X.env
      standAt apos.atName
      let (f, first) ← holding [ov] (getMethod ov m pl)
      callWith pos f first (backTo pos (starEach (e :: es) X.env)) (backToKw pos (keywordEach [] X.env))) := by rfl) :
    PE X (.Call (.Attribute o m apos) (e :: es) [] pos) (tMeth C m sp dvs E ta t) := by
  intro pins s σ H Q I h
  refine PySem.W.methodCall_KW (pl := pl) (thn (he pins s σ H _ I h) fun u s1 ⟨x, H1, I1, rx, a, dx, fs, ex, ea, l, q⟩ => ?_) ht
  subst ex
  obtain rfl : u = Value.ref a := rx
  refine getmeth_ok I1 ea c hm l ?_
  refine PySem.W.callWith_K (first := [.ref a]) (h₀ := X.base) I.ok.mod.kin hm.kp (thn (ha pos pins s1 σ H1 _ I1 q) fun us s2 ⟨vs, H2, I2, r, q2⟩ => ⟨I2.kIn, ?_⟩) hst hpl
  exact run_fn (us := .ref a :: us) (vs := .ref a :: vs) F hr hb hd hx I2 (.cons rfl r) q2
theorem pe_meth0 {pl : Sem Bool} (he : PE X o ta) (c : Cls X.K C) (hm : Meth X.K C m f) (F : FnOk X.prog X.w X.K X.mg X.base CX k f fd ps sp) (hr : Room k X.A) (hb : Binds X.K fd ps ds) (hd : Vals dvs ds) (hx : Passes CX X E)
    (ht : eval (.Call (.Attribute o m apos) [] [] pos) X.env = (do
      let ov ← eval o X.env
      standAt apos.atName
      let (f, first) ← holding [ov] (getMethod ov m pl)
      callWith pos f first (backTo pos (starEach [] X.env)) (backToKw pos (keywordEach [] X.env))) := by rfl) :
    PE X (.Call (.Attribute o m apos) [] [] pos) (tMeth C m sp dvs E ta tNil) := by
  intro pins s σ H Q I h
  refine PySem.W.methodCall_KW (pl := pl) (thn (he pins s σ H _ I h) fun u s1 ⟨x, H1, I1, rx, a, dx, fs, ex, ea, l, q⟩ => ?_) ht
  subst ex
  obtain rfl : u = Value.ref a := rx
  refine getmeth_ok I1 ea c hm l ?_
  exact PySem.W.callWith_K0 (first := [.ref a]) I1.kIn hm.kp (run_fn (us := [.ref a]) (vs := [.ref a]) F hr hb hd hx I1 (.cons rfl .nil) q)
structure Mk (K : PySem.W.Frag) (C f : Addr) : Prop where
  makes : PySem.W.makesIn K C = true
  init : PySem.W.findIn K (.ref C) "__init__" = some (some (.ref f))
  fn : PySem.W.isFn K (.ref f) = true
  kp : PySem.W.keepIn K (.ref C) = true
theorem run_make {pins : List (Addr × Obj)} {σ : St} {H : Hp} {s : Shared} {Q : VK} {us : List Value} {vs : List V} (M : Mk X.K C f) (F : FnOk X.prog X.w X.K X.mg X.base CX k f fd ps sp) (hr : Room (k + 1) X.A) (hb : Binds X.K fd ps ds) (hd : Vals dvs ds)
    (hx : Passes CX X E) (I : Inv X pins σ H s) (r : Vals vs us)
    (h : ∀ x dx, H x = none → H dx = none → dx ≠ x → sp (.ref x :: (vs ++ dvs)) (upd (upd H dx (.own x)) x (.ins C dx [])) (fun v H2 => v = .non ∧ Q (.ref x) H2) E) :
    wpAny (model X.prog X.w) X.A (call (.ref C) us) (EP X pins σ Q) X.xe s := by
  have hq := h (s.heap.objs.size + 1) s.heap.objs.size (I.hok.fresh (Nat.le_succ _)) (I.hok.fresh (Nat.le_refl _)) (Nat.ne_of_lt (Nat.lt_succ_self _))
  have I2 := Inv.made (C := C) I
  have r2 : Vals (V.ref (s.heap.objs.size + 1) :: (vs ++ dvs)) (Value.ref (s.heap.objs.size + 1) :: (us ++ ds)) := .cons rfl (r.append hd)
  have hl : (Value.ref (s.heap.objs.size + 1) :: us ++ ds).length = ps.length := by
    have e := r2.length
    rw [F.len _ _ _ _ hq] at e
    exact e.symm
  refine wpAny_call (make_map (f := f) I.kIn M.makes M.init (beq_iff_eq.mp M.fn) (codeAny_mono (F.run _ X.stack _ _ ⟨Value.ref (s.heap.objs.size + 1) :: us, []⟩ (Value.ref (s.heap.objs.size + 1) :: (us ++ ds)) _ _ E (hr.make C us [])
    (I2.env0.make C us []) (hb _ (Value.ref (s.heap.objs.size + 1) :: us) I2.kIn hl) r2 hq) fun r s' hq' => ?_))
  cases r with
  | error e => exact hx pins σ _ _ e s' I2 hq'
  | ok fl =>
    cases fl with
    | ret u =>
      obtain ⟨v, H', I3, rv, ev, q3⟩ := I2.after hq'
      subst ev
      exact ⟨rv, ⟨V.ref (s.heap.objs.size + 1), H', I3, rfl, q3⟩⟩
    | next => exact False.elim hq'
    | brk => exact False.elim hq'
    | cont => exact False.elim hq'
theorem pe_make0 (M : Mk X.K C f) (F : FnOk X.prog X.w X.K X.mg X.base CX k f fd ps sp) (hr : Room (k + 1) X.A) (hg : Gl X x) (hm : X.mg x = some (.ref C)) (hb : Binds X.K fd ps ds) (hd : Vals dvs ds) (hx : Passes CX X E)
    (hdb : (x == ("__debug__" : Str)) = false := by decide) : PE X (.Call (.Name x p) [] [] pos) (tMake C sp dvs E tNil) := by
  intro pins s σ H Q I h
  refine wpAny_Call_Name_kw (ld_glob I hg hm ?_ hdb)
  exact PySem.W.callWith_K0 I.kIn M.kp (run_make (us := []) M F hr hb hd hx I .nil h)
end
section
variable {X : Cx} {CX : CXT} {k : Nat} {f C : Addr} {fd : FuncData} {ps ks : List Str} {sp : Sp} {E : XK} {x m : Str} {p pos apos kpos : Pos} {e o : Expr} {es : List Expr} {kws : List Keyword} {te ta : TE} {t tk : TA} {nm : Option Str}
variable {g : List Value → List Value → List Value} {gV : List V → List V → List V}
end
structure FnScope (N P : List Str) (sc : Scope) : Prop where
  kind : sc.kind = .function
  co : sc.isCoroutine = false
  gen : sc.isGenerator = false
  nd : N.Nodup
  pre : N.take P.length = P
  par : ∀ x ∈ P, sc.names.lookup x = some .local ∨ sc.names.lookup x = some .cell
  nofree : ∀ y ∈ sc.names, y.2 ≠ .free
theorem bindL_out {kindOf : Str → Option NameKind} {x : Str} : ∀ {binds : List (Str × Value)} {m : Str → Option Value}, (∀ v, (x, v) ∉ binds) → bindL kindOf binds m x = m x
  | [], _, _ => rfl
  | (n, v) :: r, m, h => by
    unfold bindL
    rw [bindL_out fun w hw => h w (List.mem_cons_of_mem _ hw)]
    split
    · have : x ≠ n := by rintro rfl; exact h v List.mem_cons_self
      simp [this]
    · rfl
theorem bindC_out {kindOf : Str → Option NameKind} {x : Str} : ∀ {binds : List (Str × Value)} {m : Str → Option Value}, (∀ v, (x, v) ∉ binds) → bindC kindOf binds m x = m x
  | [], _, _ => rfl
  | (n, v) :: r, m, h => by
    unfold bindC
    rw [bindC_out fun w hw => h w (List.mem_cons_of_mem _ hw)]
    split
    · rfl
    · have : x ≠ n := by rintro rfl; exact h v List.mem_cons_self
      simp [this]
theorem bindL_get {kindOf : Str → Option NameKind} {x : Str} {v : Value} : ∀ {P : List Str} {vs : List Value} {i : Nat} {m : Str → Option Value}, P.Nodup → P[i]? = some x → vs[i]? = some v → kindOf x = some .local →
    bindL kindOf (P.zip vs) m x = some v
  | [], _, _, _, _, h, _, _ => by simp at h
  | _ :: _, [], _, _, _, _, h, _ => by simp at h
  | p :: P, w :: vs, 0, m, nd, h1, h2, hk => by
    simp at h1 h2; subst h1; subst h2
    show bindL kindOf ((p, w) :: P.zip vs) m p = _
    unfold bindL
    rw [bindL_out fun v hv => (List.nodup_cons.mp nd).1 (List.of_mem_zip hv).1, if_pos hk]
    simp
  | p :: P, w :: vs, i + 1, m, nd, h1, h2, hk => by
    show bindL kindOf ((p, w) :: P.zip vs) m x = _
    unfold bindL
    exact bindL_get (i := i) (List.nodup_cons.mp nd).2 (by simpa using h1) (by simpa using h2) hk
theorem bindC_get {kindOf : Str → Option NameKind} {x : Str} {v : Value} : ∀ {P : List Str} {vs : List Value} {i : Nat} {m : Str → Option Value}, P.Nodup → P[i]? = some x → vs[i]? = some v → kindOf x ≠ some .local →
    bindC kindOf (P.zip vs) m x = some v
  | [], _, _, _, _, h, _, _ => by simp at h
  | _ :: _, [], _, _, _, _, h, _ => by simp at h
  | p :: P, w :: vs, 0, m, nd, h1, h2, hk => by
    simp at h1 h2; subst h1; subst h2
    show bindC kindOf ((p, w) :: P.zip vs) m p = _
    unfold bindC
    rw [bindC_out fun v hv => (List.nodup_cons.mp nd).1 (List.of_mem_zip hv).1, if_neg hk]
    simp
  | p :: P, w :: vs, i + 1, m, nd, h1, h2, hk => by
    show bindC kindOf ((p, w) :: P.zip vs) m x = _
    unfold bindC
    exact bindC_get (i := i) (List.nodup_cons.mp nd).2 (by simpa using h1) (by simpa using h2) hk
def start (N : List Str) (vs : List V) : St := vs.map some ++ List.replicate (N.length - vs.length) none
def cxOf (CX : CXT) (P : Program) (w : World) (K : PySem.W.Frag) (mg : Str → Option Value) (base : Heap) (N : List Str) (qual : Str) (scope : Scope) (f : Addr) (cd : Value) (A : Around) (outer : List Env) (s : Shared) (H : Hp) (E : XK) : Cx where
  prog := P
  w := w
  K := K
  mg := mg
  base := base
  A := A.deeper (envOfC qual scope s.heap.objs.size f cd)
  N := N
  s_0 := s
  H_0 := H
  env := envOfC qual scope s.heap.objs.size f cd
  outer := outer
  stack := envOfC qual scope s.heap.objs.size f cd :: outer
  ex := []
  calm := true
  fn := fun _ => true
  pn := []
  xe := fun e s' => wpAny (model P w) (A.deeper (envOfC qual scope s.heap.objs.size f cd)) (leaving (envOfC qual scope s.heap.objs.size f cd) e) (fun _ s'' => CX outer H s E e s'') (fun e' s'' => CX outer H s E e' s'') s'
theorem cell_has {sc : Scope} {n : Nat} {x : Str} (h : sc.names.lookup x = some .cell) : ∃ c, (cellsFrom n sc.names []).lookup x = some c := by
  have q := PySem.W.cellsFrom_some sc.names n [] (.inl h)
  exact Option.isSome_iff_exists.mp q
theorem inv_start {CX : CXT} {P : Program} {w : World} {K : PySem.W.Frag} {mg : Str → Option Value} {base : Heap} {N ps : List Str} {qual : Str} {scope : Scope} {f : Addr} {cd : Value} {A : Around} {outer : List Env} {s s1 : Shared} {H : Hp} {E : XK} {us : List Value} {vs : List V}
    (S : FnScope N ps scope) (hd : A.handled = none) (e0 : Env0 P w K mg base A outer s H) (hl : vs.length = ps.length) (r : Vals vs us)
    (x : InCallC s s.heap.objs.size (bindL (envOfC qual scope s.heap.objs.size f cd).kindOf (ps.zip us) fun _ => none) (cellsFrom (s.heap.objs.size + 1) scope.names []) (bindC (envOfC qual scope s.heap.objs.size f cd).kindOf (ps.zip us) fun _ => none) s1) :
    Inv (cxOf CX P w K mg base N qual scope f cd A outer s H E) [] (start N vs) H s1 := by
  have hpl : ps.length ≤ N.length := by have := congrArg List.length S.pre; rw [List.length_take] at this; omega
  obtain ⟨h1, tk, rfl, hk⟩ := x.done
  have noA : ∀ b : Addr, b ∉ (cxOf CX P w K mg base N qual scope f cd A outer s H E).ex := fun b z => absurd (show b ∈ ([] : List Addr) from z) (by simp)
  refine ⟨⟨e0.mod, S.kind, rfl, rfl, Nat.le_refl _, fun y z c h1 h2 => ?_, fun y hy => ?_, fun y c _ h => ?_, fun _ => hd, Around.frames_deeper e0.frames, .inr ⟨rfl, rfl⟩, fun b z => absurd z (noA b), e0.bs, e0.bsz, fun b _ _ => noA b, fun b z => absurd z (noA b), e0.funs, e0.frf⟩,
    rfl, e0.bare, Un.kept hk, ⟨_, x.toInCall.ns, fun i y v h1 h2 h3 => ?_⟩, fun y c h => ⟨_, x.cell y c h⟩, e0.hok.fresh (Nat.le_refl _), fun y c h => ?_, fun p hp => absurd (show p ∈ ([] : List (Addr × Obj)) from hp) (by simp), e0.hok.kept hk, ?_⟩
  · exact name_of_addr x.apart (PySem.mem_of_lookup h1) (PySem.mem_of_lookup h2)
  · have hy : scope.names.lookup y = some .cell ∨ scope.names.lookup y = some .free := hy
    rcases hy with hy | hy
    · exact cell_has hy
    · exact absurd rfl (S.nofree _ (PySem.mem_of_lookup hy))
  · exact Nat.le_of_lt (x.above y c (PySem.mem_of_lookup h))
  · have hi : i < vs.length := by
      unfold start at h2
      by_cases hi : i < vs.length
      · exact hi
      · rw [List.getElem?_append_right (by simpa using hi)] at h2
        rw [List.getElem?_replicate] at h2
        split at h2 <;> cases h2
    have ha : vs[i]? = some v := by
      unfold start at h2
      rw [List.getElem?_append_left (by simpa using hi), List.getElem?_map] at h2
      cases e : vs[i]? with
      | none => rw [e] at h2; cases h2
      | some a => rw [e] at h2; cases h2; rfl
    obtain ⟨u, hu, rv⟩ := r.get ha
    have hp : ps[i]? = some y := by
      rw [← S.pre, List.getElem?_take_of_lt (by omega)]; exact h1
    have ndP : ps.Nodup := by rw [← S.pre]; exact S.nd.sublist (List.take_sublist _ _)
    refine ⟨u, rv, ?_⟩
    rcases S.par y (List.mem_of_getElem? hp) with k | k
    · exact .inl ⟨k, bindL_get ndP hp hu k⟩
    · obtain ⟨c, e⟩ := cell_has (n := s.heap.objs.size + 1) k
      refine .inr ⟨.inl k, c, e, ?_⟩
      have q := x.cell y c e
      rw [bindC_get ndP hp hu (by show scope.names.lookup y ≠ _; rw [k]; decide)] at q
      exact q
  · exact e0.hok.fresh (Nat.le_of_lt (x.above y c (PySem.mem_of_lookup h)))
  · unfold start
    show _ = N.length
    rw [List.length_append, List.length_map, List.length_replicate]
    omega
theorem fn_of {CX : CXT} {P : Program} {w : World} {K : PySem.W.Frag} {mg : Str → Option Value} {base : Heap} {k : Nat} {f : Addr} {name qual : Str} {params : Arguments} {body : List Stmt} {scope : Scope} {dV kV doc pm cdv ct oc : Value} {an od : Option Addr}
    {osl : Array (Option Value)} {N ps : List Str} {sp : Sp} (lk : K.lookup f = some ⟨oc, od, .func (PySem.W.fnOf name qual params body scope dV kV doc pm an cdv ct), osl⟩) (hcd : PySem.W.codeIn K cdv qual = true) (S : FnScope N ps scope)
    (len : ∀ vs H Q E, sp vs H Q E → vs.length = ps.length)
    (hbody : ∀ (A : Around) (outer : List Env) (s : Shared) (H : Hp) (vs : List V) (Q : VK) (E : XK), Room k (A.deeper (envOfC qual scope s.heap.objs.size f cdv)) → sp vs H Q E →
      ∃ t, PSs (cxOf CX P w K mg base N qual scope f cdv A outer s H E) body t ∧ t { nx := fun _ H' => Q .non H', rt := Q } (start N vs) H) :
    FnOk P w K mg base CX (k + 1) f (PySem.W.fnOf name qual params body scope dV kV doc pm an cdv ct) ps sp := by
  refine ⟨len, fun A outer s H args us vs Q E hr e0 hb r hsp => ?_⟩
  have hl := len _ _ _ _ hsp
  have KX : K.In s.heap := e0.mod.kin.keeps fun b o e => (e0.bs b o e).1
  have lim : s.heap.NoLimit := e0.mod.nolimit.keeps fun b o e => (e0.bs b o e).1
  have hkind : ∀ y ∈ ps.zip us, scope.names.lookup y.1 = some .local ∨ (scope.names.lookup y.1 = some .cell ∧ ((cellsFrom (s.heap.objs.size + 1) scope.names []).lookup y.1).isSome = true) := fun ⟨n, v⟩ hy => by
    rcases S.par n (List.of_mem_zip hy).1 with q | q
    · exact .inl q
    · exact .inr ⟨q, PySem.W.cellsFrom_some _ _ _ (.inl q)⟩
  refine codeAny_call_function hr.depth (KX _ _ lk) rfl S.co S.gen rfl (PySem.W.codeRec_of KX hcd) (hb _ _ _ _ ?_)
  refine wpAny_newFunctionEnv_cells S.kind hkind fun env he s1 x => ?_
  subst he
  refine ⟨lim.keeps x.toInCall.keep, codeAny_func ?_⟩
  obtain ⟨t, ht, hq⟩ := hbody A outer s H vs Q E (hr.deeper _) hsp
  have I : Inv (cxOf CX P w K mg base N qual scope f cdv A outer s H E) [] (start N vs) H s1 := inv_start S hr.hd e0 hl r x
  refine wpAny_mono (ht [] s1 (start N vs) H _ I hq) (fun fl s' hs => ?_) fun e s' hs => hs
  have fin : ∀ {σ' : St} {H' : Hp} {v : V} {u : Value}, Inv (cxOf CX P w K mg base N qual scope f cdv A outer s H E) [] σ' H' s' → RelV v u → Q v H' → CE outer P w H s Q u s' :=
    fun {σ' H' v u} J rv q => ⟨v, H', J.os, J.bare, J.base, J.hok, rv, q⟩
  cases fl with
  | ret u =>
    obtain ⟨v, σ', H', J, rv, q⟩ := hs
    exact fin J rv q
  | next =>
    obtain ⟨σ', H', J, q⟩ := hs
    exact fin (v := V.non) (u := Value.none) J rfl q
  | brk =>
    obtain ⟨_, _, _, q⟩ := hs
    exact False.elim q
  | cont =>
    obtain ⟨_, _, _, q⟩ := hs
    exact False.elim q
end L2
namespace L2
open PySem PySem.Spec PyProof.Rows
section
variable {X : Cx} {x : Str} {p pos : Pos} {e : Expr} {es : List Expr} {t : TA} {id T : String} {r : List V → Hp → VK → Prop}
def tCB (r : List V → Hp → VK → Prop) (t : TA) : TE := fun σ H Q => t σ H fun vs H1 => r vs H1 Q
theorem pe_callB (hc : CallR X (.builtin id) r) (hg : Gl X x) (hm : X.mg x = none) (hv : bootBuiltins x = some (.builtin id)) (ha : PA X (e :: es) t) (hn : x ≠ "__name__" := by decide) (hdb : (x == ("__debug__" : Str)) = false := by decide)
    (he : starEach (e :: es) X.env = (false, eval e X.env) :: starEach es X.env := by rfl) (hpl : (backTo pos (starEach es X.env)).any (·.1) = false := by rfl) : PE X (.Call (.Name x p) (e :: es) [] pos) (tCB r t) := by
  intro pins s σ H Q I h
  refine wpAny_Call_Name_kw (ld_blt I hg hm hv ?_ hn hdb)
  exact PyProof.Rows.callWith_builtin1 (thn (ha pos pins s σ H _ I h) fun us s1 ⟨vs, H1, I1, r1, q1⟩ => hc pins s1 σ H1 vs us Q I1 r1 q1) he hpl
theorem pe_callTy (hc : CallR X (.type T) r) (hg : Gl X x) (hm : X.mg x = none) (hv : bootBuiltins x = some (.type T)) (ha : PA X (e :: es) t) (hn : x ≠ "__name__" := by decide) (hdb : (x == ("__debug__" : Str)) = false := by decide)
    (he : starEach (e :: es) X.env = (false, eval e X.env) :: starEach es X.env := by rfl) (hpl : (backTo pos (starEach es X.env)).any (·.1) = false := by rfl) : PE X (.Call (.Name x p) (e :: es) [] pos) (tCB r t) := by
  intro pins s σ H Q I h
  refine wpAny_Call_Name_kw (ld_blt I hg hm hv ?_ hn hdb)
  exact PyProof.Rows.callWith_type1 (thn (ha pos pins s σ H _ I h) fun us s1 ⟨vs, H1, I1, r1, q1⟩ => hc pins s1 σ H1 vs us Q I1 r1 q1) he hpl
end
end L2
namespace HT
open PySem PyProof.Rows
section
open PySem.SeqAt
open PySem.AutoSeq1 (wpAny_loadPart')
open PySem.MeetsSeq PySem.MeetsSeq2 PySem.MeetsSeq3
end
section
variable {prog : Program} {w : World} {A : Around} {E : Value → Shared → Prop} {s : Shared}
def sIx (n d : Nat) : Option Int → Nat
  | none => d
  | some v => if v < 0 then (v + (n : Int)).toNat else min v.toNat n
end
end HT
namespace L2
open PySem PySem.Spec PyProof.Rows
abbrev TO := St → Hp → (Option Int → Hp → Prop) → Prop
def PO (X : Cx) (e : Option Expr) (t : TO) : Prop :=
  ∀ (pins : List (Addr × Obj)) (s : Shared) (σ : St) (H : Hp) (Q : Option Int → Hp → Prop), Inv X pins σ H s → t σ H Q →
    wpAny (model X.prog X.w) X.A (evalPart e X.env) (fun u s' => ∃ o H', Inv X pins σ H' s' ∧ IsPart u o ∧ Q o H') X.xe s
def tPart (t : TE) : TO := fun σ H Q => t σ H fun x H1 => ∃ i, x = .int i ∧ Q (some i) H1
section
variable {X : Cx} {e : Expr} {te : TE} {lo hi : Option Expr} {tl th : TO} {pos p2 : Pos}
theorem po_some (h : PE X e te) : PO X (some e) (tPart te) := by
  intro pins s σ H Q I hw
  rw [evalPart_some]
  refine thn (h pins s σ H _ I hw) fun u s1 ⟨x, H1, I1, r1, q1⟩ => ?_
  obtain ⟨i, rfl, q⟩ := q1
  obtain ⟨t, rfl⟩ := r1
  exact ⟨some i, H1, I1, .int i t, q⟩
def SlR (X : Cx) (r : V → Option Int → Option Int → Hp → VK → Prop) : Prop :=
  ∀ (pins : List (Addr × Obj)) (s : Shared) (σ : St) (H : Hp) (x : V) (v vl vu : Value) (lo hi : Option Int) (sl : Addr) (Q : VK), Inv X pins σ H s → RelV x v → s.heap.IsSliceOf sl vl vu .none → IsPart vl lo → IsPart vu hi → r x lo hi H Q →
    ∃ T id, typeLookup (.type T) "__getitem__" = pure (some (.builtin id)) ∧ s.TypeIs v T ∧ wpAny (model X.prog X.w) X.A (getItem v (.ref sl)) (EP X pins σ Q) X.xe s
def tSl (r : V → Option Int → Option Int → Hp → VK → Prop) (te : TE) (tl th : TO) : TE := fun σ H Q => te σ H fun x H1 => tl σ H1 fun l H2 => th σ H2 fun u H3 => r x l u H3 Q
theorem pe_slice {r : V → Option Int → Option Int → Hp → VK → Prop} (hr : SlR X r) (he : PE X e te) (hl : PO X lo tl) (hu : PO X hi th) : PE X (.Subscript e (.Slice lo hi none p2) pos) (tSl r te tl th) := by
  intro pins s σ H Q I h
  refine Subscript_ (thn (he pins s σ H _ I h) fun v s1 ⟨x, H1, I1, r1, q1⟩ => ?_)
  refine wpAny_Slice (thn (hl pins s1 σ H1 _ I1 q1) fun vl s2 ⟨l, H2, I2, pl, q2⟩ => thn (hu pins s2 σ H2 _ I2 q2) fun vu s3 ⟨u, H3, I3, pu, q3⟩ => ?_)
  rw [evalPart_none]
  refine wpAny_pure ?_
  have I4 : Inv X pins σ H3 { s3 with heap := s3.heap.push { cls := .type "slice", data := .fields #[vl, vu, .none] } } := I3.kept (t' := s3.toks) fun b ob q => Heap.get?_push_of_some _ q
  obtain ⟨T, id, hT, ht, hg⟩ := hr pins { s3 with heap := s3.heap.push { cls := .type "slice", data := .fields #[vl, vu, .none] } } σ H3 x v vl vu l u s3.heap.objs.size Q I4 r1 (Heap.IsSliceOf.new ..) pl pu q3
  show wpAny (model X.prog X.w) X.A (subscriptTail e (.Slice lo hi none p2) v (.ref s3.heap.objs.size)) (EP X pins σ Q) X.xe { s3 with heap := s3.heap.push { cls := .type "slice", data := .fields #[vl, vu, .none] } }
  exact tail_any (ops := [.ref s3.heap.objs.size, v]) ht hT hg (by with_unfolding_all rfl)
def cutV (xs : List V) (lo hi : Option Int) : List V := (xs.drop (HT.sIx xs.length 0 lo)).take (HT.sIx xs.length xs.length hi - HT.sIx xs.length 0 lo)
theorem cutV_length (xs : List V) (lo hi : Option Int) : (cutV xs lo hi).length ≤ xs.length := by
  unfold cutV
  rw [List.length_take, List.length_drop]
  omega
end
end L2
namespace L2
open PySem PySem.Spec PyProof.Rows
def ixN (n : Nat) (i : Int) : Option Nat := if 0 ≤ i then (if i < n then some i.toNat else none) else if -(n : Int) ≤ i then some (i + n).toNat else none
def atI {α : Type} (xs : List α) (i : Int) : Option α := (ixN xs.length i).bind fun j => xs[j]?
theorem ixN_seq {n : Nat} {i : Int} {j : Nat} (h : ixN n i = some j) : seqIndex? i n = some j ∧ j < n ∧ -(n : Int) ≤ i ∧ i < n := by
  unfold ixN at h
  by_cases h0 : 0 ≤ i
  · rw [if_pos h0] at h
    by_cases h1 : i < n
    · rw [if_pos h1] at h
      have e : i.toNat = j := Option.some.inj h
      exact ⟨by rw [seqIndex_of h0 h1, e], by omega, by omega, h1⟩
    · rw [if_neg h1] at h; cases h
  · rw [if_neg h0] at h
    by_cases h1 : -(n : Int) ≤ i
    · rw [if_pos h1] at h
      have e : (i + n).toNat = j := Option.some.inj h
      exact ⟨by rw [seqIndex_neg (by omega) h1, e], by omega, h1, by omega⟩
    · rw [if_neg h1] at h; cases h
theorem atI_get {α : Type} {xs : List α} {i : Int} {v : α} (h : atI xs i = some v) : ∃ j, seqIndex? i xs.length = some j ∧ xs[j]? = some v ∧ j < xs.length ∧ -(xs.length : Int) ≤ i ∧ i < xs.length := by
  unfold atI at h
  cases e : ixN xs.length i with
  | none => rw [e] at h; cases h
  | some j =>
    rw [e] at h
    obtain ⟨h1, h2, h3, h4⟩ := ixN_seq e
    exact ⟨j, h1, h, h2, h3, h4⟩
def PlainIx (b : Expr) : Prop := ∀ o i, subscripted b false o i = operate [o, i] (getItem o i)
def IxR (X : Cx) (r : R2) : Prop :=
  ∀ (value slice : Expr) (pins : List (Addr × Obj)) (s : Shared) (σ : St) (H : Hp) (x y : V) (v u : Value) (Q : VK), Inv X pins σ H s → RelV x v → RelV y u → r x y H Q →
    subscripted slice false v u = operate [v, u] (getItem v u) → wpAny (model X.prog X.w) X.A (subscriptTail value slice v u) (EP X pins σ Q) X.xe s
def MtR (X : Cx) (id : String) (r : V → List V → Hp → VK → Prop) : Prop :=
  ∀ (pins : List (Addr × Obj)) (s : Shared) (σ : St) (H : Hp) (x : V) (xs : List V) (v : Value) (us : List Value) (Q : VK), Inv X pins σ H s → RelV x v → Vals xs us → r x xs H Q →
    wpAny (model X.prog X.w) X.A (call (.builtin id) (v :: us)) (EP X pins σ Q) X.xe s
section
variable {X : Cx} {a b : Expr} {ta tb : TE} {pos : Pos}
theorem pe_ix {r : R2} (hr : IxR X r) (ha : PE X a ta) (hb : PE X b tb) (hs : PlainIx b) : PE X (.Subscript a b pos) (tOp r ta tb) := by
  intro pins s σ H Q I h
  exact Subscript_ (binT ha hb I h fun v u s2 x y H2 I2 rx ry q => hr a b pins s2 σ H2 x y v u Q I2 rx ry q (hs _ _))
def rIxL (K : PySem.W.Frag) : R2 := fun x y H Q => ∃ p xs i v, x = .ref p ∧ y = .int i ∧ SqL K H p xs ∧ atI xs i = some v ∧ Q v H
def rIxT (K : PySem.W.Frag) : R2 := fun x y H Q => ∃ p xs i v, x = .ref p ∧ y = .int i ∧ SqT K H p xs ∧ atI xs i = some v ∧ Q v H
theorem ix_list : IxR X (rIxL X.K) := by
  intro value slice pins s σ H x y v u Q I rx ry h hs
  obtain ⟨p, xs, i, z, rfl, rfl, hq, he, q⟩ := h
  cases rx
  obtain ⟨t, rfl⟩ := ry
  obtain ⟨its, r, pl, hz⟩ := I.list hq
  obtain ⟨j, h1, h2, h3, h4, h5⟩ := atI_get he
  obtain ⟨w, ew, rw'⟩ := r.get h2
  have hl := r.length
  have hn := line63
  have fin : EP X pins σ Q w s := ⟨z, H, I, rw', q⟩
  by_cases h0 : 0 ≤ i
  · have hj : i.toNat = j := by
      rw [seqIndex_of h0 h5] at h1
      exact Option.some.inj h1
    exact item_listR pl.isList h0 (by omega) (by rw [hj]; simpa using ew) fin hs
  · have hj : (i + (its.toArray.size : Int)).toNat = j := by
      rw [seqIndex_neg (by omega) h4] at h1
      rw [List.size_toArray, ← hl]
      exact Option.some.inj h1
    exact subscriptTail_builtinR (x := w) pl.isList.typeIs slot_list_getitem.lookup
      (wpAny_getItem_list_neg (Q := fun r s' => r = w ∧ EP X pins σ Q r s') pl.isList (by omega) (by rw [List.size_toArray] <;> omega) (by omega) (by rw [hj]; simpa using ew) ⟨rfl, fin⟩) hs
theorem ix_tup : IxR X (rIxT X.K) := by
  intro value slice pins s σ H x y v u Q I rx ry h hs
  obtain ⟨p, xs, i, z, rfl, rfl, hq, he, q⟩ := h
  cases rx
  obtain ⟨t, rfl⟩ := ry
  obtain ⟨its, r, pl, hz⟩ := I.tuple hq
  obtain ⟨j, h1, h2, h3, h4, h5⟩ := atI_get he
  obtain ⟨w, ew, rw'⟩ := r.get h2
  have hl := r.length
  have hn := line63
  have fin : EP X pins σ Q w s := ⟨z, H, I, rw', q⟩
  exact subscriptTail_builtinR (x := w) pl.typeIs slot_tuple_getitem.lookup
    (getItem_tuple (j := j) (Q := fun r s' => r = w ∧ EP X pins σ Q r s') pl (by omega) (by omega) (by rw [List.size_toArray, ← hl]; exact h1) (by simpa using ew) ⟨rfl, fin⟩) hs
theorem mapSeq_set (its : List Value) (n j : Nat) (u : Value) : Obj.mapSeq (·.setIfInBounds j u) { cls := .type "list", data := .seq its.toArray n } = { cls := .type "list", data := .seq (its.set j u).toArray n } := by
  simp [Obj.mapSeq]
theorem Inv.lst {pins : List (Addr × Obj)} {σ : St} {H : Hp} {s : Shared} {p : Addr} {xs : List V} (I : Inv X pins σ H s) (h : H p = some (.lst xs)) :
    ∃ (its : List Value) (n : Nat), Vals xs its ∧ s.heap.get? p = some { cls := .type "list", data := .seq its.toArray n } ∧ xs.length ≤ sizeLine := by
  obtain ⟨z, its, n, r, e⟩ := I.hok p _ h
  exact ⟨its, n, r, e, z⟩
theorem Inv.lstUpd {pins : List (Addr × Obj)} {σ : St} {H : Hp} {s : Shared} {p : Addr} {xs ys : List V} {its its' : List Value} {n n' : Nat} {f : Obj → Obj} (I : Inv X pins σ H s) (h : H p = some (.lst xs))
    (ho : s.heap.get? p = some { cls := .type "list", data := .seq its.toArray n }) (hf : f { cls := .type "list", data := .seq its.toArray n } = { cls := .type "list", data := .seq its'.toArray n' }) (r : Vals ys its') (hz : ys.length ≤ sizeLine) (t : Nat) :
    Inv X pins σ (upd H p (.lst ys)) { s with heap := s.heap.update p f, toks := t } := by
  have e : (s.heap.update p f).get? p = some { cls := .type "list", data := .seq its'.toArray n' } := by
    rw [Heap.get?_update_self f ho (by rw [hf] <;> rfl), hf]
  refine I.write (x := p) (e := p) (by rw [h]; trivial) (.inl rfl) (fun b u hb q => (Heap.get?_update_other _ _ (Ne.symm hb)).trans q) ⟨_, e⟩ ?_
  exact ⟨hz, its', n', r, e⟩
def rSetL : V → V → V → Hp → (Hp → Prop) → Prop := fun o i v H Q => ∃ p xs k j, o = .ref p ∧ i = .int k ∧ H p = some (.lst xs) ∧ ixN xs.length k = some j ∧ Q (upd H p (.lst (xs.set j v)))
theorem set_list : PSet X rSetL := by
  intro pins s σ H o i v ov iv u Q I ro ri rv h
  obtain ⟨p, xs, k, j, rfl, rfl, hp, hj, q⟩ := h
  cases ro
  obtain ⟨t, rfl⟩ := ri
  obtain ⟨its, n, r, ho, hz⟩ := I.lst hp
  obtain ⟨h1, h2, h3, h4⟩ := ixN_seq hj
  have hl := r.length
  have hn := line63
  have I' : Inv X pins σ (upd H p (.lst (xs.set j v))) { s with heap := s.heap.update p (Obj.mapSeq (·.setIfInBounds j u)) } :=
    I.lstUpd hp ho (mapSeq_set its n j u) (r.set rv j) (by rw [List.length_set]; exact hz) s.toks
  by_cases h0 : 0 ≤ k
  · have hk : k.toNat = j := by
      rw [seqIndex_of h0 h4] at h1
      exact Option.some.inj h1
    exact PySem.W.ki_setAt ho h0 (by omega) (by rw [List.size_toArray, ← hl]; exact h4) (by rw [hk]; exact ⟨_, I', q⟩)
  · have hk : (k + (its.toArray.size : Int)).toNat = j := by
      rw [seqIndex_neg (by omega) h3] at h1
      rw [List.size_toArray, ← hl]
      exact Option.some.inj h1
    exact PySem.W.ki_setBack ho (by omega) (by rw [List.size_toArray, ← hl]; exact h3) (by omega) (by rw [hk]; exact ⟨_, I', q⟩)
theorem slice_bounds (lo hi : Option Int) (n : Nat) : (sliceBounds lo hi none n).1 = ((HT.sIx n 0 lo : Nat) : Int) ∧ (sliceBounds lo hi none n).2.1 = ((HT.sIx n n hi : Nat) : Int) ∧ (sliceBounds lo hi none n).2.2 = 1 := by
  refine ⟨?_, ?_, rfl⟩
  · cases lo with
    | none => simp [sliceBounds, HT.sIx]
    | some i =>
      simp only [sliceBounds, HT.sIx, Option.getD_none, show (1 : Int) > 0 by decide, if_true]
      by_cases h : i < 0
      · simp only [h, if_true] <;> omega
      · simp only [h, if_false] <;> omega
  · cases hi with
    | none => simp [sliceBounds, HT.sIx]
    | some i =>
      simp only [sliceBounds, HT.sIx, Option.getD_none, show (1 : Int) > 0 by decide, if_true]
      by_cases h : i < 0
      · simp only [h, if_true] <;> omega
      · simp only [h, if_false] <;> omega
theorem slicePick_cut (its : List Value) (lo hi : Option Int) : slicePick its.toArray lo hi none = ((its.drop (HT.sIx its.length 0 lo)).take (HT.sIx its.length its.length hi - HT.sIx its.length 0 lo)).toArray := by
  obtain ⟨h1, h2, h3⟩ := slice_bounds lo hi its.toArray.size
  unfold slicePick
  rw [h1, h2, h3]
  simp only [sliceRange_one, pick_run, List.size_toArray] <;> rfl
def rSlL (K : PySem.W.Frag) : V → Option Int → Option Int → Hp → VK → Prop := fun x lo hi H Q => ∃ a xs, x = .ref a ∧ SqL K H a xs ∧ ∀ p, H p = none → Q (.ref p) (upd H p (.lst (cutV xs lo hi)))
theorem sl_list : SlR X (rSlL X.K) := by
  intro pins s σ H x v vl vu lo hi sl Q I rx hs pl pu h
  obtain ⟨a, xs, rfl, hx, q⟩ := h
  cases rx
  obtain ⟨its, r, ht, hz⟩ := I.list hx
  have hlen := r.length
  refine ⟨"list", _, slot_list_getitem.lookup, ht.isList.typeIs, ?_⟩
  refine wpAny_getItem_list_slice ht.isList hs pl pu .none (by simp) ?_ (by rw [List.size_toArray] <;> omega)
  rw [slicePick_cut, ← hlen]
  refine ⟨.ref s.heap.objs.size, _, I.laid (t' := s.toks) (o := .lst (cutV xs lo hi)) (fun b ob q => Heap.get?_push_of_some _ q) (Nat.le_refl _) ?_, rfl, q _ (I.hok.fresh (Nat.le_refl _))⟩
  exact ⟨Nat.le_trans (cutV_length xs lo hi) hz, _, 0, (r.drop (HT.sIx xs.length 0 lo)).take (HT.sIx xs.length xs.length hi - HT.sIx xs.length 0 lo), Heap.get?_push_size _ rfl⟩
theorem call_len_seq : CallR X (.builtin "len") (fun xs H Q => ∃ p ys, xs = [.ref p] ∧ (SqL X.K H p ys ∨ SqT X.K H p ys) ∧ Q (.int ys.length) H) := by
  intro pins s σ H xs us Q I r h
  obtain ⟨p, ys, rfl, hq, q⟩ := h
  obtain ⟨u, rfl, rx⟩ := vals1 r
  cases rx
  have hn := line63
  rcases hq with hq | hq
  · obtain ⟨its, r', pl, hz⟩ := I.list hq
    have hlen := r'.length
    exact Calls.call_len_list pl.isList (by simp only [List.size_toArray] <;> omega) ⟨.int ys.length, H, I.tok _, ⟨s.toks + 1, by rw [List.size_toArray, hlen]⟩, q⟩
  · obtain ⟨its, r', pl, hz⟩ := I.tuple hq
    have hlen := r'.length
    exact len_tuple pl (by simp only [List.size_toArray] <;> omega) ⟨.int ys.length, H, I.tok _, ⟨s.toks + 1, by rw [List.size_toArray, hlen]⟩, q⟩
theorem call_list_of : CallR X (.type "list") (fun xs H Q => ∃ p ys, xs = [.ref p] ∧ (SqL X.K H p ys ∨ SqT X.K H p ys) ∧ ∀ l, H l = none → Q (.ref l) (upd H l (.lst ys))) := by
  intro pins s σ H xs us Q I r h
  obtain ⟨p, ys, rfl, hq, q⟩ := h
  obtain ⟨u, rfl, rx⟩ := vals1 r
  cases rx
  have fin : ∀ (its : List Value), Vals ys its → ys.length ≤ sizeLine → ∀ (h' : Heap) (c' : Nat), (∀ b o', s.heap.get? b = some o' → h'.get? b = some o') →
      h'.get? s.heap.objs.size = some { cls := .type "list", dict := none, data := .seq its.toArray c', slots := #[] } → EP X pins σ Q (.ref s.heap.objs.size) { s with heap := h' } := fun its r' hz h' c' kp e =>
    ⟨.ref s.heap.objs.size, _, I.laid (t' := s.toks) kp (Nat.le_refl _) (show ObjOk X.prog X.w _ h' _ (.lst ys) from ⟨hz, its, c', r', e⟩), rfl, q _ (I.hok.fresh (Nat.le_refl _))⟩
  rcases hq with hq | hq
  · obtain ⟨its, r', pl, hz⟩ := I.list hq
    have hlen := r'.length
    obtain ⟨o, ho, hc, n, hd⟩ := pl.isList
    exact call_list_seq p (.inl rfl) ho hc hd (fun h' c' kp e => fin its r' hz h' c' kp e) (by simp only [List.size_toArray] <;> omega)
  · obtain ⟨its, r', pl, hz⟩ := I.tuple hq
    have hlen := r'.length
    obtain ⟨o, ho, hc, n, hd⟩ := pl
    exact call_list_seq p (.inr rfl) ho hc hd (fun h' c' kp e => fin its r' hz h' c' kp e) (by simp only [List.size_toArray] <;> omega)
def tyV (K : PySem.W.Frag) (T : String) (x : V) (H : Hp) : Prop := match x with
  | .str _ => T = "str"
  | .int _ => T = "int"
  | .ref p => (T = "list" ∧ ∃ xs, SqL K H p xs) ∨ (T = "tuple" ∧ ∃ o, K.lookup p = some o ∧ o.cls = .type "tuple" ∧ o.dict = none) ∨
      (T = "dict" ∧ ((∃ kvs, H p = some (.dK kvs)) ∨ ∃ kvs, H p = some (.dT kvs))) ∨ (T = "set" ∧ ∃ S n, H p = some (.set S n))
  | _ => False
theorem tyV_is {pins : List (Addr × Obj)} {σ : St} {H : Hp} {s : Shared} {T : String} {x : V} {v : Value} (I : Inv X pins σ H s) (r : RelV x v) (ty : tyV X.K T x H) :
    s.TypeIs v T ∧ ∀ a, v = .ref a → ∃ ob, s.heap.get? a = some ob ∧ ob.dict = none := by
  cases x with
  | str z =>
    obtain ⟨t, rfl⟩ := r
    cases (show T = "str" from ty)
    exact ⟨typeIs_str s z t, fun _ e => nomatch e⟩
  | int i =>
    obtain ⟨t, rfl⟩ := r
    cases (show T = "int" from ty)
    exact ⟨typeIs_int s i t, fun _ e => nomatch e⟩
  | ref p =>
    cases r
    rcases ty with ⟨rfl, xs, hq⟩ | ⟨rfl, o, hk, hc, hd⟩ | ⟨rfl, hk⟩ | ⟨rfl, S, n, hk⟩
    · obtain ⟨its, _, pl, _⟩ := I.list hq
      refine ⟨pl.isList.typeIs, fun a e => ?_⟩
      cases e
      obtain ⟨o, n, e, c, hd, _⟩ := pl
      exact ⟨o, e, hd⟩
    · refine ⟨⟨o, I.kIn p o hk, hc⟩, fun a e => ?_⟩
      cases e
      exact ⟨o, I.kIn _ o hk, hd⟩
    · have z : ∃ o, s.heap.get? p = some o ∧ o.ExactDict := by
        rcases hk with ⟨kvs, hk⟩ | ⟨kvs, hk⟩
        · obtain ⟨_, _, _, _, o, _, _, e, ex, _⟩ := I.hok p _ hk
          exact ⟨o, e, ex⟩
        · obtain ⟨_, _, _, _, o, _, _, e, ex, _⟩ := I.hok p _ hk
          exact ⟨o, e, ex⟩
      obtain ⟨o, e, ex⟩ := z
      refine ⟨⟨o, e, ex.1⟩, fun a e2 => ?_⟩
      cases e2
      exact ⟨o, e, ex.2.1⟩
    · obtain ⟨o, _, _, _, e, ex, _⟩ := I.hok p _ hk
      refine ⟨⟨o, e, ex.1⟩, fun a e2 => ?_⟩
      cases e2
      exact ⟨o, e, ex.2.1⟩
  | _ => exact False.elim ty
def tBM0 (K : PySem.W.Frag) (T : String) (r : V → List V → Hp → VK → Prop) (to : TE) : TE := fun σ H Q => to σ H fun x H1 => tyV K T x H1 ∧ r x [] H1 Q
def tBM (K : PySem.W.Frag) (T : String) (r : V → List V → Hp → VK → Prop) (to : TE) (t : TA) : TE := fun σ H Q => to σ H fun x H1 => tyV K T x H1 ∧ t σ H1 fun xs H2 => r x xs H2 Q
variable {o e : Expr} {es : List Expr} {to : TE} {t : TA} {name : Str} {apos cpos : Pos} {T id : String} {r : V → List V → Hp → VK → Prop}
theorem pe_bm0 (pa : PlainAttrs T) (slot : Slot T name id) (hty : typeOf (.builtin id) = pure (.type "method_descriptor")) (hm : MtR X id r) (ho : PE X o to)
    (hbase : attributeBase o name X.env (eval o X.env) = eval o X.env := by rfl) (hline : (apos.endLine == cpos.line) = true := by rfl) : PE X (.Call (.Attribute o name apos) [] [] cpos) (tBM0 X.K T r to) := by
  intro pins s σ H Q I h
  refine wpAny_Call_method0_late hbase hline (thn (ho pins s σ H _ I h) fun v s1 ⟨x, H1, I1, r1, ty, q1⟩ => ?_)
  obtain ⟨h1, h2⟩ := tyV_is I1 r1 ty
  exact ⟨T, id, pa, slot, hty, h1, h2, Calls.callWith_builtin rfl (PySem.evalArgs_none (hm pins s1 σ H1 x [] v [] Q I1 r1 .nil q1))⟩
theorem pe_bm (pa : PlainAttrs T) (slot : Slot T name id) (hty : typeOf (.builtin id) = pure (.type "method_descriptor")) (hm : MtR X id r) (ho : PE X o to) (ha : PA X (e :: es) t)
    (hbase : attributeBase o name X.env (eval o X.env) = eval o X.env := by rfl)
    (hfew : ((backTo cpos (starEach (e :: es) X.env)).all (fun x => !x.1) && (backToKw cpos (keywordEach [] X.env)).all (fun x => x.1.isSome)
      && decide ((e :: es).length + ([] : List Keyword).length + (if ([] : List Keyword).isEmpty then 0 else 1) < 30)) = true := by rfl)
    (hline : (apos.endLine == cpos.line) = true := by rfl) (hs : starEach (e :: es) X.env = (false, eval e X.env) :: starEach es X.env := by rfl) (hplain : (backTo cpos (starEach es X.env)).any (·.1) = false := by rfl) :
    PE X (.Call (.Attribute o name apos) (e :: es) [] cpos) (tBM X.K T r to t) := by
  intro pins s σ H Q I h
  refine wpAny_Call_method_late hbase hfew hline rfl (thn (ho pins s σ H _ I h) fun v s1 ⟨x, H1, I1, r1, ty, q1⟩ => ?_)
  obtain ⟨h1, h2⟩ := tyV_is I1 r1 ty
  refine ⟨T, id, pa, slot, hty, h1, h2, ?_⟩
  have hA := ha cpos pins s1 σ H1 _ I1 q1
  rw [hs] at hA ⊢
  refine Calls.callWith_builtin (by show (false || (backTo cpos (starEach es X.env)).any (·.1)) = false; rw [hplain] <;> rfl) (Calls.evalArgs_plain ?_)
  exact thn hA fun us s2 ⟨vs, H2, I2, r2, q2⟩ => hm pins s2 σ H2 x vs v us Q I2 r1 r2 q2
end
end L2
namespace L2
open PySem PySem.Spec PyProof.Rows
def MtM (X : Cx) (id : String) (r : V → List V → Hp → VK → Prop) : Prop :=
  ∀ (pins : List (Addr × Obj)) (s : Shared) (σ : St) (H : Hp) (x : V) (xs : List V) (v : Value) (us : List Value) (Q : VK), Inv X pins σ H s → RelV x v → Vals xs us → r x xs H Q →
    wpAny (model X.prog X.w) X.A (call (.builtin id) (v :: us)) (EP X pins σ Q) X.xe s
theorem Vals.one : ∀ {x : V} {us : List Value}, Vals [x] us → ∃ u, us = [u] ∧ RelV x u
  | _, _, .cons r .nil => ⟨_, rfl, r⟩
theorem Vals.zero : ∀ {us : List Value}, Vals [] us → us = []
  | _, .nil => rfl
theorem Vals.dropLast {xs : List V} {us : List Value} (h : Vals xs us) : Vals xs.dropLast us.dropLast := by
  induction h with
  | nil => exact .nil
  | cons r t ih =>
    cases t with
    | nil => exact .nil
    | cons q t' => exact .cons r ih
theorem Vals.rep {xs : List V} {us : List Value} (h : Vals xs us) : ∀ k : Nat, Vals (List.replicate k xs).flatten (List.replicate k us).flatten
  | 0 => .nil
  | k + 1 => by
    rw [List.replicate_succ, List.replicate_succ, List.flatten_cons, List.flatten_cons]
    exact Vals.append h (Vals.rep h k)
theorem erase_last {α : Type} (l : List α) : l.eraseIdx (l.length - 1) = l.dropLast := by
  induction l with
  | nil => rfl
  | cons a r ih =>
    cases r with
    | nil => rfl
    | cons b r =>
      have e : (a :: b :: r).length - 1 = ((b :: r).length - 1) + 1 := by
        have h1 : (a :: b :: r).length = r.length + 2 := rfl
        have h2 : (b :: r).length = r.length + 1 := rfl
        omega
      rw [e, List.eraseIdx_cons_succ, ih]
      all_goals rfl
theorem foldl_rep (its : List Value) : ∀ (k : Nat) (acc : List Value),
    List.foldl (fun x1 x2 => x1 ++ x2) acc.toArray (List.replicate k its.toArray) = (acc ++ (List.replicate k its).flatten).toArray
  | 0, acc => by simp
  | k + 1, acc => by
    have e : acc.toArray ++ its.toArray = (acc ++ its).toArray := by simp
    have e2 : (acc ++ its) ++ (List.replicate k its).flatten = acc ++ (List.replicate (k + 1) its).flatten := by
      rw [List.replicate_succ, List.flatten_cons, List.append_assoc]
    rw [← e2, ← foldl_rep its k (acc ++ its), ← e, List.replicate_succ, List.foldl_cons]
section
variable {X : Cx} {pins : List (Addr × Obj)} {σ : St} {H : Hp} {s : Shared} {l b : Addr} {xs ys zs : List V}
theorem Inv.lset {its its' : List Value} {n : Nat} {f : Array Value → Array Value} {t' : Nat} (I : Inv X pins σ H s) (hH : H l = some (.lst xs))
    (e : s.heap.get? l = some { cls := .type "list", data := .seq its.toArray n }) (hf : f its.toArray = its'.toArray) (hv : Vals ys its') (hz : ys.length ≤ sizeLine) :
    Inv X pins σ (upd H l (.lst ys)) { s with heap := s.heap.update l (Obj.mapSeq f), toks := t' } := by
  have q := PySem.IsL.update e f
  rw [hf] at q
  refine I.write (x := l) (e := l) (by rw [hH]; exact trivial) (.inl rfl) (fun b' u hb hu => (Heap.get?_update_other s.heap (Obj.mapSeq f) (Ne.symm hb)).trans hu) ⟨_, q⟩ ?_
  exact ⟨hz, its', _, hv, q⟩
theorem Inv.lnew {its : List Value} {t' : Nat} (I : Inv X pins σ H s) (hv : Vals ys its) (hz : ys.length ≤ sizeLine) :
    Inv X pins σ (upd H s.heap.objs.size (.lst ys)) { s with heap := s.heap.push { cls := .type "list", data := .seq its.toArray }, toks := t' } :=
  I.laid (fun _ _ q => Heap.get?_push_of_some _ q) (Nat.le_refl _) ⟨hz, its, 0, hv, Heap.get?_push_size _ rfl⟩
theorem Inv.fresh (I : Inv X pins σ H s) : H s.heap.objs.size = none := I.hok.fresh (Nat.le_refl _)
theorem Inv.lstM (I : Inv X pins σ H s) (hH : H l = some (.lst xs)) : xs.length ≤ sizeLine ∧ ∃ (its : List Value) (n : Nat), Vals xs its ∧ xs.length = its.length ∧ s.heap.get? l = some { cls := .type "list", data := .seq its.toArray n } := by
  obtain ⟨z, its, n, r, e⟩ := I.hok l _ hH
  exact ⟨z, its, n, r, r.length, e⟩
theorem notLongL {n : Nat} (h : n ≤ sizeLine) : Builtin.List.listTooLong n = false := by
  unfold Builtin.List.listTooLong
  exact decide_eq_false (by omega)
end
section
variable {X : Cx}
def rAppend : V → List V → Hp → VK → Prop := fun x vs H Q => ∃ l xs y, x = .ref l ∧ vs = [y] ∧ H l = some (.lst xs) ∧ xs.length < sizeLine ∧ Q .non (upd H l (.lst (xs ++ [y])))
theorem mt_append : MtM X "list.append" rAppend := by
  intro pins s σ H x vs v us Q I rx rv h
  obtain ⟨l, xs, y, rfl, rfl, hH, hz, q⟩ := h
  cases rx
  obtain ⟨u, rfl, ru⟩ := rv.one
  obtain ⟨z, its, n, r, hl, e⟩ := I.lstM hH
  refine call_meets F.slot_list_append ⟨_, e, rfl⟩ F.entry_list_append (F.args_list_append_2 _ _) (PySem.list_append l its.toArray n u (by rw [List.size_toArray]; omega)) ⟨e, ?_⟩
  refine ⟨.non, _, I.lset (its' := its ++ [u]) hH e (by simp) (r.append (.cons ru .nil)) ?_, rfl, q⟩
  rw [List.length_append, List.length_singleton]
  omega
def rExtend : V → List V → Hp → VK → Prop := fun x vs H Q => ∃ l b xs zs, x = .ref l ∧ vs = [.ref b] ∧ H l = some (.lst xs) ∧ H b = some (.lst zs) ∧ xs.length + zs.length ≤ sizeLine ∧ Q .non (upd H l (.lst (xs ++ zs)))
theorem mt_extend : MtM X "list.extend" rExtend := by
  intro pins s σ H x vs v us Q I rx rv h
  obtain ⟨l, b, xs, zs, rfl, rfl, hH, hB, hz, q⟩ := h
  cases rx
  obtain ⟨u, rfl, ru⟩ := rv.one
  cases ru
  obtain ⟨z, its, n, r, hl, e⟩ := I.lstM hH
  obtain ⟨z2, its2, n2, r2, hl2, e2⟩ := I.lstM hB
  have hsz : its.toArray.size + its2.toArray.size ≤ sizeLine := by rw [List.size_toArray, List.size_toArray]; omega
  have hlong : ¬ (!its.toArray.isEmpty && Builtin.List.listTooLong (its.toArray.size + its2.toArray.size)) = true := by
    rw [notLongL hsz, Bool.and_false]
    exact Bool.false_ne_true
  refine call_meets F.slot_list_extend ⟨_, e, rfl⟩ F.entry_list_extend (F.args_list_extend_2 _ _)
    (AutoSeq1.list_extend_list_list_0 l its.toArray n b its2.toArray n2 hlong (by rw [List.size_toArray]; omega) (by omega)) ⟨e, e2, ?_⟩
  refine ⟨.non, _, I.lset (its' := its ++ its2) hH e (by simp) (r.append r2) ?_, rfl, q⟩
  rw [List.length_append]
  omega
def rPop : V → List V → Hp → VK → Prop := fun x vs H Q => ∃ l xs y, x = .ref l ∧ vs = [] ∧ H l = some (.lst xs) ∧ xs[xs.length - 1]? = some y ∧ Q y (upd H l (.lst xs.dropLast))
theorem mt_pop : MtM X "list.pop" rPop := by
  intro pins s σ H x vs v us Q I rx rv h
  obtain ⟨l, xs, y, rfl, rfl, hH, hy, q⟩ := h
  cases rx
  have hus := rv.zero
  subst hus
  obtain ⟨z, its, n, r, hl, e⟩ := I.lstM hH
  obtain ⟨u, hu, ru⟩ := r.get hy
  have hy' : its.toArray[its.toArray.size - 1]? = some u := by
    show its.toArray[its.length - 1]? = some u
    rw [← Array.getElem?_toList, ← hl]
    exact hu
  refine call_meets F.slot_list_pop ⟨_, e, rfl⟩ F.entry_list_pop (F.args_list_pop_1 _) (MeetsSeq.list_pop_last l its.toArray n u hy' (by rw [List.size_toArray]; omega)) ⟨e, ?_⟩
  refine ⟨y, _, I.lset (its' := its.dropLast) hH e ?_ r.dropLast ?_, ru, q⟩
  · show its.toArray.eraseIdxIfInBounds (its.toArray.size - 1) = its.dropLast.toArray
    rw [List.size_toArray, List.eraseIdxIfInBounds_toArray, erase_last]
  · rw [List.length_dropLast]
    omega
def rRep : R2 := fun x y H Q => ∃ l k xs, x = .ref l ∧ y = .int k ∧ H l = some (.lst xs) ∧ -(2 ^ 63) ≤ k ∧ k < 2 ^ 63 ∧ xs.length * k.toNat ≤ sizeLine ∧
  ∀ p, H p = none → Q (.ref p) (upd H p (.lst (List.replicate k.toNat xs).flatten))
theorem len_rep {α : Type} (xs : List α) (k : Nat) : (List.replicate k xs).flatten.length = k * xs.length := by
  induction k with
  | zero => simp
  | succ k ih => rw [List.replicate_succ, List.flatten_cons, List.length_append, ih, Nat.succ_mul, Nat.add_comm]
theorem op_rep : OpR X (binaryOp .Mult) rRep := by
  intro pins s σ H x y v u Q I rx ry h
  obtain ⟨l, k, xs, rfl, rfl, hH, h1, h2, hz, q⟩ := h
  cases rx
  obtain ⟨t, rfl⟩ := ry
  obtain ⟨z, its, n, r, hl, e⟩ := I.lstM hH
  have hlen : its.toArray.size * k.toNat ≤ sizeLine := by rw [List.size_toArray, ← hl]; exact hz
  have hcap : ¬ its.toArray.size * k.toNat > (2 ^ 63 - 1) / 8 := by
    have : (sizeLine : Nat) ≤ (2 ^ 63 - 1) / 8 := by decide
    omega
  have hfit : ¬ (!Builtin.List.listFitsIndex k) = true := by
    rw [fitsIndex_both h1 h2]
    exact Bool.false_ne_true
  have hlong : ¬ Builtin.List.listTooLong (its.toArray.size * k.toNat) = true := by
    rw [notLongL hlen]
    exact Bool.false_ne_true
  have hnew : List.foldl (fun x1 x2 => x1 ++ x2) #[] (List.replicate (if its.toArray.isEmpty = true then 0 else k.toNat) its.toArray) = (List.replicate k.toNat its).flatten.toArray := by
    have f0 : ∀ m : Nat, List.foldl (fun x1 x2 => x1 ++ x2) #[] (List.replicate m its.toArray) = (List.replicate m its).flatten.toArray := fun m => by
      have := foldl_rep its m []
      rw [List.nil_append] at this
      exact this
    rw [f0]
    cases its with
    | nil => simp
    | cons a r' => rw [if_neg (by simp)]
  refine wpAny_binaryOp_repeat_ref (T := "list") (U := "int") (by decide) ⟨_, e, rfl⟩ (fun s' => typeIs_int s' k t) noFill_list_mul F.fills_int_mul F.slot_int_rmul repeat_list F.slot_int_index.lookup
    (call_meets F.slot_int_rmul (typeIs_int s k t) F.entry_int_rmul (F.args_int_rmul_2 _ _) (int___rmul___int_list k t l its.toArray n)
      ⟨e, rfl, ⟨_, e, rfl⟩, call_meets F.slot_list_mul ⟨_, e, rfl⟩ F.entry_list_mul (F.args_list_mul_2 _ _) (AutoListH.list___mul___list_int_3 l its.toArray n k t hfit hcap hlong) ⟨e, ?_⟩⟩)
  rw [hnew]
  exact ⟨.ref _, _, I.lnew (t' := s.toks) (r.rep k.toNat) (by rw [len_rep, Nat.mul_comm]; exact hz), rfl, q _ I.fresh⟩
end
section
variable {prog : Program} {w : World} {A : Around} {E : Value → Shared → Prop} {s : Shared}
end
section
variable {X : Cx}
end
end L2
namespace L2
open PySem PySem.Spec PyProof.Rows
theorem Vals.ints : ∀ {ns : List Int} {us : List Value}, Vals (ns.map V.int) us → IntsAre us ns
  | [], us, h => by
    rw [List.map_nil] at h
    cases h
    exact IntsAre.nil
  | n :: ns, us, h => by
    rw [List.map_cons] at h
    cases h with
    | cons r t =>
      obtain ⟨k, rfl⟩ := r
      exact IntsAre.cons n k (Vals.ints t)
theorem vals_of_ints : ∀ {us : List Value} {ns : List Int}, IntsAre us ns → Vals (ns.map V.int) us
  | _, _, .nil => by rw [List.map_nil]; exact Paired.nil
  | _, _, .cons n t h => by rw [List.map_cons]; exact Paired.cons (show RelV (V.int n) (Value.int n t) from ⟨t, rfl⟩) (vals_of_ints h)
theorem Vals.ref1 {a : Addr} {us : List Value} (r : Vals [V.ref a] us) : us = [Value.ref a] := by
  cases r with
  | cons r t =>
    cases t
    cases r
    rfl
section
variable {prog : Program} {w : World} {A : Around} {E : Value → Shared → Prop} {s : Shared} {l : Addr} {its : List Value} {ns : List Int} {Q : Value → Shared → Prop}
theorem sum_raw (hh : A.handled = none) (hl : s.heap.IsList l its.toArray) (hi : IntsAre its ns)
    (h : ∀ h' tk t', (∀ b o, s.heap.get? b = some o → h'.get? b = some o) → Q (.int ns.sum t') { s with heap := h', toks := tk }) : wpAny (model prog w) A (call (.builtin "sum") [.ref l]) Q E s := by
  obtain ⟨xs, e⟩ := hi.allInts.items
  have hn : numsOf (intItems xs).toList = ns := by rw [← e]; exact hi.numsOf
  rw [nums_intItems] at hn
  rw [e] at hl
  refine PySem.sum_intListG hh hl fun h' tk t' hk => ?_
  have := h h' tk t' hk
  rw [preSum_eq, List.take_of_length_le (by simp), hn]; exact this
end
section
variable {X : Cx}
def rSum (K : PySem.W.Frag) : List V → Hp → VK → Prop := fun vs H Q => ∃ (a : Addr) (ns : List Int), vs = [V.ref a] ∧ SqL K H a (ns.map V.int) ∧ Q (.int ns.sum) H
theorem cr_sum (hc : X.calm = true) : CallR X (.builtin "sum") (rSum X.K) := by
  intro pins s σ H vs us Q I r h
  obtain ⟨a, ns, rfl, hs, q⟩ := h
  obtain ⟨its, rv, hl, _⟩ := I.list hs
  rw [Vals.ref1 r]
  exact sum_raw (I.ok.hd hc) hl.isList rv.ints fun h' tk t' hk => ⟨.int _, H, I.kept hk, ⟨_, rfl⟩, q⟩
end
section
variable {X : Cx}
end
section
variable {X : Cx}
end
section
variable {X : Cx}
end
section
variable {X : Cx} {pins : List (Addr × Obj)} {σ : St} {H : Hp} {s : Shared}
end
section
variable {X : Cx}
end
end L2
namespace L2
open PySem PySem.Spec PyProof.Rows
abbrev CellAt (h : Heap) (c : Addr) (v : Option Value) : Prop := h.IsCell c v
def relS (scope sc : Scope) : Scope :=
  { scope with names := scope.names.map fun (n, k) => if (k == .free && sc.kind == .function && sc.names.lookup n == some .cell) then (n, .cell) else (n, k) }
def cloFrom (cells : List (Str × Addr)) : List (Str × NameKind) → List (Str × Addr) → List (Str × Addr)
  | [], acc => acc
  | (n, k) :: r, acc => if k == .free then cloFrom cells r ((n, (cells.lookup n).getD 0) :: acc) else cloFrom cells r acc
theorem closure_loop (env : Env) (f : Str × NameKind → List (Str × Addr) → Sem (ForInStep (List (Str × Addr))))
    (hf : ∀ n k c, f (n, k) c = if k == .free then (do let a ← cellOf env n; pure (.yield ((n, a) :: c))) else pure (.yield c)) :
    ∀ (names : List (Str × NameKind)) (acc : List (Str × Addr)), (∀ y ∈ names, y.2 = .free → ∃ c, env.cells.lookup y.1 = some c) → forIn names acc f = pure (cloFrom env.cells names acc)
  | [], acc, _ => by rw [List.forIn_nil]; rfl
  | (n, k) :: r, acc, h => by
    rw [List.forIn_cons, hf]
    have ih := fun acc => closure_loop env f hf r acc fun y hy => h y (List.mem_cons_of_mem _ hy)
    unfold cloFrom
    by_cases hk : (k == NameKind.free) = true
    · rw [if_pos hk, if_pos hk]
      obtain ⟨c, hc⟩ := h (n, k) List.mem_cons_self (by simpa using hk)
      have e : cellOf env n = pure c := by unfold cellOf; rw [hc]
      rw [e]
      have e2 : (env.cells.lookup n).getD 0 = c := by rw [hc]; rfl
      rw [e2]
      exact ih _
    · rw [if_neg hk, if_neg hk]
      exact ih _
theorem closure_ok {scope : Scope} {env : Env} (h : ∀ y ∈ scope.names, y.2 = .free → ∃ c, env.cells.lookup y.1 = some c) : closureFor scope env = pure (cloFrom env.cells scope.names []) := by
  simp only [closureFor]
  rw [closure_loop env _ (fun n k c => rfl) scope.names [] h]
  rfl
theorem mem_lookup {α : Type} : ∀ {l : List (Str × α)} {n : Str} {c : α}, (n, c) ∈ l → ∃ c', l.lookup n = some c'
  | (k, v) :: r, n, c, h => by
    rw [List.lookup_cons]
    cases hb : n == k with
    | true => exact ⟨_, rfl⟩
    | false =>
      rcases List.mem_cons.mp h with e | h
      · cases e; simp at hb
      · exact mem_lookup h
theorem cloFrom_mem {cells : List (Str × Addr)} : ∀ {names : List (Str × NameKind)} {acc : List (Str × Addr)} {n : Str} {c : Addr}, (n, c) ∈ cloFrom cells names acc → (n, c) ∈ acc ∨ ((n, .free) ∈ names ∧ c = (cells.lookup n).getD 0)
  | [], _, _, _, h => .inl h
  | (m, k) :: r, acc, n, c, h => by
    unfold cloFrom at h
    split at h
    · rename_i hk
      have hk : k = .free := by simpa using hk
      rcases cloFrom_mem h with h | ⟨h1, h2⟩
      · rcases List.mem_cons.mp h with e | h
        · cases e; exact .inr ⟨hk ▸ List.mem_cons_self, rfl⟩
        · exact .inl h
      · exact .inr ⟨List.mem_cons_of_mem _ h1, h2⟩
    · rcases cloFrom_mem h with h | ⟨h1, h2⟩
      · exact .inl h
      · exact .inr ⟨List.mem_cons_of_mem _ h1, h2⟩
theorem cloFrom_acc {cells : List (Str × Addr)} : ∀ {names : List (Str × NameKind)} {acc : List (Str × Addr)} {p : Str × Addr}, p ∈ acc → p ∈ cloFrom cells names acc
  | [], _, _, h => h
  | (m, k) :: r, acc, p, h => by
    unfold cloFrom
    split
    · exact cloFrom_acc (List.mem_cons_of_mem _ h)
    · exact cloFrom_acc h
theorem cloFrom_has {cells : List (Str × Addr)} : ∀ {names : List (Str × NameKind)} {acc : List (Str × Addr)} {n : Str}, (n, .free) ∈ names → (n, (cells.lookup n).getD 0) ∈ cloFrom cells names acc
  | (m, k) :: r, acc, n, h => by
    unfold cloFrom
    rcases List.mem_cons.mp h with e | h
    · cases e
      exact cloFrom_acc List.mem_cons_self
    · split
      · exact cloFrom_has h
      · exact cloFrom_has h
theorem cells_mem : ∀ {names : List (Str × NameKind)} {h : Heap} {acc : List (Str × Addr)} {x : Str} {c : Addr}, (x, c) ∈ cellsFrom h.objs.size names acc →
    (x, c) ∈ acc ∨ ((x, .cell) ∈ names ∧ h.objs.size ≤ c ∧ CellAt (pushCells h names) c none)
  | [], _, _, _, _, h => .inl h
  | (n, k) :: r, h, acc, x, c, hm => by
    unfold cellsFrom at hm
    unfold pushCells
    split at hm
    · rename_i hk
      rw [if_pos hk]
      have hk : k = .cell := by simpa using hk
      rw [← Heap.size_push h { cls := .type "cell", data := .cell none }] at hm
      rcases cells_mem hm with hm | ⟨h1, h2, h3⟩
      · rcases List.mem_cons.mp hm with e | hm
        · cases e
          exact .inr ⟨hk ▸ List.mem_cons_self, Nat.le_refl _, _, pushCells_keeps r _ _ _ (Heap.get?_push_size _ rfl), rfl⟩
        · exact .inl hm
      · rw [Heap.size_push] at h2
        exact .inr ⟨List.mem_cons_of_mem _ h1, Nat.le_of_succ_le h2, h3⟩
    · rename_i hk
      rw [if_neg hk]
      rcases cells_mem hm with hm | ⟨h1, h2, h3⟩
      · exact .inl hm
      · exact .inr ⟨List.mem_cons_of_mem _ h1, h2, h3⟩
theorem cells_acc : ∀ {names : List (Str × NameKind)} {n : Nat} {acc : List (Str × Addr)} {p : Str × Addr}, p ∈ acc → p ∈ cellsFrom n names acc
  | [], _, _, _, h => h
  | (m, k) :: r, n, acc, p, h => by
    unfold cellsFrom
    split
    · exact cells_acc (List.mem_cons_of_mem _ h)
    · exact cells_acc h
theorem cells_has : ∀ {names : List (Str × NameKind)} {n : Nat} {acc : List (Str × Addr)} {x : Str}, (x, .cell) ∈ names → ∃ c, (x, c) ∈ cellsFrom n names acc
  | (m, k) :: r, n, acc, x, h => by
    unfold cellsFrom
    rcases List.mem_cons.mp h with e | h
    · cases e
      exact ⟨n, cells_acc List.mem_cons_self⟩
    · split
      · exact cells_has h
      · exact cells_has h
theorem cells_inj : ∀ {names : List (Str × NameKind)} {h : Heap} {acc : List (Str × Addr)} {x y : Str} {c : Addr}, (∀ p ∈ acc, p.2 < h.objs.size) → (∀ x y c, (x, c) ∈ acc → (y, c) ∈ acc → x = y) →
    (x, c) ∈ cellsFrom h.objs.size names acc → (y, c) ∈ cellsFrom h.objs.size names acc → x = y
  | [], _, _, _, _, _, _, hi, h1, h2 => hi _ _ _ h1 h2
  | (n, k) :: r, h, acc, x, y, c, hl, hi, h1, h2 => by
    unfold cellsFrom at h1 h2
    split at h1
    · rename_i hk
      rw [if_pos hk] at h2
      rw [← Heap.size_push h { cls := .type "cell", data := .cell none }] at h1 h2
      refine cells_inj (h := h.push _) (fun p hp => ?_) (fun x y c a b => ?_) h1 h2
      · rw [Heap.size_push]
        rcases List.mem_cons.mp hp with rfl | hp
        · exact Nat.lt_succ_self _
        · exact Nat.lt_succ_of_lt (hl p hp)
      · rcases List.mem_cons.mp a with e | a <;> rcases List.mem_cons.mp b with e' | b
        · cases e; cases e'; rfl
        · cases e; exact absurd (hl _ b) (Nat.lt_irrefl _)
        · cases e'; exact absurd (hl _ a) (Nat.lt_irrefl _)
        · exact hi _ _ _ a b
    · rename_i hk
      rw [if_neg hk] at h2
      exact cells_inj hl hi h1 h2
theorem newEnv_comp {M : Model} {A : Around} {E : Value → Shared → Prop} {s : Shared} {scope : Scope} {globals : Addr} {closure : List (Str × Addr)} {qual : Str} {func : Option Addr} {code : Value} {around : Env} {builtins : Addr} {Q : Env → Shared → Prop}
    (h : Q (newEnv scope s.heap.objs.size globals (cellsFrom (s.heap.objs.size + 1) scope.names closure) qual func code (some around) builtins)
      { s with heap := pushCells (s.heap.push { cls := .type "dict", data := .dict #[] }) scope.names }) :
    wpAny M A (newFunctionEnv scope globals closure [] qual func code (some around) builtins) Q E s := by
  simp only [newFunctionEnv, Option.isSome_some, if_true]
  refine wpAny_bind (wpAny_alloc ?_)
  refine wpAny_bind (wpAny_layCells _ (fun n k c => rfl) scope.names closure _ _ ?_)
  rw [show ({ s with heap := s.heap.push { cls := .type "dict", data := .dict #[] } } : Shared).heap.objs.size = s.heap.objs.size + 1 from Heap.size_push ..]
  rw [List.forIn_nil]
  exact wpAny_bind (wpAny_pure (wpAny_pure h))
theorem lookup_relS {sc : Scope} : ∀ {names : List (Str × NameKind)} {x : Str} {k : NameKind},
    (names.map fun (n, k) => if (k == NameKind.free && sc.kind == .function && sc.names.lookup n == some .cell) then (n, NameKind.cell) else (n, k)).lookup x = some k →
    ∃ k', names.lookup x = some k' ∧ (k = k' ∨ (k' = .free ∧ k = .cell))
  | [], _, _, h => by simp at h
  | (n, k₀) :: r, x, k, h => by
    have ih := @lookup_relS sc r x k
    have h' : List.lookup x ((if (k₀ == NameKind.free && sc.kind == .function && sc.names.lookup n == some .cell) = true then (n, NameKind.cell) else (n, k₀)) :: (r.map _)) = some k := h
    cases hx : x == n with
    | true =>
      simp only [List.lookup_cons, hx]
      by_cases hc : (k₀ == NameKind.free && sc.kind == .function && sc.names.lookup n == some .cell) = true
      · rw [if_pos hc] at h'
        simp only [List.lookup_cons, hx] at h'
        cases h'
        simp only [Bool.and_eq_true, beq_iff_eq] at hc
        exact ⟨k₀, rfl, .inr ⟨hc.1.1, rfl⟩⟩
      · rw [if_neg hc] at h'
        simp only [List.lookup_cons, hx] at h'
        cases h'
        exact ⟨_, rfl, .inl rfl⟩
    | false =>
      simp only [List.lookup_cons, hx]
      by_cases hc : (k₀ == NameKind.free && sc.kind == .function && sc.names.lookup n == some .cell) = true
      · rw [if_pos hc] at h'
        simp only [List.lookup_cons, hx] at h'
        exact ih h'
      · rw [if_neg hc] at h'
        simp only [List.lookup_cons, hx] at h'
        exact ih h'
structure BlkOk (N : List Str) (sc scope : Scope) (own : List (Str × Nat)) : Prop where
  kind : scope.kind = .function
  uniq : ∀ y ∈ scope.names, scope.names.lookup y.1 = some y.2
  ix : ∀ p ∈ own, N[p.2]? = some p.1
  free : ∀ y ∈ scope.names, y.2 = .free → sc.names.lookup y.1 = some .cell ∨ sc.names.lookup y.1 = some .free
  own : ∀ y ∈ scope.names, y.2 = .local ∨ y.2 = .cell → y.1 ∈ own.map (·.1) ∨ y.1 ∉ N
def wipe (σ : St) : List Nat → St
  | [] => σ
  | v :: vs => (wipe σ vs).set v none
theorem wipe_length (σ : St) : ∀ vs : List Nat, (wipe σ vs).length = σ.length
  | [] => rfl
  | v :: vs => by unfold wipe; rw [List.length_set, wipe_length σ vs]
theorem wipe_some {σ : St} {i : Nat} {x : V} : ∀ {vs : List Nat}, (wipe σ vs)[i]? = some (some x) → σ[i]? = some (some x) ∧ i ∉ vs
  | [], h => ⟨h, by simp⟩
  | v :: vs, h => by
    unfold wipe at h
    by_cases hi : v = i
    · subst hi
      by_cases hv : v < (wipe σ vs).length
      · rw [List.getElem?_set_self hv] at h; cases h
      · rw [List.getElem?_eq_none (by simpa using hv)] at h; cases h
    · rw [List.getElem?_set_ne hi] at h
      obtain ⟨h1, h2⟩ := wipe_some h
      exact ⟨h1, by simp only [List.mem_cons, not_or]; exact ⟨fun e => hi e.symm, h2⟩⟩
abbrev Cx.blk (X : Cx) (s : Shared) (H : Hp) (scope : Scope) (cenv : Env) (fp : List Addr) : Cx := { X with s_0 := s, H_0 := H, env := cenv, outer := X.stack, ex := fp, fn := fun x => scope.names.lookup x == some .cell, pn := [], xe := fun _ _ => False }
section
variable {X : Cx} {pins : List (Addr × Obj)} {σ : St} {H : Hp} {s : Shared}
theorem block_start {scope : Scope} {own : List (Str × Nat)} {fp : List Addr} (I : Inv X pins σ H s) (ok : BlkOk X.N X.env.scope scope own) (hN : X.N.Nodup) (hfp : ∀ b ∈ fp, FpOk X pins H b ∧ b < s.heap.objs.size) :
    Inv (X.blk s H scope (compEnvC scope (cellsFrom (s.heap.objs.size + 1) scope.names (cloFrom X.env.cells scope.names [])) s.heap.objs.size X.env) fp) [] (wipe σ (own.map (·.2))) H { s with heap := pushCells (s.heap.push { cls := .type "dict", data := .dict #[] }) scope.names } := by
  have hfree : ∀ y ∈ scope.names, y.2 = .free → ∃ c, X.env.cells.lookup y.1 = some c := fun y hy e => by
    rcases ok.free y hy e with k | k
    · exact I.ok.has _ (.inl k)
    · exact I.ok.has _ (.inr k)
  generalize hcenv : compEnvC scope (cellsFrom (s.heap.objs.size + 1) scope.names (cloFrom X.env.cells scope.names [])) s.heap.objs.size X.env = cenv
  have kp : ∀ b o, s.heap.get? b = some o → (pushCells (s.heap.push { cls := .type "dict", data := .dict #[] }) scope.names).get? b = some o := fun b o e => pushCells_keeps _ _ _ _ (Heap.get?_push_of_some _ e)
  have hL : cenv.locals = s.heap.objs.size := by rw [← hcenv]; rfl
  have hcl : cenv.cells = cellsFrom (s.heap.objs.size + 1) scope.names (cloFrom X.env.cells scope.names []) := by rw [← hcenv]; rfl
  have hsc : cenv.scope = relS scope X.env.scope := by rw [← hcenv]; rfl
  rw [← Heap.size_push s.heap { cls := .type "dict", data := .dict #[] }] at hcl
  have cm : ∀ {y c}, (y, c) ∈ cloFrom X.env.cells scope.names [] → X.env.cells.lookup y = some c ∧ c < s.heap.objs.size := fun {y c} hm => by
    rcases cloFrom_mem hm with hm | ⟨h1, rfl⟩
    · cases hm
    · obtain ⟨c, hc⟩ := hfree _ h1 rfl
      rw [hc]
      obtain ⟨w, z⟩ := I.cell _ _ hc
      exact ⟨rfl, z.lt⟩
  have mem : ∀ {y c}, cenv.cells.lookup y = some c → (X.env.cells.lookup y = some c ∧ c < s.heap.objs.size) ∨ (s.heap.objs.size + 1 ≤ c ∧ CellAt (pushCells (s.heap.push { cls := .type "dict", data := .dict #[] }) scope.names) c none) := fun {y c} e => by
    rw [hcl] at e
    rcases cells_mem (PySem.mem_of_lookup e) with hm | ⟨_, h2, h3⟩
    · exact .inl (cm hm)
    · rw [Heap.size_push] at h2; exact .inr ⟨h2, h3⟩
  have look : ∀ {y}, scope.names.lookup y = some .free → ∃ c, cenv.cells.lookup y = some c ∧ X.env.cells.lookup y = some c := fun {y} hl => by
    have hy : (y, NameKind.free) ∈ scope.names := PySem.mem_of_lookup hl
    obtain ⟨c', e'⟩ := mem_lookup (cells_acc (names := scope.names) (n := (s.heap.push { cls := .type "dict", data := .dict #[] }).objs.size) (cloFrom_has (cells := X.env.cells) (acc := []) hy))
    rw [← hcl] at e'
    refine ⟨c', e', ?_⟩
    rw [hcl] at e'
    rcases cells_mem (PySem.mem_of_lookup e') with hm | ⟨h1, _, _⟩
    · exact (cm hm).1
    · have := ok.uniq _ h1
      rw [hl] at this; cases this
  have okB : (X.blk s H scope cenv fp).Ok := by
    refine ⟨I.ok.mod, by show cenv.scope.kind = _; rw [hsc]; exact ok.kind, by show cenv.globals = _; rw [← hcenv]; exact I.ok.glob, by show cenv.builtins = _; rw [← hcenv]; exact I.ok.blt, by show s.heap.objs.size ≤ cenv.locals; rw [hL]; exact Nat.le_refl _,
      fun y z c e1 e2 => ?_, fun y hy => ?_, fun y c z e => ?_, I.ok.hd, I.ok.frames, .inl rfl, fun b hb => ⟨?_, fun y c e z => ?_⟩, I.bs, Nat.le_trans I.ok.bsz I.sz, fun b o e hb => ?_, fun b hb z => ?_, I.stack, I.stkFree⟩
    · have e1 : cenv.cells.lookup y = some c := e1
      have e2 : cenv.cells.lookup z = some c := e2
      rw [hcl] at e1 e2
      refine cells_inj (fun p hp => ?_) (fun y z c a b => I.ok.inj y z c (cm a).1 (cm b).1) (PySem.mem_of_lookup e1) (PySem.mem_of_lookup e2)
      rw [Heap.size_push]
      exact Nat.lt_succ_of_lt (cm (y := p.1) (c := p.2) hp).2
    · show ∃ c, cenv.cells.lookup y = some c
      have key : ∀ k, cenv.kindOf y = some k → (k = .cell ∨ k = .free) → ∃ c, cenv.cells.lookup y = some c := fun k hk hk' => by
        unfold Env.kindOf at hk
        rw [hsc] at hk
        obtain ⟨k', e, r⟩ := lookup_relS hk
        have : k' = .cell ∨ k' = .free := by
          rcases r with rfl | ⟨rfl, _⟩
          · exact hk'
          · exact .inr rfl
        rcases this with rfl | rfl
        · obtain ⟨c, hm⟩ := cells_has (n := (s.heap.push { cls := .type "dict", data := .dict #[] }).objs.size) (acc := cloFrom X.env.cells scope.names []) (PySem.mem_of_lookup e)
          obtain ⟨c', e'⟩ := mem_lookup hm
          exact ⟨c', by rw [hcl]; exact e'⟩
        · obtain ⟨c, h1, _⟩ := look e
          exact ⟨c, h1⟩
      rcases hy with hy | hy
      · exact key _ hy (.inl rfl)
      · exact key _ hy (.inr rfl)
    · have z : (scope.names.lookup y == some NameKind.cell) = true := z
      have z : scope.names.lookup y = some .cell := by simpa using z
      have e : cenv.cells.lookup y = some c := e
      rw [hcl] at e
      rcases cells_mem (PySem.mem_of_lookup e) with hm | ⟨_, h2, _⟩
      · rcases cloFrom_mem hm with hm | ⟨h1, _⟩
        · cases hm
        · have q := ok.uniq _ h1
          rw [z] at q; cases q
      · rw [Heap.size_push] at h2
        exact Nat.le_of_succ_le h2
    · show b ≠ cenv.locals
      rw [hL]; exact Nat.ne_of_lt (hfp b hb).2
    · have e : cenv.cells.lookup y = some c := e
      rcases mem e with ⟨h1, _⟩ | ⟨h1, _⟩
      · exact (hfp b hb).1.2.2.2.2.1 y c h1 z
      · have h2 : s.heap.objs.size + 1 ≤ b := by rw [← z]; exact h1
        exact absurd (Nat.lt_of_lt_of_le (hfp b hb).2 (Nat.le_of_succ_le h2)) (Nat.lt_irrefl _)
    · rcases (hfp b hb).1.2.2.2.1 with z | z
      · exact I.ok.noex b o e z
      · exact absurd (Nat.lt_of_lt_of_le (Heap.lt_size e) (Nat.le_trans I.ok.bsz z)) (Nat.lt_irrefl _)
    · rcases List.mem_cons.mp (I.stkSub b z) with z | z
      · exact (hfp b hb).1.2.1 z
      · exact (hfp b hb).1.2.2.1 z
  refine ⟨okB, rfl, I.bare, Un.kept kp, ⟨fun _ => none, ?_, fun i y av e1 e2 e3 => ?_⟩, fun y c e => ?_, ?_, fun y c e => ?_, fun p hp => ?_, I.hok.kept kp, by rw [wipe_length]; exact I.len⟩
  · show Heap.Ns _ cenv.locals _
    rw [hL]
    exact Heap.Ns.keeps (Heap.Ns.new ..) fun b o e => pushCells_keeps _ _ _ _ e
  · obtain ⟨e2, hne⟩ := wipe_some e2
    have hfr : scope.names.lookup y = some .free ∧ (cenv.kindOf y = some .cell ∨ cenv.kindOf y = some .free) := by
      have key : ∀ k, cenv.scope.names.lookup y = some k → k = .local ∨ k = .cell ∨ k = .free → scope.names.lookup y = some .free ∧ (cenv.kindOf y = some .cell ∨ cenv.kindOf y = some .free) := fun k hk hk' => by
        have hk0 := hk
        rw [hsc] at hk
        obtain ⟨k', e, r⟩ := lookup_relS hk
        have no : ¬ (k' = .local ∨ k' = .cell) := fun hh => by
          rcases ok.own _ (PySem.mem_of_lookup e) hh with e' | e'
          · obtain ⟨p, hp, hpy⟩ := List.mem_map.mp e'
            have e3 := ok.ix p hp
            have : p.1 = y := hpy
            rw [this] at e3
            exact hne (List.mem_map.mpr ⟨p, hp, nodup_ix hN e3 e1⟩)
          · exact e' (List.mem_of_getElem? e1)
        rcases r with rfl | ⟨rfl, rfl⟩
        · rcases hk' with rfl | rfl | rfl
          · exact absurd (.inl rfl) no
          · exact absurd (.inr rfl) no
          · exact ⟨e, .inr hk0⟩
        · exact ⟨e, .inl hk0⟩
      have e3 : Vis cenv.scope y := e3
      rcases e3 with e3 | e3 | e3
      · exact key _ e3 (.inl rfl)
      · exact key _ e3 (.inr (.inl rfl))
      · exact key _ e3 (.inr (.inr rfl))
    obtain ⟨m, hn, hl⟩ := I.loc
    have hvis : Vis X.env.scope y := (ok.free _ (PySem.mem_of_lookup hfr.1) rfl).elim (fun k => .inr (.inl k)) (fun k => .inr (.inr k))
    obtain ⟨w, r, q⟩ := hl i y av e1 e2 hvis
    refine ⟨w, r, .inr ⟨hfr.2, ?_⟩⟩
    obtain ⟨c, h1, h2⟩ := look hfr.1
    rcases q with ⟨k, _⟩ | ⟨_, c', e', z⟩
    · have k : X.env.scope.names.lookup y = some .local := k
      rcases ok.free _ (PySem.mem_of_lookup hfr.1) rfl with k' | k' <;> rw [show X.env.scope.names.lookup y = _ from k'] at k <;> cases k
    · rw [h2] at e'; cases e'
      exact ⟨c, h1, z.keeps kp⟩
  · have e : cenv.cells.lookup y = some c := e
    rcases mem e with ⟨h1, _⟩ | ⟨_, z⟩
    · obtain ⟨w, z⟩ := I.cell y c h1
      exact ⟨w, z.keeps kp⟩
    · exact ⟨_, z⟩
  · show H cenv.locals = none
    rw [hL]; exact I.hok.fresh (Nat.le_refl _)
  · have e : cenv.cells.lookup y = some c := e
    rcases mem e with ⟨h1, _⟩ | ⟨h1, _⟩
    · exact I.freeC y c h1
    · exact I.hok.fresh (Nat.le_of_succ_le h1)
  · exact absurd (show p ∈ ([] : List (Addr × Obj)) ++ [] from hp) (by simp)
theorem app_ok {E : Value → Shared → Prop} {D : Addr} {xs : List V} {y : V} {v : Value} {Q : Value → Shared → Prop} (I : Inv X pins σ H s) (hD : H D = some (.lst xs)) (hz : xs.length < sizeLine) (r : RelV y v)
    (h : ∀ s', Inv X pins σ (upd H D (.lst (xs ++ [y]))) s' → Q .none s') : wpAny (model X.prog X.w) X.A (call (.builtin "list.append") [.ref D, v]) Q E s := by
  obtain ⟨hz', its, n, ri, e⟩ := I.hok D _ hD
  have hl := ri.length
  refine append_at (hsz := by rw [List.size_toArray]; omega) e fun h' sb ho' => ?_
  refine h { s with heap := h' } (I.write (t' := s.toks) (by rw [hD]; trivial) (.inl rfl) (fun b u hb q => (sb.2 b hb).trans q) ⟨_, ho'⟩ ⟨by rw [List.length_append]; exact hz, its ++ [v], n + 1, ri.append (.cons r .nil), ?_⟩)
  rw [ho']
  simp
def PTs (X : Cx) (ifs : List Expr) (t : TT) : Prop :=
  ∀ (pins : List (Addr × Obj)) (s : Shared) (σ : St) (H : Hp) (Q : Bool → Hp → Prop), Inv X pins σ H s → t σ H Q →
    wpAny (model X.prog X.w) X.A (forIn ifs true fun c r => if r = true then do let ok ← isTrue c X.env (eval c X.env); pure (ForInStep.yield ok) else pure (ForInStep.yield r)) (TP X pins σ Q) X.xe s
def tYes : TT := fun _ H Q => Q true H
theorem pts_nil : PTs X [] tYes := fun _ _ _ H _ I h => wpAny_tests_nil ⟨H, I, h⟩
theorem pts_one {c : Expr} {t : TT} (h : PT X c t) : PTs X [c] t := fun pins s σ H Q I hw => wpAny_tests_one (h pins s σ H Q I hw)
end
theorem thnF {α : Type} {t : Sem α} {Q Q' : α → Shared → Prop} {M : Model} {A : Around} {E : Value → Shared → Prop} {s : Shared} (h : wpAny M A t Q (fun _ _ => False) s) (hQ : ∀ a s, Q a s → Q' a s) : wpAny M A t Q' E s := wpAny_mono h hQ fun _ _ z => False.elim z
theorem compLoop_any {prog : Program} {w : World} {A : Around} {R : Result → Shared → Prop} {s : Shared} {elt target iter : Expr} {ifs : List Expr} {scope : Scope} {pos : Pos} {it acc : Value} {env : Env} (I : Nat → Shared → Prop)
    (turn : ∀ n s, I n s → wpAny (model prog w) A (pyNext it) (fun r s₁ => match r with
      | none => R (.ok .next) s₁
      | some v => wpAny (model prog w) A (letOwnedTupleGo target it v) (fun _ s₁' => wpAny (model prog w) A (assign target env v) (fun _ s₂ =>
          wpAny (model prog w) A (forIn ifs true fun c r => if r = true then do let ok ← isTrue c env (eval c env); pure (ForInStep.yield ok) else pure (ForInStep.yield r)) (fun ok s₃ =>
            if ok = true then wpAny (model prog w) A (eval elt env) (fun x s₄ =>
              wpAny (model prog w) A (call (.builtin "list.append") [acc, x]) (fun _ s₅ => ∃ m, m < n ∧ I m s₅) (notedBy (model prog w) A env fun e s' => R (.error e) s') s₄) (notedBy (model prog w) A env fun e s' => R (.error e) s') s₃
            else ∃ m, m < n ∧ I m s₃) (notedBy (model prog w) A env fun e s' => R (.error e) s') s₂) (notedBy (model prog w) A env fun e s' => R (.error e) s') s₁') (notedBy (model prog w) A env fun e s' => R (.error e) s') s₁) (notedBy (model prog w) A env fun e s' => R (.error e) s') s)
    (n : Nat) (h : I n s) :
    codeAny (model prog w) A (.compLoop (.ListComp elt [⟨target, iter, ifs, 0⟩] scope pos) 0 it acc env) R s := by
  refine codeAny_loop rfl I (fun n s hI => ?_) n h
  show wpAny _ A ((compTurn (.ListComp elt [⟨target, iter, ifs, 0⟩] scope pos) 0 it acc env).onRaise (fun x => do noteFrame x env; theTreesLotGoes x)) _ _ s
  refine wpAny_noted ?_
  rw [compTurn_list]
  refine wpAny_bind (wpAny_standAt (wpAny_bind (wpAny_mono (turn n s hI) (fun r s₁ h₁ => ?_) fun _ _ h' => h')))
  cases r with
  | none => exact wpAny_pure h₁
  | some v =>
    refine wpAny_bind (wpAny_mono h₁ (fun _ s₁' h₁' => ?_) fun _ _ h' => h')
    refine wpAny_bind (wpAny_mono h₁' (fun _ s₂ h₂ => wpAny_bind (wpAny_mono h₂ (fun ok s₃ h₃ => ?_) fun _ _ h' => h')) fun _ _ h' => h')
    cases ok with
    | false => exact wpAny_pure ⟨rfl, h₃⟩
    | true =>
      exact wpAny_bind (wpAny_bind (wpAny_mono h₃ (fun x s₄ h₄ => wpAny_bind (wpAny_mono h₄ (fun _ s₅ h₅ => wpAny_pure (wpAny_pure ⟨rfl, h₅⟩)) fun _ _ h' => h')) fun _ _ h' => h'))
section
variable {X : Cx}
def tLc (wi : TI) (g : TG) (tt : TT) (te : TE) (vs : List Nat) : TE := fun σ H Q => wi σ H fun J H1 => ∀ D, H1 D = none → ∃ W : Nat → Nat → Hp → Prop, (∃ m, W 0 m (upd H1 D (.lst []))) ∧ ∀ i m H, W i m H →
  (J.stop i H ∧ Q (.ref D) H) ∨ (J.go i H ∧ ∃ Nx : Hp → Prop, (∀ H', Nx H' → ∃ m', m' < m ∧ W (i + 1) m' H') ∧ ∀ x H', J.yld i H x H' → g x (wipe σ vs) H' fun σ2 H2 => wipe σ2 vs = wipe σ vs ∧ tt σ2 H2 fun b H3 =>
    if b = true then te σ2 H3 fun y H4 => ∃ acc, H4 D = some (.lst acc) ∧ acc.length < sizeLine ∧ Nx (upd H4 D (.lst (acc ++ [y]))) else Nx H3)
theorem lc_core {pins : List (Addr × Obj)} {s : Shared} {σ : St} {H : Hp} {Q : VK} {elt tg iter : Expr} {ifs : List Expr} {scope : Scope} {own : List (Str × Nat)} {pos pos' : Pos} {wi : TI} {g : TG} {tt : TT} {te : TE} {use : Option (Value → Sem Unit)} {Qf : Value → Shared → Prop}
    (hc : X.calm = true) (hN : X.N.Nodup) (I : Inv X pins σ H s) (hi : PI X tg iter wi) (ok : BlkOk X.N X.env.scope scope own)
    (hg : ∀ (s : Shared) (H : Hp) (C : Addr) (cl : List (Str × Addr)) (fp : List Addr), PG (X.blk s H scope (compEnvC scope cl C X.env) fp) tg g) (ht : ∀ (s : Shared) (H : Hp) (C : Addr) (cl : List (Str × Addr)) (fp : List Addr), PTs (X.blk s H scope (compEnvC scope cl C X.env) fp) ifs tt)
    (he : ∀ (s : Shared) (H : Hp) (C : Addr) (cl : List (Str × Addr)) (fp : List Addr), PE (X.blk s H scope (compEnvC scope cl C X.env) fp) elt te) (hs : ∀ x, foldedSetIterable iter X.env x = pure x)
    (h : tLc wi g tt te (own.map (·.2)) σ H Q)
    (hRR : ∀ D C s' m H', Inv X pins σ H' s' → Q (.ref D) H' → s'.heap.Ns C m → FpOk X pins H' C → compPost (model X.prog X.w) X.A X.xe use Qf (.ref D) C (.ok .next) s') :
    wpAny (model X.prog X.w) X.A (comprehension (.ListComp elt [⟨tg, iter, ifs, 0⟩] scope pos) scope X.env pos' (newList []) false (eval iter X.env) use) Qf X.xe s := by
  have hfree : ∀ y ∈ scope.names, y.2 = .free → ∃ c, X.env.cells.lookup y.1 = some c := fun y hy e => by
    rcases ok.free y hy e with k | k
    · exact I.ok.has _ (.inl k)
    · exact I.ok.has _ (.inr k)
  refine wpAny_comprehension_free (use := use) rfl hs (closure_ok hfree) ok.kind (fun y hy e => by rw [ok.uniq y hy, e])
    (thn (hi pins s σ H _ I h) fun xv s1 hx => thn hx fun itv s2 h2 => ?_)
  obtain ⟨it, fp, tn, J, H2, e, I2, T, st2, f2, q⟩ := h2
  subst e
  refine wpAny_newObj_type (newEnv_comp ?_) (by show 0 ≤ sizeLine; decide)
  generalize hD : s2.heap.objs.size = D
  have hDn : H2 D = none := I2.hok.fresh (Nat.le_of_eq hD)
  obtain ⟨W, ⟨m0, w0⟩, turn⟩ := q D hDn
  generalize hs3 : ({ s2 with heap := s2.heap.push { cls := .type "list", data := .seq ([] : List Value).toArray } } : Shared) = s3
  have I3 : Inv X pins σ (upd H2 D (.lst [])) s3 := by
    rw [← hs3]
    refine I2.laid (t' := s2.toks) (fun b o e => Heap.get?_push_of_some _ e) (Nat.le_of_eq hD) ⟨Nat.zero_le _, [], 0, .nil, ?_⟩
    rw [← hD]
    exact Heap.get?_push_size _ rfl
  have h3 : s3.heap = s2.heap.push { cls := .type "list", data := .seq ([] : List Value).toArray } := by rw [← hs3]
  have sz : ∀ b ∈ fp, b < s2.heap.objs.size := fun b hb => by
    obtain ⟨o, e, _⟩ := T.obj _ _ st2 b hb
    exact Heap.lt_size e
  have f3 : ∀ b ∈ fp, FpOk X pins (upd H2 D (.lst [])) b ∧ b < s3.heap.objs.size := fun b hb => by
    have hlt := sz b hb
    refine ⟨⟨?_, (f2 b hb).2⟩, by rw [h3, Heap.size_push]; exact Nat.lt_succ_of_lt hlt⟩
    rw [upd_ne (by rw [← hD]; exact Nat.ne_of_lt hlt)]
    exact (f2 b hb).1
  have st3 : tn 0 s3.heap := T.keep _ _ _ st2 fun b _ o e => by rw [h3]; exact Heap.get?_push_of_some _ e
  have I4 := block_start I3 ok hN f3
  have pg := hg s3 (upd H2 D (.lst [])) s3.heap.objs.size (cellsFrom (s3.heap.objs.size + 1) scope.names (cloFrom X.env.cells scope.names [])) fp
  have pt := ht s3 (upd H2 D (.lst [])) s3.heap.objs.size (cellsFrom (s3.heap.objs.size + 1) scope.names (cloFrom X.env.cells scope.names [])) fp
  have pe := he s3 (upd H2 D (.lst [])) s3.heap.objs.size (cellsFrom (s3.heap.objs.size + 1) scope.names (cloFrom X.env.cells scope.names [])) fp
  show codeAny _ _ (.compStart (.ListComp elt [⟨tg, iter, ifs, 0⟩] scope pos) 0 (.ref it) (.ref D) (compEnvC scope (cellsFrom (s3.heap.objs.size + 1) scope.names (cloFrom X.env.cells scope.names [])) s3.heap.objs.size X.env)) (compPost (model X.prog X.w) X.A X.xe use Qf (.ref D) s3.heap.objs.size) { s3 with heap := pushCells (s3.heap.push { cls := .type "dict", data := .dict #[] }) scope.names }
  have nfp : ∀ b ∈ fp, (upd H2 D (.lst [])) b = none := fun b hb => (f3 b hb).1.1
  generalize hce : compEnvC scope (cellsFrom (s3.heap.objs.size + 1) scope.names (cloFrom X.env.cells scope.names [])) s3.heap.objs.size X.env = ce at I4 pg pt pe ⊢
  have cL : ce.locals = s3.heap.objs.size := by subst hce; rfl
  generalize hH3 : upd H2 D (.lst []) = H3 at I3 I4 pg pt pe w0 nfp f3
  generalize hs4 : ({ s3 with heap := pushCells (s3.heap.push { cls := .type "dict", data := .dict #[] }) scope.names } : Shared) = s4 at I4 ⊢
  have st4 : tn 0 s4.heap := T.keep _ _ _ st3 fun b _ o e => by rw [← hs4]; exact pushCells_keeps _ _ _ _ (Heap.get?_push_of_some _ e)
  have stat : ∀ {σ' : St} {H' : Hp} {s' : Shared}, Inv (X.blk s3 H3 scope ce fp) [] σ' H' s' → (∀ b ∈ fp, H' b = none) → ∀ b ∈ fp, FpOk (X.blk s3 H3 scope ce fp) [] H' b := fun {σ' H' s'} I' hn b hb =>
    ⟨hn b hb, (I'.ok.exf b hb).1, I'.ok.exfs b hb, .inl hb, fun x c e => (I'.ok.exf b hb).2 x c e, fun p hp => absurd (show p ∈ ([] : List (Addr × Obj)) ++ [] from hp) (by simp)⟩
  have loop : codeAny (model X.prog X.w) X.A (.compLoop (.ListComp elt [⟨tg, iter, ifs, 0⟩] scope pos) 0 (.ref it) (.ref D) ce) (compPost (model X.prog X.w) X.A X.xe use Qf (.ref D) s3.heap.objs.size) s4 := by
    refine compLoop_any (fun n s' => ∃ i H', Inv (X.blk s3 H3 scope ce fp) [] (wipe σ (own.map (·.2))) H' s' ∧ tn i s'.heap ∧ (∀ b ∈ fp, H' b = none) ∧ W i n H') ?_ m0 ⟨0, H3, I4, st4, nfp, w0⟩
    rintro n s5 ⟨i, H5, I5, st5, n5, w5⟩
    rcases turn i n H5 w5 with ⟨stop, qq⟩ | ⟨go, Nx, hNx, step⟩
    · have td := T.done (X.blk s3 H3 scope ce fp) rfl rfl rfl hc i [] s5 _ H5 (fun _ _ => False) I5 (stat I5 n5) st5 stop
      refine thnF td fun r s6 ⟨hr, I6⟩ => ?_
      subst hr
      have I7 : Inv X pins σ H5 s6 := I3.call' (ch := fp) I6.os I6.base I6.hok I6.bare fun b hb => ⟨(f3 b hb).1.2.2.2.1, (f3 b hb).1.2.1, (f3 b hb).1.2.2.2.2.1, (f3 b hb).1.2.2.2.2.2⟩
      have nC : H5 s3.heap.objs.size = none := by
        have z : H5 ce.locals = none := I6.free
        rw [cL] at z
        exact z
      obtain ⟨m, hn, _⟩ := I6.loc
      have hn : s6.heap.Ns ce.locals m := hn
      rw [cL] at hn
      exact hRR D s3.heap.objs.size s6 m H5 I7 qq hn (I3.fpOk (Nat.le_refl _) nC)
    · have ti := T.item (X.blk s3 H3 scope ce fp) rfl rfl rfl hc i [] s5 _ H5 (fun _ _ => False) I5 (stat I5 n5) st5 go
      refine thnF ti fun r s6 ⟨u, hr, h6⟩ => ?_
      subst hr
      refine thnF h6 fun _ s7 ⟨x, H7, I7, r7, y7, st7, n7⟩ => ?_
      have I7' := I7.pinned (stat I7 n7) (T.obj _ _ st7)
      refine thnF (pg _ s7 _ H7 x u _ I7' r7 (step x H7 y7)) fun _ s8 ⟨σ8, H8, I8, hw8, q8⟩ => ?_
      refine thnF (pt _ s8 σ8 H8 _ I8 q8) fun b s9 ⟨H9, I9, q9⟩ => ?_
      have fin : ∀ {s' : Shared} {H' : Hp}, Inv (X.blk s3 H3 scope ce fp) ([] ++ pinsAt fp s7.heap) σ8 H' s' → Nx H' → ∃ m, m < n ∧ ∃ i H', Inv (X.blk s3 H3 scope ce fp) [] (wipe σ (own.map (·.2))) H' s' ∧ tn i s'.heap ∧ (∀ b ∈ fp, H' b = none) ∧ W i m H' := fun {s' H'} I' nx => by
        obtain ⟨m', hm, w'⟩ := hNx H' nx
        have pin' : ∀ b ∈ fp, ∀ o, s7.heap.get? b = some o → s'.heap.get? b = some o ∧ H' b = none := fun b hb o e =>
          let z := I'.pin (b, o) (List.mem_append_right _ (List.mem_append_right _ (mem_pinsAt hb e)))
          ⟨z.1, z.2.1⟩
        have hl : (wipe σ (own.map (·.2))).length = σ8.length := by rw [← hw8, wipe_length]
        refine ⟨m', hm, i + 1, H', (I'.unpinned (pins := [])).weak hl (fun j v e => ?_), T.keep _ _ _ st7 fun b hb o e => (pin' b hb o e).1, fun b hb => ?_, w'⟩
        · rw [← hw8] at e
          exact (wipe_some e).1
        · obtain ⟨o, e, _⟩ := T.obj _ _ st7 b hb
          exact (pin' b hb o e).2
      cases b with
      | false =>
        simp only [Bool.false_eq_true, if_false] at q9 ⊢
        exact fin I9 q9
      | true =>
        simp only [if_true] at q9 ⊢
        refine thnF (pe _ s9 σ8 H9 _ I9 q9) fun z s10 ⟨yv, H10, I10, r10, acc, hD10, hz10, nx⟩ => ?_
        exact app_ok (X := X.blk s3 H3 scope ce fp) I10 hD10 hz10 r10 fun s11 I11 => fin I11 nx
  exact codeAny_compStart_list loop (T.self X.A 0 _ _ _ st4 loop)
theorem pe_lc {elt tg iter : Expr} {ifs : List Expr} {scope : Scope} {own : List (Str × Nat)} {pos : Pos} {wi : TI} {g : TG} {tt : TT} {te : TE} (hc : X.calm = true) (hN : X.N.Nodup) (hi : PI X tg iter wi) (ok : BlkOk X.N X.env.scope scope own)
    (hg : ∀ (s : Shared) (H : Hp) (C : Addr) (cl : List (Str × Addr)) (fp : List Addr), PG (X.blk s H scope (compEnvC scope cl C X.env) fp) tg g) (ht : ∀ (s : Shared) (H : Hp) (C : Addr) (cl : List (Str × Addr)) (fp : List Addr), PTs (X.blk s H scope (compEnvC scope cl C X.env) fp) ifs tt)
    (he : ∀ (s : Shared) (H : Hp) (C : Addr) (cl : List (Str × Addr)) (fp : List Addr), PE (X.blk s H scope (compEnvC scope cl C X.env) fp) elt te) (hs : ∀ x, foldedSetIterable iter X.env x = pure x := by intro _; rfl) :
    PE X (.ListComp elt [⟨tg, iter, ifs, 0⟩] scope pos) (tLc wi g tt te (own.map (·.2))) := by
  intro pins s σ H Q I h
  rw [eval_ListComp]
  refine lc_core hc hN I hi ok hg ht he hs h fun D C s' m H' I' q hn f => ⟨m, hn, fun h'' sb => ?_⟩
  obtain ⟨f0, f1, f2, f3, f4, f5⟩ := f
  exact ⟨.ref D, H', I'.turned (t' := s'.toks) (fun b o hb e => (sb.2 b hb).trans e) f0 f1 f3 f4 f5, rfl, q⟩
end
theorem lc_list {K : PySem.W.Frag} {a : Addr} {xs : List V} {g : TG} {tt : TT} {te : TE} {vs : List Nat} {σ : St} {H1 : Hp} {D : Addr} {Qd : Hp → Prop} (Pv : Nat → Hp → Prop) (h0 : Pv 0 (upd H1 D (.lst []))) (hl : ∀ i H, i ≤ xs.length → Pv i H → SqL K H a xs)
    (hs : ∀ i x H, xs[i]? = some x → Pv i H → g x (wipe σ vs) H fun σ2 H2 => wipe σ2 vs = wipe σ vs ∧ tt σ2 H2 fun b H3 =>
      if b = true then te σ2 H3 fun y H4 => ∃ acc, H4 D = some (.lst acc) ∧ acc.length < sizeLine ∧ Pv (i + 1) (upd H4 D (.lst (acc ++ [y]))) else Pv (i + 1) H3) (hd : ∀ H, Pv xs.length H → Qd H) :
    ∃ W : Nat → Nat → Hp → Prop, (∃ m, W 0 m (upd H1 D (.lst []))) ∧ ∀ i m H, W i m H →
      ((Itl K a).stop i H ∧ Qd H) ∨ ((Itl K a).go i H ∧ ∃ Nx : Hp → Prop, (∀ H', Nx H' → ∃ m', m' < m ∧ W (i + 1) m' H') ∧ ∀ x H', (Itl K a).yld i H x H' → g x (wipe σ vs) H' fun σ2 H2 => wipe σ2 vs = wipe σ vs ∧ tt σ2 H2 fun b H3 =>
        if b = true then te σ2 H3 fun y H4 => ∃ acc, H4 D = some (.lst acc) ∧ acc.length < sizeLine ∧ Nx (upd H4 D (.lst (acc ++ [y]))) else Nx H3) := by
  refine ⟨fun i m H => m = xs.length - i ∧ i ≤ xs.length ∧ Pv i H, ⟨xs.length, by simp, Nat.zero_le _, h0⟩, ?_⟩
  rintro i m H ⟨rfl, hi, p⟩
  have q := hl i H hi p
  by_cases hlt : i < xs.length
  · refine .inr ⟨⟨xs, xs[i], q, by simp [hlt]⟩, Pv (i + 1), fun H' p' => ⟨xs.length - (i + 1), by omega, rfl, hlt, p'⟩, fun x H' y => ?_⟩
    obtain ⟨e, y⟩ := y
    subst e
    exact hs i x _ (y xs q) p
  · have e : i = xs.length := by omega
    subst e
    exact .inl ⟨⟨xs, q, Nat.le_refl _⟩, hd H p⟩
def blkC (N : List Str) (sc scope : Scope) (own : List (Str × Nat)) : Bool :=
  (match scope.kind with | .function => true | _ => false) && (scope.names.all fun y => decide (scope.names.lookup y.1 = some y.2)) && (own.all fun p => decide (N[p.2]? = some p.1)) &&
    (scope.names.all fun y => match y.2 with
      | .free => (match sc.names.lookup y.1 with | some .cell => true | some .free => true | _ => false)
      | .local => decide (y.1 ∈ own.map (·.1)) || decide (y.1 ∉ N)
      | .cell => decide (y.1 ∈ own.map (·.1)) || decide (y.1 ∉ N)
      | _ => true)
theorem blkOk_by {N : List Str} {sc scope : Scope} {own : List (Str × Nat)} (h : blkC N sc scope own = true) : BlkOk N sc scope own := by
  unfold blkC at h
  simp only [Bool.and_eq_true, List.all_eq_true, decide_eq_true_eq] at h
  obtain ⟨⟨⟨h1, h2⟩, h3⟩, h4⟩ := h
  refine ⟨?_, h2, h3, fun y hy e => ?_, fun y hy e => ?_⟩
  · split at h1
    · assumption
    · cases h1
  · have q := h4 y hy
    simp only [e] at q
    split at q <;> first | exact .inl (by assumption) | exact .inr (by assumption) | cases q
  · have q := h4 y hy
    rcases e with e | e <;> (simp only [e, Bool.or_eq_true, decide_eq_true_eq] at q; exact q)
end L2
namespace L2
open PySem PySem.Spec PyProof.Rows
section
variable {prog : Program} {w : World} {A : Around} {R : Result → Shared → Prop} {s : Shared} {elt t0 i0 t1 i1 : Expr} {ifs0 ifs1 : List Expr} {scope : Scope} {pos : Pos} {it acc : Value} {env : Env}
end
section
variable {X : Cx}
end
end L2
namespace L2
open PySem PySem.Spec PyProof.Rows
section
variable {κ : Type} [DecidableEq κ]
def valV (kvs : List (κ × V)) (k : κ) : Option V := (kvs.find? fun kv => decide (kv.1 = k)).map (·.2)
def putK (kvs : List (κ × V)) (k : κ) (v : V) : List (κ × V) :=
  if (kvs.any fun kv => decide (kv.1 = k)) = true then kvs.map (fun kv => if kv.1 = k then (kv.1, v) else kv) else kvs ++ [(k, v)]
theorem valV_pos {p : κ × V} {r : List (κ × V)} {k : κ} (e : p.1 = k) : valV (p :: r) k = some p.2 := by simp [valV, List.find?_cons, e]
theorem valV_neg {p : κ × V} {r : List (κ × V)} {k : κ} (e : ¬ p.1 = k) : valV (p :: r) k = valV r k := by simp [valV, List.find?_cons, e]
theorem valV_any (k : κ) : ∀ kvs : List (κ × V), (kvs.any fun kv => decide (kv.1 = k)) = (valV kvs k).isSome
  | [] => rfl
  | p :: r => by
    rw [List.any_cons]
    by_cases e : p.1 = k
    · simp only [valV_pos e, decide_eq_true e, Bool.true_or, Option.isSome_some]
    · rw [valV_neg e, decide_eq_false e, Bool.false_or]; exact valV_any k r
theorem length_putK (kvs : List (κ × V)) (k : κ) (v : V) : (putK kvs k v).length ≤ kvs.length + 1 := by
  unfold putK
  split
  · rw [List.length_map]; omega
  · rw [List.length_append, List.length_cons, List.length_nil]; omega
theorem putK_new {kvs : List (κ × V)} {k : κ} (v : V) (h : valV kvs k = none) : putK kvs k v = kvs ++ [(k, v)] := by
  unfold putK
  rw [valV_any, h]
  exact if_neg (by decide)
theorem RelO.isSome_eq {o : Option V} {u : Option Value} (r : RelO o u) : o.isSome = u.isSome := by
  cases o with
  | none => cases u with
    | none => rfl
    | some _ => exact (show False from r).elim
  | some _ => cases u with
    | none => exact (show False from r).elim
    | some _ => rfl
theorem RelO.getD {o : Option V} {u : Option Value} {d : V} {d' : Value} (r : RelO o u) (rd : RelV d d') : RelV (o.getD d) (u.getD d') := by
  cases o with
  | none => cases u with
    | none => exact rd
    | some _ => exact (show False from r).elim
  | some _ => cases u with
    | none => exact (show False from r).elim
    | some _ => exact r
theorem KV.val {kvs : List (κ × V)} {vs : List (κ × Value)} (r : KV kvs vs) (k : κ) : RelO (valV kvs k) (valueAt vs k) := by
  unfold KV at r
  induction r with
  | nil => exact True.intro
  | @cons p q ps qs h t ih =>
    obtain ⟨h1, h2⟩ := h
    by_cases e : p.1 = k
    · have e' : q.1 = k := h1.symm.trans e
      have b : valueAt (q :: qs) k = some q.2 := by simp [valueAt, List.find?_cons, e']
      rw [valV_pos e, b]; exact h2
    · have e' : ¬ q.1 = k := fun z => e (h1.trans z)
      have b : valueAt (q :: qs) k = valueAt qs k := by simp [valueAt, List.find?_cons, e']
      rw [valV_neg e, b]; exact ih
theorem KV.any {kvs : List (κ × V)} {vs : List (κ × Value)} (r : KV kvs vs) (k : κ) : (kvs.any fun kv => decide (kv.1 = k)) = vs.any fun kv => decide (kv.1 = k) := by
  unfold KV at r
  induction r with
  | nil => rfl
  | cons h t ih => rw [List.any_cons, List.any_cons, ih, h.1]
theorem KV.repl {kvs : List (κ × V)} {vs : List (κ × Value)} (r : KV kvs vs) (k : κ) {y : V} {u : Value} (ry : RelV y u) :
    KV (kvs.map fun kv => if kv.1 = k then (kv.1, y) else kv) (vs.map fun kv => if kv.1 = k then (kv.1, u) else kv) := by
  unfold KV at r ⊢
  induction r with
  | nil => exact .nil
  | @cons p q ps qs h t ih =>
    rw [List.map_cons, List.map_cons]
    refine .cons ?_ ih
    obtain ⟨h1, h2⟩ := h
    by_cases e : p.1 = k
    · rw [if_pos e, if_pos (h1.symm.trans e)]; exact ⟨h1, ry⟩
    · rw [if_neg e, if_neg (fun z => e (h1.trans z))]; exact ⟨h1, h2⟩
theorem KV.put {kvs : List (κ × V)} {vs : List (κ × Value)} (r : KV kvs vs) (k : κ) {y : V} {u : Value} (ry : RelV y u) : KV (putK kvs k y) (stored vs k u) := by
  unfold putK stored
  rw [r.any k]
  by_cases e : (vs.any fun kv => decide (kv.1 = k)) = true
  · rw [if_pos e, if_pos e]; exact r.repl k ry
  · rw [if_neg e, if_neg e]; exact Paired.snoc r ⟨rfl, ry⟩
theorem KV.length {kvs : List (κ × V)} {vs : List (κ × Value)} (r : KV kvs vs) : kvs.length = vs.length := Paired.length r
end
theorem kV_is {P : Program} {w : World} {k : Key} {u : Value} (r : RelV (kV k) u) : (mixKind P w).is k u = true := by
  cases k with
  | inl i => obtain ⟨t, e⟩ := (show ∃ t, u = Value.int i t from r); subst e; exact mixKind_int P w i t
  | inr x => obtain ⟨t, e⟩ := (show ∃ t, u = Value.str x t from r); subst e; exact mixKind_str P w x t
theorem items_are {P : Program} {w : World} : ∀ {ks : List Key} {us : List Value}, Vals (ks.map kV) us → ItemsAre (mixKind P w) ks us
  | [], _, r => by rw [List.map_nil] at r; cases r; exact .nil
  | k :: ks, _, r => by
    rw [List.map_cons] at r
    cases r with
    | cons h t => exact .cons (kV_is h) (items_are t)
abbrev KT (H : Hp) : List (List Key × V) → List (List Key × Addr × Value) → Prop := Paired fun p q => p.1 = q.1 ∧ H q.2.1 = some (.tup (p.1.map kV)) ∧ RelV p.2 q.2.2
theorem KT.val {H : Hp} {kvs : List (List Key × V)} {xs : List (List Key × Addr × Value)} (r : KT H kvs xs) (k : List Key) : RelO (valV kvs k) ((atKey xs k).map (·.2)) := by
  induction r with
  | nil => exact True.intro
  | @cons p q ps qs h t ih =>
    obtain ⟨h1, _, h2⟩ := h
    by_cases e : p.1 = k
    · have e' : q.1 = k := h1.symm.trans e
      have b : atKey (q :: qs) k = some q.2 := by simp [atKey, List.find?_cons, e']
      rw [valV_pos e, b]; exact h2
    · have e' : ¬ q.1 = k := fun z => e (h1.trans z)
      have b : atKey (q :: qs) k = atKey qs k := by simp [atKey, List.find?_cons, e']
      rw [valV_neg e, b]; exact ih
theorem KT.repl {H : Hp} {kvs : List (List Key × V)} {xs : List (List Key × Addr × Value)} (r : KT H kvs xs) (k : List Key) {y : V} {u : Value} (ry : RelV y u) :
    KT H (kvs.map fun kv => if kv.1 = k then (kv.1, y) else kv) (xs.map (putAt k u)) := by
  induction r with
  | nil => exact .nil
  | @cons p q ps qs h t ih =>
    rw [List.map_cons, List.map_cons]
    refine .cons ?_ ih
    obtain ⟨h1, h2, h3⟩ := h
    unfold putAt
    by_cases e : p.1 = k
    · rw [if_pos e, if_pos (h1.symm.trans e)]; exact ⟨h1, h2, ry⟩
    · rw [if_neg e, if_neg (fun z => e (h1.trans z))]; exact ⟨h1, h2, h3⟩
theorem KT.put {H : Hp} {kvs : List (List Key × V)} {xs : List (List Key × Addr × Value)} (r : KT H kvs xs) (k : List Key) {b : Addr} {y : V} {u : Value} (hb : H b = some (.tup (k.map kV))) (ry : RelV y u) :
    KT H (putK kvs k y) (storedH xs k b u) := by
  have e : (kvs.any fun kv => decide (kv.1 = k)) = (atKey xs k).isSome := by
    rw [valV_any, (r.val k).isSome_eq, Option.isSome_map]
  unfold putK storedH
  rw [e]
  by_cases q : (atKey xs k).isSome = true
  · rw [if_pos q, if_pos q]; exact r.repl k ry
  · rw [if_neg q, if_neg q]; exact Paired.snoc r ⟨rfl, hb, ry⟩
theorem KT.keeps {H H' : Hp} {kvs : List (List Key × V)} {xs : List (List Key × Addr × Value)} (r : KT H kvs xs) (ht : ∀ b ys, H b = some (.tup ys) → H' b = some (.tup ys)) : KT H' kvs xs :=
  Paired.mapP r fun _ _ z => ⟨z.1, ht _ _ z.2.1, z.2.2⟩
section
variable {P : Program} {w : World} {H : Hp} {h : Heap} {a : Addr}
theorem rd_of {u : HO} (ok : HOk P w H h) (e : Rd H a u) : ObjOk P w H h a u := e.ok ok
theorem dk_rd {kvs : List (Key × V)} (ok : HOk P w H h) (e : Rd H a (.dK kvs)) : kvs.length ≤ sizeLine ∧ (a == sysModules) = false ∧ ∃ vs, KV kvs vs ∧ h.DictOf (mixKind P w) a vs :=
  show ObjOk P w H h a (.dK kvs) from rd_of ok e
theorem dk_of {kvs : List (Key × V)} (ok : HOk P w H h) (e : H a = some (.dK kvs)) : kvs.length ≤ sizeLine ∧ (a == sysModules) = false ∧ ∃ vs, KV kvs vs ∧ h.DictOf (mixKind P w) a vs := dk_rd ok (.inl e)
theorem key_of {ks : List Key} (ok : HOk P w H h) (e : H a = some (.tup (ks.map kV))) : (tupleKind (mixKind P w)).is h ks a := by
  obtain ⟨_, its, r, o, h1, h2, n, h3⟩ := (show ObjOk P w H h a (.tup (ks.map kV)) from ok a _ e)
  exact ⟨o, its.toArray, n, h1, h2, h3, by simpa using items_are r⟩
theorem dt_rd {kvs : List (List Key × V)} (ok : HOk P w H h) (e : Rd H a (.dT kvs)) : kvs.length ≤ sizeLine ∧ (a == sysModules) = false ∧
    ∃ xs, KT H kvs xs ∧ h.DictOfH (tupleKind (mixKind P w)) a xs := by
  obtain ⟨z, y, xs, r, o, es, ep, h1, h2, h3, h4, h5⟩ := (show ObjOk P w H h a (.dT kvs) from rd_of ok e)
  refine ⟨z, y, xs, r, o, es, ep, h1, h2, h3, h4, fun x hx => ?_, h5⟩
  have all : ∀ {l : List (List Key × V)} {m : List (List Key × Addr × Value)}, KT H l m → ∀ x ∈ m, (tupleKind (mixKind P w)).is h x.1 x.2.1 := by
    intro l m q
    induction q with
    | nil => intro x hx; exact nomatch hx
    | @cons p q ps qs hq t ih =>
      intro x hx
      rcases List.mem_cons.mp hx with e | hx
      · subst e
        exact key_of ok (by rw [← hq.1]; exact hq.2.1)
      · exact ih x hx
  exact all r x hx
theorem dt_of {kvs : List (List Key × V)} (ok : HOk P w H h) (e : H a = some (.dT kvs)) : kvs.length ≤ sizeLine ∧ (a == sysModules) = false ∧
    ∃ xs, KT H kvs xs ∧ h.DictOfH (tupleKind (mixKind P w)) a xs := dt_rd ok (.inl e)
end
def DGet (H : Hp) (a : Addr) (y : V) (r : Option V) : Prop :=
  (∃ kvs k, Rd H a (.dK kvs) ∧ y = kV k ∧ r = valV kvs k) ∨ ∃ kvs k b, Rd H a (.dT kvs) ∧ y = .ref b ∧ H b = some (.tup (k.map kV)) ∧ r = valV kvs k
def DPut (H : Hp) (a : Addr) (y v : V) (H' : Hp) : Prop :=
  (∃ kvs k, H a = some (.dK kvs) ∧ y = kV k ∧ kvs.length < sizeLine ∧ H' = upd H a (.dK (putK kvs k v))) ∨
  ∃ kvs k b, H a = some (.dT kvs) ∧ y = .ref b ∧ H b = some (.tup (k.map kV)) ∧ kvs.length < sizeLine ∧ H' = upd H a (.dT (putK kvs k v))
theorem DGet.k {H : Hp} {a : Addr} {kvs : List (Key × V)} {k : Key} (e : H a = some (.dK kvs)) : DGet H a (kV k) (valV kvs k) := .inl ⟨kvs, k, .inl e, rfl, rfl⟩
theorem DPut.k {H : Hp} {a : Addr} {kvs : List (Key × V)} {k : Key} {v : V} (e : H a = some (.dK kvs)) (hl : kvs.length < sizeLine) : DPut H a (kV k) v (upd H a (.dK (putK kvs k v))) := .inl ⟨kvs, k, e, rfl, hl, rfl⟩
section
variable {X : Cx} {pins : List (Addr × Obj)} {σ : St} {H : Hp} {s : Shared} {a : Addr} {y v : V} {u r : Value} {o : Option V} {A : Around} {E : Value → Shared → Prop}
theorem Inv.big (I : Inv X pins σ H s) : sysModules < s.heap.objs.size := by
  have h : mainGlobals < s.heap.objs.size := (I.mod.glob.keeps I.bk).lt
  exact Nat.lt_trans (by decide) h
theorem d_getItem {Q : Value → Shared → Prop} (hu : A.units + 1 < cLine) (I : Inv X pins σ H s) (g : DGet H a y (some v)) (ry : RelV y u) (h : ∀ w' s', Inv X pins σ H s' → RelV v w' → Q w' s') :
    wpAny (model X.prog X.w) A (getItem (.ref a) u) Q E s := by
  rcases g with ⟨kvs, k, e, ey, l⟩ | ⟨kvs, k, b, e, ey, eb, l⟩
  · subst ey
    obtain ⟨z, hd, vs, rel, dd⟩ := dk_rd I.hok e
    obtain ⟨w', hw, rw'⟩ := RelO.some_of (v := v) (o := valueAt vs k) (by rw [l]; exact rel.val k)
    exact wpAny_getItem_of (kV_is ry) dd.mapOf hw (h w' _ (I.tok _) rw')
  · subst ey
    cases (show u = Value.ref b from ry)
    obtain ⟨z, hd, xs, rel, dd⟩ := dt_rd I.hok e
    obtain ⟨w', hw, rw'⟩ := RelO.some_of (v := v) (o := (atKey xs k).map (·.2)) (by rw [l]; exact rel.val k)
    obtain ⟨p, hp, hp2⟩ := Option.map_eq_some_iff.mp hw
    refine wpAny_getItem_heap (tupleKind_room_in1 hu) (key_of I.hok eb) dd hp ?_
    rw [hp2]
    exact h w' _ (I.tok _) rw'
theorem d_in {Q : Value → Shared → Prop} (hu : A.units + 1 < cLine) (I : Inv X pins σ H s) (g : DGet H a y o) (ry : RelV y u) (h : ∀ s', Inv X pins σ H s' → Q (.bool o.isSome) s') :
    wpAny (model X.prog X.w) A (compareOp .In u (.ref a)) Q E s := by
  rcases g with ⟨kvs, k, e, ey, l⟩ | ⟨kvs, k, b, e, ey, eb, l⟩
  · subst ey
    obtain ⟨z, hd, vs, rel, dd⟩ := dk_rd I.hok e
    refine wpAny_in_of (kV_is ry) hd dd.mapOf ?_
    rw [← (rel.val k).isSome_eq, ← l]
    exact h _ (I.tok _)
  · subst ey
    cases (show u = Value.ref b from ry)
    obtain ⟨z, hd, xs, rel, dd⟩ := dt_rd I.hok e
    refine wpAny_in_heap (tupleKind_room_in1 hu) (key_of I.hok eb) hd dd ?_
    have q := (rel.val k).isSome_eq
    rw [Option.isSome_map] at q
    rw [← q, ← l]
    exact h _ (I.tok _)
theorem d_notIn {Q : Value → Shared → Prop} (hu : A.units + 1 < cLine) (I : Inv X pins σ H s) (g : DGet H a y o) (ry : RelV y u) (h : ∀ s', Inv X pins σ H s' → Q (.bool (!o.isSome)) s') :
    wpAny (model X.prog X.w) A (compareOp .NotIn u (.ref a)) Q E s := by
  rcases g with ⟨kvs, k, e, ey, l⟩ | ⟨kvs, k, b, e, ey, eb, l⟩
  · subst ey
    obtain ⟨z, hd, vs, rel, dd⟩ := dk_rd I.hok e
    refine wpAny_notIn_of (kV_is ry) hd dd.mapOf ?_
    rw [← (rel.val k).isSome_eq, ← l]
    exact h _ (I.tok _)
  · subst ey
    cases (show u = Value.ref b from ry)
    obtain ⟨z, hd, xs, rel, dd⟩ := dt_rd I.hok e
    refine wpAny_notIn_heap (tupleKind_room_in1 hu) (key_of I.hok eb) hd dd ?_
    have q := (rel.val k).isSome_eq
    rw [Option.isSome_map] at q
    rw [← q, ← l]
    exact h _ (I.tok _)
theorem d_write {h' : Heap} {t' : Nat} {ob : HO} (I : Inv X pins σ H s) (mu : Mut (H a)) (hs : Heap.SameBut a s.heap h') (he : ∃ q, h'.get? a = some q) (new : ObjOk X.prog X.w (upd H a ob) h' a ob) :
    Inv X pins σ (upd H a ob) { s with heap := h', toks := t' } :=
  I.write (x := a) (e := a) mu (.inl rfl) (fun b q hb z => (hs.2 b hb).trans z) he new
theorem dk_new {P : Program} {w : World} {H' : Hp} {h' : Heap} {kvs : List (Key × V)} {vs : List (Key × Value)} (z : kvs.length ≤ sizeLine) (hd : (a == sysModules) = false) (rel : KV kvs vs) (dd : h'.DictOf (mixKind P w) a vs) :
    ObjOk P w H' h' a (.dK kvs) := ⟨z, hd, vs, rel, dd⟩
theorem d_setItem {H' : Hp} {Q : Unit → Shared → Prop} (hu : A.units + 1 < cLine) (I : Inv X pins σ H s) (g : DPut H a y v H') (ry : RelV y u) (rv : RelV v r) (h : ∀ s', Inv X pins σ H' s' → Q () s') :
    wpAny (model X.prog X.w) A (setItem (.ref a) u r) Q E s := by
  rcases g with ⟨kvs, k, e, ey, l, eH⟩ | ⟨kvs, k, b, e, ey, eb, l, eH⟩
  · subst ey eH
    obtain ⟨z, hd, vs, rel, dd⟩ := dk_of I.hok e
    have hz : vs.length ≤ sizeLine := by rw [← rel.length]; exact z
    have hl : (putK kvs k v).length ≤ sizeLine := by have := length_putK kvs k v; omega
    refine wpAny_setItem_pairs (hsz := hz) (kV_is ry) dd fun h' dd' hs => h _ ?_
    have he : ∃ q, h'.get? a = some q := let ⟨q, _, _, hq, _⟩ := dd'; ⟨q, hq⟩
    exact d_write I (by rw [e]; exact True.intro) hs he (dk_new hl hd (rel.put k rv) dd')
  · subst ey eH
    cases (show u = Value.ref b from ry)
    obtain ⟨z, hd, xs, rel, dd⟩ := dt_of I.hok e
    have hz : xs.length ≤ sizeLine := by rw [← Paired.length rel]; exact z
    have hl : (putK kvs k v).length ≤ sizeLine := by have := length_putK kvs k v; omega
    refine wpAny_setItem_heap (hsz := hz) (tupleKind_room_in1 hu) (key_of I.hok eb) dd fun h' dd' hs => h _ ?_
    obtain ⟨q, es, ep, hq, h2, h3, h4, _, h5⟩ := dd'
    refine d_write I (by rw [e]; exact True.intro) hs ⟨q, hq⟩ ⟨hl, hd, _, (rel.put k eb rv).keeps fun c ys ec => ?_, q, es, ep, hq, h2, h3, h4, h5⟩
    rw [upd_ne (ne_of ec e (fun z => nomatch z))]
    exact ec
end
section
variable {X : Cx} {pins : List (Addr × Obj)} {σ : St} {H : Hp} {s : Shared} {a : Addr} {kvs : List (Key × V)} {k : Key} {u : Value} {A : Around} {E : Value → Shared → Prop}
theorem d_len {Q : Value → Shared → Prop} (I : Inv X pins σ H s) (e : Rd H a (.dK kvs)) (h : ∀ t s', Inv X pins σ H s' → Q (.int kvs.length t) s') : wpAny (model X.prog X.w) A (call (.builtin "len") [.ref a]) Q E s := by
  obtain ⟨z, hd, vs, rel, dd⟩ := dk_rd I.hok e
  refine call_len_dict hd dd (by rw [← rel.length]; rw [sizeLine_eq] at z; omega) ?_
  rw [← rel.length]
  exact h _ _ (I.tok _)
end
def NoSl (i : Expr) : Prop := ∀ ov iv, subscripted i false ov iv = operate [ov, iv] (getItem ov iv)
theorem subD_of {prog : Program} {w : World} {A : Around} {E : Value → Shared → Prop} {s : Shared} {env : Env} {value slice : Expr} {pos : Pos} {T id : String} {Q : Value → Shared → Prop}
    (hl : typeLookup (.type T) "__getitem__" = pure (some (.builtin id))) (hs : NoSl slice)
    (h : wpAny (model prog w) A (eval value env) (fun o s₁ => wpAny (model prog w) A (eval slice env) (fun i s₂ => s₂.TypeIs o T ∧ wpAny (model prog w) A (getItem o i) Q E s₂) E s₁) E s) :
    wpAny (model prog w) A (eval (.Subscript value slice pos) env) Q E s := by
  refine Subscript_ (wpAny_mono h (fun o s₁ h₁ => wpAny_mono h₁ (fun i s₂ h₂ => ?_) fun _ _ x => x) fun _ _ x => x)
  obtain ⟨hT, h₂⟩ := h₂
  unfold subscriptTail
  refine wpAny_bind ?_
  rw [getitemInPython_of_ne hT.not_modules]
  refine wpAny_bind (wpAny_specialOf hT hl ?_)
  have fin : wpAny (model prog w) A (subscripted slice false o i) (fun r s₃ => wpAny (model prog w) A (letTemporaryGo value o r >>= fun _ => pure r) Q E s₃) E s₂ := by
    rw [hs o i]
    exact wpAny_operating (wpAny_mono h₂ (fun r s₃ h₃ => wpAny_bind (wpAny_letTemporaryGo (wpAny_pure h₃))) fun _ _ x => x)
  first
    | exact wpAny_pure (wpAny_bind fin)
    | exact wpAny_bind (wpAny_pure (wpAny_bind fin))
    | exact wpAny_bind fin
theorem dict_typeIs {X : Cx} {pins : List (Addr × Obj)} {σ : St} {H : Hp} {s : Shared} {a : Addr} {y : V} {o : Option V} (I : Inv X pins σ H s) (g : DGet H a y o) : s.TypeIs (.ref a) "dict" := by
  rcases g with ⟨kvs, k, e, _, _⟩ | ⟨kvs, k, b, e, _, _, _⟩
  · obtain ⟨_, _, vs, _, dd⟩ := dk_rd I.hok e
    exact dd.typeIs
  · obtain ⟨_, _, xs, _, dd⟩ := dt_rd I.hok e
    exact dd.typeIs
def tDGet (td ty : TE) : TE := fun σ H Q => td σ H fun x H1 => ty σ H1 fun y H2 => ∃ a v, x = .ref a ∧ DGet H2 a y (some v) ∧ Q v H2
def tDIn (ty td : TE) : TE := fun σ H Q => ty σ H fun y H1 => td σ H1 fun x H2 => ∃ a o, x = .ref a ∧ DGet H2 a y o ∧ Q (.bl o.isSome) H2
def tDNotIn (ty td : TE) : TE := fun σ H Q => ty σ H fun y H1 => td σ H1 fun x H2 => ∃ a o, x = .ref a ∧ DGet H2 a y o ∧ Q (.bl (!o.isSome)) H2
def sDPut (td ty tv : TE) : TS := fun D σ H => tv σ H fun v H1 => td σ H1 fun x H2 => ty σ H2 fun y H3 => ∃ a H4, x = .ref a ∧ DPut H3 a y v H4 ∧ D.nx σ H4
section
variable {X : Cx} {o i e value : Expr} {pos pos' tpos : Pos} {td ty tv : TE}
theorem pe_dget (hu : X.A.units + 1 < cLine) (ho : PE X o td) (hi : PE X i ty) (hs : NoSl i) : PE X (.Subscript o i pos) (tDGet td ty) := by
  intro pins s σ H Q I h
  refine subD_of PySem.F.slot_dict_getitem.lookup hs (thn (ho pins s σ H _ I h) fun u s1 ⟨x, H1, I1, rx, q1⟩ => thn (hi pins s1 σ H1 _ I1 q1) fun iv s2 ⟨y, H2, I2, ry, a, v, ex, g, q2⟩ => ?_)
  subst ex
  obtain rfl : u = Value.ref a := rx
  exact ⟨dict_typeIs I2 g, d_getItem hu I2 g ry fun w' s3 I3 rw' => ⟨v, H2, I3, rw', q2⟩⟩
theorem pc_din (hu : X.A.units + 1 < cLine) (hi : PE X i ty) (ho : PE X o td) : PC X .In i o (tDIn ty td) := by
  intro pins s σ H Q I h
  refine thn (hi pins s σ H _ I h) fun iv s1 ⟨y, H1, I1, ry, q1⟩ => thn (ho pins s1 σ H1 _ I1 q1) fun u s2 ⟨x, H2, I2, rx, a, ov, ex, g, q2⟩ => ?_
  subst ex
  obtain rfl : u = Value.ref a := rx
  exact d_in hu I2 g ry fun s3 I3 => ⟨.bl ov.isSome, H2, I3, rfl, q2⟩
theorem pc_dnotin (hu : X.A.units + 1 < cLine) (hi : PE X i ty) (ho : PE X o td) : PC X .NotIn i o (tDNotIn ty td) := by
  intro pins s σ H Q I h
  refine thn (hi pins s σ H _ I h) fun iv s1 ⟨y, H1, I1, ry, q1⟩ => thn (ho pins s1 σ H1 _ I1 q1) fun u s2 ⟨x, H2, I2, rx, a, ov, ex, g, q2⟩ => ?_
  subst ex
  obtain rfl : u = Value.ref a := rx
  exact d_notIn hu I2 g ry fun s3 I3 => ⟨.bl (!ov.isSome), H2, I3, rfl, q2⟩
theorem ps_dput (hu : X.A.units + 1 < cLine) (ho : PE X o td) (hi : PE X i ty) (hv : PE X value tv) (hs : swapsWith value (some (.Subscript o i pos')) pos.line X.env = pure false) :
    PS X (.Assign [.Subscript o i pos'] value pos) (sDPut td ty tv) := by
  intro pins s σ H D I h
  refine wpAny_Assign_Subscript (thn (hv pins s σ H _ I h) fun r s1 ⟨v, H1, I1, rv, q1⟩ => thn (ho pins s1 σ H1 _ I1 q1) fun u s2 ⟨x, H2, I2, rx, q2⟩ => thn (hi pins s2 σ H2 _ I2 q2) fun iv s3 ⟨y, H3, I3, ry, a, H4, ex, g, q3⟩ => ?_) hs
  subst ex
  obtain rfl : u = Value.ref a := rx
  exact d_setItem hu I3 g ry rv fun s4 I4 => ⟨σ, H4, I4, q3⟩
end
theorem dk_empty {P : Program} {w : World} {H : Hp} (h : Heap) (hb : sysModules < h.objs.size) : ObjOk P w H (h.push { cls := .type "dict", data := .dict #[] }) h.objs.size (.dK []) :=
  ⟨Nat.zero_le _, beq_eq_false_iff_ne.mpr (Ne.symm (Nat.ne_of_lt hb)), [], .nil, Heap.DictOf.new h⟩
def tDNewK : TE := fun _ H Q => ∀ p, H p = none → Q (.ref p) (upd H p (.dK []))
section
variable {X : Cx} {pos : Pos}
theorem pe_dnewK : PE X (.Dict [] [] pos) tDNewK := fun pins s σ H Q I h =>
  wpAny_Dict_empty ⟨.ref s.heap.objs.size, _, I.laid (a := s.heap.objs.size) (o := .dK []) (t' := s.toks) (fun _ _ q => Heap.get?_push_of_some _ q) (Nat.le_refl _) (dk_empty s.heap I.big), rfl, h _ (I.hok.fresh (Nat.le_refl _))⟩
end
def mergeK (kvs more : List (Key × V)) : List (Key × V) := more.foldl (fun acc kv => putK acc kv.1 kv.2) kvs
theorem KV.merge : ∀ {more : List (Key × V)} {rs : List (Key × Value)} {kvs : List (Key × V)} {vs : List (Key × Value)}, KV more rs → KV kvs vs → KV (mergeK kvs more) (merged vs rs) := by
  intro more rs kvs vs r
  unfold KV at r
  induction r generalizing kvs vs with
  | nil => intro q; exact q
  | @cons p q ps qs h t ih =>
    intro r0
    have e : KV (putK kvs p.1 p.2) (stored vs q.1 q.2) := by
      have := r0.put p.1 h.2
      rw [← h.1]; exact this
    exact ih e
theorem length_mergeK : ∀ (more kvs : List (Key × V)), (mergeK kvs more).length ≤ kvs.length + more.length
  | [], kvs => by show kvs.length ≤ kvs.length + 0; omega
  | p :: r, kvs => by
    have h1 := length_mergeK r (putK kvs p.1 p.2)
    have h2 := length_putK kvs p.1 p.2
    show (mergeK (putK kvs p.1 p.2) r).length ≤ _
    rw [List.length_cons]; omega
structure M2 (X : Cx) (o : Expr) (m : Str) (apos : Pos) (e f : Expr) (cpos : Pos) : Prop where
  base : attributeBase o m X.env (eval o X.env) = eval o X.env
  few : ((backTo cpos (starEach [e, f] X.env)).all (fun x => !x.1) && (backToKw cpos (keywordEach [] X.env)).all (fun x => x.1.isSome)
    && decide (([e, f] : List Expr).length + ([] : List Keyword).length + (if ([] : List Keyword).isEmpty then 0 else 1) < 30)) = true
  line : (apos.endLine == cpos.line) = true
  trees : backTo cpos (starEach [e, f] X.env) = [(false, eval e X.env), (false, eval f X.env)]
def IsD (H : Hp) (a : Addr) : Prop := (∃ kvs, Rd H a (.dK kvs)) ∨ ∃ kvs, Rd H a (.dT kvs)
theorem isD_at {X : Cx} {pins : List (Addr × Obj)} {σ : St} {H : Hp} {s : Shared} {a : Addr} (I : Inv X pins σ H s) (d : IsD H a) :
    s.TypeIs (.ref a) "dict" ∧ (∀ b, Value.ref a = .ref b → ∃ ob, s.heap.get? b = some ob ∧ ob.dict = none) ∧ (a == sysModules) = false := by
  rcases d with ⟨kvs, e⟩ | ⟨kvs, e⟩
  · obtain ⟨_, hd, vs, _, dd⟩ := dk_rd I.hok e
    refine ⟨dd.typeIs, fun b q => ?_, hd⟩
    cases q
    obtain ⟨ob, _, _, h1, h2, _⟩ := dd
    exact ⟨ob, h1, h2.2.1⟩
  · obtain ⟨_, hd, xs, _, dd⟩ := dt_rd I.hok e
    refine ⟨dd.typeIs, fun b q => ?_, hd⟩
    cases q
    obtain ⟨ob, _, _, h1, h2, _⟩ := dd
    exact ⟨ob, h1, h2.2.1⟩
section
variable {X : Cx} {pins : List (Addr × Obj)} {σ : St} {H : Hp} {s : Shared} {a : Addr} {y d : V} {u r : Value} {o : Option V} {A : Around} {E : Value → Shared → Prop}
theorem d_get2 {Q : Value → Shared → Prop} (hu : A.units + 1 < cLine) (I : Inv X pins σ H s) (g : DGet H a y o) (ry : RelV y u) (rd : RelV d r) (h : ∀ w' s', Inv X pins σ H s' → RelV (o.getD d) w' → Q w' s') :
    wpAny (model X.prog X.w) A (call (.builtin "dict.get") [.ref a, u, r]) Q E s := by
  rcases g with ⟨kvs, k, e, ey, l⟩ | ⟨kvs, k, b, e, ey, eb, l⟩
  · subst ey
    obtain ⟨z, hd, vs, rel, dd⟩ := dk_rd I.hok e
    refine call_meetsIn PySem.F.slot_dict_get dd.typeIs PySem.F.entry_dict_get (PySem.F.args_dict_get_3 _ _ _) (meets_dict_get_default (mixKind X.prog X.w) a (kV_is ry) hd r) ⟨_, dd.mapOf, h _ _ (I.tok _) ?_⟩
    rw [l]
    exact (rel.val k).getD rd
  · subst ey
    cases (show u = Value.ref b from ry)
    obtain ⟨z, hd, xs, rel, dd⟩ := dt_rd I.hok e
    refine call_meetsIn PySem.F.slot_dict_get dd.typeIs PySem.F.entry_dict_get (PySem.F.args_dict_get_3 _ _ _) (meetsH_dict_get_default (tupleKind (mixKind X.prog X.w)) a b hd r) ⟨tupleKind_room_in1 hu, k, xs, key_of I.hok eb, dd, h _ _ (I.tok _) ?_⟩
    rw [l]
    exact (rel.val k).getD rd
end
def tDGet2 (td ty tx : TE) : TE := fun σ H Q => td σ H fun x H1 => ∃ a, x = .ref a ∧ IsD H1 a ∧ ty σ H1 fun y H2 => tx σ H2 fun z H3 => ∃ o, DGet H3 a y o ∧ Q (o.getD z) H3
section
variable {X : Cx} {o e f : Expr} {apos cpos : Pos} {td ty tx : TE}
theorem pe_dget2 (hu : X.A.units + 1 < cLine) (ho : PE X o td) (he : PE X e ty) (hf : PE X f tx) (m : M2 X o "get" apos e f cpos) : PE X (.Call (.Attribute o "get" apos) [e, f] [] cpos) (tDGet2 td ty tx) := by
  intro pins s σ H Q I h
  refine wpAny_Call_method m.base m.few m.line PySem.F.plainAttrs_dict PySem.F.slot_dict_get PySem.F.type_dict_get (thn (ho pins s σ H _ I h) fun u s1 ⟨x, H1, I1, rx, a, ex, d, q1⟩ => ?_)
  subst ex
  obtain rfl : u = Value.ref a := rx
  obtain ⟨t1, t2, _⟩ := isD_at I1 d
  refine ⟨t1, t2, ?_⟩
  rw [m.trees]
  refine Calls.callWith_builtin rfl (Calls.evalArgs_plain (Calls.spliced_cons (thn (he pins s1 σ H1 _ I1 q1) fun iv s2 ⟨y, H2, I2, ry, q2⟩ =>
    Calls.spliced_cons (thn (hf pins s2 σ H2 _ I2 q2) fun fv s3 ⟨z, H3, I3, rz, ov, g, q3⟩ => Calls.spliced_nil ?_))))
  exact d_get2 hu I3 g ry rz fun w' s4 I4 rw' => ⟨_, H3, I4, rw', q3⟩
end
section
variable {X : Cx} {pins : List (Addr × Obj)} {σ : St} {H : Hp} {s : Shared} {a : Addr} {kvs : List (Key × V)} {A : Around} {E : Value → Shared → Prop}
theorem d_copyOf {Q : Value → Shared → Prop} (I : Inv X pins σ H s) (e : Rd H a (.dK kvs)) (h : ∀ p s', H p = none → Inv X pins σ (upd H p (.dK kvs)) s' → Q (.ref p) s') : wpAny (model X.prog X.w) A (call (.type "dict") [.ref a]) Q E s := by
  obtain ⟨z, hd, vs, rel, dd⟩ := dk_rd I.hok e
  refine kt_call_dict hd dd (by rw [← rel.length]; exact z) fun h' dd' hs => ?_
  refine h _ _ (I.hok.fresh (Nat.le_refl _)) (I.laid (a := s.heap.objs.size) (o := .dK kvs) (t' := s.toks) (fun b q hq => ?_) (Nat.le_refl _) (dk_new z (beq_eq_false_iff_ne.mpr (Ne.symm (Nat.ne_of_lt I.big))) rel dd'))
  exact (hs.2 b (Nat.ne_of_lt (Heap.lt_size hq))).trans (Heap.get?_push_of_some _ hq)
end
section
variable {X : Cx} {pins : List (Addr × Obj)} {σ : St} {H : Hp} {s : Shared} {a : Addr} {y : V} {u : Value} {A : Around} {E : Value → Shared → Prop}
end
end L2
namespace L2
open PySem PySem.Spec PyProof.Rows
section
variable {prog : Program} {w : World} {A : Around} {E : Value → Shared → Prop}
end
section
variable {X : Cx}
end
end L2
namespace L2
open PySem PySem.Spec PyProof.Rows
section
variable {X : Cx} {pins : List (Addr × Obj)} {σ : St} {H : Hp} {s : Shared} {h' : Heap}
theorem Inv.turnedL {t' : Nat} {ch : List Addr} (I : Inv X pins σ H s) (k : ∀ b o, b ∉ ch → s.heap.get? b = some o → h'.get? b = some o) (hf : ∀ b ∈ ch, FpOk X pins H b) : Inv X pins σ H { s with heap := h', toks := t' } := by
  have nit : ∀ b u, H b = some u → b ∉ ch := fun b u e z => by
    have q := (hf b z).1
    rw [q] at e; cases e
  refine I.step (g' := s.gens) (d' := s.drawn) (ch := ch) (fun b hb => ⟨(hf b hb).2.2.2.1, (hf b hb).2.1, (hf b hb).2.2.2.2.1, (hf b hb).2.2.2.2.2⟩) (fun b o _ _ hc e _ => k b o hc e) (fun b o _ _ hc e _ => ⟨o.slots, k b o hc e⟩)
    (fun _ _ _ _ n => n) (fun b o hc e => ⟨o, k b o hc e⟩) (fun _ _ e => e) (fun _ _ _ e => e) (fun b ps e => ⟨#[], by rw [e]; simp⟩) (fun m hm => ?_) (fun b u e => ?_) I.bare
  · obtain ⟨o, es, ep, ho, r⟩ := hm
    exact ⟨o, es, ep, k _ o (fun z => (hf _ z).2.1 rfl) ho, r⟩
  · refine (I.hok b u e).stay (fun c v hc q => k c v ?_ q) (fun _ q => q) fun _ _ q => q
    rcases hc with z | z
    · rw [z]; exact nit b u e
    · exact nit c _ z
theorem Inv.turnedNew {t' : Nat} {ch : List Addr} {T : Addr} {ob : HO} (I : Inv X pins σ H s) (k : ∀ b o, b ∉ ch → s.heap.get? b = some o → h'.get? b = some o) (hf : ∀ b ∈ ch, FpOk X pins H b) (hT : s.heap.objs.size ≤ T)
    (new : ObjOk X.prog X.w (upd H T ob) h' T ob) : Inv X pins σ (upd H T ob) { s with heap := h', toks := t' } := by
  have hn : H T = none := I.hok.fresh hT
  have nit : ∀ b u, H b = some u → b ∉ ch := fun b u e z => by
    have q := (hf b z).1
    rw [q] at e; cases e
  refine I.step (g' := s.gens) (d' := s.drawn) (ch := ch) (fun b hb => ⟨(hf b hb).2.2.2.1, (hf b hb).2.1, (hf b hb).2.2.2.2.1, (hf b hb).2.2.2.2.2⟩) (fun b o _ _ hc e _ => k b o hc e) (fun b o _ _ hc e _ => ⟨o.slots, k b o hc e⟩)
    (fun b o _ e n => ?_) (fun b o hc e => ⟨o, k b o hc e⟩) (fun b xs e => ?_) (fun b o u e => ?_) (fun b ps e => ⟨#[], ?_⟩) (fun m hm => ?_) (fun b u e => ?_) I.bare
  · rw [upd_ne (Nat.ne_of_lt (Nat.lt_of_lt_of_le (Heap.lt_size e) hT))]; exact n
  · rw [upd_ne (ne_of_none e hn)]; exact e
  · rw [upd_ne (ne_of_none e hn)]; exact e
  · rw [upd_ne (ne_of_none e hn), e]; simp
  · obtain ⟨o, es, ep, ho, r⟩ := hm
    exact ⟨o, es, ep, k _ o (fun z => (hf _ z).2.1 rfl) ho, r⟩
  · by_cases hb : b = T
    · subst hb
      rw [upd_same] at e
      cases e
      exact new
    · rw [upd_ne hb] at e
      refine (I.hok b u e).stay (fun c v hc q => k c v ?_ q) (fun c q => by rw [upd_ne (ne_of_none q hn)]; exact q) fun c xs q => by rw [upd_ne (ne_of_none q hn)]; exact q
      rcases hc with z | z
      · rw [z]; exact nit b u e
      · exact nit c _ z
theorem Inv.lock {d : Addr} {u : HO} (I : Inv X pins σ H s) (h : H d = some u) (mu : Mut (some u)) : ∃ od, Inv X pins σ (upd H d (.frz od u)) s := by
  have x := I.hok d u h
  have ex : ∃ od, s.heap.get? d = some od := by
    cases u with
    | lst xs => obtain ⟨_, _, _, _, e⟩ := x; exact ⟨_, e⟩
    | dK kvs => obtain ⟨_, _, _, _, o, _, _, e, _⟩ := x; exact ⟨o, e⟩
    | dT kvs => obtain ⟨_, _, _, _, o, _, _, e, _⟩ := x; exact ⟨o, e⟩
    | set S n => obtain ⟨o, _, _, _, e, _⟩ := x; exact ⟨o, e⟩
    | ins C dx fs => obtain ⟨_, _, _, e, _⟩ := x; exact ⟨_, e⟩
    | ext φ => obtain ⟨_, ⟨_, e⟩, _⟩ := x; exact ⟨_, e⟩
    | _ => exact False.elim mu
  obtain ⟨od, e⟩ := ex
  have new : ObjOk X.prog X.w (upd H d (.frz od u)) s.heap d (.frz od u) := by
    refine ⟨e, x.stay (fun b v _ q => q) (fun b q => ?_) fun b xs q => ?_⟩
    · rw [upd_ne (fun z => by rw [z, h] at q; cases q; exact mu)]; exact q
    · rw [upd_ne (fun z => by rw [z, h] at q; cases q; exact mu)]; exact q
  exact ⟨od, I.write (x := d) (e := d) (t' := s.toks) (h' := s.heap) (by rw [h]; exact mu) (.inl rfl) (fun b v _ q => q) ⟨od, e⟩ new⟩
theorem Inv.nofrz {d : Addr} {u : HO} (I : Inv X pins σ H s) (h : H d = some u) (mu : Mut (some u)) : ∀ o' u', X.H_0 d ≠ some (.frz o' u') := fun o' u' e => by
  have q := I.base.frzs d o' u' e
  rw [h] at q
  cases q
  exact mu
theorem Inv.unlock {d : Addr} {od : Obj} {u : HO} (I : Inv X pins σ H s) (h : H d = some (.frz od u)) (hn : ∀ o' u', X.H_0 d ≠ some (.frz o' u')) : Inv X pins σ (upd H d u) s := by
  have neH : ∀ b o, H b = some o → (∀ o' u', o ≠ .frz o' u') → b ≠ d := fun b o e hne z => by
    rw [z, h] at e
    cases e
    exact hne _ _ rfl
  have neN : ∀ b, H b = none → b ≠ d := fun b e z => by rw [z, h] at e; cases e
  refine ⟨I.ok, I.os, I.bare, ⟨I.base.keep, I.base.slot, fun b o e n hx => ?_, I.base.there, fun b xs e => ?_, fun b o x e => ?_, fun b ps e => ?_⟩, I.loc, I.cell, ?_, fun x c e => ?_, fun p hp => ?_, fun b o e => ?_, I.len⟩
  · rw [upd_ne (neN b (I.base.free b o e n hx))]; exact I.base.free b o e n hx
  · have q := I.base.tups b xs e
    rw [upd_ne (neH b _ q (fun _ _ z => nomatch z))]; exact q
  · have q := I.base.frzs b o x e
    rw [upd_ne (fun z => by rw [z] at e; exact hn _ _ e)]; exact q
  · obtain ⟨m, q⟩ := I.base.tbls b ps e
    exact ⟨m, by rw [upd_ne (neH b _ q (fun _ _ z => nomatch z))]; exact q⟩
  · rw [upd_ne (neN _ I.free)]; exact I.free
  · rw [upd_ne (neN c (I.freeC x c e))]; exact I.freeC x c e
  · obtain ⟨e, n, r⟩ := I.pin p hp
    exact ⟨e, by rw [upd_ne (neN _ n)]; exact n, r⟩
  · by_cases hb : b = d
    · rw [hb, upd_same] at e
      cases e
      rw [hb]
      obtain ⟨_, x⟩ := I.hok d _ h
      exact x.stay (fun c v _ q => q) (fun c q => by rw [upd_ne (neH c _ q (fun _ _ z => nomatch z))]; exact q) fun c xs q => by rw [upd_ne (neH c _ q (fun _ _ z => nomatch z))]; exact q
    · rw [upd_ne hb] at e
      exact (I.hok b o e).stay (fun c v _ q => q) (fun c q => by rw [upd_ne (neH c _ q (fun _ _ z => nomatch z))]; exact q) fun c xs q => by rw [upd_ne (neH c _ q (fun _ _ z => nomatch z))]; exact q
end
def tLock (t : TS) : TS := fun D σ H => ∃ d u, H d = some u ∧ Mut (some u) ∧ ∀ od, t ⟨fun σ' H' => H' d = some (.frz od u) ∧ D.nx σ' (upd H' d u), fun v H' => H' d = some (.frz od u) ∧ D.rt v (upd H' d u), fun σ' H' => H' d = some (.frz od u) ∧ D.bk σ' (upd H' d u), fun σ' H' => H' d = some (.frz od u) ∧ D.ct σ' (upd H' d u)⟩ σ (upd H d (.frz od u))
def tLockE (t : TE) : TE := fun σ H Q => ∃ d u, H d = some u ∧ Mut (some u) ∧ ∀ od, t σ (upd H d (.frz od u)) fun v H' => H' d = some (.frz od u) ∧ Q v (upd H' d u)
section
variable {X : Cx}
theorem ps_lock {st : Stmt} {t : TS} (h : PS X st t) : PS X st (tLock t) := by
  intro pins s σ H D I hw
  obtain ⟨d, u, hd, mu, hw⟩ := hw
  obtain ⟨od, I1⟩ := I.lock hd mu
  refine thn (h pins s σ _ _ I1 (hw od)) fun f s1 q => ?_
  cases f with
  | next => obtain ⟨σ', H', I2, e, q⟩ := q; exact ⟨σ', _, I2.unlock e (I.nofrz hd mu), q⟩
  | brk => obtain ⟨σ', H', I2, e, q⟩ := q; exact ⟨σ', _, I2.unlock e (I.nofrz hd mu), q⟩
  | cont => obtain ⟨σ', H', I2, e, q⟩ := q; exact ⟨σ', _, I2.unlock e (I.nofrz hd mu), q⟩
  | ret v => obtain ⟨x, σ', H', I2, r, e, q⟩ := q; exact ⟨x, σ', _, I2.unlock e (I.nofrz hd mu), r, q⟩
theorem pe_lock {e : Expr} {t : TE} (h : PE X e t) : PE X e (tLockE t) := by
  intro pins s σ H Q I hw
  obtain ⟨d, u, hd, mu, hw⟩ := hw
  obtain ⟨od, I1⟩ := I.lock hd mu
  refine thn (h pins s σ _ _ I1 (hw od)) fun v s1 ⟨x, H1, I2, r, e2, q⟩ => ?_
  exact ⟨x, _, I2.unlock e2 (I.nofrz hd mu), r, q⟩
theorem pi_one {tg : Expr} {pins : List (Addr × Obj)} {σ : St} {H : Hp} {s : Shared} {R : It → Hp → Prop} {J : It} {tn : Nat → Heap → Prop} {tk : Nat} (I : Inv X pins σ H s) (o : Obj)
    (T : Turn X.prog X.w X.K tg J [s.heap.objs.size] s.heap.objs.size tn) (st : tn 0 (s.heap.push o)) (q : R J H) : PIE X pins σ tg R (.ref s.heap.objs.size) { s with heap := s.heap.push o, toks := tk } := by
  refine ⟨s.heap.objs.size, [s.heap.objs.size], tn, J, H, rfl, I.kept fun b ob e => Heap.get?_push_of_some _ e, T, st, fun b hb => ?_, q⟩
  have e : b = s.heap.objs.size := by simpa using hb
  subst e
  exact I.fpOk (Nat.le_refl _) (I.hok.fresh (Nat.le_refl _))
end
section
variable {X : Cx} {tg : Expr}
end
section
variable {X : Cx} {tg : Expr}
end
section
variable {prog : Program} {w : World} {A : Around} {E : Value → Shared → Prop} {s : Shared}
theorem iter_keys {d : Addr} {o : Obj} {es : Array DictEntry} {ep : Nat} {Q : Value → Shared → Prop} (hd : (d == sysModules) = false) (ho : s.heap.get? d = some o) (hc : o.ExactDict) (hdat : o.data = .dict es ep)
    (hQ : Q (.ref s.heap.objs.size) { s with heap := s.heap.push { cls := .type "dict_keyiterator", data := .fields #[.ref d, .int 0 0, .int es.size 0, .int ep 0] } }) :
    wpAny (model prog w) A (pyIter (.ref d)) Q E s := by
  have hT : s.TypeIs (.ref d) "dict" := ⟨o, ho, hc.1⟩
  refine wpAny_pyIter_slot hT F.slot_dict_iter (wpAny_call_entry F.slot_dict_iter hT F.entry_dict_iter ?_ (F.args_dict_iter_1 _))
  unfold Builtin.«dict.__iter__»
  refine wpAny_bind ?_
  unfold Builtin.Dict.dictSlotNone
  refine wpAny_bind (wpAny_notOrdered_dict hT ?_)
  show wpAny _ _ (pure (Value.ref d)) _ _ s
  refine wpAny_pure ?_
  show wpAny _ _ (Builtin.Dict.showsAll d >>= _) _ _ s
  unfold Builtin.Dict.showsAll
  rw [if_neg (by rw [hd]; exact Bool.false_ne_true)]
  refine wpAny_bind (wpAny_pure ?_)
  refine wpAny_bind (wpAny_dictEntries ho hdat ?_)
  refine wpAny_bind (wpAny_dictEpoch ho hdat ?_)
  refine wpAny_bind (wpAny_newObj_type (wpAny_pure ⟨_, rfl, "dict_keyiterator", _, ⟨_, Heap.get?_push_size _ rfl, rfl⟩, F.slot_dict_keyiterator_next.lookup, ?_⟩))
  simpa [rawInt] using hQ
theorem next_key_item {it d : Addr} {i n ep : Nat} {od : Obj} {es : Array DictEntry} {en : DictEntry} {Q : Option Value → Shared → Prop} (hit : s.heap.IsKeyIter it d i n ep) (hod : s.heap.get? d = some od) (hdd : od.data = .dict es ep)
    (hsz : es.size = n) (hx : es[i]? = some en) (hQ : ∀ h', h'.IsKeyIter it d (i + 1) n ep → Heap.SameBut it s.heap h' → Q (some en.key) { s with heap := h' }) : wpAny (model prog w) A (pyNext (.ref it)) Q E s := by
  obtain ⟨o, ho, hc, hd⟩ := id hit
  unfold pyNext
  refine wpAny_bind (wpAny_attempt (wpAny_callSpecial?_slot (name := Str.ofString "__next__") hit.typeIs F.slot_dict_keyiterator_next
    (wpAny_call_entry F.slot_dict_keyiterator_next hit.typeIs F.entry_dict_keyiterator_next ?_ (F.args_dict_keyiterator_next_1 _))))
  refine wpAny_bind (wpAny_pure ?_)
  refine wpAny_bind ?_
  refine wpAny_bind ?_
  first | refine wpAny_bind (wpAny_typeNameOfWhole_keyiter hit.typeIs (wpAny_pure ?_)) | refine wpAny_bind (wpAny_typeNameOf_keyiter hit.typeIs (wpAny_pure ?_))
  refine wpAny_bind (wpAny_fieldsOf ho hd ?_)
  have hown : Builtin.Dict_items.ownsTuple "dict_keyiterator" = false := by decide
  simp only [hown, Bool.false_eq_true, if_false]
  show wpAny _ _ (if (Value.ref d == Value.none) = true then _ else _) _ _ s
  rw [if_neg (show ¬ ((Value.ref d == Value.none) = true) from Bool.false_ne_true)]
  refine wpAny_bind (wpAny_pure ?_)
  refine wpAny_bind (wpAny_dictEntries hod hdd ?_)
  rw [if_neg (by rw [hsz]; simp)]
  refine wpAny_bind (wpAny_pure ?_)
  refine wpAny_bind (wpAny_dictEpoch hod hdd ?_)
  rw [if_neg (by simp)]
  refine wpAny_pure ?_
  obtain ⟨hlt', hen⟩ := Array.getElem?_eq_some_iff.mp hx
  simp only [show ¬ ((i : Int) < 0) from by omega, if_false, Int.toNat_natCast, Array.getElem?_eq_getElem hlt']
  refine wpAny_bind ?_
  first | refine wpAny_bind (wpAny_typeNameOfWhole_keyiter hit.typeIs (wpAny_pure ?_)) | refine wpAny_bind (wpAny_typeNameOf_keyiter hit.typeIs (wpAny_pure ?_))
  refine wpAny_bind (wpAny_isOneOf_keyiter hit.typeIs ?_)
  show wpAny _ _ (setField (.ref it) 1 (rawInt ((i : Int) + 1)) >>= _) _ _ s
  refine wpAny_bind (wpAny_setField ho hd (by simp) ?_)
  have hit' : (s.heap.update it (Obj.mapFields (·.setIfInBounds 1 (rawInt ((i : Int) + 1))))).IsKeyIter it d (i + 1) n ep :=
    ⟨_, Heap.get?_update_self _ ho (Obj.isFreed_of_fields (Obj.data_mapFields hd _)), (Obj.cls_mapFields ..).trans hc, by rw [Obj.data_mapFields hd]; simp [rawInt]⟩
  refine wpAny_bind (wpAny_holding ?_)
  refine wpAny_bind (wpAny_isOneOf_keyiter (s := { s with heap := s.heap.update it (Obj.mapFields (·.setIfInBounds 1 (rawInt ((i : Int) + 1)))) }) hit'.typeIs ?_)
  show wpAny _ _ (pure es[i].key) _ _ _
  rw [hen]
  exact wpAny_pure (wpAny_pure ⟨_, rfl, wpAny_pure (hQ _ hit' (Heap.SameBut.update ..))⟩)
theorem next_key_end {it d : Addr} {i n ep : Nat} {od : Obj} {es : Array DictEntry} {Q : Option Value → Shared → Prop} (hh : A.handled = none) (hit : s.heap.IsKeyIter it d i n ep) (hod : s.heap.get? d = some od) (hdd : od.data = .dict es ep)
    (hsz : es.size = n) (hge : n ≤ i) (hQ : ∀ h', Heap.ExtBut it s.heap h' → Q none { s with heap := h' }) : wpAny (model prog w) A (pyNext (.ref it)) Q E s := by
  obtain ⟨o, ho, hc, hd⟩ := id hit
  unfold pyNext
  refine wpAny_bind (wpAny_attempt (wpAny_callSpecial?_slot (name := Str.ofString "__next__") hit.typeIs F.slot_dict_keyiterator_next
    (wpAny_call_entry F.slot_dict_keyiterator_next hit.typeIs F.entry_dict_keyiterator_next ?_ (F.args_dict_keyiterator_next_1 _))))
  refine wpAny_bind (wpAny_pure ?_)
  refine wpAny_bind ?_
  refine wpAny_bind ?_
  first | refine wpAny_bind (wpAny_typeNameOfWhole_keyiter hit.typeIs (wpAny_pure ?_)) | refine wpAny_bind (wpAny_typeNameOf_keyiter hit.typeIs (wpAny_pure ?_))
  refine wpAny_bind (wpAny_fieldsOf ho hd ?_)
  have hown : Builtin.Dict_items.ownsTuple "dict_keyiterator" = false := by decide
  simp only [hown, Bool.false_eq_true, if_false]
  show wpAny _ _ (if (Value.ref d == Value.none) = true then _ else _) _ _ s
  rw [if_neg (show ¬ ((Value.ref d == Value.none) = true) from Bool.false_ne_true)]
  refine wpAny_bind (wpAny_pure ?_)
  refine wpAny_bind (wpAny_dictEntries hod hdd ?_)
  rw [if_neg (by rw [hsz]; simp)]
  refine wpAny_bind (wpAny_pure ?_)
  refine wpAny_bind (wpAny_dictEpoch hod hdd ?_)
  rw [if_neg (by simp)]
  refine wpAny_pure ?_
  have hge' : es.size ≤ i := by rw [hsz]; exact hge
  simp only [show ¬ ((i : Int) < 0) from by omega, if_false, Int.toNat_natCast, Array.getElem?_eq_none hge']
  refine wpAny_bind ?_
  first | refine wpAny_bind (wpAny_typeNameOfWhole_keyiter hit.typeIs (wpAny_pure ?_)) | refine wpAny_bind (wpAny_typeNameOf_keyiter hit.typeIs (wpAny_pure ?_))
  show wpAny _ _ (setField (.ref it) 0 .none >>= _) _ _ s
  refine wpAny_bind (wpAny_setField ho hd (by simp) ?_)
  show wpAny _ _ (newExc (.type "StopIteration") [] >>= _) _ _ _
  refine wpAny_bind ?_
  simp only [newExc, newTuple]
  refine wpAny_bind (wpAny_newObj_type ?_ (by size_fits))
  refine wpAny_bind (m := firstArgMember _ _) (wpAny_of_eq (a := Value.none) (by first | rfl | (simp only [firstArgMember]; rfl)) ?_)
  refine wpAny_newObj_type ?_ (by size_fits)
  simp only [raiseNew]
  refine wpAny_bind (wpAny_handled ?_)
  rw [show A.in1.handled = none from hh]
  refine wpAny_bind (wpAny_pure (wpAny_throw ?_))
  refine wpAny_bind (wpAny_isInstance (T := "StopIteration") (b := true) ⟨_, Heap.get?_push_size _ rfl, rfl⟩ isSubtype_stop ?_)
  exact wpAny_pure (hQ _ (((Heap.SameBut.update ..).extBut.push _).push _))
end
theorem kv_get {κ : Type} {kvs : List (κ × V)} {vs : List (κ × Value)} (h : KV kvs vs) : ∀ {i : Nat} {k : κ} {v : V}, kvs[i]? = some (k, v) → ∃ u, vs[i]? = some (k, u) ∧ RelV v u := by
  unfold KV at h
  induction h with
  | nil => intro i k v e; simp at e
  | @cons a b l₁ l₂ r t ih =>
    intro i k v e
    cases i with
    | zero =>
      simp only [List.getElem?_cons_zero, Option.some.injEq] at e
      subst e
      refine ⟨b.2, ?_, r.2⟩
      simp only [List.getElem?_cons_zero]
      exact congrArg some (Prod.ext r.1.symm rfl)
    | succ j =>
      simp only [List.getElem?_cons_succ] at e ⊢
      exact ih e
theorem paired_get {α β : Type} {G : α → β → Prop} {l₁ : List α} {l₂ : List β} (h : Paired G l₁ l₂) : ∀ {i : Nat} {a : α}, l₁[i]? = some a → ∃ b, l₂[i]? = some b ∧ G a b := by
  induction h with
  | nil => intro i a e; simp at e
  | @cons a b l₁ l₂ r t ih =>
    intro i a' e
    cases i with
    | zero =>
      simp only [List.getElem?_cons_zero, Option.some.injEq] at e
      subst e
      exact ⟨b, rfl, r⟩
    | succ j =>
      simp only [List.getElem?_cons_succ] at e ⊢
      exact ih e
theorem relV_key {k : Key} {u : Value} (h : keyIs k u = true) : RelV (kV k) u := by
  rcases keyIs_shape h with ⟨i, t, rfl, rfl⟩ | ⟨x, t, rfl, rfl⟩
  · exact ⟨t, rfl⟩
  · exact ⟨t, rfl⟩
section
variable {X : Cx} {pins : List (Addr × Obj)} {σ : St} {H : Hp} {s : Shared} {d : Addr} {o : Obj}
theorem Inv.frzK {kvs : List (Key × V)} (I : Inv X pins σ H s) (h : H d = some (.frz o (.dK kvs))) :
    (d == sysModules) = false ∧ s.heap.get? d = some o ∧ o.ExactDict ∧ ∃ (es : Array DictEntry) (ep : Nat) (vs : List (Key × Value)), o.data = .dict es ep ∧ es.size = kvs.length ∧ KV kvs vs ∧ s.heap.DictAt (mixKind X.prog X.w) d vs ep := by
  obtain ⟨hd, z, hs, vs, kv, o', es, ep, ho, hx, hdt, r⟩ := I.hok d _ h
  rw [hd] at ho
  cases ho
  refine ⟨hs, hd, hx, es, ep, vs, hdt, ?_, kv, o, es, hd, hx, hdt, r⟩
  have l1 := r.2.1.length
  have l2 : kvs.length = vs.length := Paired.length kv
  rw [Array.length_toList] at l1
  omega
theorem Inv.frzT {kvs : List (List Key × V)} (I : Inv X pins σ H s) (h : H d = some (.frz o (.dT kvs))) :
    (d == sysModules) = false ∧ s.heap.get? d = some o ∧ o.ExactDict ∧ ∃ (es : Array DictEntry) (ep : Nat), o.data = .dict es ep ∧ es.size = kvs.length ∧
      ∀ (i : Nat) (k : List Key) (v : V), kvs[i]? = some (k, v) → ∃ (en : DictEntry) (q : Addr), es[i]? = some en ∧ en.key = .ref q ∧ H q = some (.tup (k.map kV)) := by
  obtain ⟨hd, z, hs, xs, pr, o', es, ep, ho, hx, hdt, he, _⟩ := I.hok d _ h
  rw [hd] at ho
  cases ho
  refine ⟨hs, hd, hx, es, ep, hdt, ?_, fun i k v e => ?_⟩
  · have l1 : es.size = xs.length := size_of_entries he
    have l2 : kvs.length = xs.length := Paired.length pr
    omega
  · obtain ⟨b, hb, e1, e2, _⟩ := paired_get pr e
    have q := entry_at he i
    rw [hb] at q
    exact ⟨_, b.2.1, q, rfl, e2⟩
end
def Itk (d : Addr) (o : Obj) (kvs : List (Key × V)) : It :=
  ⟨fun i H => H d = some (.frz o (.dK kvs)) ∧ i < kvs.length, fun i H x H' => H' = H ∧ ∃ k v, kvs[i]? = some (k, v) ∧ x = kV k, fun i H => H d = some (.frz o (.dK kvs)) ∧ kvs.length ≤ i⟩
def Itkt (d : Addr) (o : Obj) (kvs : List (List Key × V)) : It :=
  ⟨fun i H => H d = some (.frz o (.dT kvs)) ∧ i < kvs.length, fun i H x H' => H' = H ∧ ∃ (k : List Key) (v : V) (q : Addr), kvs[i]? = some (k, v) ∧ x = .ref q ∧ H q = some (.tup (k.map kV)), fun i H => H d = some (.frz o (.dT kvs)) ∧ kvs.length ≤ i⟩
def Itd (d : Addr) (o : Obj) (kvs : List (Key × V)) : It :=
  ⟨fun i H => H d = some (.frz o (.dK kvs)) ∧ i < kvs.length, fun i H x H' => H' = H ∧ ∃ k, kvs[i]? = some (k, x), fun i H => H d = some (.frz o (.dK kvs)) ∧ kvs.length ≤ i⟩
theorem dict_ep {o : Obj} {es es' : Array DictEntry} {ep ep' : Nat} (h : o.data = .dict es ep) (h' : o.data = .dict es' ep') : es' = es ∧ ep' = ep := by
  rw [h] at h'
  cases h'
  exact ⟨rfl, rfl⟩
section
variable {P : Program} {w : World} {K : PySem.W.Frag} {tg : Expr} {d : Addr} {o : Obj} {es : Array DictEntry} {ep : Nat}
theorem turn_keys {kvs : List (Key × V)} (it : Addr) (hod : o.data = .dict es ep) : Turn P w K tg (Itk d o kvs) [it] it (fun i h => h.IsKeyIter it d i kvs.length ep) where
  mem := by simp
  obj := fun i h st b hb => by
    have e : b = it := by simpa using hb
    subst e
    obtain ⟨oi, e, c, dd⟩ := st
    exact ⟨oi, e, fun v z => by rw [dd] at z; cases z⟩
  keep := fun i h h' st k => st.at fun oi e => k it (by simp) oi e
  item := by
    intro X hP hw hK hc i pins s σ H E I hf st hg
    subst hP hw hK
    obtain ⟨hd, hi⟩ := hg
    obtain ⟨f0, f1, f2, f3, f4, f5⟩ := hf it (by simp)
    obtain ⟨hs, hgd, hx, es', ep', vs, hdt, hsz, kv, hm⟩ := I.frzK hd
    obtain ⟨rfl, rfl⟩ := dict_ep hod hdt
    obtain ⟨⟨k, v⟩, hkv⟩ : ∃ p, kvs[i]? = some p := ⟨kvs[i], List.getElem?_eq_getElem hi⟩
    obtain ⟨u, hu, ru⟩ := kv_get kv hkv
    have hl : kvs.length = vs.length := Paired.length kv
    rw [hl] at st
    refine wpAny_pyNext_dict_item st hm hu fun key h' hkey st' sb => ?_
    have I1 : Inv X pins σ H { s with heap := h' } := I.turned (t' := s.toks) (fun b ob hb e => (sb.2 b hb).trans e) f0 f1 f3 f4 f5
    obtain ⟨oi, e, c, dd⟩ := id st'
    refine ⟨key, rfl, go_of (s := { s with heap := h' }) e c dd (by decide) ⟨kV k, H, I1, relV_key (show keyIs k key = true from hkey), ⟨rfl, k, v, hkv, rfl⟩, ?_, fun b hb => (hf b hb).1⟩⟩
    show h'.IsKeyIter it d (i + 1) kvs.length _
    rw [hl]
    exact st'
  done := by
    intro X hP hw hK hc i pins s σ H E I hf st hg
    subst hP hw hK
    obtain ⟨hd, hi⟩ := hg
    obtain ⟨f0, f1, f2, f3, f4, f5⟩ := hf it (by simp)
    obtain ⟨hs, hgd, hx, es', ep', vs, hdt, hsz, kv, hm⟩ := I.frzK hd
    obtain ⟨rfl, rfl⟩ := dict_ep hod hdt
    exact next_key_end (I.ok.hd hc) st hgd hdt hsz hi fun h' eb => ⟨rfl, I.turned (t' := s.toks) (fun b ob hb e => eb b ob hb e) f0 f1 f3 f4 f5⟩
  self := fun A i s Q E st h => wpAny_pyIter_keyiter st h
theorem turn_keysT {kvs : List (List Key × V)} (it : Addr) (hod : o.data = .dict es ep) : Turn P w K tg (Itkt d o kvs) [it] it (fun i h => h.IsKeyIter it d i kvs.length ep) where
  mem := by simp
  obj := fun i h st b hb => by
    have e : b = it := by simpa using hb
    subst e
    obtain ⟨oi, e, c, dd⟩ := st
    exact ⟨oi, e, fun v z => by rw [dd] at z; cases z⟩
  keep := fun i h h' st k => st.at fun oi e => k it (by simp) oi e
  item := by
    intro X hP hw hK hc i pins s σ H E I hf st hg
    subst hP hw hK
    obtain ⟨hd, hi⟩ := hg
    obtain ⟨f0, f1, f2, f3, f4, f5⟩ := hf it (by simp)
    obtain ⟨hs, hgd, hx, es', ep', hdt, hsz, ent⟩ := I.frzT hd
    obtain ⟨rfl, rfl⟩ := dict_ep hod hdt
    obtain ⟨⟨k, v⟩, hkv⟩ : ∃ p, kvs[i]? = some p := ⟨kvs[i], List.getElem?_eq_getElem hi⟩
    obtain ⟨en, q, hen, hkey, hq⟩ := ent i k v hkv
    refine next_key_item st hgd hdt hsz hen fun h' st' sb => ?_
    have I1 : Inv X pins σ H { s with heap := h' } := I.turned (t' := s.toks) (fun b ob hb e => (sb.2 b hb).trans e) f0 f1 f3 f4 f5
    obtain ⟨oi, e, c, dd⟩ := id st'
    exact ⟨en.key, rfl, go_of (s := { s with heap := h' }) e c dd (by decide) ⟨.ref q, H, I1, hkey, ⟨rfl, k, v, q, hkv, rfl, hq⟩, st', fun b hb => (hf b hb).1⟩⟩
  done := by
    intro X hP hw hK hc i pins s σ H E I hf st hg
    subst hP hw hK
    obtain ⟨hd, hi⟩ := hg
    obtain ⟨f0, f1, f2, f3, f4, f5⟩ := hf it (by simp)
    obtain ⟨hs, hgd, hx, es', ep', hdt, hsz, ent⟩ := I.frzT hd
    obtain ⟨rfl, rfl⟩ := dict_ep hod hdt
    exact next_key_end (I.ok.hd hc) st hgd hdt hsz hi fun h' eb => ⟨rfl, I.turned (t' := s.toks) (fun b ob hb e => eb b ob hb e) f0 f1 f3 f4 f5⟩
  self := fun A i s Q E st h => by
    refine wpAny_pyIter_slot st.typeIs F.slot_dict_keyiterator_iter (wpAny_call_entry F.slot_dict_keyiterator_iter st.typeIs F.entry_dict_keyiterator_iter ?_ (F.args_dict_keyiterator_iter_1 _))
    show wpAny _ _ (ret (.ref it)) _ _ s
    exact wpAny_pure ⟨_, rfl, "dict_keyiterator", _, st.typeIs, F.slot_dict_keyiterator_next.lookup, h⟩
theorem turn_vals {kvs : List (Key × V)} (it : Addr) (hod : o.data = .dict es ep) : Turn P w K tg (Itd d o kvs) [it] it (fun i h => h.IsValIter it d i kvs.length ep) where
  mem := by simp
  obj := fun i h st b hb => by
    have e : b = it := by simpa using hb
    subst e
    obtain ⟨oi, e, c, dd⟩ := st
    exact ⟨oi, e, fun v z => by rw [dd] at z; cases z⟩
  keep := fun i h h' st k => st.at fun oi e => k it (by simp) oi e
  item := by
    intro X hP hw hK hc i pins s σ H E I hf st hg
    subst hP hw hK
    obtain ⟨hd, hi⟩ := hg
    obtain ⟨f0, f1, f2, f3, f4, f5⟩ := hf it (by simp)
    obtain ⟨hs, hgd, hx, es', ep', vs, hdt, hsz, kv, hm⟩ := I.frzK hd
    obtain ⟨rfl, rfl⟩ := dict_ep hod hdt
    obtain ⟨⟨k, v⟩, hkv⟩ : ∃ p, kvs[i]? = some p := ⟨kvs[i], List.getElem?_eq_getElem hi⟩
    obtain ⟨u, hu, ru⟩ := kv_get kv hkv
    have hl : kvs.length = vs.length := Paired.length kv
    rw [hl] at st
    refine wpAny_pyNext_values_item st hm hu fun h' st' sb => ?_
    have I1 : Inv X pins σ H { s with heap := h' } := I.turned (t' := s.toks) (fun b ob hb e => (sb.2 b hb).trans e) f0 f1 f3 f4 f5
    obtain ⟨oi, e, c, dd⟩ := id st'
    refine ⟨u, rfl, go_of (s := { s with heap := h' }) e c dd (by decide) ⟨v, H, I1, ru, ⟨rfl, k, hkv⟩, ?_, fun b hb => (hf b hb).1⟩⟩
    show h'.IsValIter it d (i + 1) kvs.length _
    rw [hl]
    exact st'
  done := by
    intro X hP hw hK hc i pins s σ H E I hf st hg
    subst hP hw hK
    obtain ⟨hd, hi⟩ := hg
    obtain ⟨f0, f1, f2, f3, f4, f5⟩ := hf it (by simp)
    obtain ⟨hs, hgd, hx, es', ep', vs, hdt, hsz, kv, hm⟩ := I.frzK hd
    obtain ⟨rfl, rfl⟩ := dict_ep hod hdt
    have hl : kvs.length = vs.length := Paired.length kv
    rw [hl] at st
    exact wpAny_pyNext_values_end (I.ok.hd hc) st hm (List.getElem?_eq_none (by omega)) fun h' eb => ⟨rfl, I.turned (t' := s.toks) (fun b ob hb e => eb b ob hb e) f0 f1 f3 f4 f5⟩
  self := fun A i s Q E st h => wpAny_pyIter_valiter st h
end
def iKeys (td : TE) : TI := fun σ H R => td σ H fun x H1 => ∃ d o, x = .ref d ∧ ((∃ kvs, H1 d = some (.frz o (.dK kvs)) ∧ R (Itk d o kvs) H1) ∨ ∃ kvs, H1 d = some (.frz o (.dT kvs)) ∧ R (Itkt d o kvs) H1)
def iVals (td : TE) : TI := fun σ H R => td σ H fun x H1 => ∃ d o kvs, x = .ref d ∧ H1 d = some (.frz o (.dK kvs)) ∧ R (Itd d o kvs) H1
section
variable {X : Cx} {tg e : Expr} {td : TE} {apos cpos : Pos}
theorem pi_keys (he : PE X e td) : PI X tg e (iKeys td) := by
  intro pins s σ H R I h
  refine thn (he pins s σ H _ I h) fun u s1 ⟨x, H1, I1, rx, d, o, ex, q⟩ => ?_
  subst ex
  obtain rfl : u = Value.ref d := rx
  rcases q with ⟨kvs, hd, q⟩ | ⟨kvs, hd, q⟩
  · obtain ⟨hs, hgd, hx, es, ep, vs, hdt, hsz, kv, hm⟩ := I1.frzK hd
    refine iter_keys hs hgd hx hdt (pi_one (tk := s1.toks) I1 _ (turn_keys _ hdt) ⟨_, Heap.get?_push_size _ rfl, rfl, ?_⟩ q)
    rw [hsz] <;> rfl
  · obtain ⟨hs, hgd, hx, es, ep, hdt, hsz, ent⟩ := I1.frzT hd
    refine iter_keys hs hgd hx hdt (pi_one (tk := s1.toks) I1 _ (turn_keysT _ hdt) ⟨_, Heap.get?_push_size _ rfl, rfl, ?_⟩ q)
    rw [hsz] <;> rfl
theorem pi_values (he : PE X e td) (hbase : attributeBase e "values" X.env (eval e X.env) = eval e X.env := by rfl) (hline : (apos.endLine == cpos.line) = true := by rfl) : PI X tg (.Call (.Attribute e "values" apos) [] [] cpos) (iVals td) := by
  intro pins s σ H R I h
  refine wpAny_Call_method (T := "dict") (id := "dict.values") hbase rfl hline F.plainAttrs_dict F.slot_dict_values F.type_dict_values (thn (he pins s σ H _ I h) fun u s1 ⟨x, H1, I1, rx, d, o, kvs, ex, hd, q⟩ => ?_)
  subst ex
  obtain rfl : u = Value.ref d := rx
  obtain ⟨hs, hgd, hx, es, ep, vs, hdt, hsz, kv, hm⟩ := I1.frzK hd
  have hl : kvs.length = vs.length := Paired.length kv
  refine ⟨hm.dictOf.typeIs, hm.dictOf.mapOf.noDict, ?_⟩
  have I2 : Inv X pins σ H1 { s1 with heap := s1.heap.push { cls := .type "dict_values", data := .fields #[.ref d] } } := I1.kept (t' := s1.toks) fun b ob q => Heap.get?_push_of_some _ q
  have fin : wpAny (model X.prog X.w) X.A (pyIter (.ref s1.heap.objs.size)) (PIE X pins σ tg R) X.xe { s1 with heap := s1.heap.push { cls := .type "dict_values", data := .fields #[.ref d] } } := by
    refine wpAny_pyIter_values (d := d) (knd := mixKind X.prog X.w) ⟨_, Heap.get?_push_size _ rfl, rfl, rfl⟩ (hm.push _) (pi_one (tk := s1.toks) I2 _ (turn_vals _ hdt) ⟨_, Heap.get?_push_size _ rfl, rfl, ?_⟩ q)
    rw [hl] <;> rfl
  show wpAny _ _ (callWith cpos (.builtin "dict.values") [.ref d] [] []) _ X.xe s1
  exact method_meetsIn F.slot_dict_values F.entry_dict_values rfl (PySem.evalArgs_none ⟨rfl, hm.dictOf.typeIs, F.args_dict_values_1 _, _, meets_dict_values (mixKind X.prog X.w) d hs, ⟨vs, hm.dictOf⟩, fin⟩)
end
theorem boot_zip5 : bootBuiltins "zip" = some (.type "zip") := by decide +kernel
def Itz (K : PySem.W.Frag) (a b : Addr) : It :=
  ⟨fun i H => ∃ (xs ys : List V) (x y : V), SqL K H a xs ∧ SqL K H b ys ∧ xs[i]? = some x ∧ ys[i]? = some y,
    fun i H v H' => ∃ T x y, v = .ref T ∧ H T = none ∧ H' = upd H T (.tup [x, y]) ∧ (∀ xs, SqL K H a xs → xs[i]? = some x) ∧ ∀ ys, SqL K H b ys → ys[i]? = some y,
    fun i H => ∃ xs ys : List V, SqL K H a xs ∧ SqL K H b ys ∧ (xs.length ≤ i ∨ ys.length ≤ i)⟩
theorem turn_zip {P : Program} {w : World} {K : PySem.W.Frag} {elts : List Expr} {kk : Nat} {tpos : Pos} {a b z TI TO i1 i2 : Addr} (D : ZipApart z TI TO i1 i2 a b) :
    Turn P w K (.Tuple elts kk tpos) (Itz K a b) [z, TI, TO, i1, i2] z (fun i h => IsZip h z TI TO .none ∧ IsPair h TI (.ref i1) (.ref i2) ∧ (∃ x y, IsPair h TO x y) ∧ h.IsListIter i1 a i ∧ h.IsListIter i2 b i) where
  mem := by simp
  obj := fun i h st c hc => by
    obtain ⟨hz, hTI, ⟨x, y, hTO⟩, ⟨o1, e1, _, d1⟩, ⟨o2, e2, _, d2⟩⟩ := st
    have e' : c = z ∨ c = TI ∨ c = TO ∨ c = i1 ∨ c = i2 := by simpa using hc
    rcases e' with q | q | q | q | q
    · rw [q]; exact ⟨_, hz, fun v q => nomatch q⟩
    · rw [q]; exact ⟨_, hTI, fun v q => nomatch q⟩
    · rw [q]; exact ⟨_, hTO, fun v q => nomatch q⟩
    · rw [q]; exact ⟨o1, e1, fun v q => by rw [d1] at q; cases q⟩
    · rw [q]; exact ⟨o2, e2, fun v q => by rw [d2] at q; cases q⟩
  keep := fun i h h' st k => by
    obtain ⟨hz, hTI, ⟨x, y, hTO⟩, h1, h2⟩ := st
    exact ⟨k z (by simp) _ hz, k TI (by simp) _ hTI, ⟨x, y, k TO (by simp) _ hTO⟩, h1.at fun o q => k i1 (by simp) o q, h2.at fun o q => k i2 (by simp) o q⟩
  item := by
    intro X hP hw hK hc i pins s σ H E I hf st hg
    subst hP hw hK
    obtain ⟨hz, hTI, ⟨x0, y0, hTO⟩, h1, h2⟩ := st
    obtain ⟨xs, ys, x, y, hqx, hqy, hx, hy⟩ := hg
    obtain ⟨its, rv, p, _⟩ := I.list hqx
    obtain ⟨its2, rv2, p2, _⟩ := I.list hqy
    obtain ⟨u, hu, ru⟩ := rv.get hx
    obtain ⟨u2, hu2, ru2⟩ := rv2.get hy
    have hzl : z < s.heap.objs.size := Heap.lt_size hz
    refine wpAny_pyNext_zip_item D hz hTI hTO h1 h2 p.isList p2.isList (x := u) (y := u2) (by simpa using hu) (by simpa using hu2) fun h' z' TO' h1' h2' hT hsz hk => ?_
    refine ⟨_, rfl, wpAny_letOwnedTupleGo_zip (s := { s with heap := h' }) z' fun h'' z'' sb => ?_⟩
    have hT2 : h''.get? s.heap.objs.size = some { cls := .type "tuple", data := .seq #[u, u2] } := (sb.2 _ (Nat.ne_of_gt hzl)).trans hT
    have new : ObjOk X.prog X.w (upd H s.heap.objs.size (.tup [x, y])) h'' s.heap.objs.size (.tup [x, y]) :=
      ⟨by show 2 ≤ sizeLine; decide, [u, u2], .cons ru (.cons ru2 .nil), ⟨_, hT2, rfl, _, rfl⟩⟩
    have I1 : Inv X pins σ (upd H s.heap.objs.size (.tup [x, y])) { s with heap := h'' } :=
      I.turnedNew (t' := s.toks) (ch := [z, TI, TO, i1, i2]) (fun c o hb q => (sb.2 c (fun q' => hb (by simp [q']))).trans (hk c o (fun q' => hb (by simp [q'])) (fun q' => hb (by simp [q'])) (fun q' => hb (by simp [q'])) (fun q' => hb (by simp [q'])) q)) hf (Nat.le_refl _) new
    refine ⟨.ref s.heap.objs.size, _, I1, rfl, ⟨_, x, y, rfl, I.hok.fresh (Nat.le_refl _), rfl, fun l hl => by rw [I.list_inj hl hqx]; exact hx, fun l hl => by rw [I.list_inj hl hqy]; exact hy⟩, ⟨z'', ?_, ⟨u, u2, ?_⟩, ?_, ?_⟩, fun c hcm => ?_⟩
    · exact (sb.2 _ D.TIz).trans (hk _ _ D.TIz D.TITO D.TIi1 D.TIi2 hTI)
    · exact (sb.2 _ D.TOz).trans TO'
    · exact h1'.at fun o q => (sb.2 _ D.i1z).trans q
    · exact h2'.at fun o q => (sb.2 _ D.i2z).trans q
    · have hlt : c < s.heap.objs.size := by
        have e' : c = z ∨ c = TI ∨ c = TO ∨ c = i1 ∨ c = i2 := by simpa using hcm
        rcases e' with q | q | q | q | q
        · rw [q]; exact hzl
        · rw [q]; exact Heap.lt_size hTI
        · rw [q]; exact Heap.lt_size hTO
        · rw [q]; obtain ⟨_, e1, _⟩ := h1; exact Heap.lt_size e1
        · rw [q]; obtain ⟨_, e2, _⟩ := h2; exact Heap.lt_size e2
      rw [upd_ne (Nat.ne_of_lt hlt)]
      exact (hf c hcm).1
  done := by
    intro X hP hw hK hc i pins s σ H E I hf st hg
    subst hP hw hK
    obtain ⟨hz, hTI, ⟨x0, y0, hTO⟩, h1, h2⟩ := st
    obtain ⟨xs, ys, hqx, hqy, hend⟩ := hg
    obtain ⟨its, rv, p, _⟩ := I.list hqx
    obtain ⟨its2, rv2, p2, _⟩ := I.list hqy
    have l1 := rv.length
    have l2 := rv2.length
    have he : its.toArray[i]? = none ∨ its2.toArray[i]? = none := by
      rcases hend with q | q
      · exact .inl (by simp; omega)
      · exact .inr (by simp; omega)
    exact wpAny_pyNext_zip_end (I.ok.hd hc) D hz hTI hTO h1 h2 p.isList p2.isList he fun h' hk => ⟨rfl, I.turnedL (t' := s.toks) (ch := [z, TI, TO, i1, i2]) (fun c o hb q =>
      hk c o (fun q' => hb (by simp [q'])) (fun q' => hb (by simp [q'])) (fun q' => hb (by simp [q'])) (fun q' => hb (by simp [q'])) q) hf⟩
  self := fun A i s Q E st h => wpAny_pyIter_zip st.1 h
def iZip (K : PySem.W.Frag) (ta : TA) : TI := fun σ H R => ta σ H fun vs H1 => ∃ a b xs ys, vs = [.ref a, .ref b] ∧ SqL K H1 a xs ∧ SqL K H1 b ys ∧ R (Itz K a b) H1
theorem pi_zip {X : Cx} {e e2 : Expr} {ta : TA} {p pos tpos : Pos} {elts : List Expr} {kk : Nat} (hg : Gl X "zip") (hm : X.mg "zip" = none) (ha : PA X [e, e2] ta)
    (hs : starEach [e, e2] X.env = (false, eval e X.env) :: starEach [e2] X.env := by rfl) (hpl : (backTo pos (starEach [e2] X.env)).any (·.1) = false := by rfl) :
    PI X (.Tuple elts kk tpos) (.Call (.Name "zip" p) [e, e2] [] pos) (iZip X.K ta) := by
  intro pins s σ H R I h
  refine Call_ (ld_blt I hg hm boot_zip5 (PyProof.Rows.callWith_type1 (thn (ha pos pins s σ H _ I h) fun us s1 ⟨vs, H1, I1, r1, q1⟩ => ?_) hs hpl))
  obtain ⟨a, b, xs, ys, ex, hqx, hqy, q⟩ := q1
  subst ex
  cases r1 with
  | cons r rr =>
    cases rr with
    | cons r' rr =>
      cases rr
      cases r
      cases r'
      obtain ⟨its, rv, p1, _⟩ := I1.list hqx
      obtain ⟨its2, rv2, p2, _⟩ := I1.list hqy
      have la : a < s1.heap.objs.size := p1.lt
      have lb : b < s1.heap.objs.size := p2.lt
      refine call_zip_2 p1.isList p2.isList fun h' hz hTI hTO h1 h2 hsz hk => wpAny_pyIter_zip hz ?_
      have I2 : Inv X pins σ H1 { s1 with heap := h' } := I1.kept (t' := s1.toks) hk
      refine ⟨s1.heap.objs.size + 4, [s1.heap.objs.size + 4, s1.heap.objs.size + 2, s1.heap.objs.size + 3, s1.heap.objs.size, s1.heap.objs.size + 1], _, _, H1, rfl, I2, turn_zip (PySem.W.ktu_apart s1.heap.objs.size a b la lb), ⟨hz, hTI, ⟨_, _, hTO⟩, h1, h2⟩, fun c hcm => ?_, q⟩
      have e' : c = s1.heap.objs.size + 4 ∨ c = s1.heap.objs.size + 2 ∨ c = s1.heap.objs.size + 3 ∨ c = s1.heap.objs.size ∨ c = s1.heap.objs.size + 1 := by simpa using hcm
      have hle : s1.heap.objs.size ≤ c := by
        rcases e' with z | z | z | z | z
        · rw [z]; exact Nat.le_add_right _ _
        · rw [z]; exact Nat.le_add_right _ _
        · rw [z]; exact Nat.le_add_right _ _
        · rw [z]; exact Nat.le_refl _
        · rw [z]; exact Nat.le_add_right _ _
      exact I1.fpOk hle (I1.hok.fresh hle)
end L2
section 
namespace Bits
open PySem PyProof.Rows
end Bits
end 
section 
namespace TL
open PySem PySem.Builtin PySem.Builtin.Str PySem.StrLaws
end TL
end 
namespace L2
open PySem PySem.Spec PyProof.Rows
section
variable {X : Cx} {pins : List (Addr × Obj)} {σ : St} {H : Hp} {s : Shared} {Q : VK}
end
section
variable {X : Cx}
end
section
variable {X : Cx} {o e : Expr} {to te : TE}
end
end L2
namespace L2
open PySem PySem.Spec PyProof.Rows
section
variable {X : Cx}
end
end L2
namespace Att
open PySem PySem.W PySem.Calls PyProof.Rows
section
variable {prog : Program} {w : World} {A : Around} {E : Value → Shared → Prop} {s : Shared} {K : Frag}
end
end Att
namespace L2
open PySem PySem.Spec PyProof.Rows
end L2
namespace L2
open PySem PySem.Spec PyProof.Rows
end L2
namespace L2
open PySem PySem.Spec PyProof.Rows
def inClass (s : Stmt) (j : Nat) : Stmt := match s with
  | .ClassDef _ _ _ body _ _ _ _ _ _ _ => body.getD j (.Pass ⟨0, 0, 0, 0⟩)
  | _ => .Pass ⟨0, 0, 0, 0⟩
def defArgs (s : Stmt) : Arguments := match s with
  | .FunctionDef _ a _ _ _ _ _ _ _ _ => a
  | _ => { posonlyargs := [], args := [], vararg := none, kwonlyargs := [], kw_defaults := [], kwarg := none, defaults := [] }
def defBody (s : Stmt) : List Stmt := match s with
  | .FunctionDef _ _ b _ _ _ _ _ _ _ => b
  | _ => []
def defScope (s : Stmt) : Scope := match s with
  | .FunctionDef _ _ _ _ _ _ sc _ _ _ => sc
  | _ => { kind := .function, names := [], isGenerator := false, isCoroutine := false }
abbrev CX0 : CXT := fun _ _ _ _ _ _ => False
abbrev E0 : XK := fun _ _ _ => False
theorem pass0 {X : Cx} : Passes CX0 X E0 := fun _ _ _ _ _ _ _ h => h.elim
structure Fun (K : PySem.W.Frag) (x qual : Str) (st : Stmt) (f : Addr) (fd : FuncData) : Prop where
  ex : ∃ (oc : Value) (od : Option Addr) (kV doc pm : Value) (an : Option Addr) (cdv ct : Value) (osl : Array (Option Value)),
    fd = PySem.W.fnOf x qual (defArgs st) (defBody st) (defScope st) .none kV doc pm an cdv ct ∧ K.lookup f = some ⟨oc, od, .func fd, osl⟩ ∧ PySem.W.codeIn K cdv qual = true
  kp : PySem.W.keepIn K (.ref f) = true
section
variable {P : Program} {w : World} {K : PySem.W.Frag} {mg : Str → Option Value} {base : Heap}
theorem Fun.ok {x qual : Str} {st : Stmt} {f : Addr} {fd : FuncData} {N ps : List Str} {k : Nat} {sp : Sp} (F : Fun K x qual st f fd) (S : FnScope N ps (defScope st)) (len : ∀ vs H Q E, sp vs H Q E → vs.length = ps.length)
    (hbody : ∀ (cdv : Value) (A : Around) (outer : List Env) (s : Shared) (H : Hp) (vs : List V) (Q : VK) (E : XK), Room k (A.deeper (envOfC qual (defScope st) s.heap.objs.size f cdv)) → sp vs H Q E →
      ∃ t, PSs (cxOf CX0 P w K mg base N qual (defScope st) f cdv A outer s H E).nox (defBody st) t ∧ t { nx := fun _ H' => Q .non H', rt := Q } (start N vs) H) : FnOk P w K mg base CX0 (k + 1) f fd ps sp := by
  obtain ⟨oc, od, kV, doc, pm, an, cdv, ct, osl, rfl, lk, hcd⟩ := F.ex
  refine fn_of lk hcd S len fun A outer s H vs Q E hr hsp => ?_
  obtain ⟨t, h, q⟩ := hbody cdv A outer s H vs Q E hr hsp
  exact ⟨t, h.nox, q⟩
theorem Fun.binds {x qual : Str} {st : Stmt} {f : Addr} {fd : FuncData} {ps : List Str} (F : Fun K x qual st f fd)
    (h : ∀ (kV doc pm : Value) (an : Option Addr) (cdv ct : Value) (us : List Value), us.length = ps.length → bindArgs (PySem.W.fnOf x qual (defArgs st) (defBody st) (defScope st) .none kV doc pm an cdv ct) ⟨us, []⟩ = pure (ps.zip us)) : Binds K fd ps [] := by
  obtain ⟨oc, od, kV, doc, pm, an, cdv, ct, osl, rfl, lk, hcd⟩ := F.ex
  exact .all (h kV doc pm an cdv ct)
theorem fun_mk {x qual : Str} {st : Stmt} {f : Addr} {oc : Value} {od an : Option Addr} {osl : Array (Option Value)} {kV doc pm cdv ct : Value} (l : K.lookup f = some ⟨oc, od, .func (PySem.W.fnOf x qual (defArgs st) (defBody st) (defScope st) .none kV doc pm an cdv ct), osl⟩)
    (c : PySem.W.codeIn K cdv qual = true) (k : PySem.W.keepIn K (.ref f) = true) : Fun K x qual st f (PySem.W.fnOf x qual (defArgs st) (defBody st) (defScope st) .none kV doc pm an cdv ct) := ⟨⟨oc, od, kV, doc, pm, an, cdv, ct, osl, rfl, l, c⟩, k⟩
end
theorem hu_of {A : Around} {k : Nat} (hr : Room k A) : A.units + 1 < cLine := Nat.lt_of_le_of_lt (Nat.add_le_add_left (by decide : 1 ≤ 64) _) hr.units
section
variable {X : Cx}
theorem pv (i : Nat) {x : Str} {pos : Pos} (hN : X.N[i]? = some x := by rfl) (hv : Vis X.env.scope x := by first | exact Or.inl rfl | exact Or.inr (Or.inl rfl) | exact Or.inr (Or.inr rfl)) (hd : (x == ("__debug__" : Str)) = false := by decide)
    (hcd : (x == ("__classdict__" : Str)) = false := by decide) : PE X (.Name x pos) (tVar i) := pe_var hN hv hd hcd
theorem call_lenD : CallR X (.builtin "len") (fun xs H Q => ∃ a kvs, xs = [V.ref a] ∧ H a = some (.dK kvs) ∧ Q (.int kvs.length) H) := by
  intro pins s σ H xs us Q I r h
  obtain ⟨a, kvs, rfl, ha, q⟩ := h
  obtain ⟨u, rfl, ru⟩ := vals1 r
  cases ru
  exact d_len I (.inl ha) fun t s' I' => ⟨.int kvs.length, H, I', ⟨t, rfl⟩, q⟩
end
theorem iteT {A B : Prop} (h : A) : if true = true then A else B := by
  rw [if_pos rfl]
  exact h
def Same (H H' : Hp) : Prop := ∀ b o, H b = some o → H' b = some o
theorem Same.trans {H H1 H2 : Hp} (a : Same H H1) (b : Same H1 H2) : Same H H2 := fun c o h => b c o (a c o h)
theorem Same.free {H H' : Hp} (e : Same H H') {l : Addr} (h : H' l = Option.none) : H l = Option.none := by
  cases q : H l with
  | none => rfl
  | some o =>
    rw [e l o q] at h
    cases h
theorem Same.seq {K : PySem.W.Frag} {H H' : Hp} {a : Addr} {xs : List V} (e : Same H H') (h : SqL K H a xs) : SqL K H' a xs := by
  rcases h with (h | ⟨o, h⟩) | h
  · exact .inl (.inl (e _ _ h))
  · exact .inl (.inr ⟨o, e _ _ h⟩)
  · exact .inr h
section
variable {κ : Type} [DecidableEq κ]
theorem nd_snoc : ∀ {l : List κ} {k : κ}, l.Nodup → ¬ k ∈ l → (l ++ [k]).Nodup
  | [], k, _, _ => by simp
  | a :: r, k, h, hk => by
    obtain ⟨h1, h2⟩ := List.nodup_cons.mp h
    show (a :: (r ++ [k])).Nodup
    refine List.nodup_cons.mpr ⟨fun m => ?_, nd_snoc h2 fun m => hk (List.mem_cons.mpr (Or.inr m))⟩
    rcases List.mem_append.mp m with q | q
    · exact h1 q
    · exact hk (List.mem_cons.mpr (Or.inl (List.mem_singleton.mp q).symm))
end
end L2

end
section
set_option Elab.async false
set_option linter.all false
set_option maxRecDepth 100000
set_option maxHeartbeats 2000000
namespace L2
open PySem PySem.Spec PyProof.Rows
open PySem.W (WData Codec OpenSpec Well WellAll ReadsW ReadsAllW)
/-! ### an answer as data -/
mutual
/-- x stands for the datum d, lists and tuples all the way -/
inductive Dw (K : PySem.W.Frag) (H : Hp) : V → WData → Prop
  | non : Dw K H .non .none
  | bl (b : Bool) : Dw K H (.bl b) (.bool b)
  | int (i : Int) : Dw K H (.int i) (.int i)
  | str (x : Str) : Dw K H (.str x) (.str x)
  | byt (b : Array UInt8) : Dw K H (.byt b) (.bytes b.toList)
  | lst {a : Addr} {xs : List V} {ds : List WData} : SqL K H a xs → DwAll K H xs ds → Dw K H (.ref a) (.list ds)
  | tup {a : Addr} {xs : List V} {ds : List WData} : SqT K H a xs → DwAll K H xs ds → Dw K H (.ref a) (.tuple ds)
inductive DwAll (K : PySem.W.Frag) (H : Hp) : List V → List WData → Prop
  | nil : DwAll K H [] []
  | cons {v : V} {vs : List V} {d : WData} {ds : List WData} : Dw K H v d → DwAll K H vs ds → DwAll K H (v :: vs) (d :: ds)
end
theorem dw_ints {K : PySem.W.Frag} {H : Hp} : ∀ ns : List Int, DwAll K H (ns.map V.int) (ns.map WData.int)
  | [] => .nil
  | n :: r => .cons (.int n) (dw_ints r)
theorem ints_dw {K : PySem.W.Frag} {H : Hp} : ∀ (ns : List Int) (xs : List V), DwAll K H xs (ns.map WData.int) → xs = ns.map V.int
  | [], xs, h => by
    cases h
    rfl
  | n :: r, xs, h => by
    cases h with
    | cons h1 h2 =>
      cases h1
      rw [ints_dw r _ h2] <;> rfl
section
variable {P : Program} {w : World} {K : PySem.W.Frag} {H : Hp} {h : Heap} {R : PySem.W.WRecords} {cl : Str → Option Addr}
theorem sqL_at {a : Addr} {xs : List V} (hok : HOk P w H h) (KX : K.In h) (q : SqL K H a xs) : ∃ (its : List Value) (o : Obj) (n : Nat), Vals xs its ∧ h.get? a = some o ∧ o.cls = .type "list" ∧ o.data = .seq its.toArray n := by
  rcases q with q | ⟨o, its, n, e, hc, _, hd, _, hv⟩
  · obtain ⟨_, its, n, hv, e⟩ := (show ObjOk P w H h a (.lst xs) from q.ok hok)
    exact ⟨its, _, n, hv, e, rfl, rfl⟩
  · exact ⟨its.toList, o, n, hv, KX _ _ e, hc, by simp [hd]⟩
theorem sqT_at {a : Addr} {xs : List V} (hok : HOk P w H h) (KX : K.In h) (q : SqT K H a xs) : ∃ (its : List Value) (o : Obj) (n : Nat), Vals xs its ∧ h.get? a = some o ∧ o.cls = .type "tuple" ∧ o.data = .seq its.toArray n := by
  rcases q with q | ⟨o, its, n, e, hc, hd, _, hv⟩
  · obtain ⟨_, its, hv, o, e, hc, n, hd⟩ := (show ObjOk P w H h a (.tup xs) from q.ok hok)
    exact ⟨its, o, n, hv, e, hc, hd⟩
  · exact ⟨its.toList, o, n, hv, KX _ _ e, hc, by simp [hd]⟩
mutual
theorem Dw.reads (hok : HOk P w H h) (KX : K.In h) : ∀ (d : WData) (v : V) (u : Value), Dw K H v d → RelV v u → ∃ as, ReadsW R cl h u d as
  | .none, _, _, x, r => by
    cases x
    cases r
    exact ⟨_, ReadsW.none⟩
  | .bool b, _, _, x, r => by
    cases x
    cases r
    exact ⟨_, ReadsW.bool b⟩
  | .int i, _, _, x, r => by
    cases x
    obtain ⟨t, rfl⟩ := r
    exact ⟨_, ReadsW.int i t⟩
  | .str s, _, _, x, r => by
    cases x
    obtain ⟨t, rfl⟩ := r
    exact ⟨_, ReadsW.str s t⟩
  | .bytes b, _, _, x, r => by
    cases x
    obtain ⟨t, rfl⟩ := r
    exact ⟨_, ReadsW.bytes _ t⟩
  | .list ds, _, _, x, r => by
    cases x with
    | lst hs ha =>
      cases r
      obtain ⟨its, o, n, rv, ho, hc, hd⟩ := sqL_at hok KX hs
      obtain ⟨as, hr⟩ := Dw.readsAll hok KX ds _ its ha rv
      exact ⟨_, ReadsW.list ho hc hd hr⟩
  | .tuple ds, _, _, x, r => by
    cases x with
    | tup hs ha =>
      cases r
      obtain ⟨its, o, n, rv, ho, hc, hd⟩ := sqT_at hok KX hs
      obtain ⟨as, hr⟩ := Dw.readsAll hok KX ds _ its ha rv
      exact ⟨_, ReadsW.tuple ho hc hd hr⟩
  | .float _, _, _, x, _ => by cases x
  | .dict _, _, _, x, _ => by cases x
  | .bytearray _, _, _, x, _ => by cases x
  | .set _, _, _, x, _ => by cases x
  | .frozenset _, _, _, x, _ => by cases x
  | .obj _ _, _, _, x, _ => by cases x
theorem Dw.readsAll (hok : HOk P w H h) (KX : K.In h) : ∀ (ds : List WData) (vs : List V) (us : List Value), DwAll K H vs ds → Vals vs us → ∃ as, ReadsAllW R cl h us ds as
  | [], _, _, x, r => by
    cases x
    cases r
    exact ⟨_, ReadsAllW.nil⟩
  | d :: ds, _, _, x, r => by
    cases x with
    | cons h1 h2 =>
      cases r with
      | cons r1 r2 =>
        obtain ⟨as, q1⟩ := Dw.reads hok KX d _ _ h1 r1
        obtain ⟨bs, q2⟩ := Dw.readsAll hok KX ds _ _ h2 r2
        exact ⟨_, ReadsAllW.cons q1 q2⟩
end
end
/-! ### the arguments -/
mutual
/-- data that a codec tells -/
def plW : WData → Bool
  | .none => true
  | .bool _ => true
  | .int _ => true
  | .str _ => true
  | .bytes _ => true
  | .list xs => plWs xs
  | .tuple xs => plWs xs
  | _ => false
def plWs : List WData → Bool
  | [] => true
  | x :: r => plW x && plWs r
end
theorem plWs_map {α : Type} {f : α → WData} (h : ∀ a, plW (f a) = true) : ∀ l : List α, plWs (l.map f) = true
  | [] => rfl
  | x :: r => by
    show (plW (f x) && plWs (r.map f)) = true
    rw [h x, plWs_map h r] <;> rfl
theorem pl_enc : ∀ (c : Codec) (a : c.denote), plW (c.enc a) = true
  | .unit, _ => rfl
  | .bool, _ => rfl
  | .int _ _, _ => rfl
  | .nat _ _, _ => rfl
  | .u8, _ => rfl
  | .bytes _ _, _ => rfl
  | .text _ _ _ _, _ => rfl
  | .list _ _ c, a => plWs_map (fun x => pl_enc c x) a
  | .pair c d, a => by
    show (plW (c.enc a.1) && (plW (d.enc a.2) && true)) = true
    rw [pl_enc c a.1, pl_enc d a.2] <;> rfl
  | .triple c d e, a => by
    show (plW (c.enc a.1) && (plW (d.enc a.2.1) && (plW (e.enc a.2.2) && true))) = true
    rw [pl_enc c a.1, pl_enc d a.2.1, pl_enc e a.2.2] <;> rfl
  | .option c, none => rfl
  | .option c, some x => pl_enc c x
theorem pl_encAll : ∀ (cs : List Codec) (a : Codec.denoteAll cs), plWs (Codec.encAll cs a) = true
  | [], _ => rfl
  | c :: cs, a => by
    show (plW (c.enc a.1) && plWs (Codec.encAll cs a.2)) = true
    rw [pl_enc c a.1, pl_encAll cs a.2] <;> rfl
theorem weight_mem : ∀ {xs : List WData} {d : WData}, d ∈ xs → d.weight ≤ WData.weightAll xs
  | [], d, h => absurd h (by simp)
  | x :: r, d, h => by
    show d.weight ≤ x.weight + 1 + WData.weightAll r
    rcases List.mem_cons.mp h with e | m
    · rw [e]
      omega
    · have z := weight_mem m
      omega
def toV : Value → V
  | .none => .non
  | .bool b => .bl b
  | .int i _ => .int i
  | .str x _ => .str x
  | .bytes b _ => .byt b
  | .ref a => .ref a
  | _ => .non
/-- a value of the arguments, its objects among A -/
def OkU (A : List Addr) : Value → Prop
  | .none => True
  | .bool _ => True
  | .int _ _ => True
  | .str _ _ => True
  | .bytes _ _ => True
  | .ref a => a ∈ A
  | _ => False
theorem OkU.mono {A B : List Addr} (h : ∀ a ∈ A, a ∈ B) : ∀ {u : Value}, OkU A u → OkU B u := fun {u} x => by
  cases u with
  | ref a => exact h a x
  | none => trivial
  | bool b => trivial
  | int i t => trivial
  | str s t => trivial
  | bytes b t => trivial
  | _ => exact False.elim x
theorem relV_toV {A : List Addr} {u : Value} (x : OkU A u) : RelV (toV u) u := by
  cases u with
  | ref a => rfl
  | none => rfl
  | bool b => rfl
  | int i t => exact ⟨t, rfl⟩
  | str s t => exact ⟨t, rfl⟩
  | bytes b t => exact ⟨t, rfl⟩
  | _ => exact False.elim x
theorem vals_toV {A : List Addr} : ∀ {vs : List Value}, (∀ u ∈ vs, OkU A u) → Vals (vs.map toV) vs
  | [], _ => .nil
  | u :: r, h => .cons (relV_toV (h u (List.mem_cons_self ..))) (vals_toV fun x hx => h x (List.mem_cons_of_mem _ hx))
/-- an object of the arguments -/
def ArgOb (h : Heap) (A : List Addr) (a : Addr) : Prop := ∃ vs : List Value, vs.length ≤ sizeLine ∧ (∀ u ∈ vs, OkU A u) ∧
  (h.get? a = some { cls := .type "list", data := .seq vs.toArray } ∨ h.get? a = some { cls := .type "tuple", data := .seq vs.toArray })
theorem ArgOb.mono {h : Heap} {A B : List Addr} {a : Addr} (k : ∀ a ∈ A, a ∈ B) (x : ArgOb h A a) : ArgOb h B a := by
  obtain ⟨vs, h1, h2, h3⟩ := x
  exact ⟨vs, h1, fun u hu => (h2 u hu).mono k, h3⟩
theorem wellAll_len {P : Params} {h : Heap} : ∀ {vs : List Value} {ds : List WData}, WellAll P h vs ds → vs.length = ds.length
  | _, _, .nil => rfl
  | _, _, .cons _ b => by
    show _ + 1 = _ + 1
    rw [wellAll_len b]
theorem well_list {P : Params} {h : Heap} {v : Value} {ds : List WData} (x : Well P h v (.list ds)) : ∃ (a : Addr) (vs : List Value), v = .ref a ∧ h.get? a = some { cls := .type "list", data := .seq vs.toArray } ∧ WellAll P h vs ds := by
  cases x with
  | list ho hall => exact ⟨_, _, rfl, ho, hall⟩
theorem well_tuple {P : Params} {h : Heap} {v : Value} {ds : List WData} (x : Well P h v (.tuple ds)) : ∃ (a : Addr) (vs : List Value), v = .ref a ∧ h.get? a = some { cls := .type "tuple", data := .seq vs.toArray } ∧ WellAll P h vs ds := by
  cases x with
  | tuple ho hall => exact ⟨_, _, rfl, ho, hall⟩
theorem well_cons {P : Params} {h : Heap} {us : List Value} {d : WData} {ds : List WData} (x : WellAll P h us (d :: ds)) : ∃ (v : Value) (vs : List Value), us = v :: vs ∧ Well P h v d ∧ WellAll P h vs ds := by
  cases x with
  | cons a b => exact ⟨_, _, rfl, a, b⟩
theorem line_of {n : Nat} (h : n ≤ 1048576) : n ≤ sizeLine := Nat.le_trans h (by decide)
section
variable {P : Params} {h : Heap}
mutual
theorem area_one : ∀ (d : WData) (v : Value), Well P h v d → plW d = true → d.weight ≤ 1048576 → ∃ A : List Addr, OkU A v ∧ ∀ a ∈ A, ArgOb h A a
  | .none, _, x, _, _ => by
    cases x
    exact ⟨[], trivial, fun a m => absurd m (by simp)⟩
  | .bool b, _, x, _, _ => by
    cases x
    exact ⟨[], trivial, fun a m => absurd m (by simp)⟩
  | .int i, _, x, _, _ => by
    cases x
    exact ⟨[], trivial, fun a m => absurd m (by simp)⟩
  | .str s, _, x, _, _ => by
    cases x
    exact ⟨[], trivial, fun a m => absurd m (by simp)⟩
  | .bytes b, _, x, _, _ => by
    cases x
    exact ⟨[], trivial, fun a m => absurd m (by simp)⟩
  | .list ds, _, x, p, z => by
    obtain ⟨a, vs, rfl, ho, hall⟩ := well_list x
    have z2 : WData.weightAll ds ≤ 1048576 := z
    obtain ⟨A, h1, h2⟩ := area_all ds _ hall p fun d hd => Nat.le_trans (weight_mem hd) z2
    have k : ∀ b ∈ A, b ∈ a :: A := fun b hb => List.mem_cons_of_mem _ hb
    refine ⟨a :: A, List.mem_cons_self .., fun b hb => ?_⟩
    rcases List.mem_cons.mp hb with e | m
    · rw [e]
      exact ⟨vs, line_of (by rw [wellAll_len hall]; exact Nat.le_trans (PySem.W.length_le_weightAllW ds) z2), fun u hu => (h1 u hu).mono k, .inl ho⟩
    · exact (h2 b m).mono k
  | .tuple ds, _, x, p, z => by
    obtain ⟨a, vs, rfl, ho, hall⟩ := well_tuple x
    have z2 : WData.weightAll ds ≤ 1048576 := z
    obtain ⟨A, h1, h2⟩ := area_all ds _ hall p fun d hd => Nat.le_trans (weight_mem hd) z2
    have k : ∀ b ∈ A, b ∈ a :: A := fun b hb => List.mem_cons_of_mem _ hb
    refine ⟨a :: A, List.mem_cons_self .., fun b hb => ?_⟩
    rcases List.mem_cons.mp hb with e | m
    · rw [e]
      exact ⟨vs, line_of (by rw [wellAll_len hall]; exact Nat.le_trans (PySem.W.length_le_weightAllW ds) z2), fun u hu => (h1 u hu).mono k, .inr ho⟩
    · exact (h2 b m).mono k
  | .float _, _, _, p, _ => Bool.noConfusion (show false = true from p)
  | .dict _, _, _, p, _ => Bool.noConfusion (show false = true from p)
  | .bytearray _, _, _, p, _ => Bool.noConfusion (show false = true from p)
  | .set _, _, _, p, _ => Bool.noConfusion (show false = true from p)
  | .frozenset _, _, _, p, _ => Bool.noConfusion (show false = true from p)
  | .obj _ _, _, _, p, _ => Bool.noConfusion (show false = true from p)
theorem area_all : ∀ (ds : List WData) (vs : List Value), WellAll P h vs ds → plWs ds = true → (∀ d ∈ ds, d.weight ≤ 1048576) → ∃ A : List Addr, (∀ u ∈ vs, OkU A u) ∧ ∀ a ∈ A, ArgOb h A a
  | [], _, x, _, _ => by
    cases x
    exact ⟨[], fun u m => absurd m (by simp), fun a m => absurd m (by simp)⟩
  | d :: ds, _, x, p, z => by
    obtain ⟨v, vs, rfl, x1, x2⟩ := well_cons x
    have q : plW d = true ∧ plWs ds = true := Bool.and_eq_true_iff.mp p
    obtain ⟨A, a1, a2⟩ := area_one d v x1 q.1 (z d (List.mem_cons_self ..))
    obtain ⟨B, b1, b2⟩ := area_all ds vs x2 q.2 fun e he => z e (List.mem_cons_of_mem _ he)
    have kA : ∀ b ∈ A, b ∈ A ++ B := fun b hb => List.mem_append.mpr (.inl hb)
    have kB : ∀ b ∈ B, b ∈ A ++ B := fun b hb => List.mem_append.mpr (.inr hb)
    refine ⟨A ++ B, fun u hu => ?_, fun b hb => ?_⟩
    · rcases List.mem_cons.mp hu with e | m
      · rw [e]
        exact a1.mono kA
      · exact (b1 u m).mono kB
    · rcases List.mem_append.mp hb with m | m
      · exact (a2 b m).mono kA
      · exact (b2 b m).mono kB
end
end
/-- what is tracked of an argument's object -/
def hoOf (o : Obj) : Option HO := match o.data with
  | .seq vs _ => if (o.cls == Value.type "list") = true then some (.frz o (.lst (vs.toList.map toV))) else some (.frz o (.tup (vs.toList.map toV)))
  | _ => none
def argH (K : PySem.W.Frag) (h : Heap) (A : List Addr) : Hp := fun b => if b ∈ A then (if (K.lookup b).isNone = true then (h.get? b).bind hoOf else none) else none
/-- nothing is tracked but what is known to the object -/
def OnlyF (H : Hp) : Prop := ∀ b, H b = none ∨ ∃ o u, H b = some (.frz o u)
theorem hoOf_lst (vs : List Value) : hoOf { cls := .type "list", data := .seq vs.toArray } = some (.frz { cls := .type "list", data := .seq vs.toArray } (.lst (vs.map toV))) := by
  show (if (Value.type "list" == Value.type "list") = true then some (HO.frz { cls := .type "list", data := .seq vs.toArray } (.lst (vs.toArray.toList.map toV))) else some (HO.frz { cls := .type "list", data := .seq vs.toArray } (.tup (vs.toArray.toList.map toV)))) = _
  rw [if_pos (beq_self_eq_true _)]
theorem hoOf_tup (vs : List Value) : hoOf { cls := .type "tuple", data := .seq vs.toArray } = some (.frz { cls := .type "tuple", data := .seq vs.toArray } (.tup (vs.map toV))) := by
  show (if (Value.type "tuple" == Value.type "list") = true then some (HO.frz { cls := .type "tuple", data := .seq vs.toArray } (.lst (vs.toArray.toList.map toV))) else some (HO.frz { cls := .type "tuple", data := .seq vs.toArray } (.tup (vs.toArray.toList.map toV)))) = _
  rw [if_neg (by decide)]
section
variable {P : Program} {w : World} {K : PySem.W.Frag} {h : Heap} {A : List Addr}
theorem argH_at {b : Addr} {o : Obj} (hb : b ∈ A) (hk : K.lookup b = none) (e : h.get? b = some o) : argH K h A b = hoOf o := by
  unfold argH
  rw [if_pos hb, hk, if_pos (show (none : Option Obj).isNone = true from rfl), e] <;> rfl
theorem of_argH {b : Addr} {u : HO} (q : argH K h A b = some u) : b ∈ A ∧ K.lookup b = none := by
  unfold argH at q
  by_cases hb : b ∈ A
  · rw [if_pos hb] at q
    cases hk : K.lookup b with
    | none => exact ⟨hb, rfl⟩
    | some o =>
      rw [hk, if_neg (by simp)] at q
      cases q
  · rw [if_neg hb] at q
    cases q
/-- what stands tracked -/
theorem argH_is (ar : ∀ a ∈ A, ArgOb h A a) {b : Addr} {u : HO} (q : argH K h A b = some u) : K.lookup b = none ∧ ∃ vs : List Value, vs.length ≤ sizeLine ∧ (∀ u ∈ vs, OkU A u) ∧
    ((h.get? b = some { cls := .type "list", data := .seq vs.toArray } ∧ u = .frz { cls := .type "list", data := .seq vs.toArray } (.lst (vs.map toV))) ∨
     (h.get? b = some { cls := .type "tuple", data := .seq vs.toArray } ∧ u = .frz { cls := .type "tuple", data := .seq vs.toArray } (.tup (vs.map toV)))) := by
  obtain ⟨hb, hk⟩ := of_argH q
  obtain ⟨vs, h1, h2, h3⟩ := ar b hb
  refine ⟨hk, vs, h1, h2, ?_⟩
  rcases h3 with e | e
  · rw [argH_at hb hk e, hoOf_lst] at q
    exact .inl ⟨e, (Option.some.inj q).symm⟩
  · rw [argH_at hb hk e, hoOf_tup] at q
    exact .inr ⟨e, (Option.some.inj q).symm⟩
theorem argH_only (ar : ∀ a ∈ A, ArgOb h A a) : OnlyF (argH K h A) := fun b => by
  cases q : argH K h A b with
  | none => exact .inl rfl
  | some u =>
    obtain ⟨_, vs, _, _, ⟨_, e⟩ | ⟨_, e⟩⟩ := argH_is ar q
    · exact .inr ⟨_, _, by rw [e]⟩
    · exact .inr ⟨_, _, by rw [e]⟩
theorem argH_ok (ar : ∀ a ∈ A, ArgOb h A a) : HOk P w (argH K h A) h := fun b u q => by
  obtain ⟨_, vs, h1, h2, ⟨e, rfl⟩ | ⟨e, rfl⟩⟩ := argH_is ar q
  · exact ⟨e, by rw [List.length_map]; exact h1, vs, _, vals_toV h2, e⟩
  · exact ⟨e, by rw [List.length_map]; exact h1, vs, vals_toV h2, _, e, rfl, _, rfl⟩
theorem seq_inj {c c' : Value} {vs us : List Value} (e : (some { cls := c, data := .seq vs.toArray } : Option Obj) = some { cls := c', data := .seq us.toArray }) : c = c' ∧ vs = us := by
  have e1 := Option.some.inj e
  have e2 : c = c' := congrArg Obj.cls e1
  have e3 : Data.seq vs.toArray = Data.seq us.toArray := congrArg Obj.data e1
  injection e3 with e4
  refine ⟨e2, ?_⟩
  have e5 := congrArg Array.toList e4
  simpa using e5
/-- a list argument -/
theorem argL (KX : K.In h) (ar : ∀ a ∈ A, ArgOb h A a) {a : Addr} {vs : List Value} (ha : a ∈ A) (e : h.get? a = some { cls := .type "list", data := .seq vs.toArray }) : (∀ u ∈ vs, OkU A u) ∧ SqL K (argH K h A) a (vs.map toV) := by
  obtain ⟨us, h1, h2, h3⟩ := ar a ha
  have hu : us = vs := by
    rcases h3 with q | q
    · rw [e] at q
      exact (seq_inj q).2.symm
    · rw [e] at q
      exact absurd (Value.type.inj (seq_inj q).1) (by decide)
  subst hu
  refine ⟨h2, ?_⟩
  cases hk : K.lookup a with
  | none => exact .inl (.inr ⟨_, by rw [argH_at ha hk e, hoOf_lst]⟩)
  | some o =>
    have e2 := KX a o hk
    rw [e] at e2
    obtain rfl := Option.some.inj e2
    exact .inr ⟨_, us.toArray, _, hk, rfl, rfl, rfl, by rw [List.size_toArray]; exact h1, by simpa using vals_toV h2⟩
theorem argT (KX : K.In h) (ar : ∀ a ∈ A, ArgOb h A a) {a : Addr} {vs : List Value} (ha : a ∈ A) (e : h.get? a = some { cls := .type "tuple", data := .seq vs.toArray }) : (∀ u ∈ vs, OkU A u) ∧ SqT K (argH K h A) a (vs.map toV) := by
  obtain ⟨us, h1, h2, h3⟩ := ar a ha
  have hu : us = vs := by
    rcases h3 with q | q
    · rw [e] at q
      exact absurd (Value.type.inj (seq_inj q).1) (by decide)
    · rw [e] at q
      exact (seq_inj q).2.symm
  subst hu
  refine ⟨h2, ?_⟩
  cases hk : K.lookup a with
  | none => exact .inl (.inr ⟨_, by rw [argH_at ha hk e, hoOf_tup]⟩)
  | some o =>
    have e2 := KX a o hk
    rw [e] at e2
    obtain rfl := Option.some.inj e2
    exact .inr ⟨_, us.toArray, _, hk, rfl, rfl, by rw [List.size_toArray]; exact h1, by simpa using vals_toV h2⟩
mutual
theorem dw_one {Pm : Params} (KX : K.In h) (ar : ∀ a ∈ A, ArgOb h A a) : ∀ (d : WData) (v : Value), Well Pm h v d → plW d = true → OkU A v → Dw K (argH K h A) (toV v) d
  | .none, _, x, _, _ => by
    cases x
    exact .non
  | .bool b, _, x, _, _ => by
    cases x
    exact .bl b
  | .int i, _, x, _, _ => by
    cases x
    exact .int i
  | .str s, _, x, _, _ => by
    cases x
    exact .str s
  | .bytes b, _, x, _, _ => by
    cases x
    have z := Dw.byt (K := K) (H := argH K h A) b.toArray
    exact z
  | .list ds, _, x, p, hu => by
    obtain ⟨a, vs, rfl, ho, hall⟩ := well_list x
    obtain ⟨h2, hs⟩ := argL KX ar hu ho
    exact .lst hs (dw_all KX ar ds _ hall p h2)
  | .tuple ds, _, x, p, hu => by
    obtain ⟨a, vs, rfl, ho, hall⟩ := well_tuple x
    obtain ⟨h2, hs⟩ := argT KX ar hu ho
    exact .tup hs (dw_all KX ar ds _ hall p h2)
  | .float _, _, _, p, _ => Bool.noConfusion (show false = true from p)
  | .dict _, _, _, p, _ => Bool.noConfusion (show false = true from p)
  | .bytearray _, _, _, p, _ => Bool.noConfusion (show false = true from p)
  | .set _, _, _, p, _ => Bool.noConfusion (show false = true from p)
  | .frozenset _, _, _, p, _ => Bool.noConfusion (show false = true from p)
  | .obj _ _, _, _, p, _ => Bool.noConfusion (show false = true from p)
theorem dw_all {Pm : Params} (KX : K.In h) (ar : ∀ a ∈ A, ArgOb h A a) : ∀ (ds : List WData) (vs : List Value), WellAll Pm h vs ds → plWs ds = true → (∀ u ∈ vs, OkU A u) → DwAll K (argH K h A) (vs.map toV) ds
  | [], _, x, _, _ => by
    cases x
    exact .nil
  | d :: ds, _, x, p, hu => by
    obtain ⟨v, vs, rfl, x1, x2⟩ := well_cons x
    have q : plW d = true ∧ plWs ds = true := Bool.and_eq_true_iff.mp p
    exact .cons (dw_one KX ar d v x1 q.1 (hu _ (List.mem_cons_self ..))) (dw_all KX ar ds vs x2 q.2 fun u m => hu u (List.mem_cons_of_mem _ m))
end
end
/-! ### the call -/
theorem spec_call {P : Program} {w : World} {K : PySem.W.Frag} {mg mb : Str → Option Value} {CX : CXT} {k : Nat} {fa : Addr} {fd : FuncData} {ps : List Str} {sp : Sp} {s₁ : Shared} {vals : List Value} {ds : List WData} {R : PySem.W.WRecords} {cl : Str → Option Addr} {d0 : WData}
    (KX : K.In s₁.heap) (hns : s₁.heap.Ns mainGlobals mg) (hb : s₁.heap.Ns builtinsNs mb) (hbb : ∀ x : Str, x ≠ "__name__" → mb x = bootBuiltins x) (hlim : s₁.heap.NoLimit) (hg : s₁.gens = #[])
    (hwl : WellAll w.params s₁.heap vals ds) (hpl : plWs ds = true) (hwt : ∀ d ∈ ds, d.weight ≤ 1048576) (hr : Room k callerA)
    (F : ∀ base : Heap, K.In base → base.Ns mainGlobals mg → FnOk P w K mg base CX k fa fd ps sp) (hbind : ∀ (s : Shared) (us : List Value), us.length = ps.length → BindsTo s fd ⟨us, []⟩ (ps.zip us)) (hlen : ds.length = ps.length)
    (hsp : ∀ (H : Hp) (xs : List V), OnlyF H → DwAll K H xs ds → sp xs H (fun v H' => Dw K H' v d0) fun _ _ _ => False)
    (hCX : ∀ H e s', CX [] H s₁ (fun _ _ _ => False) e s' → False) :
    codeAny (model P w) callerA (.call (.ref fa) ⟨vals, []⟩) (fun r s' => ∃ u as, r = .ok (.ret u) ∧ ReadsW R cl s'.heap u d0 as ∧ OldK s₁.heap s'.heap ∧ s'.os = s₁.os ∧ AllBare s'.gens) s₁ := by
  obtain ⟨A, ho, ar⟩ := area_all ds vals hwl hpl hwt
  have hO : OnlyF (argH K s₁.heap A) := argH_only ar
  have hok : HOk P w (argH K s₁.heap A) s₁.heap := argH_ok ar
  have hS := dw_all KX ar ds vals hwl hpl ho
  have hV := vals_toV ho
  have hK : ∀ b u, argH K s₁.heap A b = some u → K.lookup b = none := fun b u q => (argH_is ar q).1
  have noA : ∀ {b : Addr} {o : Obj} {es : Array DictEntry} {ep : Nat}, s₁.heap.get? b = some o → o.data = .dict es ep → argH K s₁.heap A b = none := fun {b o es ep} e d => by
    cases q : argH K s₁.heap A b with
    | none => rfl
    | some u =>
      obtain ⟨_, vs, _, _, ⟨e2, _⟩ | ⟨e2, _⟩⟩ := argH_is ar q
      · rw [e2] at e
        cases e
        have d' : Data.seq vs.toArray _ = Data.dict es ep := d
        cases d'
      · rw [e2] at e
        cases e
        have d' : Data.seq vs.toArray _ = Data.dict es ep := d
        cases d'
  generalize argH K s₁.heap A = H at hO hok hS hK noA
  have base_of : ∀ {b : Addr} {o : Obj}, s₁.heap.get? b = some o → H b = none → (hidT s₁.heap H).get? b = some o := fun e n => hidT_get e n
  have nsK : ∀ {b : Addr} {m : Str → Option Value}, s₁.heap.Ns b m → (hidT s₁.heap H).Ns b m := fun {b m} ⟨o, es, ep, e, d, r⟩ => ⟨o, es, ep, base_of e (noA e d), d, r⟩
  have nK : ∀ b o, K.lookup b = some o → H b = none := fun b o e => by
    cases q : H b with
    | none => rfl
    | some u =>
      rw [hK b u q] at e
      cases e
  have hKb : K.In (hidT s₁.heap H) := fun b o e => base_of (KX b o e) (nK b o e)
  have hM : Mod K mg (hidT s₁.heap H) := ⟨hKb, nsK hns, ⟨mb, nsK hb, hbb⟩, let ⟨mc, h1, h2⟩ := hlim; ⟨mc, nsK h1, h2⟩⟩
  have e0 : Env0 P w K mg (hidT s₁.heap H) callerA [] s₁ H := ⟨rfl, hM, fun b o e => of_hidT e, Nat.le_of_eq (hidT_size _ _), trivial, fun b hb => absurd (show b ∈ ([] : List Addr) from hb) (by simp), hok, .of_eq hg⟩
  have hl : vals.length = ps.length := by rw [wellAll_len hwl]; exact hlen
  refine codeAny_mono ((F _ hKb (nsK hns)).run callerA [] s₁ H ⟨vals, []⟩ vals (vals.map toV) _ _ hr e0 (hbind s₁ vals hl) hV (hsp H _ hO hS)) fun r s' x => ?_
  cases r with
  | error e => exact (hCX H e s' x).elim
  | ok fl =>
    cases fl with
    | next => exact False.elim x
    | brk => exact False.elim x
    | cont => exact False.elim x
    | ret u =>
      obtain ⟨v, H', os, bare, un, hok', r', q⟩ := x
      have kept : ∀ b o, s₁.heap.get? b = some o → s'.heap.get? b = some o := fun b o e => by
        cases q2 : H b with
        | none => exact un.keep b o e q2 (by intro z; exact absurd (show b ∈ ([] : List Addr) from z) (by simp)) (by simp)
        | some u2 =>
          rcases hO b with z | ⟨ob, u3, z⟩
          · rw [q2] at z
            cases z
          · have z2 := un.frzs b ob _ z
            obtain ⟨e1, _⟩ := hok b _ z
            obtain ⟨e2, _⟩ := hok' b _ z2
            rw [e] at e1
            cases e1
            exact e2
      have KX' : K.In s'.heap := fun b o e => kept b o (KX b o e)
      obtain ⟨as, hrd⟩ := Dw.reads (R := R) (cl := cl) hok' KX' d0 v u q r'
      exact ⟨u, as, rfl, hrd, OldK.of_keep kept, os, bare⟩
/-! ### the row -/
theorem layable_weight {ds : List WData} (h : WData.layableAll ds = true) : ∀ d ∈ ds, d.weight ≤ 1048576 := fun d hd =>
  (PySem.W.layableW_iff.mp (List.all_eq_true.mp h d hd)).2.2
theorem encAll_len : ∀ (cs : List Codec) (a : Codec.denoteAll cs), (Codec.encAll cs a).length = cs.length
  | [], _ => rfl
  | c :: cs, a => by
    show (Codec.encAll cs a.2).length + 1 = cs.length + 1
    rw [encAll_len cs a.2]
/-- the goal that k_headS leaves (case hc), from the promise of the row's def: whatever the arguments that the codecs let and the row asks for, the def gives what stands for enc (f ..) -/
theorem walk_spec {r : OpenSpec} {k : Nat} {q : Program} {loose : List Str} {XP : (Str → Option Value) → Heap → Prop} {YP : World → Heap → Prop} {d : DefRec} {K : Params → PySem.W.Frag} {CX : World → CXT} {ps : List Str} {sp : World → Sp}
    (hwell : r.wellSaid = true) (hdf : d.params.defaults = []) (hlen : r.args.length = ps.length) (hr : Room k callerA)
    (hY : ∀ (w : World) (h : Heap), YP w h → (K w.params).In h)
    (F : ∀ (w : World) (mg : Str → Option Value) (fa : Addr) (h : Heap), YP w h → (K w.params).In h → h.Ns mainGlobals mg → mg d.name = some (.ref fa) →
      ∃ fd : FuncData, (∀ (s : Shared) (us : List Value), us.length = ps.length → BindsTo s fd ⟨us, []⟩ (ps.zip us)) ∧
        ∀ base : Heap, (K w.params).In base → base.Ns mainGlobals mg → FnOk r.prog w (K w.params) mg base (CX w) k fa fd ps (sp w))
    (hsp : ∀ (w : World) (H : Hp) (xs : List V) (a : Codec.denoteAll r.args), OnlyF H → Codec.withinAll r.args a = true → Codec.app r.args r.asked a = true → DwAll (K w.params) H xs (Codec.encAll r.args a) →
      sp w xs H (fun v H' => Dw (K w.params) H' v (r.ret.enc (Codec.app r.args r.f a))) fun _ _ _ => False)
    (hCX : ∀ (w : World) (H : Hp) (s : Shared) (e : Value) (s' : Shared), CX w [] H s (fun _ _ _ => False) e s' → False) :
    PySem.W.WalkOS q loose XP YP r d [] (fun f vs => PySem.call f vs) := by
  intro w s_0 s₁ mg mb G Y fa o pm cd doc dV kV ho hd hcd hD hmg hg args vals as hpre hlay hrd hwl hlo
  obtain ⟨a, e1, e2⟩ := PySem.W.os_pre_some hpre
  obtain ⟨e3, hwi⟩ := Codec.encAll_of_decAll r.args args a e1
  subst e3
  have KX := hY w _ Y
  obtain ⟨fd, hb, hF⟩ := F w mg fa _ Y KX G.T.g hmg
  refine PySem.W.enter_call (codeAny_mono (spec_call (R := []) (cl := classAt s_0.heap) (d0 := r.ret.enc (Codec.app r.args r.f a)) KX G.T.g G.T.b G.T.builtins G.T.nolimit hg hwl (pl_encAll _ _) (layable_weight hlay) hr hF hb (by rw [encAll_len]; exact hlen)
    (fun H xs hO hS => hsp w H xs a hO hwi e2 hS) fun H e s' => hCX w H s₁ e s') fun r' s' hq => ?_)
  obtain ⟨u, as', rfl, h1, h2, h3, h4⟩ := hq
  exact ⟨.inl ⟨u, _, as', rfl, fun _ => rfl, h1, (OpenSpec.post_iff hwell hwi _ _).mpr rfl, fun z => Bool.noConfusion (show false = true from z)⟩, h2, h3, h4⟩
/-- the same where the promise hangs on the written part alone -/
theorem walk_specK {r : OpenSpec} {k : Nat} {q : Program} {loose : List Str} {XP : (Str → Option Value) → Heap → Prop} {YP : World → Heap → Prop} {d : DefRec} {K : Params → PySem.W.Frag} {CX : CXT} {ps : List Str} {sp : PySem.W.Frag → Sp}
    (hwell : r.wellSaid = true) (hdf : d.params.defaults = []) (hlen : r.args.length = ps.length) (hr : Room k callerA)
    (hY : ∀ (w : World) (h : Heap), YP w h → (K w.params).In h)
    (F : ∀ (w : World) (mg : Str → Option Value) (fa : Addr) (h : Heap), YP w h → (K w.params).In h → h.Ns mainGlobals mg → mg d.name = some (.ref fa) →
      ∃ fd : FuncData, (∀ (s : Shared) (us : List Value), us.length = ps.length → BindsTo s fd ⟨us, []⟩ (ps.zip us)) ∧
        ∀ base : Heap, (K w.params).In base → base.Ns mainGlobals mg → FnOk r.prog w (K w.params) mg base CX k fa fd ps (sp (K w.params)))
    (hsp : ∀ (K : PySem.W.Frag) (H : Hp) (xs : List V) (a : Codec.denoteAll r.args), OnlyF H → Codec.withinAll r.args a = true → Codec.app r.args r.asked a = true → DwAll K H xs (Codec.encAll r.args a) →
      sp K xs H (fun v H' => Dw K H' v (r.ret.enc (Codec.app r.args r.f a))) fun _ _ _ => False)
    (hCX : ∀ (H : Hp) (s : Shared) (e : Value) (s' : Shared), CX [] H s (fun _ _ _ => False) e s' → False) :
    PySem.W.WalkOS q loose XP YP r d [] (fun f vs => PySem.call f vs) :=
  walk_spec (K := K) (CX := fun _ => CX) (sp := fun w => sp (K w.params)) hwell hdf hlen hr hY F (fun w H xs a h1 h2 h3 h4 => hsp (K w.params) H xs a h1 h2 h3 h4) fun _ H s e s' => hCX H s e s'
end L2
end
section
set_option Elab.async false
namespace Rc
open Sz13

abbrev keys (c : Cells) : List Nat := c.map fun x => x.1

/-! ### lists -/
theorem len_sub : ∀ {l m : List Nat}, l.Nodup → (∀ a ∈ l, a ∈ m) → l.length ≤ m.length
  | [], _, _, _ => Nat.zero_le _
  | a :: l, m, hn, hs => by
    have ha : a ∈ m := hs a (List.mem_cons_self ..)
    have hn' := List.nodup_cons.mp hn
    have := len_sub (l := l) (m := m.erase a) hn'.2 (fun b hb => by
      have hb' : b ∈ m := hs b (List.mem_cons_of_mem _ hb)
      have : b ≠ a := fun e => hn'.1 (e ▸ hb)
      exact (List.mem_erase_of_ne this).mpr hb')
    rw [List.length_erase_of_mem ha] at this
    have : 0 < m.length := List.length_pos_of_mem ha
    simp only [List.length_cons]
    omega

/-! ### get -/
theorem get_nil (h : Nat) : Cells.get [] h = none := rfl
theorem get_cons (k : Nat) (x : Cell) (c : Cells) (h : Nat) : Cells.get ((k, x) :: c) h = if k = h then some x else Cells.get c h := by
  unfold Cells.get
  rw [List.find?_cons]
  by_cases e : k = h
  · simp [e]
  · have q : (k == h) = false := by simp [e]
    rw [if_neg e]
    simp only [q]
theorem mem_of_get : ∀ {c : Cells} {h : Nat} {x : Cell}, c.get h = some x → (h, x) ∈ c
  | [], h, x, e => by simp [get_nil] at e
  | (k, y) :: c, h, x, e => by
    rw [get_cons] at e
    by_cases q : k = h
    · rw [if_pos q] at e
      cases e
      subst q
      exact List.mem_cons_self ..
    · rw [if_neg q] at e
      exact List.mem_cons_of_mem _ (mem_of_get e)
theorem get_of_mem : ∀ {c : Cells} {h : Nat} {x : Cell}, (keys c).Nodup → (h, x) ∈ c → c.get h = some x
  | [], h, x, _, e => by simp at e
  | (k, y) :: c, h, x, hn, e => by
    rw [get_cons]
    have hn' := List.nodup_cons.mp (show (k :: keys c).Nodup from hn)
    rcases List.mem_cons.mp e with q | q
    · cases q
      rw [if_pos rfl]
    · have : k ≠ h := fun z => hn'.1 (List.mem_map.mpr ⟨(h, x), q, z.symm⟩)
      rw [if_neg this]
      exact get_of_mem hn'.2 q
theorem get_iff {c : Cells} (hn : (keys c).Nodup) {h : Nat} {x : Cell} : c.get h = some x ↔ (h, x) ∈ c := ⟨mem_of_get, get_of_mem hn⟩
theorem isSome_iff : ∀ {c : Cells} {h : Nat}, (c.get h).isSome = true ↔ h ∈ keys c
  | [], h => by simp [get_nil]
  | (k, y) :: c, h => by
    rw [get_cons]
    by_cases q : k = h
    · simp [q]
    · rw [if_neg q, isSome_iff]
      simp only [keys, List.map_cons, List.mem_cons]
      constructor
      · exact fun z => .inr z
      · rintro (z | z)
        · exact absurd z.symm q
        · exact z

/-! ### led -/
def Closed (c : Cells) (l : List Nat) : Prop := ∀ h ∈ l, ∀ x, c.get h = some x → ∀ k ∈ refs x, k ∈ keys c → k ∈ l
def news (c : Cells) (l : List Nat) : List Nat := (keys c).filter fun k => !l.contains k && l.any fun h => ((c.get h).map refs).getD [] |>.contains k
theorem spread_eq (c : Cells) (l : List Nat) : spread c l = l ++ news c l := rfl
theorem mem_news {c : Cells} {l : List Nat} {k : Nat} : k ∈ news c l ↔ k ∈ keys c ∧ k ∉ l ∧ ∃ h ∈ l, ∃ x, c.get h = some x ∧ k ∈ refs x := by
  unfold news
  rw [List.mem_filter]
  simp only [Bool.and_eq_true, Bool.not_eq_true', List.contains_eq_mem, decide_eq_false_iff_not, List.any_eq_true, decide_eq_true_eq]
  constructor
  · rintro ⟨a, b, h, hl, hk⟩
    refine ⟨a, b, h, hl, ?_⟩
    cases e : c.get h with
    | none => simp [e] at hk
    | some x => exact ⟨x, rfl, by simpa [e] using hk⟩
  · rintro ⟨a, b, h, hl, x, e, hk⟩
    exact ⟨a, b, h, hl, by simpa [e] using hk⟩
theorem closed_of_news {c : Cells} {l : List Nat} (h0 : news c l = []) : Closed c l := by
  intro h hl x e k hk hkc
  by_cases q : k ∈ l
  · exact q
  · have : k ∈ news c l := mem_news.mpr ⟨hkc, q, h, hl, x, e, hk⟩
    rw [h0] at this
    cases this
theorem news_of_closed {c : Cells} {l : List Nat} (h0 : Closed c l) : news c l = [] := by
  cases e : news c l with
  | nil => rfl
  | cons k r =>
    have : k ∈ news c l := by rw [e]; exact List.mem_cons_self ..
    obtain ⟨a, b, h, hl, x, ex, hk⟩ := mem_news.mp this
    exact absurd (h0 h hl x ex k hk a) b
theorem rounds_fix {c : Cells} {l : List Nat} (h0 : Closed c l) : ∀ n, rounds c n l = l
  | 0 => rfl
  | n + 1 => by
    show rounds c n (spread c l) = l
    rw [spread_eq, news_of_closed h0, List.append_nil]
    exact rounds_fix h0 n
theorem nodup_filter {α : Type} {p : α → Bool} : ∀ {l : List α}, l.Nodup → (l.filter p).Nodup := fun h => List.Pairwise.filter p h
theorem nodup_spread {c : Cells} {l : List Nat} (hc : (keys c).Nodup) (hl : l.Nodup) : (spread c l).Nodup := by
  rw [spread_eq, List.nodup_append]
  refine ⟨hl, nodup_filter hc, fun a ha b hb e => ?_⟩
  exact (mem_news.mp hb).2.1 (e ▸ ha)
theorem sub_spread {c : Cells} {l : List Nat} (hl : ∀ a ∈ l, a ∈ keys c) : ∀ a ∈ spread c l, a ∈ keys c := by
  intro a ha
  rw [spread_eq, List.mem_append] at ha
  rcases ha with q | q
  · exact hl a q
  · exact (mem_news.mp q).1
theorem rounds_closed {c : Cells} (hc : (keys c).Nodup) : ∀ (n : Nat) (l : List Nat), l.Nodup → (∀ a ∈ l, a ∈ keys c) → c.length ≤ l.length + n → Closed c (rounds c n l)
  | 0, l, hn, hs, hlen => by
    intro h hl x e k hk hkc
    show k ∈ l
    by_cases q : k ∈ l
    · exact q
    · have := len_sub (l := k :: l) (m := keys c) (List.nodup_cons.mpr ⟨q, hn⟩) (fun a ha => by
        rcases List.mem_cons.mp ha with z | z
        · exact z ▸ hkc
        · exact hs a z)
      simp only [keys, List.length_cons, List.length_map] at this
      omega
  | n + 1, l, hn, hs, hlen => by
    show Closed c (rounds c n (spread c l))
    cases e : news c l with
    | nil =>
      have h0 := closed_of_news e
      rw [spread_eq, e, List.append_nil, rounds_fix h0]
      exact h0
    | cons k r =>
      refine rounds_closed hc n _ (nodup_spread hc hn) (sub_spread hs) ?_
      rw [spread_eq, e, List.length_append, List.length_cons]
      omega
theorem sub_rounds {c : Cells} : ∀ (n : Nat) (l : List Nat) (a : Nat), a ∈ l → a ∈ rounds c n l
  | 0, _, _, h => h
  | n + 1, l, a, h => sub_rounds n (spread c l) a (by rw [spread_eq]; exact List.mem_append_left _ h)
theorem rounds_sound {c : Cells} {f : List Nat} : ∀ (n : Nat) (l : List Nat), (∀ a ∈ l, Led c f a) → ∀ a ∈ rounds c n l, Led c f a
  | 0, _, h => h
  | n + 1, l, h => rounds_sound n (spread c l) (fun a ha => by
    rw [spread_eq, List.mem_append] at ha
    rcases ha with q | q
    · exact h a q
    · obtain ⟨hk, _, b, hb, x, e, hr⟩ := mem_news.mp q
      exact .step (h b hb) e hr (isSome_iff.mpr hk))
theorem nodup_rounds {c : Cells} (hc : (keys c).Nodup) : ∀ (n : Nat) (l : List Nat), l.Nodup → (rounds c n l).Nodup
  | 0, _, h => h
  | n + 1, l, h => nodup_rounds hc n _ (nodup_spread hc h)
theorem led_iff {c : Cells} (hc : (keys c).Nodup) {f : List Nat} {h : Nat} : h ∈ led c f ↔ Led c f h := by
  have key : ∀ a, a ∈ ((c.map fun x => x.1).filter fun h => f.contains h) ↔ a ∈ keys c ∧ a ∈ f := fun a => by
    rw [List.mem_filter]
    simp [keys]
  have hcl : Closed c (led c f) := rounds_closed hc _ _ (nodup_filter hc) (fun a ha => ((key a).mp ha).1) (by omega)
  constructor
  · exact rounds_sound _ _ (fun a ha => .start ((key a).mp ha).2 (isSome_iff.mpr ((key a).mp ha).1)) h
  · intro q
    induction q with
    | start hf hs => exact sub_rounds _ _ _ ((key _).mpr ⟨isSome_iff.mp hs, hf⟩)
    | step _ e hk hs ih => exact hcl _ ih _ e _ hk (isSome_iff.mp hs)
theorem led_there {c : Cells} {f : List Nat} {h : Nat} (q : Led c f h) : (c.get h).isSome = true := by
  cases q with
  | start _ b => exact b
  | step _ _ _ b => exact b
theorem led_key {c : Cells} {f : List Nat} {h : Nat} (q : Led c f h) : h ∈ keys c := isSome_iff.mp (led_there q)

/-! ### what is led to hangs on get alone, on what the starts lead to -/
theorem led_mono {c : Cells} {f g : List Nat} (h0 : ∀ a ∈ f, (c.get a).isSome = true → Led c g a) {h : Nat} (q : Led c f h) : Led c g h := by
  induction q with
  | start hf hs => exact h0 _ hf hs
  | step _ e hk hs ih => exact .step ih e hk hs
theorem led_get {c d : Cells} {f : List Nat} (h0 : ∀ h, Led c f h → d.get h = c.get h) {h : Nat} (q : Led c f h) : Led d f h := by
  induction q with
  | start hf hs => exact .start hf (by rw [h0 _ (.start hf hs)]; exact hs)
  | step p e hk hs ih => exact .step ih (by rw [h0 _ p]; exact e) hk (by rw [h0 _ (.step p e hk hs)]; exact hs)

/-! ### kept -/
theorem mem_kept {c : Cells} (hc : (keys c).Nodup) {f : List Nat} {x : Nat × Cell} : x ∈ kept c f ↔ x ∈ c ∧ Led c f x.1 := by
  unfold kept
  rw [List.mem_filter]
  simp only [List.contains_eq_mem, decide_eq_true_eq, led_iff hc]
theorem keys_kept {c : Cells} {f : List Nat} : keys (kept c f) = (keys c).filter fun h => (led c f).contains h := by
  unfold keys kept
  rw [List.filter_map]
  rfl
theorem nodup_kept {c : Cells} (hc : (keys c).Nodup) {f : List Nat} : (keys (kept c f)).Nodup := by
  rw [keys_kept]
  exact nodup_filter hc
theorem get_kept {c : Cells} (hc : (keys c).Nodup) {f : List Nat} {h : Nat} {x : Cell} : (kept c f).get h = some x ↔ c.get h = some x ∧ Led c f h := by
  rw [get_iff (nodup_kept hc), get_iff hc, mem_kept hc]
theorem get_kept_led {c : Cells} (hc : (keys c).Nodup) {f : List Nat} {h : Nat} (q : Led c f h) : (kept c f).get h = c.get h := by
  obtain ⟨x, e⟩ := Option.isSome_iff_exists.mp (led_there q)
  rw [e]
  exact (get_kept hc).mpr ⟨e, q⟩
theorem get_kept_not {c : Cells} (hc : (keys c).Nodup) {f : List Nat} {h : Nat} (q : ¬ Led c f h) : (kept c f).get h = none := by
  cases e : (kept c f).get h with
  | none => rfl
  | some x => exact absurd ((get_kept hc).mp e).2 q
/-- what is led to from within a kept part -/
theorem led_kept {c : Cells} (hc : (keys c).Nodup) {f g : List Nat} (h0 : ∀ a ∈ g, (c.get a).isSome = true → Led c f a) {h : Nat} : Led (kept c f) g h ↔ Led c g h := by
  constructor
  · intro q
    induction q with
    | start hf hs =>
      obtain ⟨x, e⟩ := Option.isSome_iff_exists.mp hs
      exact .start hf (by rw [((get_kept hc).mp e).1]; rfl)
    | step _ e hk hs ih =>
      obtain ⟨y, ey⟩ := Option.isSome_iff_exists.mp hs
      exact .step ih ((get_kept hc).mp e).1 hk (by rw [((get_kept hc).mp ey).1]; rfl)
  · intro q
    exact led_get (fun a p => get_kept_led hc (led_mono h0 p)) q

/-! ### tables with the same get are the same but for their order -/
theorem perm_of_get : ∀ {c d : Cells}, (keys c).Nodup → (keys d).Nodup → (∀ h, c.get h = d.get h) → c.Perm d
  | [], d, _, _, h => by
    cases d with
    | nil => exact .nil
    | cons x d =>
      have := h x.1
      rw [get_nil, get_cons, if_pos rfl] at this
      cases this
  | (k, x) :: c, d, hc, hd, h => by
    have hm : (k, x) ∈ d := mem_of_get (by rw [← h, get_cons, if_pos rfl])
    have hc' := List.nodup_cons.mp (show (k :: keys c).Nodup from hc)
    obtain ⟨d1, d2, e⟩ := List.append_of_mem hm
    subst e
    have hp : (d1 ++ (k, x) :: d2).Perm ((k, x) :: (d1 ++ d2)) := List.perm_middle
    have hd' : (keys ((k, x) :: (d1 ++ d2))).Nodup := (hp.map _).nodup_iff.mp hd
    have hd2 := List.nodup_cons.mp (show (k :: keys (d1 ++ d2)).Nodup from hd')
    have h2 : ∀ a : Nat, Cells.get c a = Cells.get (d1 ++ d2) a := fun a => by
      by_cases q : k = a
      · subst q
        cases e1 : Cells.get c k with
        | some y => exact absurd (isSome_iff.mp (by rw [e1]; rfl)) hc'.1
        | none =>
          cases e2 : Cells.get (d1 ++ d2) k with
          | some y => exact absurd (isSome_iff.mp (by rw [e2]; rfl)) hd2.1
          | none => rfl
      · have h1 := h a
        rw [get_cons, if_neg q] at h1
        rw [h1]
        have : ∀ y, Cells.get (d1 ++ (k, x) :: d2) a = some y ↔ Cells.get (d1 ++ d2) a = some y := fun y => by
          rw [get_iff hd, get_iff hd2.2]
          simp only [List.mem_append, List.mem_cons, Prod.mk.injEq]
          constructor
          · rintro (z | ⟨z, _⟩ | z)
            · exact .inl z
            · exact absurd z.symm q
            · exact .inr z
          · rintro (z | z)
            · exact .inl z
            · exact .inr (.inr z)
        cases e2 : Cells.get (d1 ++ d2) a with
        | some y => exact (this y).mpr e2
        | none =>
          cases e3 : Cells.get (d1 ++ (k, x) :: d2) a with
          | none => rfl
          | some y => rw [(this y).mp e3] at e2; cases e2
    exact ((perm_of_get hc'.2 hd2.2 h2).cons _).trans hp.symm
theorem get_perm {c d : Cells} (hp : c.Perm d) (hc : (keys c).Nodup) (h : Nat) : c.get h = d.get h := by
  have hd : (keys d).Nodup := (hp.map _).nodup_iff.mp hc
  cases e : d.get h with
  | some x => exact (get_iff hc).mpr (hp.mem_iff.mpr ((get_iff hd).mp e))
  | none =>
    cases e2 : c.get h with
    | none => rfl
    | some x =>
      have := (get_iff hd).mpr (hp.mem_iff.mp ((get_iff hc).mp e2))
      rw [e] at this
      cases this

/-! ### units -/
def sumU (c : Cells) : Nat := (c.map fun x => x.2.length + 1).sum
theorem foldl_add : ∀ (l : List Nat) (a : Nat), l.foldl (· + ·) a = a + l.sum
  | [], a => by simp
  | x :: l, a => by rw [List.foldl_cons, foldl_add l, List.sum_cons]; omega
theorem units_eq (c : Cells) : units c = sumU c := by
  unfold units sumU
  rw [foldl_add, Nat.zero_add]
theorem sumU_perm {c d : Cells} (h : c.Perm d) : sumU c = sumU d := by
  unfold sumU
  exact (h.map _).sum_nat
theorem sumU_filter (p : Nat × Cell → Bool) : ∀ c : Cells, sumU (c.filter p) ≤ sumU c
  | [] => Nat.le_refl _
  | x :: c => by
    have := sumU_filter p c
    rw [List.filter_cons]
    unfold sumU at *
    split
    · simp only [List.map_cons, List.sum_cons]; omega
    · simp only [List.map_cons, List.sum_cons]; omega
theorem sumU_append (c d : Cells) : sumU (c ++ d) = sumU c + sumU d := by
  unfold sumU
  rw [List.map_append, List.sum_append]
end Rc

end
section
set_option Elab.async false
namespace Rc
open Sz13
/-! ### likeness: the search finds a pairing just where there is one -/
def fOk (f : Field × Field) : Bool := match f.1, f.2 with
  | .nothing, .nothing => true
  | .number a, .number b => a == b
  | .cell _, .cell _ => true
  | _, _ => false
def fRef (f : Field × Field) : Option (Nat × Nat) := match f.1, f.2 with
  | .cell a, .cell b => some (a, b)
  | _, _ => none
def nexts (x y : Cell) : List (Nat × Nat) := (x.zip y).filterMap fRef
theorem pairs_cons (c : Cells) (n : Nat) (h k : Nat) (r met : List (Nat × Nat)) : pairs c (n + 1) ((h, k) :: r) met =
    if met.contains (h, k) = true then pairs c n r met
    else if (met.any fun (x : Nat × Nat) => x.1 == h || x.2 == k) = true then false
    else match c.get h, c.get k with
      | some x, some y => if x.length = y.length ∧ (x.zip y).all fOk = true then pairs c n (nexts x y ++ r) ((h, k) :: met) else false
      | _, _ => false := rfl

theorem af_iff {r : Nat → Nat → Prop} : ∀ {x y : Cell}, alikeFields r x y ↔ x.length = y.length ∧ (x.zip y).all fOk = true ∧ ∀ p ∈ nexts x y, r p.1 p.2
  | [], [] => by simp [alikeFields, nexts]
  | [], _ :: _ => by simp [alikeFields]
  | _ :: _, [] => by simp [alikeFields]
  | f :: x, g :: y => by
    have ih := af_iff (r := r) (x := x) (y := y)
    have e1 : alikeFields r (f :: x) (g :: y) ↔ (alikeFields r x y ∧ match f, g with
      | .nothing, .nothing => True
      | .number a, .number b => a = b
      | .cell h, .cell k => r h k
      | _, _ => False) := by
      unfold alikeFields
      constructor
      · rintro ⟨a, b⟩
        refine ⟨⟨by simpa using a, fun i f' g' h1 h2 => b (i + 1) f' g' (by simpa using h1) (by simpa using h2)⟩, ?_⟩
        exact b 0 f g rfl rfl
      · rintro ⟨⟨a, b⟩, d⟩
        refine ⟨by simpa using a, fun i f' g' h1 h2 => ?_⟩
        cases i with
        | zero =>
          simp at h1 h2
          subst h1 h2
          exact d
        | succ i => exact b i f' g' (by simpa using h1) (by simpa using h2)
    rw [e1, ih]
    have e2 : nexts (f :: x) (g :: y) = (match fRef (f, g) with | some p => p :: nexts x y | none => nexts x y) := by
      unfold nexts
      rw [List.zip_cons_cons, List.filterMap_cons]
      cases fRef (f, g) <;> rfl
    rw [e2, List.zip_cons_cons, List.all_cons]
    cases f <;> cases g <;> simp [fOk, fRef, and_assoc, and_comm, and_left_comm]
theorem nexts_len (x y : Cell) : (nexts x y).length ≤ x.length := by
  unfold nexts
  exact Nat.le_trans (List.length_filterMap_le _ _) (by rw [List.length_zip]; exact Nat.min_le_left _ _)
theorem nexts_ref {x y : Cell} {p : Nat × Nat} (h : p ∈ nexts x y) : p.1 ∈ refs x ∧ p.2 ∈ refs y := by
  unfold nexts at h
  obtain ⟨⟨f, g⟩, hz, e⟩ := List.mem_filterMap.mp h
  have h1 := List.of_mem_zip hz
  cases f with
  | nothing => cases g <;> simp [fRef] at e
  | number z => cases g <;> simp [fRef] at e
  | cell a =>
    cases g with
    | nothing => simp [fRef] at e
    | number z => simp [fRef] at e
    | cell b =>
      simp [fRef] at e
      subst e
      exact ⟨List.mem_filterMap.mpr ⟨_, h1.1, rfl⟩, List.mem_filterMap.mpr ⟨_, h1.2, rfl⟩⟩

/-- one to one, and every pair's cells are there -/
structure OneOne (c : Cells) (m : List (Nat × Nat)) : Prop where
  l : ∀ h k j, (h, k) ∈ m → (h, j) ∈ m → k = j
  r : ∀ h k j, (h, j) ∈ m → (k, j) ∈ m → h = k
/-- what is paired: its fields are alike by what is paired or is to be -/
def Fits (c : Cells) (todo met : List (Nat × Nat)) : Prop := ∀ h k, (h, k) ∈ met → ∃ x y, c.get h = some x ∧ c.get k = some y ∧ x.length = y.length ∧ (x.zip y).all fOk = true ∧ ∀ p ∈ nexts x y, p ∈ met ∨ p ∈ todo

/-- found: what is met and what was to be looked at is in one pairing -/
theorem pairs_sound {c : Cells} : ∀ (n : Nat) (todo met : List (Nat × Nat)), pairs c n todo met = true → OneOne c met → Fits c todo met →
    ∃ m : List (Nat × Nat), OneOne c m ∧ Fits c [] m ∧ (∀ p ∈ met, p ∈ m) ∧ ∀ p ∈ todo, p ∈ m
  | 0, _, _, h, _, _ => by simp [pairs] at h
  | n + 1, [], met, _, h1, h2 => ⟨met, h1, h2, fun _ h => h, fun _ h => by cases h⟩
  | n + 1, (h, k) :: r, met, hp, h1, h2 => by
    rw [pairs_cons] at hp
    by_cases q : met.contains (h, k) = true
    · rw [if_pos q] at hp
      have qm : (h, k) ∈ met := by simpa using q
      obtain ⟨m, a, b, d, e⟩ := pairs_sound n r met hp h1 (fun h' k' hm => by
        obtain ⟨x, y, ex, ey, hl, ha, hf⟩ := h2 h' k' hm
        refine ⟨x, y, ex, ey, hl, ha, fun p hp' => ?_⟩
        rcases hf p hp' with z | z
        · exact .inl z
        · rcases List.mem_cons.mp z with z | z
          · exact .inl (z ▸ qm)
          · exact .inr z)
      exact ⟨m, a, b, d, fun p hp' => by
        rcases List.mem_cons.mp hp' with z | z
        · exact d p (z ▸ qm)
        · exact e p z⟩
    · rw [if_neg q] at hp
      by_cases q2 : (met.any fun (x : Nat × Nat) => x.1 == h || x.2 == k) = true
      · rw [if_pos q2] at hp
        cases hp
      · rw [if_neg q2] at hp
        have q3 : ∀ p ∈ met, p.1 ≠ h ∧ p.2 ≠ k := fun p hm => by
          simp only [List.any_eq_true, Bool.or_eq_true, beq_iff_eq, not_exists, not_and, not_or] at q2
          exact q2 p hm
        cases ex : c.get h with
        | none => simp [ex] at hp
        | some x =>
          cases ey : c.get k with
          | none => simp [ex, ey] at hp
          | some y =>
            simp only [ex, ey] at hp
            by_cases q4 : x.length = y.length ∧ (x.zip y).all fOk = true
            · rw [if_pos q4] at hp
              obtain ⟨m, a, b, d, e⟩ := pairs_sound n _ _ hp ⟨fun h' k' j z1 z2 => by
                  rcases List.mem_cons.mp z1 with z1 | z1 <;> rcases List.mem_cons.mp z2 with z2 | z2
                  · cases z1; cases z2; rfl
                  · cases z1; exact absurd rfl (q3 _ z2).1
                  · cases z2; exact absurd rfl (q3 _ z1).1
                  · exact h1.l h' k' j z1 z2, fun h' k' j z1 z2 => by
                  rcases List.mem_cons.mp z1 with z1 | z1 <;> rcases List.mem_cons.mp z2 with z2 | z2
                  · cases z1; cases z2; rfl
                  · cases z1; exact absurd rfl (q3 _ z2).2
                  · cases z2; exact absurd rfl (q3 _ z1).2
                  · exact h1.r h' k' j z1 z2⟩ (fun h' k' hm => by
                  rcases List.mem_cons.mp hm with z | z
                  · cases z
                    exact ⟨x, y, ex, ey, q4.1, q4.2, fun p hp' => .inr (List.mem_append_left _ hp')⟩
                  · obtain ⟨x', y', ex', ey', hl, ha, hf⟩ := h2 h' k' z
                    refine ⟨x', y', ex', ey', hl, ha, fun p hp' => ?_⟩
                    rcases hf p hp' with w | w
                    · exact .inl (List.mem_cons_of_mem _ w)
                    · rcases List.mem_cons.mp w with w | w
                      · exact .inl (w ▸ List.mem_cons_self ..)
                      · exact .inr (List.mem_append_right _ w))
              exact ⟨m, a, b, fun p hp' => d p (List.mem_cons_of_mem _ hp'), fun p hp' => by
                rcases List.mem_cons.mp hp' with z | z
                · exact d p (z ▸ List.mem_cons_self ..)
                · exact e p (List.mem_append_right _ z)⟩
            · rw [if_neg q4] at hp
              cases hp
theorem alike_of_pairs {c : Cells} {a b : Nat} (h : alike c a b = true) : Alike c a b := by
  obtain ⟨m, h1, h2, _, h4⟩ := pairs_sound _ _ _ h ⟨fun _ _ _ z => (by cases z), fun _ _ _ z => (by cases z)⟩ (fun _ _ z => by cases z)
  refine ⟨fun h k => (h, k) ∈ m, h4 _ (List.mem_cons_self ..), h1.l, h1.r, fun h k hm => ?_⟩
  obtain ⟨x, y, ex, ey, hl, ha, hf⟩ := h2 h k hm
  exact ⟨x, y, ex, ey, af_iff.mpr ⟨hl, ha, fun p hp => (hf p hp).elim id fun z => by cases z⟩⟩

/-- the fuel: what is to be looked at, and the fields of the cells that are not paired on the left -/
def left (c : Cells) (met : List (Nat × Nat)) : Cells := c.filter fun x => !(met.any fun p => p.1 == x.1)
theorem left_drop {c : Cells} (hc : (keys c).Nodup) {met : List (Nat × Nat)} {h k : Nat} {x : Cell} (ex : c.get h = some x) (hm : ∀ p ∈ met, p.1 ≠ h) :
    sumU (left c ((h, k) :: met)) + (x.length + 1) = sumU (left c met) := by
  unfold left
  induction c with
  | nil => simp [get_nil] at ex
  | cons y c ih =>
    obtain ⟨j, y⟩ := y
    have hc' := List.nodup_cons.mp (show (j :: keys c).Nodup from hc)
    rw [get_cons] at ex
    by_cases q : j = h
    · rw [if_pos q] at ex
      cases ex
      subst q
      have e1 : (met.any fun p => p.1 == j) = false := by
        rw [List.any_eq_false]
        intro p hp
        simp [hm p hp]
      have e2 : (c.filter fun x => !(((j, k) :: met).any fun p => p.1 == x.1)) = c.filter fun x => !(met.any fun p => p.1 == x.1) := by
        apply List.filter_congr
        intro z hz
        have : j ≠ z.1 := fun e => hc'.1 (List.mem_map.mpr ⟨z, hz, e.symm⟩)
        simp [this]
      rw [List.filter_cons, List.filter_cons, e2]
      simp [e1, sumU]
      omega
    · rw [if_neg q] at ex
      have ih' := ih hc'.2 ex
      have : h ≠ j := fun e => q e.symm
      have e1 : (((h, k) :: met).any fun p => p.1 == j) = met.any fun p => p.1 == j := by simp [this]
      rw [List.filter_cons, List.filter_cons]
      simp only [e1]
      cases (met.any fun p => p.1 == j)
      · simp only [Bool.not_false, if_true]
        unfold sumU at ih' ⊢
        simp only [List.map_cons, List.sum_cons]
        omega
      · simpa using ih'
/-- a pairing that holds all: the search says yes, with fuel enough -/
theorem pairs_full {c : Cells} (hc : (keys c).Nodup) {r : Nat → Nat → Prop} (r1 : ∀ h k l, r h k → r h l → k = l) (r2 : ∀ h k l, r h l → r k l → h = k)
    (r3 : ∀ h k, r h k → ∃ x y, c.get h = some x ∧ c.get k = some y ∧ alikeFields r x y) :
    ∀ (n : Nat) (todo met : List (Nat × Nat)), (∀ p ∈ todo, r p.1 p.2) → (∀ p ∈ met, r p.1 p.2) → todo.length + sumU (left c met) < n → pairs c n todo met = true
  | 0, _, _, _, _, h => by omega
  | n + 1, [], _, _, _, _ => rfl
  | n + 1, (h, k) :: t, met, h1, h2, hn => by
    rw [pairs_cons]
    have hr : r h k := h1 (h, k) (List.mem_cons_self ..)
    simp only [List.length_cons] at hn
    by_cases q : met.contains (h, k) = true
    · rw [if_pos q]
      exact pairs_full hc r1 r2 r3 n t met (fun p hp => h1 p (List.mem_cons_of_mem _ hp)) h2 (by omega)
    · rw [if_neg q]
      have qm : (h, k) ∉ met := by simpa using q
      have q3 : ∀ p ∈ met, p.1 ≠ h ∧ p.2 ≠ k := fun p hp => by
        obtain ⟨a, b⟩ := p
        have hab := h2 _ hp
        refine ⟨fun e => ?_, fun e => ?_⟩
        · simp only at e hab
          subst e
          have := r1 _ _ _ hab hr
          subst this
          exact qm hp
        · simp only at e hab
          subst e
          have := r2 _ _ _ hab hr
          subst this
          exact qm hp
      have q2 : ¬ (met.any fun (x : Nat × Nat) => x.1 == h || x.2 == k) = true := by
        simp only [List.any_eq_true, Bool.or_eq_true, beq_iff_eq, not_exists, not_and, not_or]
        exact q3
      rw [if_neg q2]
      obtain ⟨x, y, ex, ey, haf⟩ := r3 h k hr
      obtain ⟨hl, ha, hf⟩ := af_iff.mp haf
      simp only [ex, ey]
      rw [if_pos ⟨hl, ha⟩]
      have hd := left_drop (k := k) hc ex (fun p hp => (q3 p hp).1)
      have hx := nexts_len x y
      refine pairs_full hc r1 r2 r3 n _ _ (fun p hp => ?_) (fun p hp => ?_) ?_
      · rcases List.mem_append.mp hp with z | z
        · exact hf p z
        · exact h1 p (List.mem_cons_of_mem _ z)
      · rcases List.mem_cons.mp hp with z | z
        · subst z
          exact hr
        · exact h2 p z
      · rw [List.length_append]
        omega
theorem sumU_le {c : Cells} (h8 : ∀ x ∈ c, x.2.length ≤ 8) : sumU c ≤ 9 * c.length := by
  unfold sumU
  induction c with
  | nil => simp
  | cons x c ih =>
    have := ih fun y hy => h8 y (List.mem_cons_of_mem _ hy)
    have := h8 x (List.mem_cons_self ..)
    simp only [List.map_cons, List.sum_cons, List.length_cons]
    omega
/-- **Alike**, worked out or not: of cells of at most eight fields -/
theorem alike_iff {c : Cells} (hc : (keys c).Nodup) (h8 : ∀ x ∈ c, x.2.length ≤ 8) {a b : Nat} : alike c a b = true ↔ Alike c a b := by
  refine ⟨alike_of_pairs, fun ⟨r, h1, h2, h3, h4⟩ => ?_⟩
  refine pairs_full hc h2 h3 h4 _ _ _ (fun p hp => ?_) (fun p hp => by cases hp) ?_
  · rcases List.mem_cons.mp hp with z | z
    · subst z
      exact h1
    · cases z
  · have e : left c [] = c := by
      unfold left
      rw [List.filter_eq_self]
      intro z _
      rfl
    rw [e]
    have := sumU_le h8
    simp only [List.length_cons, List.length_nil]
    omega
end Rc

end
section
set_option Elab.async false
namespace Rc
open Sz13
/-! ### a part of the cells that holds all that is led to -/
def cut (c : Cells) (D : Nat → Bool) : Cells := c.filter fun x => D x.1
theorem keys_cut (c : Cells) (D : Nat → Bool) : keys (cut c D) = (keys c).filter D := by
  unfold keys cut
  rw [List.filter_map]
  rfl
theorem nodup_cut {c : Cells} (hc : (keys c).Nodup) (D : Nat → Bool) : (keys (cut c D)).Nodup := by
  rw [keys_cut]
  exact nodup_filter hc
theorem get_cut {c : Cells} (hc : (keys c).Nodup) {D : Nat → Bool} {h : Nat} {x : Cell} : (cut c D).get h = some x ↔ c.get h = some x ∧ D h = true := by
  rw [get_iff (nodup_cut hc D), get_iff hc]
  unfold cut
  rw [List.mem_filter]
theorem led_cut {c : Cells} (hc : (keys c).Nodup) {D : Nat → Bool} {f : List Nat} (h0 : ∀ h, Led c f h → D h = true) {h : Nat} : Led (cut c D) f h ↔ Led c f h := by
  constructor
  · intro q
    induction q with
    | start hf hs =>
      obtain ⟨x, e⟩ := Option.isSome_iff_exists.mp hs
      exact .start hf (by rw [((get_cut hc).mp e).1]; rfl)
    | step _ e hk hs ih =>
      obtain ⟨y, ey⟩ := Option.isSome_iff_exists.mp hs
      exact .step ih ((get_cut hc).mp e).1 hk (by rw [((get_cut hc).mp ey).1]; rfl)
  · intro q
    refine led_get (fun a p => ?_) q
    obtain ⟨x, e⟩ := Option.isSome_iff_exists.mp (led_there p)
    rw [e]
    exact (get_cut hc).mpr ⟨e, h0 a p⟩
theorem kept_cut {c : Cells} (hc : (keys c).Nodup) {D : Nat → Bool} {f : List Nat} (h0 : ∀ h, Led c f h → D h = true) : kept (cut c D) f = kept c f := by
  unfold kept
  show (c.filter fun x => D x.1).filter _ = _
  rw [List.filter_filter]
  apply List.filter_congr
  intro x _
  have e1 : (led (cut c D) f).contains x.1 = (led c f).contains x.1 := by
    rw [Bool.eq_iff_iff]
    simp only [List.contains_eq_mem, decide_eq_true_eq, led_iff hc, led_iff (nodup_cut hc D)]
    exact led_cut hc h0
  rw [e1]
  cases e2 : (led c f).contains x.1 with
  | false => rfl
  | true =>
    have : Led c f x.1 := (led_iff hc).mp (by simpa using e2)
    rw [h0 _ this]
    rfl
theorem kept_is_cut (c : Cells) (f : List Nat) : kept c f = cut c fun h => (led c f).contains h := rfl
theorem con_iff {c : Cells} (hc : (keys c).Nodup) {f : List Nat} {h : Nat} : (led c f).contains h = true ↔ Led c f h := by
  simp only [List.contains_eq_mem, decide_eq_true_eq]
  exact led_iff hc
theorem kept_kept {c : Cells} (hc : (keys c).Nodup) {f g : List Nat} (h0 : ∀ a ∈ g, (c.get a).isSome = true → Led c f a) : kept (kept c f) g = kept c g :=
  kept_cut hc fun _ q => (con_iff hc).mpr (led_mono h0 q)
theorem kept_all {c : Cells} (hc : (keys c).Nodup) {f : List Nat} (h0 : ∀ a ∈ keys c, Led c f a) : kept c f = c := by
  unfold kept
  rw [List.filter_eq_self]
  intro x hx
  exact (con_iff hc).mpr (h0 x.1 (List.mem_map.mpr ⟨x, hx, rfl⟩))

/-! ### states -/
structure Good (s : St) : Prop where
  nd : (keys s.cells).Nodup
  lo : ∀ x ∈ s.cells, 0 < x.1
  hi : ∀ x ∈ s.cells, x.1 < s.next
  rf : ∀ x ∈ s.cells, ∀ h ∈ refs x.2, h ∈ keys s.cells
  w8 : ∀ x ∈ s.cells, x.2.length ≤ 8
  rl : s.roots.length = 256
  np : 0 < s.next
  st : ∀ h ∈ s.starts, h ∈ keys s.cells
def tidy (s : St) : St := { s with cells := kept s.cells s.starts }
theorem mem_starts {s : St} {h : Nat} : h ∈ s.starts ↔ (h = s.newest ∨ h ∈ s.roots) ∧ h ≠ 0 := by
  unfold St.starts
  rw [List.mem_filter, List.mem_cons]
  simp
theorem mem_rooted {s : St} {h : Nat} : h ∈ s.rooted ↔ h ∈ s.roots ∧ h ≠ 0 := by
  unfold St.rooted
  rw [List.mem_filter]
  simp
theorem has_iff {s : St} (hc : (keys s.cells).Nodup) {h : Nat} : s.has h = true ↔ Led s.cells s.starts h := con_iff hc
theorem led_self {c : Cells} {f : List Nat} : ∀ a ∈ f, (c.get a).isSome = true → Led c f a := fun _ h e => .start h e
theorem tidy_tidy {s : St} (hc : (keys s.cells).Nodup) : tidy (tidy s) = tidy s := by
  show ({ s with cells := kept (kept s.cells s.starts) s.starts } : St) = { s with cells := kept s.cells s.starts }
  rw [kept_kept hc led_self]
theorem has_tidy {s : St} (hc : (keys s.cells).Nodup) (h : Nat) : (tidy s).has h = s.has h := by
  rw [Bool.eq_iff_iff, has_iff hc, has_iff (s := tidy s) (nodup_kept hc)]
  exact led_kept hc led_self
theorem rooted_sub {s : St} : ∀ a ∈ s.rooted, a ∈ s.starts := fun _ h => mem_starts.mpr ⟨.inr (mem_rooted.mp h).1, (mem_rooted.mp h).2⟩
theorem good_tidy {s : St} (g : Good s) : Good (tidy s) := by
  have hm : ∀ x ∈ (tidy s).cells, x ∈ s.cells := fun x hx => (List.mem_filter.mp hx).1
  refine ⟨nodup_kept g.nd, fun x hx => g.lo x (hm x hx), fun x hx => g.hi x (hm x hx), fun x hx h hh => ?_, fun x hx => g.w8 x (hm x hx), g.rl, g.np, fun h hh => ?_⟩
  · have h1 := (mem_kept g.nd).mp hx
    have h2 := g.rf x h1.1 h hh
    have h3 : Led s.cells s.starts h := .step h1.2 ((get_iff g.nd).mpr h1.1) hh (isSome_iff.mpr h2)
    exact isSome_iff.mp (by show ((kept s.cells s.starts).get h).isSome = true; rw [get_kept_led g.nd h3]; exact isSome_iff.mpr h2)
  · have h2 := g.st h hh
    have h3 : Led s.cells s.starts h := .start hh (isSome_iff.mpr h2)
    exact isSome_iff.mp (by show ((kept s.cells s.starts).get h).isSome = true; rw [get_kept_led g.nd h3]; exact isSome_iff.mpr h2)

/-! ### a field put -/
def putC (c : Cells) (h i : Nat) (f : Field) : Cells := c.map fun (x : Nat × Cell) => if x.1 = h then (h, x.2.set i f) else x
theorem putC_fst (h i : Nat) (f : Field) (x : Nat × Cell) : (if x.1 = h then (h, x.2.set i f) else x).1 = x.1 := by
  by_cases e : x.1 = h
  · rw [if_pos e]
    exact e.symm
  · rw [if_neg e]
theorem keys_putC (c : Cells) (h i : Nat) (f : Field) : keys (putC c h i f) = keys c := by
  unfold keys putC
  rw [List.map_map]
  apply List.map_congr_left
  intro x _
  exact putC_fst h i f x
theorem get_putC {c : Cells} {h i : Nat} {f : Field} {a : Nat} : (putC c h i f).get a = if a = h then (c.get h).map (fun x => x.set i f) else c.get a := by
  induction c with
  | nil => simp [putC, get_nil]
  | cons x c ih =>
    obtain ⟨k, x⟩ := x
    have e : putC ((k, x) :: c) h i f = (if k = h then (h, x.set i f) else (k, x)) :: putC c h i f := rfl
    rw [e]
    by_cases q : k = h
    · subst q
      rw [if_pos rfl, get_cons, get_cons, if_pos rfl, ih]
      by_cases q2 : k = a
      · subst q2
        simp
      · rw [if_neg q2, if_neg (fun z => q2 z.symm), if_neg (fun z => q2 z.symm), get_cons, if_neg q2]
    · rw [if_neg q, get_cons, ih, get_cons, get_cons, if_neg q]
      by_cases q2 : k = a
      · subst q2
        rw [if_pos rfl, if_neg q, if_pos rfl]
      · rw [if_neg q2, if_neg q2]
theorem cut_putC (c : Cells) (h i : Nat) (f : Field) (D : Nat → Bool) : putC (cut c D) h i f = cut (putC c h i f) D := by
  unfold putC cut
  rw [List.filter_map]
  congr 1
  apply List.filter_congr
  intro x _
  show D x.1 = D (if x.1 = h then (h, x.2.set i f) else x).1
  rw [putC_fst]
theorem refs_set {x : Cell} {i : Nat} {f : Field} {k : Nat} (h : k ∈ refs (x.set i f)) : k ∈ refs x ∨ f = .cell k := by
  unfold refs at h ⊢
  obtain ⟨g, hg, e⟩ := List.mem_filterMap.mp h
  rcases List.mem_or_eq_of_mem_set hg with z | z
  · exact .inl (List.mem_filterMap.mpr ⟨g, z, e⟩)
  · subst z
    cases g with
    | nothing => simp at e
    | number _ => simp at e
    | cell j =>
      simp at e
      rw [e]
      exact .inr rfl
theorem led_putC {c : Cells} {S : List Nat} {h i : Nat} {f : Field} (hf : ∀ k, f = .cell k → Led c S k) {a : Nat} (q : Led (putC c h i f) S a) : Led c S a := by
  have hs : ∀ a, ((putC c h i f).get a).isSome = true ↔ (c.get a).isSome = true := fun a => by rw [isSome_iff, isSome_iff, keys_putC]
  induction q with
  | start hm he => exact .start hm ((hs _).mp he)
  | @step b k x p e hk he ih =>
    rw [get_putC] at e
    by_cases q : b = h
    · rw [if_pos q] at e
      subst q
      cases ex : c.get b with
      | none => rw [ex] at e; cases e
      | some y =>
        rw [ex] at e
        simp at e
        subst e
        rcases refs_set hk with z | z
        · exact .step ih ex z ((hs _).mp he)
        · exact hf k z
    · rw [if_neg q] at e
      exact .step ih e hk ((hs _).mp he)
theorem kept_putC {c : Cells} (hc : (keys c).Nodup) {S : List Nat} {h i : Nat} {f : Field} (hf : ∀ k, f = .cell k → Led c S k) : kept (putC (kept c S) h i f) S = kept (putC c h i f) S := by
  rw [kept_is_cut c S, cut_putC]
  exact kept_cut (by rw [keys_putC]; exact hc) fun a q => (con_iff hc).mpr (led_putC hf q)

/-! ### likeness hangs on what is led to -/
theorem alike_kept {c : Cells} (hc : (keys c).Nodup) {S : List Nat} {a b : Nat} (ha : Led c S a) (hb : Led c S b) : Alike (kept c S) a b ↔ Alike c a b := by
  constructor
  · rintro ⟨r, h1, h2, h3, h4⟩
    refine ⟨r, h1, h2, h3, fun h k q => ?_⟩
    obtain ⟨x, y, ex, ey, e⟩ := h4 h k q
    exact ⟨x, y, ((get_kept hc).mp ex).1, ((get_kept hc).mp ey).1, e⟩
  · rintro ⟨r, h1, h2, h3, h4⟩
    refine ⟨fun h k => r h k ∧ Led c S h ∧ Led c S k, ⟨h1, ha, hb⟩, fun h k l p q => h2 h k l p.1 q.1, fun h k l p q => h3 h k l p.1 q.1, fun h k q => ?_⟩
    obtain ⟨x, y, ex, ey, e⟩ := h4 h k q.1
    refine ⟨x, y, (get_kept hc).mpr ⟨ex, q.2.1⟩, (get_kept hc).mpr ⟨ey, q.2.2⟩, ?_⟩
    obtain ⟨e1, e2, e3⟩ := af_iff.mp e
    refine af_iff.mpr ⟨e1, e2, fun p hp => ?_⟩
    have hr := nexts_ref hp
    obtain ⟨x', y', ex', ey', _⟩ := h4 _ _ (e3 p hp)
    exact ⟨e3 p hp, .step q.2.1 ex hr.1 (by rw [ex']; rfl), .step q.2.2 ey hr.2 (by rw [ey']; rfl)⟩
theorem w8_kept {c : Cells} {S : List Nat} (h : ∀ x ∈ c, x.2.length ≤ 8) : ∀ x ∈ kept c S, x.2.length ≤ 8 := fun x hx => h x ((List.mem_filter.mp hx).1)
theorem alike_tidy {c : Cells} (hc : (keys c).Nodup) (h8 : ∀ x ∈ c, x.2.length ≤ 8) {S : List Nat} {a b : Nat} (ha : Led c S a) (hb : Led c S b) : alike (kept c S) a b = alike c a b := by
  rw [Bool.eq_iff_iff, alike_iff hc h8, alike_iff (nodup_kept hc) (w8_kept h8)]
  exact alike_kept hc ha hb

/-! ### the tidy run answers as the specification's -/
theorem field_tidy {s : St} (g : Good s) {h : Nat} (hh : Led s.cells s.starts h) (i : Int) : field (tidy s) h i = field s h i := by
  unfold field
  show (if 0 ≤ i then ((kept s.cells s.starts).get h).bind _ else none) = _
  rw [get_kept_led g.nd hh]
theorem putIn_sim {s : St} (g : Good s) {h : Nat} (hh : Led s.cells s.starts h) (i : Int) {f : Field} (hf : ∀ k, f = .cell k → Led s.cells s.starts k) :
    (putIn (tidy s) h i f).2 = (putIn s h i f).2 ∧ tidy (putIn (tidy s) h i f).1 = tidy (putIn s h i f).1 := by
  unfold putIn
  rw [field_tidy g hh]
  cases field s h i with
  | none => exact ⟨rfl, tidy_tidy g.nd⟩
  | some _ =>
    refine ⟨rfl, ?_⟩
    show ({ s with cells := kept (putC (kept s.cells s.starts) h i.toNat f) s.starts } : St) = { s with cells := kept (putC s.cells h i.toNat f) s.starts }
    rw [kept_putC g.nd hf]
theorem done_sim {s : St} (g : Good s) (c : Call) (hn : ∀ h ∈ c.needs, Led s.cells s.starts h) : (done (tidy s) c).2 = (done s c).2 ∧ tidy (done (tidy s) c).1 = tidy (done s c).1 := by
  have kr : kept (tidy s).cells (tidy s).rooted = kept s.cells s.rooted := kept_kept g.nd fun a ha e => .start (rooted_sub a ha) e
  cases c with
  | clear => exact ⟨by trivial, by trivial⟩
  | make n =>
    unfold done made
    by_cases q : n < 0 ∨ 8 < n
    · simp only [if_pos q]
      exact ⟨by trivial, tidy_tidy g.nd⟩
    · simp only [if_neg q, kr]
      by_cases q2 : ROOM < units (kept s.cells s.rooted) + n.toNat + 1
      · simp only [if_pos q2]
        exact ⟨by trivial, by trivial⟩
      · simp only [if_neg q2]
        exact ⟨by trivial, by trivial⟩
  | root r h =>
    unfold done
    by_cases q : r < 0 ∨ 255 < r
    · simp only [if_pos q]
      exact ⟨by trivial, tidy_tidy g.nd⟩
    · simp only [if_neg q]
      refine ⟨by trivial, ?_⟩
      let s' : St := { s with roots := s.roots.set r.toNat h }
      show ({ s' with cells := kept (kept s.cells s.starts) s'.starts } : St) = { s' with cells := kept s.cells s'.starts }
      rw [kept_kept g.nd]
      intro a ha e
      have := mem_starts.mp ha
      rcases this.1 with z | z
      · exact .start (mem_starts.mpr ⟨.inl z, this.2⟩) e
      · rcases List.mem_or_eq_of_mem_set z with w | w
        · exact .start (mem_starts.mpr ⟨.inr w, this.2⟩) e
        · refine hn a ?_
          have h2 := this.2
          subst w
          simp [Call.needs, h2]
  | rooted r =>
    unfold done
    by_cases q : r < 0 ∨ 255 < r
    · simp only [if_pos q]
      exact ⟨by trivial, tidy_tidy g.nd⟩
    · simp only [if_neg q]
      exact ⟨by trivial, tidy_tidy g.nd⟩
  | setNumber h i z => exact putIn_sim g (hn h (by simp [Call.needs])) i (fun k e => by cases e)
  | setCell h i k =>
    refine putIn_sim g (hn h (by simp [Call.needs])) i (fun j e => ?_)
    by_cases q : k = 0
    · rw [if_pos q] at e
      cases e
    · rw [if_neg q] at e
      cases e
      exact hn k (by simp [Call.needs, q])
  | unset h i => exact putIn_sim g (hn h (by simp [Call.needs])) i (fun k e => by cases e)
  | kind h i =>
    have e := field_tidy g (hn h (by simp [Call.needs])) i
    unfold done
    simp only [e]
    exact ⟨by trivial, tidy_tidy g.nd⟩
  | number h i =>
    have e := field_tidy g (hn h (by simp [Call.needs])) i
    unfold done
    simp only [e]
    exact ⟨by trivial, tidy_tidy g.nd⟩
  | cell h i =>
    have e := field_tidy g (hn h (by simp [Call.needs])) i
    unfold done
    simp only [e]
    exact ⟨by trivial, tidy_tidy g.nd⟩
  | fields h =>
    have e : (tidy s).cells.get h = s.cells.get h := get_kept_led g.nd (hn h (by simp [Call.needs]))
    unfold done
    simp only [e]
    exact ⟨by trivial, tidy_tidy g.nd⟩
  | count =>
    unfold done
    simp only [kr]
    exact ⟨by trivial, tidy_tidy g.nd⟩
  | alike h k =>
    have e : alike (tidy s).cells h k = alike s.cells h k := alike_tidy g.nd g.w8 (hn h (by simp [Call.needs])) (hn k (by simp [Call.needs]))
    unfold done
    simp only [e]
    exact ⟨by trivial, tidy_tidy g.nd⟩
  | copy h =>
    have hh := hn h (by simp [Call.needs])
    have k1 : kept (tidy s).cells (h :: (tidy s).rooted) = kept s.cells (h :: s.rooted) := kept_kept g.nd fun a ha e => by
      rcases List.mem_cons.mp ha with z | z
      · exact z ▸ hh
      · exact .start (rooted_sub a z) e
    have k2 : kept (tidy s).cells [h] = kept s.cells [h] := kept_kept g.nd fun a ha e => by
      rcases List.mem_cons.mp ha with z | z
      · exact z ▸ hh
      · cases z
    unfold done copied
    simp only [k1, k2]
    by_cases q : ROOM < units (kept s.cells (h :: s.rooted)) + units (kept s.cells [h])
    · simp only [if_pos q]
      exact ⟨by trivial, by trivial⟩
    · simp only [if_neg q]
      exact ⟨by trivial, by trivial⟩
theorem does_sim {s : St} (g : Good s) (c : Call) : (does (tidy s) c).2 = (does s c).2 ∧ tidy (does (tidy s) c).1 = tidy (does s c).1 := by
  have e : (c.needs.all (tidy s).has) = c.needs.all s.has := by
    congr 1
    funext h
    exact has_tidy g.nd h
  unfold does
  rw [e]
  by_cases q : (c.needs.all s.has) = true
  · simp only [if_pos q]
    exact done_sim g c fun h hh => (has_iff g.nd).mp (List.all_eq_true.mp q h hh)
  · simp only [if_neg q]
    exact ⟨by trivial, tidy_tidy g.nd⟩
end Rc

end
section
set_option Elab.async false
namespace Rc
open Sz13
/-! ### what is kept is good -/
theorem good_fresh : Good fresh := by
  refine ⟨?_, ?_, ?_, ?_, ?_, ?_, ?_, ?_⟩
  · exact List.nodup_nil
  · exact fun x hx => nomatch hx
  · exact fun x hx => nomatch hx
  · exact fun x hx => nomatch hx
  · exact fun x hx => nomatch hx
  · exact List.length_replicate
  · exact Nat.one_pos
  · intro h hh
    have := mem_starts.mp hh
    rcases this.1 with z | z
    · exact absurd z this.2
    · exact absurd (List.eq_of_mem_replicate z) this.2
/-- some cells kept, with other starts -/
theorem good_kept {s : St} (g : Good s) {f : List Nat} (t : St) (ht : t.cells = kept s.cells f) (hn : s.next ≤ t.next) (hr : t.roots.length = 256) (hs : ∀ h ∈ t.starts, h ∈ f ∧ h ∈ keys s.cells) : Good t := by
  have hm : ∀ x ∈ t.cells, x ∈ s.cells ∧ Led s.cells f x.1 := fun x hx => (mem_kept g.nd).mp (ht ▸ hx)
  have hk : ∀ h, Led s.cells f h → h ∈ keys t.cells := fun h q => by
    rw [ht]
    exact isSome_iff.mp (by rw [get_kept_led g.nd q]; exact led_there q)
  refine ⟨by rw [ht]; exact nodup_kept g.nd, fun x hx => g.lo x (hm x hx).1, fun x hx => Nat.lt_of_lt_of_le (g.hi x (hm x hx).1) hn, fun x hx h hh => ?_, fun x hx => g.w8 x (hm x hx).1, hr, Nat.lt_of_lt_of_le g.np hn, fun h hh => ?_⟩
  · have h1 := hm x hx
    exact hk h (.step h1.2 ((get_iff g.nd).mpr h1.1) hh (isSome_iff.mpr (g.rf x h1.1 h hh)))
  · have := hs h hh
    exact hk h (.start this.1 (isSome_iff.mpr this.2))
theorem refs_nothing (n : Nat) : refs (List.replicate n .nothing) = [] := by
  unfold refs
  rw [List.filterMap_eq_nil_iff]
  intro a ha
  rw [List.eq_of_mem_replicate ha]
theorem good_made {s : St} (g : Good s) (n : Int) : Good (made s n).1 := by
  unfold made
  by_cases q : n < 0 ∨ 8 < n
  · simp only [if_pos q]
    exact g
  · simp only [if_neg q]
    have k0 : Good ({ s with cells := kept s.cells s.rooted, newest := 0 } : St) := by
      refine good_kept g _ rfl (Nat.le_refl _) g.rl fun h hh => ?_
      have := mem_starts.mp hh
      rcases this.1 with z | z
      · exact absurd z this.2
      · exact ⟨mem_rooted.mpr ⟨z, this.2⟩, g.st h (mem_starts.mpr ⟨.inr z, this.2⟩)⟩
    by_cases q2 : ROOM < units (kept s.cells s.rooted) + n.toNat + 1
    · simp only [if_pos q2]
      exact k0
    · simp only [if_neg q2]
      have hk : ∀ h, h ∈ keys (kept s.cells s.rooted) → h < s.next := fun h hh => by
        obtain ⟨x, hx, e⟩ := List.mem_map.mp hh
        exact e ▸ k0.hi x hx
      refine ⟨List.nodup_cons.mpr ⟨fun z => Nat.lt_irrefl _ (hk _ z), k0.nd⟩, ?_, ?_, ?_, ?_, g.rl, Nat.succ_pos _, ?_⟩
      · intro x hx
        rcases List.mem_cons.mp hx with z | z
        · rw [z]; exact g.np
        · exact k0.lo x z
      · intro x hx
        rcases List.mem_cons.mp hx with z | z
        · rw [z]; exact Nat.lt_succ_self _
        · exact Nat.lt_succ_of_lt (k0.hi x z)
      · intro x hx h hh
        rcases List.mem_cons.mp hx with z | z
        · rw [z] at hh
          simp only [refs_nothing] at hh
          cases hh
        · exact List.mem_cons_of_mem _ (k0.rf x z h hh)
      · intro x hx
        rcases List.mem_cons.mp hx with z | z
        · rw [z]
          simp only [List.length_replicate]
          omega
        · exact k0.w8 x z
      · intro h hh
        have := mem_starts.mp hh
        rcases this.1 with z | z
        · rw [z]
          exact List.mem_cons_self ..
        · exact List.mem_cons_of_mem _ (k0.st h (mem_starts.mpr ⟨.inr z, this.2⟩))
theorem good_putIn {s : St} (g : Good s) (h : Nat) (i : Int) {f : Field} (hf : ∀ k, f = .cell k → k ∈ keys s.cells) : Good (putIn s h i f).1 := by
  unfold putIn
  cases field s h i with
  | none => exact g
  | some _ =>
    show Good { s with cells := putC s.cells h i.toNat f }
    have hm : ∀ x ∈ putC s.cells h i.toNat f, ∃ y ∈ s.cells, y.1 = x.1 ∧ (x.2 = y.2 ∨ x.2 = y.2.set i.toNat f) := fun x hx => by
      obtain ⟨y, hy, e⟩ := List.mem_map.mp hx
      refine ⟨y, hy, ?_⟩
      rw [← e]
      by_cases q : y.1 = h
      · rw [if_pos q]
        exact ⟨q, .inr rfl⟩
      · rw [if_neg q]
        exact ⟨rfl, .inl rfl⟩
    refine ⟨?_, ?_, ?_, ?_, ?_, g.rl, g.np, ?_⟩
    · show (keys (putC s.cells h i.toNat f)).Nodup
      rw [keys_putC]
      exact g.nd
    · intro x hx
      obtain ⟨y, hy, e, _⟩ := hm x hx
      exact e ▸ g.lo y hy
    · intro x hx
      obtain ⟨y, hy, e, _⟩ := hm x hx
      exact e ▸ g.hi y hy
    · intro x hx k hk
      obtain ⟨y, hy, _, e⟩ := hm x hx
      show k ∈ keys (putC s.cells h i.toNat f)
      rw [keys_putC]
      rcases e with e | e
      · exact g.rf y hy k (e ▸ hk)
      · rw [e] at hk
        rcases refs_set hk with z | z
        · exact g.rf y hy k z
        · exact hf k z
    · intro x hx
      obtain ⟨y, hy, _, e⟩ := hm x hx
      rcases e with e | e
      · rw [e]; exact g.w8 y hy
      · rw [e, List.length_set]; exact g.w8 y hy
    · intro k hk
      show k ∈ keys (putC s.cells h i.toNat f)
      rw [keys_putC]
      exact g.st k hk
/-! ### a copy -/
/-- the place of a handle among the part's -/
def place (part : Cells) (x : Nat) : Nat := (part.filter fun (y : Nat × Cell) => decide (y.1 < x)).length
theorem place_lt {part : Cells} {x : Nat} (h : x ∈ keys part) : place part x < part.length := by
  obtain ⟨y, hy, e⟩ := List.mem_map.mp h
  unfold place
  have h1 : (part.filter fun (z : Nat × Cell) => decide (z.1 < x)).length ≤ part.length := List.length_filter_le ..
  rcases Nat.lt_or_ge (part.filter fun (z : Nat × Cell) => decide (z.1 < x)).length part.length with q | q
  · exact q
  · have h2 := List.length_filter_eq_length_iff.mp (Nat.le_antisymm h1 q) y hy
    simp at h2
    omega
theorem place_mono {part : Cells} {a b : Nat} (h : a ≤ b) : place part a ≤ place part b := by
  unfold place
  induction part with
  | nil => exact Nat.le_refl _
  | cons y p ih =>
    rw [List.filter_cons, List.filter_cons]
    by_cases q1 : y.1 < a
    · have q2 : y.1 < b := by omega
      simp only [decide_eq_true q1, decide_eq_true q2, if_true, List.length_cons]
      omega
    · by_cases q2 : y.1 < b
      · simp only [decide_eq_false q1, decide_eq_true q2, if_true, List.length_cons, Bool.false_eq_true, if_false]
        omega
      · simp only [decide_eq_false q1, decide_eq_false q2, Bool.false_eq_true, if_false]
        exact ih
theorem place_strict {part : Cells} {a b : Nat} (ha : a ∈ keys part) (h : a < b) : place part a < place part b := by
  induction part with
  | nil => cases ha
  | cons y p ih =>
    unfold place
    rw [List.filter_cons, List.filter_cons]
    have hm := place_mono (part := p) (Nat.le_of_lt h)
    unfold place at hm ih
    by_cases q : y.1 = a
    · have q1 : ¬ y.1 < a := by omega
      have q2 : y.1 < b := by omega
      simp only [decide_eq_false q1, decide_eq_true q2, if_true, List.length_cons, Bool.false_eq_true, if_false]
      omega
    · have ha' : a ∈ keys p := by
        rcases List.mem_cons.mp (show a ∈ y.1 :: keys p from ha) with z | z
        · exact absurd z.symm q
        · exact z
      have := ih ha'
      by_cases q1 : y.1 < a
      · have q2 : y.1 < b := by omega
        simp only [decide_eq_true q1, decide_eq_true q2, if_true, List.length_cons]
        omega
      · by_cases q2 : y.1 < b
        · simp only [decide_eq_false q1, decide_eq_true q2, if_true, List.length_cons, Bool.false_eq_true, if_false]
          omega
        · simp only [decide_eq_false q1, decide_eq_false q2, Bool.false_eq_true, if_false]
          exact this
theorem place_inj {part : Cells} {a b : Nat} (ha : a ∈ keys part) (hb : b ∈ keys part) (e : place part a = place part b) : a = b := by
  rcases Nat.lt_trichotomy a b with q | q | q
  · have := place_strict ha q
    omega
  · exact q
  · have := place_strict hb q
    omega
def reF (f : Nat → Nat) : Field → Field
  | .cell h => .cell (f h)
  | y => y
theorem renamed_eq (f : Nat → Nat) (x : Cell) : renamed f x = x.map (reF f) := by
  unfold renamed
  apply List.map_congr_left
  intro y _
  cases y <;> rfl
theorem renamed_len (f : Nat → Nat) (x : Cell) : (renamed f x).length = x.length := by rw [renamed_eq, List.length_map]
theorem refs_renamed {f : Nat → Nat} {x : Cell} {k : Nat} (h : k ∈ refs (renamed f x)) : ∃ j ∈ refs x, k = f j := by
  rw [renamed_eq] at h
  unfold refs at h
  obtain ⟨g, hg, e⟩ := List.mem_filterMap.mp h
  obtain ⟨g0, hg0, e0⟩ := List.mem_map.mp hg
  subst e0
  cases g0 with
  | nothing => simp [reF] at e
  | number z => simp [reF] at e
  | cell j =>
    simp [reF] at e
    exact ⟨j, List.mem_filterMap.mpr ⟨_, hg0, rfl⟩, e.symm⟩
def newOf (n : Nat) (part : Cells) (x : Nat) : Nat := n + place part x
def news' (n : Nat) (part : Cells) : Cells := part.map fun x => (newOf n part x.1, renamed (newOf n part) x.2)
theorem copied_eq (s : St) (h : Nat) : copied s h =
    if ROOM < units (kept s.cells (h :: s.rooted)) + units (kept s.cells [h]) then ({ s with cells := kept s.cells (h :: s.rooted), newest := if s.newest = h then h else 0 }, -3)
    else (⟨news' s.next (kept s.cells [h]) ++ kept s.cells (h :: s.rooted), s.roots, newOf s.next (kept s.cells [h]) h, s.next + (kept s.cells [h]).length⟩, ((newOf s.next (kept s.cells [h]) h : Nat) : Int)) := rfl
theorem keys_news' (n : Nat) (part : Cells) : keys (news' n part) = (keys part).map (newOf n part) := by
  unfold news' keys
  rw [List.map_map, List.map_map]
  rfl
theorem nodup_map {f : Nat → Nat} : ∀ {l : List Nat}, l.Nodup → (∀ a ∈ l, ∀ b ∈ l, f a = f b → a = b) → (l.map f).Nodup
  | [], _, _ => by simp
  | a :: l, hn, hi => by
    have hn' := List.nodup_cons.mp hn
    rw [List.map_cons, List.nodup_cons]
    refine ⟨fun z => ?_, nodup_map hn'.2 fun b hb d hd => hi b (List.mem_cons_of_mem _ hb) d (List.mem_cons_of_mem _ hd)⟩
    obtain ⟨b, hb, e⟩ := List.mem_map.mp z
    exact hn'.1 (hi b (List.mem_cons_of_mem _ hb) a (List.mem_cons_self ..) e ▸ hb)
theorem good_copied {s : St} (g : Good s) {h : Nat} (hh : Led s.cells s.starts h) : Good (copied s h).1 := by
  rw [copied_eq]
  have hk : h ∈ keys s.cells := led_key hh
  have h0 : h ≠ 0 := fun e => by
    obtain ⟨x, hx, e'⟩ := List.mem_map.mp hk
    have := g.lo x hx
    omega
  have kg : ∀ m : Nat, (m = h ∨ m = 0) → Good ({ s with cells := kept s.cells (h :: s.rooted), newest := m } : St) := fun m hm => by
    refine good_kept g _ rfl (Nat.le_refl _) g.rl fun a ha => ?_
    have := mem_starts.mp ha
    rcases this.1 with z | z
    · rcases hm with e | e
      · have : a = h := z.trans e
        exact ⟨this ▸ List.mem_cons_self .., this ▸ hk⟩
      · exact absurd (z.trans e) this.2
    · exact ⟨List.mem_cons_of_mem _ (mem_rooted.mpr ⟨z, this.2⟩), g.st a (mem_starts.mpr ⟨.inr z, this.2⟩)⟩
  by_cases q : ROOM < units (kept s.cells (h :: s.rooted)) + units (kept s.cells [h])
  · simp only [if_pos q]
    refine kg _ ?_
    by_cases q2 : s.newest = h
    · rw [if_pos q2]
      exact .inl rfl
    · rw [if_neg q2]
      exact .inr rfl
  · simp only [if_neg q]
    have k0 := kg 0 (.inr rfl)
    have hp : ∀ a, Led s.cells [h] a → a ∈ keys (kept s.cells [h]) := fun a z => isSome_iff.mp (by rw [get_kept_led g.nd z]; exact led_there z)
    have hph : h ∈ keys (kept s.cells [h]) := hp h (.start (List.mem_cons_self ..) (isSome_iff.mpr hk))
    have hnp : (keys (kept s.cells [h])).Nodup := nodup_kept g.nd
    have hlt : ∀ a ∈ keys (kept s.cells (h :: s.rooted)), a < s.next := fun a ha => by
      obtain ⟨x, hx, e⟩ := List.mem_map.mp ha
      exact e ▸ k0.hi x hx
    have hm : ∀ x ∈ news' s.next (kept s.cells [h]), ∃ y ∈ kept s.cells [h], x = (newOf s.next (kept s.cells [h]) y.1, renamed (newOf s.next (kept s.cells [h])) y.2) := fun x hx => by
      obtain ⟨y, hy, e⟩ := List.mem_map.mp hx
      exact ⟨y, hy, e.symm⟩
    have hka : ∀ a ∈ keys (kept s.cells [h]), newOf s.next (kept s.cells [h]) a ∈ keys (news' s.next (kept s.cells [h])) := fun a ha => by
      rw [keys_news']
      exact List.mem_map.mpr ⟨a, ha, rfl⟩
    refine ⟨?_, ?_, ?_, ?_, ?_, g.rl, Nat.add_pos_left g.np _, ?_⟩
    · show (keys (news' s.next (kept s.cells [h]) ++ kept s.cells (h :: s.rooted))).Nodup
      unfold keys
      rw [List.map_append, List.nodup_append]
      refine ⟨?_, k0.nd, fun a ha b hb e => ?_⟩
      · show (keys (news' s.next (kept s.cells [h]))).Nodup
        rw [keys_news']
        exact nodup_map hnp fun a ha b hb e => place_inj ha hb (by unfold newOf at e; omega)
      · have h1 := hlt b hb
        have ha' : a ∈ keys (news' s.next (kept s.cells [h])) := ha
        rw [keys_news'] at ha'
        obtain ⟨c, _, ec⟩ := List.mem_map.mp ha'
        unfold newOf at ec
        omega
    · intro x hx
      rcases List.mem_append.mp hx with z | z
      · obtain ⟨y, _, e⟩ := hm x z
        rw [e]
        exact Nat.add_pos_left g.np _
      · exact k0.lo x z
    · intro x hx
      rcases List.mem_append.mp hx with z | z
      · obtain ⟨y, hy, e⟩ := hm x z
        rw [e]
        exact Nat.add_lt_add_left (place_lt (List.mem_map.mpr ⟨y, hy, rfl⟩)) _
      · exact Nat.lt_of_lt_of_le (k0.hi x z) (Nat.le_add_right _ _)
    · intro x hx k hk'
      show k ∈ keys (news' s.next (kept s.cells [h]) ++ kept s.cells (h :: s.rooted))
      unfold keys
      rw [List.map_append, List.mem_append]
      rcases List.mem_append.mp hx with z | z
      · obtain ⟨y, hy, e⟩ := hm x z
        rw [e] at hk'
        obtain ⟨j, hj, ej⟩ := refs_renamed hk'
        have hy' := (mem_kept g.nd).mp hy
        rw [ej]
        exact .inl (hka j (hp j (.step hy'.2 ((get_iff g.nd).mpr hy'.1) hj (isSome_iff.mpr (g.rf y hy'.1 j hj)))))
      · exact .inr (k0.rf x z k hk')
    · intro x hx
      rcases List.mem_append.mp hx with z | z
      · obtain ⟨y, hy, e⟩ := hm x z
        rw [e]
        show (renamed _ y.2).length ≤ 8
        rw [renamed_len]
        exact w8_kept g.w8 y hy
      · exact k0.w8 x z
    · intro a ha
      show a ∈ keys (news' s.next (kept s.cells [h]) ++ kept s.cells (h :: s.rooted))
      unfold keys
      rw [List.map_append, List.mem_append]
      have := mem_starts.mp ha
      rcases this.1 with z | z
      · rw [z]
        exact .inl (hka h hph)
      · exact .inr (k0.st a (mem_starts.mpr ⟨.inr z, this.2⟩))
theorem good_does {s : St} (g : Good s) (c : Call) : Good (does s c).1 := by
  unfold does
  by_cases q : (c.needs.all s.has) = true
  · simp only [if_pos q]
    have hn : ∀ h ∈ c.needs, Led s.cells s.starts h := fun h hh => (has_iff g.nd).mp (List.all_eq_true.mp q h hh)
    cases c with
    | clear => exact good_fresh
    | make n => exact good_made g n
    | root r h =>
      unfold done
      by_cases q : r < 0 ∨ 255 < r
      · simp only [if_pos q]
        exact g
      · simp only [if_neg q]
        refine ⟨g.nd, g.lo, g.hi, g.rf, g.w8, by simp [g.rl], g.np, fun a ha => ?_⟩
        have := mem_starts.mp ha
        rcases this.1 with z | z
        · exact g.st a (mem_starts.mpr ⟨.inl z, this.2⟩)
        · rcases List.mem_or_eq_of_mem_set z with w | w
          · exact g.st a (mem_starts.mpr ⟨.inr w, this.2⟩)
          · have h2 := this.2
            subst w
            exact led_key (hn a (by simp [Call.needs, h2]))
    | rooted r =>
      unfold done
      by_cases q : r < 0 ∨ 255 < r
      · simp only [if_pos q]
        exact g
      · simp only [if_neg q]
        exact g
    | setNumber h i z => exact good_putIn g h i (fun k e => by cases e)
    | setCell h i k =>
      refine good_putIn g h i (fun j e => ?_)
      by_cases q : k = 0
      · rw [if_pos q] at e
        cases e
      · rw [if_neg q] at e
        cases e
        exact led_key (hn k (by simp [Call.needs, q]))
    | unset h i => exact good_putIn g h i (fun k e => by cases e)
    | kind h i => exact g
    | number h i => exact g
    | cell h i => exact g
    | fields h => exact g
    | count => exact g
    | alike h k => exact g
    | copy h => exact good_copied g (hn h (by simp [Call.needs]))
  · simp only [if_neg q]
    exact g

/-! ### the program's states: all that is there is led to, and there was room for it -/
structure Tid (t : St) : Prop where
  good : Good t
  all : ∀ h ∈ keys t.cells, Led t.cells t.starts h
  room : sumU t.cells ≤ 65536
theorem Tid.self {t : St} (T : Tid t) : tidy t = t := by
  show ({ t with cells := kept t.cells t.starts } : St) = t
  rw [kept_all T.good.nd T.all]
theorem tidy_all {s : St} (g : Good s) : ∀ h ∈ keys (tidy s).cells, Led (tidy s).cells (tidy s).starts h := fun h hh => by
  obtain ⟨x, hx, e⟩ := List.mem_map.mp hh
  have := ((mem_kept g.nd).mp hx).2
  rw [e] at this
  exact (led_kept g.nd led_self).mpr this
theorem sumU_kept (c : Cells) (f : List Nat) : sumU (kept c f) ≤ sumU c := sumU_filter _ c
theorem sumU_putC (c : Cells) (h i : Nat) (f : Field) : sumU (putC c h i f) = sumU c := by
  unfold sumU putC
  rw [List.map_map]
  congr 1
  apply List.map_congr_left
  intro x _
  show (if x.1 = h then (h, x.2.set i f) else x).2.length + 1 = x.2.length + 1
  by_cases q : x.1 = h
  · rw [if_pos q, List.length_set]
  · rw [if_neg q]
theorem sumU_news' (n : Nat) (part : Cells) : sumU (news' n part) = sumU part := by
  unfold sumU news'
  rw [List.map_map]
  congr 1
  apply List.map_congr_left
  intro x _
  show (renamed _ x.2).length + 1 = x.2.length + 1
  rw [renamed_len]
theorem room_does {s : St} (hr : sumU s.cells ≤ 65536) (c : Call) : sumU (does s c).1.cells ≤ 65536 := by
  unfold does
  by_cases q : (c.needs.all s.has) = true
  · simp only [if_pos q]
    have pi : ∀ h i f, sumU (putIn s h i f).1.cells ≤ 65536 := fun h i f => by
      unfold putIn
      cases field s h i with
      | none => exact hr
      | some _ =>
        show sumU (putC s.cells h i.toNat f) ≤ 65536
        rw [sumU_putC]
        exact hr
    cases c with
    | clear => exact Nat.zero_le _
    | make n =>
      unfold done made
      by_cases q : n < 0 ∨ 8 < n
      · simp only [if_pos q]
        exact hr
      · simp only [if_neg q]
        by_cases q2 : ROOM < units (kept s.cells s.rooted) + n.toNat + 1
        · simp only [if_pos q2]
          exact Nat.le_trans (sumU_kept _ _) hr
        · simp only [if_neg q2]
          rw [units_eq] at q2
          unfold ROOM at q2
          unfold sumU at q2 ⊢
          simp only [List.map_cons, List.sum_cons, List.length_replicate]
          omega
    | root r h =>
      unfold done
      by_cases q : r < 0 ∨ 255 < r
      · simp only [if_pos q]
        exact hr
      · simp only [if_neg q]
        exact hr
    | rooted r =>
      unfold done
      by_cases q : r < 0 ∨ 255 < r
      · simp only [if_pos q]
        exact hr
      · simp only [if_neg q]
        exact hr
    | setNumber h i z => exact pi _ _ _
    | setCell h i k => exact pi _ _ _
    | unset h i => exact pi _ _ _
    | kind h i => exact hr
    | number h i => exact hr
    | cell h i => exact hr
    | fields h => exact hr
    | count => exact hr
    | alike h k => exact hr
    | copy h =>
      show sumU (copied s h).1.cells ≤ 65536
      rw [copied_eq]
      by_cases q : ROOM < units (kept s.cells (h :: s.rooted)) + units (kept s.cells [h])
      · simp only [if_pos q]
        exact Nat.le_trans (sumU_kept _ _) hr
      · simp only [if_neg q]
        rw [sumU_append, sumU_news']
        rw [units_eq, units_eq] at q
        unfold ROOM at q
        omega
  · simp only [if_neg q]
    exact hr
theorem tid_fresh : Tid fresh := ⟨good_fresh, fun h hh => (nomatch hh), Nat.zero_le _⟩
theorem tid_does {t : St} (T : Tid t) (c : Call) : Tid (tidy (does t c).1) :=
  ⟨good_tidy (good_does T.good c), tidy_all (good_does T.good c), Nat.le_trans (sumU_kept _ _) (room_does T.room c)⟩
/-- in the program's states a handle is led to just where it is a cell's -/
theorem Tid.has {t : St} (T : Tid t) (h : Nat) : t.has h = true ↔ h ∈ keys t.cells := by
  rw [has_iff T.good.nd]
  exact ⟨led_key, T.all h⟩
end Rc

end
section
set_option Elab.async false
namespace Rc
open Sz13
/-! ### the calls, one by one -/
def int32 (z : Int) : Prop := -2147483648 ≤ z ∧ z ≤ 2147483647
def int64 (z : Int) : Prop := -9223372036854775808 ≤ z ∧ z ≤ 9223372036854775807
def hand (z : Int) : Prop := 0 ≤ z ∧ z ≤ 2147483647
/-- the place p with these numbers behind it is the call c -/
inductive Is : Int → List Int → Sz13.Call → Prop
  | clear : Is 1 [] .clear
  | make {a : Int} (ha : int32 a) : Is 2 [a] (.make a)
  | root {a b : Int} (ha : int32 a) (hb : hand b) : Is 3 [a, b] (.root a b.toNat)
  | rooted {a : Int} (ha : int32 a) : Is 4 [a] (.rooted a)
  | setNumber {a b c : Int} (ha : hand a) (hb : int32 b) (hc : int64 c) : Is 5 [a, b, c] (.setNumber a.toNat b c)
  | setCell {a b c : Int} (ha : hand a) (hb : int32 b) (hc : hand c) : Is 6 [a, b, c] (.setCell a.toNat b c.toNat)
  | unset {a b : Int} (ha : hand a) (hb : int32 b) : Is 7 [a, b] (.unset a.toNat b)
  | kind {a b : Int} (ha : hand a) (hb : int32 b) : Is 8 [a, b] (.kind a.toNat b)
  | number {a b : Int} (ha : hand a) (hb : int32 b) : Is 9 [a, b] (.number a.toNat b)
  | cell {a b : Int} (ha : hand a) (hb : int32 b) : Is 10 [a, b] (.cell a.toNat b)
  | fields {a : Int} (ha : hand a) : Is 11 [a] (.fields a.toNat)
  | count : Is 12 [] .count
  | alike {a b : Int} (ha : hand a) (hb : hand b) : Is 13 [a, b] (.alike a.toNat b.toNat)
  | copy {a : Int} (ha : hand a) : Is 14 [a] (.copy a.toNat)
/-- how many numbers stand behind a place -/
def sz (p : Int) : Nat := ((PySz13.shape p).map (·.1)).getD 0
theorem shape_cases {p : Int} {q : Nat × Nat} (h : PySz13.shape p = some q) :
    (p = 1 ∧ q = (0, 0)) ∨ (p = 2 ∧ q = (1, 0)) ∨ (p = 3 ∧ q = (2, 0)) ∨ (p = 4 ∧ q = (1, 0)) ∨ (p = 5 ∧ q = (3, 0)) ∨ (p = 6 ∧ q = (3, 0)) ∨ (p = 7 ∧ q = (2, 0)) ∨
    (p = 8 ∧ q = (2, 0)) ∨ (p = 9 ∧ q = (2, 0)) ∨ (p = 10 ∧ q = (2, 0)) ∨ (p = 11 ∧ q = (1, 0)) ∨ (p = 12 ∧ q = (0, 0)) ∨ (p = 13 ∧ q = (2, 0)) ∨ (p = 14 ∧ q = (1, 0)) := by
  unfold PySz13.shape at h
  by_cases e1 : p = 1
  · rw [if_pos e1] at h
    exact .inl (⟨e1, (Option.some.inj h).symm⟩)
  rw [if_neg e1] at h
  by_cases e2 : p = 2
  · rw [if_pos e2] at h
    exact .inr (.inl (⟨e2, (Option.some.inj h).symm⟩))
  rw [if_neg e2] at h
  by_cases e3 : p = 3
  · rw [if_pos e3] at h
    exact .inr (.inr (.inl (⟨e3, (Option.some.inj h).symm⟩)))
  rw [if_neg e3] at h
  by_cases e4 : p = 4
  · rw [if_pos e4] at h
    exact .inr (.inr (.inr (.inl (⟨e4, (Option.some.inj h).symm⟩))))
  rw [if_neg e4] at h
  by_cases e5 : p = 5
  · rw [if_pos e5] at h
    exact .inr (.inr (.inr (.inr (.inl (⟨e5, (Option.some.inj h).symm⟩)))))
  rw [if_neg e5] at h
  by_cases e6 : p = 6
  · rw [if_pos e6] at h
    exact .inr (.inr (.inr (.inr (.inr (.inl (⟨e6, (Option.some.inj h).symm⟩))))))
  rw [if_neg e6] at h
  by_cases e7 : p = 7
  · rw [if_pos e7] at h
    exact .inr (.inr (.inr (.inr (.inr (.inr (.inl (⟨e7, (Option.some.inj h).symm⟩)))))))
  rw [if_neg e7] at h
  by_cases e8 : p = 8
  · rw [if_pos e8] at h
    exact .inr (.inr (.inr (.inr (.inr (.inr (.inr (.inl (⟨e8, (Option.some.inj h).symm⟩))))))))
  rw [if_neg e8] at h
  by_cases e9 : p = 9
  · rw [if_pos e9] at h
    exact .inr (.inr (.inr (.inr (.inr (.inr (.inr (.inr (.inl (⟨e9, (Option.some.inj h).symm⟩)))))))))
  rw [if_neg e9] at h
  by_cases e10 : p = 10
  · rw [if_pos e10] at h
    exact .inr (.inr (.inr (.inr (.inr (.inr (.inr (.inr (.inr (.inl (⟨e10, (Option.some.inj h).symm⟩))))))))))
  rw [if_neg e10] at h
  by_cases e11 : p = 11
  · rw [if_pos e11] at h
    exact .inr (.inr (.inr (.inr (.inr (.inr (.inr (.inr (.inr (.inr (.inl (⟨e11, (Option.some.inj h).symm⟩)))))))))))
  rw [if_neg e11] at h
  by_cases e12 : p = 12
  · rw [if_pos e12] at h
    exact .inr (.inr (.inr (.inr (.inr (.inr (.inr (.inr (.inr (.inr (.inr (.inl (⟨e12, (Option.some.inj h).symm⟩))))))))))))
  rw [if_neg e12] at h
  by_cases e13 : p = 13
  · rw [if_pos e13] at h
    exact .inr (.inr (.inr (.inr (.inr (.inr (.inr (.inr (.inr (.inr (.inr (.inr (.inl (⟨e13, (Option.some.inj h).symm⟩)))))))))))))
  rw [if_neg e13] at h
  by_cases e14 : p = 14
  · rw [if_pos e14] at h
    exact .inr (.inr (.inr (.inr (.inr (.inr (.inr (.inr (.inr (.inr (.inr (.inr (.inr (⟨e14, (Option.some.inj h).symm⟩)))))))))))))
  rw [if_neg e14] at h
  cases h
theorem calls_step {f : Nat} {p : Int} {r : List Int} {cs : List (List (List Int))} (h : PyFlat.calls PySz13.shape (f + 1) (p :: r) = some cs) :
    ∃ n cs', PySz13.shape p = some (n, 0) ∧ n ≤ r.length ∧ cs = [p :: r.take n] :: cs' ∧ PyFlat.calls PySz13.shape f (r.drop n) = some cs' := by
  unfold PyFlat.calls at h
  unfold PyFlat.call at h
  cases e : PySz13.shape p with
  | none => simp [e] at h
  | some q =>
    obtain ⟨n, k⟩ := q
    have hk : k = 0 := by
      have := shape_cases e
      simp only [Prod.mk.injEq] at this
      omega
    subst hk
    simp only [e] at h
    by_cases q : r.length < n
    · simp [q] at h
    · simp only [if_neg q, PyFlat.rows] at h
      cases e2 : PyFlat.calls PySz13.shape f (r.drop n) with
      | none => simp [e2] at h
      | some cs' =>
        simp only [e2] at h
        exact ⟨n, cs', rfl, by omega, (Option.some.inj h).symm, e2⟩
theorem len1 {l : List Int} (h : l.length = 1) : ∃ a, l = [a] := by
  match l, h with
  | [a], _ => exact ⟨a, rfl⟩
theorem len2 {l : List Int} (h : l.length = 2) : ∃ a b, l = [a, b] := by
  match l, h with
  | [a, b], _ => exact ⟨a, b, rfl⟩
theorem len3 {l : List Int} (h : l.length = 3) : ∃ a b c, l = [a, b, c] := by
  match l, h with
  | [a, b, c], _ => exact ⟨a, b, c, rfl⟩
theorem w32 {z : Int} (h : Sz13Neutral.whole32 z = true) : int32 z := by
  unfold Sz13Neutral.whole32 at h
  simp only [Bool.and_eq_true, decide_eq_true_eq] at h
  unfold int32
  omega
theorem w64 {z : Int} (h : Sz13Neutral.whole64 z = true) : int64 z := by
  unfold Sz13Neutral.whole64 at h
  simp only [Bool.and_eq_true, decide_eq_true_eq] at h
  unfold int64
  omega
theorem nat31 {z : Int} (h : Sz13Neutral.natural z 31 = true) : hand z := by
  unfold Sz13Neutral.natural at h
  simp only [Bool.and_eq_true, decide_eq_true_eq] at h
  unfold hand
  omega
theorem is_of {p : Int} {n : Nat} {as : List Int} (hs : PySz13.shape p = some (n, 0)) (hl : as.length = n) (ha : Sz13Neutral.asked1 (PySz13.whole [p :: as]) = true) :
    ∃ c, Is p as c ∧ ∀ s, Sz13Neutral.step s (PySz13.whole [p :: as]) = ((does s c).1, [(does s c).2]) := by
  have := shape_cases hs
  simp only [Prod.mk.injEq, and_true] at this
  rcases this with ⟨rfl, rfl⟩ | ⟨rfl, rfl⟩ | ⟨rfl, rfl⟩ | ⟨rfl, rfl⟩ | ⟨rfl, rfl⟩ | ⟨rfl, rfl⟩ | ⟨rfl, rfl⟩ | ⟨rfl, rfl⟩ | ⟨rfl, rfl⟩ | ⟨rfl, rfl⟩ | ⟨rfl, rfl⟩ | ⟨rfl, rfl⟩ | ⟨rfl, rfl⟩ | ⟨rfl, rfl⟩
  · have e := List.eq_nil_of_length_eq_zero hl
    subst e
    exact ⟨_, .clear, fun s => rfl⟩
  · obtain ⟨a, rfl⟩ := len1 hl
    exact ⟨_, .make (w32 ha), fun s => rfl⟩
  · obtain ⟨a, b, rfl⟩ := len2 hl
    have ha' := Bool.and_eq_true_iff.mp (show (Sz13Neutral.whole32 a && Sz13Neutral.natural b 31) = true from ha)
    exact ⟨_, .root (w32 ha'.1) (nat31 ha'.2), fun s => rfl⟩
  · obtain ⟨a, rfl⟩ := len1 hl
    exact ⟨_, .rooted (w32 ha), fun s => rfl⟩
  · obtain ⟨a, b, c, rfl⟩ := len3 hl
    have ha' := Bool.and_eq_true_iff.mp (show (Sz13Neutral.natural a 31 && (Sz13Neutral.whole32 b && Sz13Neutral.whole64 c)) = true from ha)
    have hb' := Bool.and_eq_true_iff.mp ha'.2
    exact ⟨_, .setNumber (nat31 ha'.1) (w32 hb'.1) (w64 hb'.2), fun s => rfl⟩
  · obtain ⟨a, b, c, rfl⟩ := len3 hl
    have ha' := Bool.and_eq_true_iff.mp (show (Sz13Neutral.natural a 31 && (Sz13Neutral.whole32 b && Sz13Neutral.natural c 31)) = true from ha)
    have hb' := Bool.and_eq_true_iff.mp ha'.2
    exact ⟨_, .setCell (nat31 ha'.1) (w32 hb'.1) (nat31 hb'.2), fun s => rfl⟩
  · obtain ⟨a, b, rfl⟩ := len2 hl
    have ha' := Bool.and_eq_true_iff.mp (show (Sz13Neutral.natural a 31 && Sz13Neutral.whole32 b) = true from ha)
    exact ⟨_, .unset (nat31 ha'.1) (w32 ha'.2), fun s => rfl⟩
  · obtain ⟨a, b, rfl⟩ := len2 hl
    have ha' := Bool.and_eq_true_iff.mp (show (Sz13Neutral.natural a 31 && Sz13Neutral.whole32 b) = true from ha)
    exact ⟨_, .kind (nat31 ha'.1) (w32 ha'.2), fun s => rfl⟩
  · obtain ⟨a, b, rfl⟩ := len2 hl
    have ha' := Bool.and_eq_true_iff.mp (show (Sz13Neutral.natural a 31 && Sz13Neutral.whole32 b) = true from ha)
    exact ⟨_, .number (nat31 ha'.1) (w32 ha'.2), fun s => rfl⟩
  · obtain ⟨a, b, rfl⟩ := len2 hl
    have ha' := Bool.and_eq_true_iff.mp (show (Sz13Neutral.natural a 31 && Sz13Neutral.whole32 b) = true from ha)
    exact ⟨_, .cell (nat31 ha'.1) (w32 ha'.2), fun s => rfl⟩
  · obtain ⟨a, rfl⟩ := len1 hl
    exact ⟨_, .fields (nat31 ha), fun s => rfl⟩
  · have e := List.eq_nil_of_length_eq_zero hl
    subst e
    exact ⟨_, .count, fun s => rfl⟩
  · obtain ⟨a, b, rfl⟩ := len2 hl
    have ha' := Bool.and_eq_true_iff.mp (show (Sz13Neutral.natural a 31 && Sz13Neutral.natural b 31) = true from ha)
    exact ⟨_, .alike (nat31 ha'.1) (nat31 ha'.2), fun s => rfl⟩
  · obtain ⟨a, rfl⟩ := len1 hl
    exact ⟨_, .copy (nat31 ha), fun s => rfl⟩
/-- where the program is: t its store, rest what is still to do, out what is said. THE LOOP'S INVARIANT (of ns, what is handed in) -/
structure At (ns : List Int) (t : St) (at_ : Nat) (out : List Int) : Prop where
  ex : ∃ (s : St) (f : Nat) (cs : List (List (List Int))), Good s ∧ t = tidy s ∧ PyFlat.calls PySz13.shape f (ns.drop at_) = some cs ∧ cs.all (fun c => Sz13Neutral.asked1 (PySz13.whole c)) = true ∧
    out ++ PyFlat.told (PyFlat.played Sz13Neutral.step s (cs.map PySz13.whole)) = PySz13.answers ns
  le : at_ ≤ ns.length
  tid : Tid t
  len : out.length ≤ 2 * at_
theorem at_start {ns : List Int} (h : PySz13.answers_asked ns = true) : At ns fresh 0 [] := by
  have hf : tidy fresh = fresh := tid_fresh.self
  refine ⟨?_, Nat.zero_le _, tid_fresh, Nat.le_refl _⟩
  unfold PySz13.answers_asked at h
  cases e : PyFlat.calls PySz13.shape ns.length ns with
  | none => simp [e] at h
  | some cs =>
    simp only [e, Bool.and_eq_true] at h
    obtain ⟨⟨⟨⟨_, _⟩, _⟩, h1⟩, _⟩ := h
    refine ⟨fresh, ns.length, cs, good_fresh, hf.symm, e, ?_, ?_⟩
    · unfold Sz13Neutral.asked at h1
      simp only [Bool.and_eq_true] at h1
      have := h1.1.1
      rw [List.all_map] at this
      exact this
    · rw [List.nil_append]
      unfold PySz13.answers PySz13.calls
      simp only [e]
      rfl
theorem At.turn {ns : List Int} {t : St} {at_ : Nat} {out : List Int} (A : At ns t at_ out) (hlt : at_ < ns.length) :
    ∃ (p : Int) (as : List Int) (c : Sz13.Call), ns[at_]? = some p ∧ as = (ns.drop (at_ + 1)).take (sz p) ∧ as.length = sz p ∧ at_ + 1 + sz p ≤ ns.length ∧ Is p as c ∧
      At ns (tidy (does t c).1) (at_ + 1 + sz p) (out ++ [1, (does t c).2]) := by
  obtain ⟨s, f, cs, g, et, ec, ha, eo⟩ := A.ex
  have ed : ns.drop at_ = ns[at_] :: ns.drop (at_ + 1) := (List.drop_eq_getElem_cons hlt)
  rw [ed] at ec
  cases f with
  | zero => simp [PyFlat.calls] at ec
  | succ f =>
    obtain ⟨n, cs', hs, hn, e1, e2⟩ := calls_step ec
    subst e1
    have hsz : sz ns[at_] = n := by unfold sz; rw [hs]; rfl
    simp only [List.all_cons, Bool.and_eq_true] at ha
    have hl : ((ns.drop (at_ + 1)).take n).length = n := by rw [List.length_take]; omega
    obtain ⟨c, hi, hst⟩ := is_of hs hl ha.1
    rw [List.length_drop] at hn
    obtain ⟨d1, d2⟩ := does_sim g c
    rw [← et] at d1 d2
    refine ⟨ns[at_], (ns.drop (at_ + 1)).take n, c, List.getElem?_eq_getElem hlt, by rw [hsz], by rw [hsz]; exact hl, by rw [hsz]; omega, hi, ⟨?_, by rw [hsz]; omega, tid_does A.tid c, ?_⟩⟩
    · refine ⟨(does s c).1, f, cs', good_does g c, d2, by rw [hsz, ← List.drop_drop]; exact e2, ha.2, ?_⟩
      rw [← eo, List.map_cons, d1]
      show _ = out ++ PyFlat.told ((Sz13Neutral.step s (PySz13.whole [ns[at_] :: (ns.drop (at_ + 1)).take n])).2 :: PyFlat.played Sz13Neutral.step (Sz13Neutral.step s (PySz13.whole [ns[at_] :: (ns.drop (at_ + 1)).take n])).1 (cs'.map PySz13.whole))
      rw [hst]
      unfold PyFlat.told
      rw [List.flatMap_cons]
      simp
    · have := A.len
      simp only [List.length_append, List.length_cons, List.length_nil]
      omega
theorem At.end_ {ns : List Int} {t : St} {at_ : Nat} {out : List Int} (A : At ns t at_ out) (hge : ns.length ≤ at_) : out = PySz13.answers ns := by
  obtain ⟨s, f, cs, g, et, ec, ha, eo⟩ := A.ex
  rw [List.drop_eq_nil_of_le hge] at ec
  have : cs = [] := by
    cases f <;> simp [PyFlat.calls] at ec <;> exact ec
  subst this
  rw [← eo]
  simp [PyFlat.played, PyFlat.told]
end Rc

end
section
set_option Elab.async false
set_option linter.all false
set_option maxRecDepth 100000
set_option maxHeartbeats 2000000
namespace Rc
open PySem PySem.Spec PyProof.Rows L2
open Sz13 (Field Cell Cells Led refs)
/-! ### the data -/
def fK : Field → Int
  | .nothing => 0
  | .number _ => 1
  | .cell _ => 2
def fV : Field → Int
  | .nothing => 0
  | .number z => z
  | .cell h => (h : Int)
/-- a field stands as a pair -/
def FAt (K : PySem.W.Frag) (H : Hp) (v : V) (f : Field) : Prop := ∃ a, v = .ref a ∧ SqT K H a [.int (fK f), .int (fV f)]
/-- a cell's fields stand in the list at a -/
def CellAt (K : PySem.W.Frag) (H : Hp) (a : Addr) (x : Cell) : Prop := ∃ vs, H a = some (.lst vs) ∧ Paired (FAt K H) vs x
/-- handle, the list's address, the fields -/
abbrev Rw := Nat × Addr × Cell
abbrev hs (T : List Rw) : List Nat := T.map fun e => e.1
abbrev ads (T : List Rw) : List Addr := T.map fun e => e.2.1
def rows (T : List Rw) : List (Key × V) := T.map fun e => (Sum.inl (e.1 : Int), V.ref e.2.1)
def cof (T : List Rw) : Cells := T.map fun e => (e.1, e.2.2)
structure Tab (K : PySem.W.Frag) (H : Hp) (T : List Rw) : Prop where
  nk : (hs T).Nodup
  na : (ads T).Nodup
  at_ : ∀ e ∈ T, CellAt K H e.2.1 e.2.2
theorem keys_cof (T : List Rw) : keys (cof T) = hs T := by
  unfold keys cof
  rw [List.map_map]
  rfl
theorem rows_len (T : List Rw) : (rows T).length = T.length := by unfold rows; rw [List.length_map]
theorem cof_len (T : List Rw) : (cof T).length = T.length := by unfold cof; rw [List.length_map]
theorem valV_rows {T : List Rw} (hn : (hs T).Nodup) {e : Rw} (he : e ∈ T) : valV (rows T) (Sum.inl (e.1 : Int)) = some (.ref e.2.1) := by
  induction T with
  | nil => cases he
  | cons f T ih =>
    have hn' := List.nodup_cons.mp (show (f.1 :: hs T).Nodup from hn)
    rcases List.mem_cons.mp he with z | z
    · subst z
      exact valV_pos (p := (Sum.inl (e.1 : Int), V.ref e.2.1)) rfl
    · have hne : ¬ f.1 = e.1 := fun q => hn'.1 (List.mem_map.mpr ⟨e, z, q.symm⟩)
      exact (valV_neg (p := (Sum.inl (f.1 : Int), V.ref f.2.1)) (fun q => hne (by have := Sum.inl.inj q; omega))).trans (ih hn'.2 z)
theorem valV_rows_no {T : List Rw} {z : Int} (h : ∀ e ∈ T, (e.1 : Int) ≠ z) : valV (rows T) (Sum.inl z) = none := by
  induction T with
  | nil => rfl
  | cons f T ih =>
    exact (valV_neg (p := (Sum.inl (f.1 : Int), V.ref f.2.1)) (fun q => h f (List.mem_cons_self ..) (Sum.inl.inj q))).trans (ih fun e he => h e (List.mem_cons_of_mem _ he))
/-- is the handle there -/
theorem valV_rows_isSome {T : List Rw} (hn : (hs T).Nodup) {z : Int} (hz : 0 ≤ z) : (valV (rows T) (Sum.inl z)).isSome = decide (z.toNat ∈ hs T) := by
  by_cases q : z.toNat ∈ hs T
  · obtain ⟨e, he, ee⟩ := List.mem_map.mp q
    have e2 : ((e.1 : Nat) : Int) = z := by have : e.1 = z.toNat := ee; omega
    rw [← e2, valV_rows hn he, e2, decide_eq_true q]
    rfl
  · rw [valV_rows_no, decide_eq_false q]
    · rfl
    · intro e he ee
      exact q (List.mem_map.mpr ⟨e, he, by have : (e.1 : Int) = z := ee; show e.1 = z.toNat; omega⟩)
/-! ### heaps -/
theorem FAt.same {K : PySem.W.Frag} {H H' : Hp} {v : V} {f : Field} (s : ∀ b xs, H b = some (.tup xs) → H' b = some (.tup xs)) (s' : ∀ b o xs, H b = some (.frz o (.tup xs)) → H' b = some (.frz o (.tup xs))) (h : FAt K H v f) : FAt K H' v f := by
  obtain ⟨a, e, q⟩ := h
  refine ⟨a, e, ?_⟩
  rcases q with (q | ⟨o, q⟩) | q
  · exact .inl (.inl (s _ _ q))
  · exact .inl (.inr ⟨o, s' _ _ _ q⟩)
  · exact .inr q
theorem CellAt.same {K : PySem.W.Frag} {H H' : Hp} {a : Addr} {x : Cell} (s : ∀ b xs, H b = some (.tup xs) → H' b = some (.tup xs)) (s' : ∀ b o xs, H b = some (.frz o (.tup xs)) → H' b = some (.frz o (.tup xs))) (e : H' a = H a) (h : CellAt K H a x) : CellAt K H' a x := by
  obtain ⟨vs, q, p⟩ := h
  exact ⟨vs, by rw [e]; exact q, Paired.mapP p fun _ _ z => z.same s s'⟩
theorem CellAt.keep {K : PySem.W.Frag} {H H' : Hp} {a : Addr} {x : Cell} (s : Same H H') (h : CellAt K H a x) : CellAt K H' a x := by
  obtain ⟨vs, q, p⟩ := h
  exact ⟨vs, s _ _ q, Paired.mapP p fun _ _ z => z.same (fun b xs z => s b _ z) (fun b o xs z => s b _ z)⟩
theorem Tab.keep {K : PySem.W.Frag} {H H' : Hp} {T : List Rw} (s : Same H H') (h : Tab K H T) : Tab K H' T := ⟨h.nk, h.na, fun e he => (h.at_ e he).keep s⟩
theorem same_new {H : Hp} {a : Addr} {o : HO} (h : H a = none) : Same H (upd H a o) := fun b u e => by
  rw [upd_ne (ne_of_none e h)]
  exact e
/-- only mutable things but those at the addresses l are as they were; tuples and frozen things too -/
theorem same_upd {H : Hp} {a : Addr} {o : HO} {b : Addr} {u : HO} (e : H b = some u) (h : b ≠ a) : upd H a o b = some u := by rw [upd_ne h]; exact e
/-! ### any walk of a comprehension by its turns -/
theorem lc_any {J : It} {n : Nat} {g : TG} {tt : TT} {te : TE} {vs : List Nat} {σ : L2.St} {H1 : Hp} {D : Addr} {Qd : Hp → Prop} (Pv : Nat → Hp → Prop) (h0 : Pv 0 (upd H1 D (.lst []))) (hgo : ∀ i H, i < n → Pv i H → J.go i H) (hst : ∀ H, Pv n H → J.stop n H)
    (hs : ∀ i x H H', i < n → Pv i H → J.yld i H x H' → g x (wipe σ vs) H' fun σ2 H2 => wipe σ2 vs = wipe σ vs ∧ tt σ2 H2 fun b H3 =>
      if b = true then te σ2 H3 fun y H4 => ∃ acc, H4 D = some (.lst acc) ∧ acc.length < sizeLine ∧ Pv (i + 1) (upd H4 D (.lst (acc ++ [y]))) else Pv (i + 1) H3) (hd : ∀ H, Pv n H → Qd H) :
    ∃ W : Nat → Nat → Hp → Prop, (∃ m, W 0 m (upd H1 D (.lst []))) ∧ ∀ i m H, W i m H →
      (J.stop i H ∧ Qd H) ∨ (J.go i H ∧ ∃ Nx : Hp → Prop, (∀ H', Nx H' → ∃ m', m' < m ∧ W (i + 1) m' H') ∧ ∀ x H', J.yld i H x H' → g x (wipe σ vs) H' fun σ2 H2 => wipe σ2 vs = wipe σ vs ∧ tt σ2 H2 fun b H3 =>
        if b = true then te σ2 H3 fun y H4 => ∃ acc, H4 D = some (.lst acc) ∧ acc.length < sizeLine ∧ Nx (upd H4 D (.lst (acc ++ [y]))) else Nx H3) := by
  refine ⟨fun i m H => m = n - i ∧ i ≤ n ∧ Pv i H, ⟨n, by simp, Nat.zero_le _, h0⟩, ?_⟩
  rintro i m H ⟨rfl, hi, p⟩
  by_cases hlt : i < n
  · exact .inr ⟨hgo i H hlt p, Pv (i + 1), fun H' p' => ⟨n - (i + 1), by omega, rfl, hlt, p'⟩, fun x H' y => hs i x H H' hlt p y⟩
  · have e : i = n := by omega
    subst e
    exact .inl ⟨hst H p, hd H p⟩
theorem ifT {b : Bool} {A B : Prop} (hb : b = true) (h : A) : if b = true then A else B := by
  rw [if_pos hb]
  exact h
theorem ifF {b : Bool} {A B : Prop} (hb : b = false) (h : B) : if b = true then A else B := by
  rw [if_neg (by rw [hb]; decide)]
  exact h
theorem yes {σ : L2.St} {H : Hp} {A B : Hp → Prop} (h : A H) : tYes σ H (fun b H3 => if b = true then A H3 else B H3) := by
  unfold tYes
  exact iteT h
/-! ### rules whose reading speaks of K (within a comprehension's block) -/
def rLen (K : PySem.W.Frag) : List V → Hp → VK → Prop := fun xs H Q => ∃ p ys, xs = [.ref p] ∧ (SqL K H p ys ∨ SqT K H p ys) ∧ Q (.int ys.length) H
theorem call_lenK {X : Cx} (K : PySem.W.Frag) (h : X.K = K := by rfl) : CallR X (.builtin "len") (rLen K) := by
  subst h
  exact call_len_seq
theorem pg_tupK {X : Cx} {pos : Pos} (K : PySem.W.Frag) {es : List Expr} {k : Nat} {t : TGs} {n : Nat} (hc : X.calm = true) (h : PGs X es t) (hK : X.K = K := by rfl)
    (hn : (assignEach es X.env).length = n := by rfl) (hst : (assignEach es X.env).findIdx? (·.1) = none := by rfl) : PG X (.Tuple es k pos) (gTup K n t) := by
  subst hK
  exact pg_tup hc h hn hst
theorem bSum : bootBuiltins "sum" = some (.builtin "sum") := by decide +kernel
theorem bList : bootBuiltins "list" = some (.type "list") := by decide +kernel
theorem bSorted : bootBuiltins "sorted" = some (.builtin "sorted") := by decide +kernel
/-! ### the text by places -/
def top (i : Nat) : Stmt := PySem.Challenge.pw_ringcells_s01_answers.main.body.getD i (.Pass ⟨0, 0, 0, 0⟩)
abbrev sLed : Stmt := top 25
abbrev sUnits : Stmt := top 26
abbrev sAgree : Stmt := top 27
abbrev sPairs : Stmt := top 28
abbrev sCan : Stmt := top 29
abbrev sRen : Stmt := top 30
abbrev cSt : Stmt := top 31
abbrev sAnswer : Stmt := top 32
abbrev sAnswers : Stmt := top 33
abbrev sInit : Stmt := inClass cSt 0
abbrev sClear : Stmt := inClass cSt 1
abbrev sInRoots : Stmt := inClass cSt 2
abbrev sSweep : Stmt := inClass cSt 3
abbrev sMake : Stmt := inClass cSt 4
abbrev sRoot : Stmt := inClass cSt 5
abbrev sRooted : Stmt := inClass cSt 6
abbrev sPut : Stmt := inClass cSt 7
abbrev sNumber : Stmt := inClass cSt 8
abbrev sCell : Stmt := inClass cSt 9
abbrev sUnset : Stmt := inClass cSt 10
abbrev sKind : Stmt := inClass cSt 11
abbrev sValue : Stmt := inClass cSt 12
abbrev sTold : Stmt := inClass cSt 13
abbrev sHeld : Stmt := inClass cSt 14
abbrev sFields : Stmt := inClass cSt 15
abbrev sCount : Stmt := inClass cSt 16
abbrev sAlike : Stmt := inClass cSt 17
abbrev sCopy : Stmt := inClass cSt 18
abbrev sAdd : Stmt := inClass cSt 19
end Rc

end
section
set_option Elab.async false
set_option linter.all false
set_option maxRecDepth 100000
set_option maxHeartbeats 2000000
namespace Rc
open PySem PySem.Spec PyProof.Rows L2
open Sz13 (Field Cell Cells Led refs)
section
variable {P : Program} {w : World} {K : PySem.W.Frag} {mg : Str → Option Value} {base : Heap}
/-! ### units -/
def spUnits (K : PySem.W.Frag) : Sp := fun vs H Q _ => ∃ (d : Addr) (T : List Rw), vs = [.ref d] ∧ H d = some (.dK (rows T)) ∧ Tab K H T ∧ T.length ≤ 65536 ∧ ∀ H' : Hp, Same H H' → Q (.int (sumU (cof T) : Nat)) H'
theorem scU : FnScope ["cells", "fields"] ["cells"] (defScope sUnits) := ⟨rfl, rfl, rfl, by decide +kernel, rfl, by decide +kernel, by decide +kernel⟩
def lcU : Scope := { kind := .function, names := [(".0", .local), ("fields", .local), ("len", .globalImplicit)], isGenerator := false, isCoroutine := false }
theorem bkU : BlkOk ["cells", "fields"] (defScope sUnits) lcU [("fields", 1)] := blkOk_by (by decide +kernel)
def uInt (e : Rw) : Int := 1 + (e.2.2.length : Int)
theorem sum_uInt : ∀ T : List Rw, (T.map uInt).sum = ((sumU (cof T) : Nat) : Int)
  | [] => rfl
  | e :: T => by
    have ih := sum_uInt T
    unfold sumU cof at ih ⊢
    rw [List.map_cons, List.sum_cons, ih, List.map_cons, List.map_cons, List.sum_cons]
    show 1 + (e.2.2.length : Int) + _ = ((e.2.2.length + 1 + _ : Nat) : Int)
    omega
theorem take_snoc {α : Type} {l : List α} {i : Nat} {x : α} (h : l[i]? = some x) : l.take (i + 1) = l.take i ++ [x] := by
  rw [List.take_add_one, h]
  rfl
theorem ok_units {f : Addr} {fd : FuncData} (F : Fun K "units" "units" sUnits f fd) (tSum : mg "sum" = none) (tLen : mg "len" = none) : FnOk P w K mg base CX0 1 f fd ["cells"] (spUnits K) := by
  refine F.ok scU (fun vs H Q E h => ?_) (fun cdv A outer s H vs Q E hr h => ?_)
  · obtain ⟨d, T, rfl, _⟩ := h
    rfl
  · obtain ⟨d, T, rfl, hd, hT, hlen, k⟩ := h
    refine ⟨_, pss_one (ps_ret (pe_lock (pe_callB (cr_sum rfl) (by rfl) tSum bSum (pa_cons (pe_lc (own := [("fields", 1)]) rfl scU.nd (pi_values (pv 0)) bkU
      (fun _ _ _ _ _ => pg_name (i := 1) scU.nd rfl (Or.inl rfl)) (fun _ _ _ _ _ => pts_nil) (fun _ _ _ _ _ => pe_op op_add pe_int (pe_callB (call_lenK K) (by rfl) tLen PySem.boot_len (pa_cons (pv 1) pa_nil)))) pa_nil)))), ?_⟩
    refine ⟨d, .dK (rows T), hd, trivial, fun od => ?_⟩
    refine ⟨_, rfl, d, od, rows T, rfl, upd_same, fun D hD => ?_⟩
    have hdD : d ≠ D := ne_of_none upd_same hD
    have hDH : H D = none := by rw [upd_ne (fun e => hdD e.symm)] at hD; exact hD
    refine lc_any (n := T.length) (fun i H' => H' = upd (upd H d (.frz od (.dK (rows T)))) D (.lst (((T.take i).map uInt).map V.int))) rfl ?_ ?_ ?_ ?_
    · rintro i _ hi rfl
      exact ⟨by rw [upd_ne hdD]; exact upd_same, by rw [rows_len]; exact hi⟩
    · rintro _ rfl
      exact ⟨by rw [upd_ne hdD]; exact upd_same, by rw [rows_len]; exact Nat.le_refl _⟩
    · rintro i x _ _ hi rfl ⟨rfl, key, hk⟩
      have hTi : T[i]? = some T[i] := List.getElem?_eq_getElem hi
      have hx : x = .ref T[i].2.1 := by
        unfold rows at hk
        rw [List.getElem?_map, hTi] at hk
        exact ((Prod.mk.inj (Option.some.inj hk)).2).symm
      subst hx
      obtain ⟨vs, hvs, hp⟩ := hT.at_ T[i] (List.getElem_mem hi)
      have ha : (upd (upd H d (.frz od (.dK (rows T)))) D (.lst (((T.take i).map uInt).map V.int))) T[i].2.1 = some (.lst vs) := by
        rw [upd_ne (ne_of_none hvs hDH), upd_ne (ne_of hvs hd (by intro z; cases z))]
        exact hvs
      refine ⟨rfl, ?_⟩
      refine yes ?_
      refine ⟨_, rfl, T[i].2.1, vs, rfl, .inl (SqL.of ha), 1, (vs.length : Int), rfl, rfl, _, upd_same, ?_, ?_⟩
      · rw [List.length_map, List.length_map, List.length_take]
        exact Nat.lt_of_le_of_lt (Nat.min_le_right _ _) (Nat.lt_of_le_of_lt hlen (by decide))
      · rw [upd_upd, take_snoc hTi, List.map_append, List.map_append]
        have e : vs.length = T[i].2.2.length := Paired.length hp
        rw [e]
        rfl
    · rintro _ rfl
      refine ⟨D, T.map uInt, rfl, SqL.of (by rw [upd_same, List.take_length]), by rw [upd_ne hdD]; exact upd_same, ?_⟩
      rw [sum_uInt]
      refine k _ fun b o e => ?_
      by_cases q : b = d
      · subst q
        rw [upd_same, ← hd, e]
      · rw [upd_ne q, upd_ne (ne_of_none e hDH), upd_ne q]
        exact e
end
end Rc

end
section
set_option Elab.async false
set_option linter.all false
set_option maxRecDepth 100000
set_option maxHeartbeats 2000000
namespace Rc
open PySem PySem.Spec PyProof.Rows L2
open Sz13 (Field Cell Cells Led refs)
/-! ### led_to, the mathematics -/
def lft (c : Cells) (R : List Nat) : Cells := c.filter fun x => !R.contains x.1
theorem lft_drop {c : Cells} (hc : (keys c).Nodup) {R : List Nat} {h : Nat} {x : Cell} (ex : c.get h = some x) (hR : h ∉ R) : sumU (lft c (R ++ [h])) + (x.length + 1) = sumU (lft c R) := by
  have e1 : lft c (R ++ [h]) = left c ((h, 0) :: R.map fun a => (a, 0)) := by
    unfold lft left
    apply List.filter_congr
    intro y _
    congr 1
    rw [Bool.eq_iff_iff]
    simp only [List.contains_eq_mem, decide_eq_true_eq, List.any_eq_true, beq_iff_eq, List.mem_append, List.mem_cons, List.mem_map]
    constructor
    · rintro (z | z | z)
      · exact ⟨(y.1, 0), .inr ⟨y.1, z, rfl⟩, rfl⟩
      · exact ⟨(h, 0), .inl rfl, z.symm⟩
      · cases z
    · rintro ⟨p, z | ⟨a, ha, z⟩, e⟩
      · subst z
        exact .inr (.inl e.symm)
      · subst z
        exact .inl (e ▸ ha)
  have e2 : lft c R = left c (R.map fun a => (a, 0)) := by
    unfold lft left
    apply List.filter_congr
    intro y _
    congr 1
    rw [Bool.eq_iff_iff]
    simp only [List.contains_eq_mem, decide_eq_true_eq, List.any_eq_true, beq_iff_eq, List.mem_map]
    constructor
    · exact fun z => ⟨(y.1, 0), ⟨y.1, z, rfl⟩, rfl⟩
    · rintro ⟨p, ⟨a, ha, z⟩, e⟩
      subst z
      exact e ▸ ha
  rw [e1, e2]
  refine left_drop hc ex fun p hp e => ?_
  obtain ⟨a, ha, z⟩ := List.mem_map.mp hp
  subst z
  exact hR (e ▸ ha)
theorem len_le_sumU : ∀ c : Cells, c.length ≤ sumU c
  | [] => Nat.le_refl _
  | x :: c => by
    have := len_le_sumU c
    unfold sumU at *
    simp only [List.map_cons, List.sum_cons, List.length_cons]
    omega
theorem cell_le_sumU : ∀ {c : Cells} {x : Nat × Cell}, x ∈ c → x.2.length ≤ sumU c
  | y :: c, x, h => by
    unfold sumU
    simp only [List.map_cons, List.sum_cons]
    rcases List.mem_cons.mp h with z | z
    · subst z
      omega
    · have := cell_le_sumU z
      unfold sumU at this
      omega
structure LInv (T : List Rw) (S : List Nat) (R : List Rw) (ah : List Nat) : Prop where
  sub : ∀ e ∈ R, e ∈ T
  nk : (hs R).Nodup
  ledR : ∀ h ∈ hs R, Led (cof T) S h
  ledA : ∀ h ∈ ah, Led (cof T) S h
  st : ∀ h ∈ S, h ∈ ah ∨ h ∈ hs R
  cl : ∀ e ∈ R, ∀ k ∈ refs e.2.2, k ∈ ah ∨ k ∈ hs R
  fuel : ah.length + sumU (lft (cof T) (hs R)) ≤ S.length + sumU (cof T)
theorem mem_cof {T : List Rw} {e : Rw} (h : e ∈ T) : (e.1, e.2.2) ∈ cof T := List.mem_map.mpr ⟨e, h, rfl⟩
theorem get_cof {T : List Rw} (hn : (hs T).Nodup) {e : Rw} (h : e ∈ T) : (cof T).get e.1 = some e.2.2 := get_of_mem (by rw [keys_cof]; exact hn) (mem_cof h)
theorem isSome_cof {T : List Rw} {h : Nat} (hh : h ∈ hs T) : ((cof T).get h).isSome = true := isSome_iff.mpr (by rw [keys_cof]; exact hh)
theorem LInv.start {T : List Rw} {S : List Nat} (hS : ∀ h ∈ S, h ∈ hs T) : LInv T S [] S := by
  refine ⟨fun _ h => (nomatch h), List.nodup_nil, fun _ h => (nomatch h), fun h hh => .start hh (isSome_cof (hS h hh)), fun _ h => .inl h, fun _ h => (nomatch h), ?_⟩
  exact Nat.add_le_add_left (sumU_filter _ _) _
theorem LInv.skip {T : List Rw} {S : List Nat} {R : List Rw} {ah : List Nat} {h : Nat} (L : LInv T S R (ah ++ [h])) (hh : h ∈ hs R) : LInv T S R ah := by
  refine ⟨L.sub, L.nk, L.ledR, fun k hk => L.ledA k (List.mem_append_left _ hk), fun k hk => ?_, fun e he k hk => ?_, ?_⟩
  · rcases L.st k hk with z | z
    · rcases List.mem_append.mp z with z | z
      · exact .inl z
      · exact .inr (List.mem_singleton.mp z ▸ hh)
    · exact .inr z
  · rcases L.cl e he k hk with z | z
    · rcases List.mem_append.mp z with z | z
      · exact .inl z
      · exact .inr (List.mem_singleton.mp z ▸ hh)
    · exact .inr z
  · have := L.fuel
    rw [List.length_append, List.length_singleton] at this
    omega
theorem refs_len (x : Cell) : (refs x).length ≤ x.length := List.length_filterMap_le _ _
theorem LInv.drop {T : List Rw} {S : List Nat} {R : List Rw} {ah : List Nat} {e : Rw} (hn : (hs T).Nodup) (L : LInv T S R (ah ++ [e.1])) (he : e ∈ T) (hR : e.1 ∉ hs R) :
    sumU (lft (cof T) (hs (R ++ [e]))) + (e.2.2.length + 1) = sumU (lft (cof T) (hs R)) := by
  have : hs (R ++ [e]) = hs R ++ [e.1] := by unfold hs; rw [List.map_append]; rfl
  rw [this]
  exact lft_drop (by rw [keys_cof]; exact hn) (get_cof hn he) hR
theorem LInv.add {T : List Rw} {S : List Nat} {R : List Rw} {ah : List Nat} {e : Rw} (hn : (hs T).Nodup) (hr : ∀ e ∈ T, ∀ k ∈ refs e.2.2, k ∈ hs T) (L : LInv T S R (ah ++ [e.1])) (he : e ∈ T) (hR : e.1 ∉ hs R) :
    LInv T S (R ++ [e]) (ah ++ refs e.2.2) := by
  have hd := L.drop hn he hR
  have hl := refs_len e.2.2
  have e1 : hs (R ++ [e]) = hs R ++ [e.1] := by unfold hs; rw [List.map_append]; rfl
  have le : Led (cof T) S e.1 := L.ledA e.1 (List.mem_append_right _ (List.mem_singleton.mpr rfl))
  have hin : ∀ k, (k ∈ ah ++ [e.1] ∨ k ∈ hs R) → k ∈ ah ++ refs e.2.2 ∨ k ∈ hs (R ++ [e]) := fun k hk => by
    rw [e1]
    rcases hk with z | z
    · rcases List.mem_append.mp z with z | z
      · exact .inl (List.mem_append_left _ z)
      · exact .inr (List.mem_append_right _ z)
    · exact .inr (List.mem_append_left _ z)
  refine ⟨fun f hf => ?_, ?_, fun k hk => ?_, fun k hk => ?_, fun k hk => hin k (L.st k hk), fun f hf k hk => ?_, ?_⟩
  · rcases List.mem_append.mp hf with z | z
    · exact L.sub f z
    · exact List.mem_singleton.mp z ▸ he
  · rw [e1]
    exact nd_snoc L.nk hR
  · rw [e1] at hk
    rcases List.mem_append.mp hk with z | z
    · exact L.ledR k z
    · exact List.mem_singleton.mp z ▸ le
  · rcases List.mem_append.mp hk with z | z
    · exact L.ledA k (List.mem_append_left _ z)
    · exact .step le (get_cof hn he) z (isSome_cof (hr e he k z))
  · rcases List.mem_append.mp hf with z | z
    · exact hin k (L.cl f z k hk)
    · have : f = e := List.mem_singleton.mp z
      subst this
      exact .inl (List.mem_append_right _ hk)
  · have := L.fuel
    rw [List.length_append, List.length_singleton] at this
    rw [List.length_append]
    omega
theorem LInv.done {T : List Rw} {S : List Nat} {R : List Rw} (hn : (hs T).Nodup) (L : LInv T S R []) (h : Nat) : h ∈ hs R ↔ Led (cof T) S h := by
  refine ⟨L.ledR h, fun q => ?_⟩
  induction q with
  | start hm hs => exact (L.st _ hm).elim (fun z => nomatch z) id
  | @step b k x p e hk hs ih =>
    obtain ⟨r, hr, er⟩ := List.mem_map.mp ih
    have : (cof T).get r.1 = some r.2.2 := get_cof hn (L.sub r hr)
    rw [show r.1 = b from er, e] at this
    cases this
    exact (L.cl r hr k hk).elim (fun z => nomatch z) id
/-! ### led_to -/
theorem refs_take {x : Cell} {i : Nat} {f : Field} (h : x[i]? = some f) : refs (x.take (i + 1)) = refs (x.take i) ++ refs [f] := by
  rw [take_snoc h]
  unfold refs
  rw [List.filterMap_append]
abbrev nV (n : Nat) : V := .int (n : Int)
section
variable {P : Program} {w : World} {K : PySem.W.Frag} {mg : Str → Option Value} {base : Heap}
def spLed (K : PySem.W.Frag) : Sp := fun vs H Q _ => ∃ (d a : Addr) (T : List Rw) (S : List Nat), vs = [.ref d, .ref a] ∧ H d = some (.dK (rows T)) ∧ Tab K H T ∧ SqL K H a (S.map nV) ∧ (∀ h ∈ S, h ∈ hs T) ∧
  (∀ e ∈ T, ∀ k ∈ refs e.2.2, k ∈ hs T) ∧ S.length ≤ 1000 ∧ sumU (cof T) ≤ 65536 ∧
  ∀ (H' : Hp) (d' : Addr) (R : List Rw), Same H H' → H d' = none → H' d' = some (.dK (rows R)) → (∀ e ∈ R, e ∈ T) → (hs R).Nodup → (∀ h, h ∈ hs R ↔ Led (cof T) S h) → Q (.ref d') H'
theorem scL : FnScope ["cells", "starts", "reached", "ahead", "handle", "kind", "value"] ["cells", "starts"] (defScope sLed) := ⟨rfl, rfl, rfl, by decide +kernel, rfl, by decide +kernel, by decide +kernel⟩
def lcL : Scope := { kind := .function, names := [(".0", .local), ("kind", .local), ("value", .local), ("HOLDS_CELL", .globalImplicit)], isGenerator := false, isCoroutine := false }
theorem bkL : BlkOk ["cells", "starts", "reached", "ahead", "handle", "kind", "value"] (defScope sLed) lcL [("kind", 5), ("value", 6)] := blkOk_by (by decide +kernel)
theorem paired_at {α β : Type} {G : α → β → Prop} {l : List α} {m : List β} (h : Paired G l m) : ∀ {i : Nat} {a : α}, l[i]? = some a → ∃ b, m[i]? = some b ∧ G a b := paired_get h
theorem ok_led {f : Addr} {fd : FuncData} (F : Fun K "led_to" "led_to" sLed f fd) (tList : mg "list" = none) {tk : Tok} (tHC : mg "HOLDS_CELL" = some (.int 2 tk)) : FnOk P w K mg base CX0 1 f fd ["cells", "starts"] (spLed K) := by
  refine F.ok scL (fun vs H Q E h => ?_) (fun cdv A outer s H vs Q E hr h => ?_)
  · obtain ⟨d, a, T, S, rfl, _⟩ := h
    rfl
  · obtain ⟨d, a, T, S, rfl, hd, hT, hS, hST, hrf, hSl, hU, k⟩ := h
    have hu := hu_of hr
    refine ⟨_, pss_cons (ps_set (i := 2) scL.nd rfl (Or.inl rfl) pe_dnewK)
      (pss_cons (ps_set (i := 3) scL.nd rfl (Or.inl rfl) (pe_callTy call_list_of (by rfl) tList bList (pa_cons (pv 1) pa_nil)))
      (pss_cons (ps_while PassesOwn.never (pt_truth (pv 3) (fun _ => rfl))
        (pss_cons (ps_set (i := 4) scL.nd rfl (Or.inl rfl) (pe_bm0 PySem.F.plainAttrs_list PySem.F.slot_list_pop PySem.F.type_list_pop mt_pop (pv 3)))
        (pss_one (ps_if (pt_cmp (pc_dnotin hu (pv 4) (pv 2)))
          (pss_cons (ps_dput hu (pv 2) (pv 4) (pe_dget hu (pv 0) (pv 4) (fun _ _ => rfl)) rfl)
          (pss_one (ps_expr (pe_bm PySem.F.plainAttrs_list PySem.F.slot_list_extend PySem.F.type_list_extend mt_extend (pv 3) (pa_cons
            (pe_lc (own := [("kind", 5), ("value", 6)]) rfl scL.nd (pi_list (pe_dget hu (pv 0) (pv 4) (fun _ _ => rfl))) bkL
              (fun _ _ _ _ _ => pg_tupK (n := 2) K rfl (pgs_cons (pg_name (i := 5) scL.nd rfl (Or.inl rfl)) (pgs_cons (pg_name (i := 6) scL.nd rfl (Or.inl rfl)) pgs_nil)))
              (fun _ _ _ _ _ => pts_one (pt_cmpR op_eq (pv 5) (pe_glob (v := .int 2) (by rfl) tHC ⟨_, rfl⟩) (nomark _))) (fun _ _ _ _ _ => pv 6)) pa_nil)))))
          pss_nil))))
      (pss_one (ps_ret (pv 2))))), ?_⟩
    intro dr hdr
    refine ⟨_, rfl, a, _, rfl, .inl ((same_new hdr).seq hS), fun da hda => ?_⟩
    have hdr' : dr ≠ da := ne_of_none upd_same hda
    have hda0 : H da = none := by rw [upd_ne (fun e => hdr' e.symm)] at hda; exact hda
    have sm0 : Same H (upd (upd H dr (.dK [])) da (.lst (S.map nV))) := (same_new hdr).trans (same_new hda)
    refine ⟨fun m σ H' => ∃ (hv : Option V) (R : List Rw) (ah : List Nat), σ = [some (.ref d), some (.ref a), some (.ref dr), some (.ref da), hv, none, none] ∧ Same H H' ∧ H' dr = some (.dK (rows R)) ∧ H' da = some (.lst (ah.map nV)) ∧ LInv T S R ah ∧
      m = ah.length + sumU (lft (cof T) (hs R)), ⟨_, none, [], S, rfl, sm0, by rw [upd_ne hdr']; exact upd_same, upd_same, LInv.start hST, rfl⟩, ?_⟩
    rintro m σ H1 ⟨hv, R, ah, rfl, sm, h1r, h1a, L, rfl⟩
    refine ⟨_, rfl, !(ah.map nV).isEmpty, .inl ⟨_, SqL.of h1a, rfl⟩, ?_⟩
    rcases List.eq_nil_or_concat ah with rfl | ⟨ah', h, rfl⟩
    · -- the end
      refine ifF rfl ?_
      refine ⟨_, rfl, ?_⟩
      exact k H1 dr R sm hdr h1r L.sub L.nk (L.done hT.nk)
    · refine ifT (by simp) ?_
      have ne_ra : dr ≠ da := ne_of h1r h1a (by intro z; cases z)
      rw [List.concat_eq_append] at h1a L ⊢
      refine ⟨_, fun σ' H' z => z, ?_⟩
      refine ⟨_, rfl, .inl ⟨rfl, _, SqL.of h1a⟩, da, (ah' ++ [h]).map nV, nV h, rfl, rfl, h1a, by simp, ?_⟩
      have h2r : (upd H1 da (.lst (((ah' ++ [h]).map nV).dropLast))) dr = some (.dK (rows R)) := by rw [upd_ne ne_ra]; exact h1r
      have ed : ((ah' ++ [h]).map nV).dropLast = ah'.map nV := by rw [List.map_append]; exact List.dropLast_concat
      rw [ed] at h2r ⊢
      have sm2 : Same H (upd H1 da (.lst (ah'.map nV))) := fun b o z => by rw [upd_ne (ne_of_none z hda0)]; exact sm b o z
      refine ⟨_, rfl, _, rfl, dr, _, rfl, DGet.k (k := Sum.inl (h : Int)) h2r, _, rfl, ?_⟩
      rw [valV_rows_isSome L.nk (Int.natCast_nonneg h), Int.toNat_natCast]
      by_cases hR : h ∈ hs R
      · refine ifF (by rw [decide_eq_true hR]; rfl) ?_
        refine ⟨_, ?_, _, R, ah', rfl, sm2, h2r, upd_same, L.skip hR, rfl⟩
        simp only [List.length_append, List.length_singleton]
        omega
      · refine ifT (by rw [decide_eq_false hR]; rfl) ?_
        have hh : Led (cof T) S h := L.ledA h (List.mem_append_right _ (List.mem_singleton.mpr rfl))
        obtain ⟨e, he, ee⟩ : ∃ e, e ∈ T ∧ e.1 = h := by
          have := led_key hh
          rw [keys_cof] at this
          obtain ⟨e, he, ee⟩ := List.mem_map.mp this
          exact ⟨e, he, ee⟩
        subst ee
        have hg : ∀ H' : Hp, Same H H' → DGet H' d (nV e.1) (some (.ref e.2.1)) := fun H' sH => by
          have z := DGet.k (k := Sum.inl (e.1 : Int)) (sH d _ hd)
          rw [valV_rows hT.nk he] at z
          exact z
        have hRl : R.length ≤ 65536 := by
          have h1 : (hs R).length ≤ (hs T).length := len_sub L.nk fun k hk => by
            obtain ⟨r, hr, er⟩ := List.mem_map.mp hk
            exact List.mem_map.mpr ⟨r, L.sub r hr, er⟩
          have h2 : T.length ≤ sumU (cof T) := by
            rw [← cof_len]
            exact len_le_sumU _
          unfold hs at h1
          rw [List.length_map, List.length_map] at h1
          omega
        refine ⟨_, rfl, _, rfl, d, .ref e.2.1, rfl, hg _ sm2, _, rfl, _, rfl, dr, _, rfl, DPut.k (k := Sum.inl (e.1 : Int)) h2r (by rw [rows_len]; exact Nat.lt_of_le_of_lt hRl (by decide)), ?_⟩
        have er : putK (rows R) (Sum.inl (e.1 : Int)) (V.ref e.2.1) = rows (R ++ [e]) := by
          rw [putK_new]
          · unfold rows
            rw [List.map_append]
            rfl
          · exact valV_rows_no fun r hr z => hR (List.mem_map.mpr ⟨r, hr, by omega⟩)
        rw [er]
        have sm3 : Same H (upd (upd H1 da (.lst (ah'.map nV))) dr (.dK (rows (R ++ [e])))) := fun b o z => by rw [upd_ne (ne_of_none z hdr)]; exact sm2 b o z
        have h3a : (upd (upd H1 da (.lst (ah'.map nV))) dr (.dK (rows (R ++ [e])))) da = some (.lst (ah'.map nV)) := by rw [upd_ne (fun z => ne_ra z.symm)]; exact upd_same
        obtain ⟨vs, hvs, hp⟩ := (hT.keep sm3).at_ e he
        refine ⟨_, rfl, .inl ⟨rfl, _, SqL.of h3a⟩, ?_⟩
        refine ⟨_, rfl, _, rfl, d, .ref e.2.1, rfl, hg _ sm3, e.2.1, rfl, ⟨_, SqL.of hvs⟩, fun D hD => ?_⟩
        have h0D : H D = none := sm3.free hD
        have neD : da ≠ D := ne_of_none h3a hD
        have nrD : dr ≠ D := ne_of_none upd_same hD
        refine lc_list (K := K) (a := e.2.1) (xs := vs) (fun i H' => H' = upd (upd (upd H1 da (.lst (ah'.map nV))) dr (.dK (rows (R ++ [e])))) D (.lst ((refs (e.2.2.take i)).map nV))) rfl ?_ ?_ ?_
        · rintro i _ hi rfl
          exact SqL.of (by rw [upd_ne (ne_of_none hvs hD)]; exact hvs)
        · rintro i x _ hi rfl
          obtain ⟨fl, hfl, b, rfl, hb⟩ := paired_at hp hi
          have hb' : SqT K (upd (upd (upd H1 da (.lst (ah'.map nV))) dr (.dK (rows (R ++ [e])))) D (.lst ((refs (e.2.2.take i)).map nV))) b [.int (fK fl), .int (fV fl)] := by
            rcases hb with (q | ⟨o, q⟩) | q
            · exact .inl (.inl (same_new hD _ _ q))
            · exact .inl (.inr ⟨o, same_new hD _ _ q⟩)
            · exact .inr q
          refine ⟨b, _, rfl, hb', rfl, _, _, rfl, _, _, rfl, rfl, rfl, ?_⟩
          refine ⟨_, rfl, rfl, _, rfl, ?_⟩
          rw [refs_take hfl]
          cases fl with
          | nothing =>
            refine ifF (by decide) ?_
            rw [show refs [Field.nothing] = [] from rfl, List.append_nil]
          | number z =>
            refine ifF (by show decide (V.int 1 = V.int 2) = false; decide) ?_
            rw [show refs [Field.number z] = [] from rfl, List.append_nil]
          | cell j =>
            refine ifT (by show decide (V.int 2 = V.int 2) = true; decide) ?_
            refine ⟨_, rfl, _, upd_same, ?_, ?_⟩
            · rw [List.length_map]
              refine Nat.lt_of_le_of_lt (refs_len _) (Nat.lt_of_le_of_lt (List.length_take_le' _ _) ?_)
              exact Nat.lt_of_le_of_lt (Nat.le_trans (cell_le_sumU (x := (e.1, e.2.2)) (mem_cof he)) hU) (by decide)
            · rw [upd_upd, List.map_append]
              rfl
        · rintro _ rfl
          have hvl : vs.length = e.2.2.length := Paired.length hp
          have hf := L.fuel
          have hdrop := L.drop hT.nk he hR
          have hrl := refs_len e.2.2
          rw [List.length_append, List.length_singleton] at hf
          rw [hvl, List.take_length]
          refine ⟨da, D, _, _, rfl, rfl, by rw [upd_ne neD]; exact h3a, upd_same, ?_, ?_⟩
          · rw [List.length_map, List.length_map]
            have : (69000 : Nat) ≤ sizeLine := by decide
            omega
          · refine ⟨_, ?_, _, R ++ [e], ah' ++ refs e.2.2, rfl, ?_, ?_, ?_, L.add hT.nk hrf he hR, rfl⟩
            · simp only [List.length_append, List.length_singleton]
              omega
            · intro b o z
              rw [upd_ne (ne_of_none z hda0), upd_ne (ne_of_none z h0D)]
              exact sm3 b o z
            · rw [upd_ne ne_ra, upd_ne nrD, upd_same]
            · rw [upd_same, List.map_append]
end
end Rc

end
section
set_option Elab.async false
set_option linter.all false
set_option maxRecDepth 100000
set_option maxHeartbeats 2000000
namespace Rc
open PySem PySem.Spec PyProof.Rows L2
open Sz13 (Field Cell Cells Led refs kept)
/-! ### the store's attributes -/
def sf (d rl : Addr) (l n : Int) : List (Str × V) := [("cells", .ref d), ("roots", .ref rl), ("last", .int l), ("newest", .int n)]
theorem nCR : ¬ ("cells" : Str) = "roots" := by decide +kernel
theorem nCL : ¬ ("cells" : Str) = "last" := by decide +kernel
theorem nCN : ¬ ("cells" : Str) = "newest" := by decide +kernel
theorem nRL : ¬ ("roots" : Str) = "last" := by decide +kernel
theorem nRN : ¬ ("roots" : Str) = "newest" := by decide +kernel
theorem nLN : ¬ ("last" : Str) = "newest" := by decide +kernel
theorem lk_same {f : Str} {v : V} {r : List (Str × V)} : List.lookup f ((f, v) :: r) = some v := by
  rw [List.lookup, beq_self_eq_true]
theorem lk_ne {f g : Str} {v : V} {r : List (Str × V)} (h : ¬ g = f) : List.lookup f ((g, v) :: r) = List.lookup f r := by
  have : (f == g) = false := beq_eq_false_iff_ne.mpr fun e => h e.symm
  rw [List.lookup, this]
variable {d rl d' rl' : Addr} {l n l' n' : Int}
theorem sf_cells : (sf d rl l n).lookup ("cells" : Str) = some (V.ref d) := lk_same
theorem sf_roots : (sf d rl l n).lookup ("roots" : Str) = some (V.ref rl) := (lk_ne nCR).trans lk_same
theorem sf_last : (sf d rl l n).lookup ("last" : Str) = some (V.int l) := (lk_ne nCL).trans ((lk_ne nRL).trans lk_same)
theorem sf_newest : (sf d rl l n).lookup ("newest" : Str) = some (V.int n) := (lk_ne nCN).trans ((lk_ne nRN).trans ((lk_ne nLN).trans lk_same))
theorem sf_no {m : Str} (h : ¬ ("cells" : Str) = m ∧ ¬ ("roots" : Str) = m ∧ ¬ ("last" : Str) = m ∧ ¬ ("newest" : Str) = m) : (sf d rl l n).lookup m = none :=
  (lk_ne h.1).trans ((lk_ne h.2.1).trans ((lk_ne h.2.2.1).trans ((lk_ne h.2.2.2).trans rfl)))
theorem pf_cons (f : Str) (v : V) (g : Str) (x : V) (r : List (Str × V)) : putF f v ((g, x) :: r) = if g = f then (g, v) :: r else (g, x) :: putF f v r := rfl
theorem pf_cells : putF "cells" (.ref d') (sf d rl l n) = sf d' rl l n := by
  unfold sf
  rw [pf_cons, if_pos rfl]
theorem pf_roots : putF "roots" (.ref rl') (sf d rl l n) = sf d rl' l n := by
  unfold sf
  rw [pf_cons, if_neg nCR, pf_cons, if_pos rfl]
theorem pf_last : putF "last" (.int l') (sf d rl l n) = sf d rl l' n := by
  unfold sf
  rw [pf_cons, if_neg nCL, pf_cons, if_neg nRL, pf_cons, if_pos rfl]
theorem pf_newest : putF "newest" (.int n') (sf d rl l n) = sf d rl l n' := by
  unfold sf
  rw [pf_cons, if_neg nCN, pf_cons, if_neg nRN, pf_cons, if_neg nLN, pf_cons, if_pos rfl]
theorem pf_all (fs : List (Str × V)) (h : fs = [] ∨ ∃ d rl l n, fs = sf d rl l n) : putF "newest" (.int n') (putF "last" (.int l') (putF "roots" (.ref rl') (putF "cells" (.ref d') fs))) = sf d' rl' l' n' := by
  rcases h with rfl | ⟨d, rl, l, n, rfl⟩
  · have e1 : putF "roots" (.ref rl') [(("cells" : Str), V.ref d')] = [(("cells" : Str), V.ref d'), (("roots" : Str), V.ref rl')] := by
      rw [pf_cons, if_neg nCR]
      rfl
    have e2 : putF "last" (.int l') [(("cells" : Str), V.ref d'), ("roots", .ref rl')] = [(("cells" : Str), V.ref d'), (("roots" : Str), V.ref rl'), (("last" : Str), V.int l')] := by
      rw [pf_cons, if_neg nCL, pf_cons, if_neg nRL]
      rfl
    have e3 : putF "newest" (.int n') [(("cells" : Str), V.ref d'), ("roots", .ref rl'), ("last", .int l')] = sf d' rl' l' n' := by
      rw [pf_cons, if_neg nCN, pf_cons, if_neg nRN, pf_cons, if_neg nLN]
      rfl
    show putF "newest" (.int n') (putF "last" (.int l') (putF "roots" (.ref rl') [("cells", .ref d')])) = _
    rw [e1, e2, e3]
  · rw [pf_cells, pf_roots, pf_last, pf_newest]
theorem putF_len (f : Str) (v : V) : ∀ fs : List (Str × V), (putF f v fs).length ≤ fs.length + 1
  | [] => Nat.le_refl _
  | (g, x) :: r => by
    have := putF_len f v r
    rw [pf_cons]
    split
    · simp only [List.length_cons]
      omega
    · simp only [List.length_cons]
      omega
/-! ### the store stands at p -/
def StAt (K : PySem.W.Frag) (C : Addr) (H : Hp) (p : Addr) (t : Sz13.St) (own : List Addr) : Prop :=
  ∃ (dx d rl : Addr) (T : List Rw), own = p :: d :: rl :: ads T ∧ H p = some (.ins C dx (sf d rl (t.newest : Int) ((t.next : Int) - 1))) ∧ H d = some (.dK (rows T)) ∧ H rl = some (.lst (t.roots.map nV)) ∧ rl ∉ ads T ∧
    Tab K H T ∧ (cof T).Perm t.cells
/-- what is tracked and is not the store's own stays, and is not the store's own then -/
def Keep (H : Hp) (own : List Addr) (H' : Hp) (own' : List Addr) : Prop := ∀ b o, H b = some o → b ∉ own → H' b = some o ∧ b ∉ own'
theorem Keep.trans {H H1 H2 : Hp} {o o1 o2 : List Addr} (a : Keep H o H1 o1) (b : Keep H1 o1 H2 o2) : Keep H o H2 o2 := fun x u e hx => b x u (a x u e hx).1 (a x u e hx).2
theorem Keep.refl (H : Hp) (o : List Addr) : Keep H o H o := fun _ _ e h => ⟨e, h⟩
theorem Keep.same {H H' : Hp} {o : List Addr} (s : Same H H') : Keep H o H' o := fun _ _ e h => ⟨s _ _ e, h⟩
theorem StAt.keep {K : PySem.W.Frag} {C : Addr} {H H' : Hp} {p : Addr} {t : Sz13.St} {own : List Addr} (h : StAt K C H p t own) (s : Same H H') : StAt K C H' p t own := by
  obtain ⟨dx, d, rl, T, e, h1, h2, h3, h4, h5, h6⟩ := h
  exact ⟨dx, d, rl, T, e, s _ _ h1, s _ _ h2, s _ _ h3, h4, h5.keep s, h6⟩
/-! ### what the text gives -/
def GI (mg : Str → Option Value) (x : Str) (z : Int) : Prop := ∃ t, mg x = some (.int z t)
theorem pe_gi {X : Cx} {x : Str} {z : Int} {pos : Pos} (h : GI X.mg x z) (hg : Gl X x) (hd : (x == ("__debug__" : Str)) = false := by decide) : PE X (.Name x pos) (tC (.int z)) := by
  obtain ⟨t, e⟩ := h
  exact pe_glob (v := .int z) hg e ⟨_, rfl⟩ hd
structure Txt (K : PySem.W.Frag) (mg : Str → Option Value) (C an : Addr) : Prop where
  cl : Cls K C
  nC : NoAttr K C "cells"
  nR : NoAttr K C "roots"
  nL : NoAttr K C "last"
  nN : NoAttr K C "newest"
  mgC : mg "Store" = some (.ref C)
  gRoom : GI mg "ROOM" 65536
  gRC : GI mg "ROOT_COUNT" 256
  gMF : GI mg "MOST_FIELDS" 8
  gDone : GI mg "DONE" 0
  gNot : GI mg "NOT_LED_TO" (-1)
  gOut : GI mg "OUT_OF_RANGE" (-2)
  gNo : GI mg "NO_ROOM" (-3)
  gHN : GI mg "HOLDS_NUMBER" 1
  gHC : GI mg "HOLDS_CELL" 2
  gNil : mg "NOTHING" = some (.ref an)
  nil : ∀ H, SqT K H an [.int 0, .int 0]
  bLen : mg "len" = none
  bSum : mg "sum" = none
  bList : mg "list" = none
section
variable {P : Program} {w : World} {K : PySem.W.Frag} {mg : Str → Option Value} {base : Heap}
/-! ### clear -/
def spClear (K : PySem.W.Frag) (C : Addr) : Sp := fun vs H Q _ => ∃ (p dx : Addr) (fs : List (Str × V)), vs = [.ref p] ∧ H p = some (.ins C dx fs) ∧ (fs = [] ∨ ∃ d rl l n, fs = sf d rl l n) ∧
  ∀ (H' : Hp) (own' : List Addr), StAt K C H' p Sz13.fresh own' → Keep H [p] H' own' → Q (.int 0) H'
theorem scCl : FnScope ["self"] ["self"] (defScope sClear) := ⟨rfl, rfl, rfl, by decide +kernel, rfl, by decide +kernel, by decide +kernel⟩
theorem rep_flat {α : Type} (a : α) : ∀ n : Nat, (List.replicate n [a]).flatten = List.replicate n a
  | 0 => rfl
  | n + 1 => by
    rw [List.replicate_succ, List.flatten_cons, rep_flat a n, List.replicate_succ]
    rfl
theorem ok_clear {f C an : Addr} {fd : FuncData} (F : Fun K "clear" "Store.clear" sClear f fd) (T : Txt K mg C an) : FnOk P w K mg base CX0 1 f fd ["self"] (spClear K C) := by
  refine F.ok scCl (fun vs H Q E h => ?_) (fun cdv A outer s H vs Q E hr h => ?_)
  · obtain ⟨p, dx, fs, rfl, _⟩ := h
    rfl
  · obtain ⟨p, dx, fs, rfl, hp, hfs, k⟩ := h
    have hfl : fs.length ≤ 4 := by
      rcases hfs with rfl | ⟨d, rl, l, n, rfl⟩
      · exact Nat.zero_le _
      · exact Nat.le_refl _
    refine ⟨_, pss_cons (ps_fld (pv 0) pe_dnewK rfl) (pss_cons (ps_fld (pv 0) (pe_op op_rep (pe_lst (pa_cons pe_int pa_nil)) (pe_gi T.gRC (by rfl))) rfl)
      (pss_cons (ps_fld (pv 0) pe_int rfl) (pss_cons (ps_fld (pv 0) pe_int rfl) (pss_one (ps_ret (pe_gi T.gDone (by rfl))))))), ?_⟩
    intro d hd
    have npd : p ≠ d := ne_of_none hp hd
    refine ⟨_, rfl, p, C, dx, fs, rfl, by rw [upd_ne npd]; exact hp, T.cl, T.nC, by omega, ?_⟩
    have l1 := putF_len "cells" (.ref d) fs
    have ndp : d ≠ p := fun e => npd e.symm
    refine ⟨by show 1 ≤ sizeLine; decide, fun q hq => ?_⟩
    have nqp : q ≠ p := fun e => by subst e; rw [upd_same] at hq; cases hq
    have nqd : q ≠ d := fun e => by subst e; rw [upd_ne ndp, upd_same] at hq; cases hq
    refine ⟨q, 256, [V.int 0], rfl, rfl, upd_same, by decide, by decide, by show 256 ≤ sizeLine; decide, fun rl hrl => ?_⟩
    have nrq : rl ≠ q := fun e => by subst e; rw [upd_same] at hrl; cases hrl
    rw [upd_ne nrq] at hrl
    have nrp : rl ≠ p := fun e => by subst e; rw [upd_same] at hrl; cases hrl
    rw [upd_ne nrp] at hrl
    have nrd : rl ≠ d := fun e => by subst e; rw [upd_same] at hrl; cases hrl
    rw [upd_ne nrd] at hrl
    rw [upd_ne nqp, upd_ne nqd] at hq
    have l2 := putF_len "roots" (.ref rl) (putF "cells" (.ref d) fs)
    refine ⟨_, rfl, p, C, dx, putF "cells" (.ref d) fs, rfl, ?_, T.cl, T.nR, by omega, ?_⟩
    · rw [upd_ne (fun e => nrp e.symm), upd_ne (fun e => nqp e.symm), upd_same]
    have l3 := putF_len "last" (.int 0) (putF "roots" (.ref rl) (putF "cells" (.ref d) fs))
    refine ⟨_, rfl, p, C, dx, putF "roots" (.ref rl) (putF "cells" (.ref d) fs), rfl, upd_same, T.cl, T.nL, by omega, ?_⟩
    refine ⟨_, rfl, p, C, dx, putF "last" (.int 0) (putF "roots" (.ref rl) (putF "cells" (.ref d) fs)), rfl, upd_same, T.cl, T.nN, by omega, ?_⟩
    rw [upd_upd, upd_upd, pf_all fs hfs]
    refine k _ [p, d, rl] ⟨dx, d, rl, [], rfl, upd_same, ?_, ?_, by simp, ⟨List.nodup_nil, List.nodup_nil, fun e he => (nomatch he)⟩, .nil⟩ ?_
    · rw [upd_ne ndp, upd_ne (fun e => nrd e.symm), upd_ne (fun e => nqd e.symm), upd_ne ndp, upd_same]
      rfl
    · rw [upd_ne nrp, upd_same, show ((256 : Int).toNat) = 256 from rfl, rep_flat]
      show _ = some (HO.lst ((List.replicate 256 0).map nV))
      rw [List.map_replicate]
      rfl
    · intro b o e hb
      have hbp : b ≠ p := fun z => hb (by rw [z]; exact List.mem_singleton.mpr rfl)
      have hbd := ne_of_none e hd
      have hbr := ne_of_none e hrl
      have hbq := ne_of_none e hq
      refine ⟨?_, ?_⟩
      · rw [upd_ne hbp, upd_ne hbr, upd_ne hbq, upd_ne hbp, upd_ne hbd]
        exact e
      · simp [hbp, hbd, hbr]
end
end Rc

end
section
set_option Elab.async false
set_option linter.all false
set_option maxRecDepth 100000
set_option maxHeartbeats 2000000
namespace Rc
open PySem PySem.Spec PyProof.Rows L2
open Sz13 (Field Cell Cells Led refs kept)
theorem led_perm {c d : Cells} (hp : c.Perm d) (hc : (keys c).Nodup) {f g : List Nat} (hfg : ∀ a, a ∈ f → a ∈ g) {h : Nat} (q : Led c f h) : Led d g h := by
  induction q with
  | start hm hs => exact .start (hfg _ hm) (by rw [← get_perm hp hc]; exact hs)
  | step _ e hk hs ih => exact .step ih (by rw [← get_perm hp hc]; exact e) hk (by rw [← get_perm hp hc]; exact hs)
theorem inj_of_nodup {α β : Type} {f : α → β} : ∀ {T : List α}, (T.map f).Nodup → ∀ a ∈ T, ∀ b ∈ T, f a = f b → a = b
  | [], _, a, ha, _, _, _ => nomatch ha
  | x :: T, hn, a, ha, b, hb, e => by
    have hn' := List.nodup_cons.mp (show (f x :: T.map f).Nodup from hn)
    rcases List.mem_cons.mp ha with za | za <;> rcases List.mem_cons.mp hb with zb | zb
    · rw [za, zb]
    · subst za
      exact absurd (List.mem_map.mpr ⟨b, zb, e.symm⟩) hn'.1
    · subst zb
      exact absurd (List.mem_map.mpr ⟨a, za, e⟩) hn'.1
    · exact inj_of_nodup hn'.2 a za b zb e
theorem ads_nodup {T : List Rw} (hT : (ads T).Nodup) : ∀ {R : List Rw}, (∀ e ∈ R, e ∈ T) → (hs R).Nodup → (ads R).Nodup
  | [], _, _ => List.nodup_nil
  | e :: R, hs', hn => by
    have hn' := List.nodup_cons.mp (show (e.1 :: hs R).Nodup from hn)
    refine List.nodup_cons.mpr ⟨fun z => ?_, ads_nodup hT (fun r hr => hs' r (List.mem_cons_of_mem _ hr)) hn'.2⟩
    obtain ⟨r, hr, er⟩ := List.mem_map.mp z
    have := inj_of_nodup hT r (hs' r (List.mem_cons_of_mem _ hr)) e (hs' e (List.mem_cons_self ..)) er
    subst this
    exact hn'.1 (List.mem_map.mpr ⟨r, hr, rfl⟩)
theorem ads_sub {T R : List Rw} (h : ∀ e ∈ R, e ∈ T) : ∀ a ∈ ads R, a ∈ ads T := fun a ha => by
  obtain ⟨r, hr, er⟩ := List.mem_map.mp ha
  exact List.mem_map.mpr ⟨r, h r hr, er⟩
theorem Tab.sub {K : PySem.W.Frag} {H : Hp} {T R : List Rw} (hT : Tab K H T) (h : ∀ e ∈ R, e ∈ T) (hn : (hs R).Nodup) : Tab K H R := ⟨hn, ads_nodup hT.na h hn, fun e he => hT.at_ e (h e he)⟩
theorem cof_kept {T R : List Rw} {c : Cells} {f : List Nat} (hT : (hs T).Nodup) (hp : (cof T).Perm c) (sub : ∀ e ∈ R, e ∈ T) (nk : (hs R).Nodup) (hl : ∀ h, h ∈ hs R ↔ Led c f h) : (cof R).Perm (kept c f) := by
  have hc : (keys c).Nodup := (hp.map _).nodup_iff.mp (show (keys (cof T)).Nodup by rw [keys_cof]; exact hT)
  have hkT : (keys (cof T)).Nodup := by rw [keys_cof]; exact hT
  have hkR : (keys (cof R)).Nodup := by rw [keys_cof]; exact nk
  refine perm_of_get hkR (nodup_kept hc) fun h => ?_
  by_cases q : h ∈ hs R
  · obtain ⟨e, he, ee⟩ := List.mem_map.mp q
    have ee' : e.1 = h := ee
    subst ee'
    rw [get_kept_led hc ((hl _).mp q), ← get_perm hp hkT, get_cof hT (sub e he), get_cof nk he]
  · rw [get_kept_not hc (fun z => q ((hl h).mpr z))]
    cases e : (cof R).get h with
    | none => rfl
    | some x => exact absurd (by have := isSome_iff.mp (show ((cof R).get h).isSome = true by rw [e]; rfl); rw [keys_cof] at this; exact this) q
/-! ### writes -/
theorem keep_upd {H : Hp} {a : Addr} {o : HO} {own : List Addr} (h : a ∈ own) : Keep H own (upd H a o) own := fun b u e hb => ⟨by
  rw [upd_ne (fun z => hb (by rw [z]; exact h))]
  exact e, hb⟩
def noTup : HO → Bool
  | .tup _ => false
  | .frz _ (.tup _) => false
  | _ => true
theorem Tab.upd {K : PySem.W.Frag} {H : Hp} {T : List Rw} {a : Addr} {o u : HO} (hT : Tab K H T) (ha : H a = some u) (hu : noTup u = true) (hn : a ∉ ads T) : Tab K (L2.upd H a o) T := by
  refine ⟨hT.nk, hT.na, fun e he => ?_⟩
  refine (hT.at_ e he).same (fun b xs z => ?_) (fun b q xs z => ?_) ?_
  · rw [upd_ne (ne_of z ha (by intro q; rw [← q] at hu; cases hu))]
    exact z
  · rw [upd_ne (ne_of z ha (by intro q; rw [← q] at hu; cases hu))]
    exact z
  · rw [upd_ne (fun z => hn (List.mem_map.mpr ⟨e, he, z⟩))]
theorem Tab.not_at {K : PySem.W.Frag} {H : Hp} {T : List Rw} {a : Addr} {u : HO} (hT : Tab K H T) (ha : H a = some u) (hu : ∀ xs, u ≠ .lst xs) : a ∉ ads T := fun z => by
  obtain ⟨e, he, ee⟩ := List.mem_map.mp z
  obtain ⟨vs, hvs, _⟩ := hT.at_ e he
  have ee' : e.2.1 = a := ee
  rw [ee', ha] at hvs
  exact hu vs (Option.some.inj hvs)
/-- the store's own attributes are written -/
theorem StAt.ins {K : PySem.W.Frag} {C : Addr} {H : Hp} {p dx d rl : Addr} {T : List Rw} {t t' : Sz13.St} {fs : List (Str × V)} (hp : H p = some (.ins C dx fs)) (hd : H d = some (.dK (rows T))) (hrl : H rl = some (.lst (t'.roots.map nV))) (hra : rl ∉ ads T)
    (hT : Tab K H T) (hpm : (cof T).Perm t'.cells) : StAt K C (L2.upd H p (.ins C dx (sf d rl (t'.newest : Int) ((t'.next : Int) - 1)))) p t' (p :: d :: rl :: ads T) :=
  ⟨dx, d, rl, T, rfl, upd_same, by rw [upd_ne (ne_of hd hp (by intro z; cases z))]; exact hd, by rw [upd_ne (ne_of hrl hp (by intro z; cases z))]; exact hrl, hra, hT.upd hp rfl (hT.not_at hp (by intro xs z; cases z)), hpm⟩
section
variable {P : Program} {w : World} {K : PySem.W.Frag} {mg : Str → Option Value} {base : Heap}
def nz (n : Nat) : Bool := n != 0
theorem filter_take {l : List Nat} {i h : Nat} (e : l[i]? = some h) : (l.take (i + 1)).filter nz = (l.take i).filter nz ++ (if nz h = true then [h] else []) := by
  rw [take_snoc e, List.filter_append, List.filter_cons]
  rfl
/-! ### in_roots -/
def spInR (K : PySem.W.Frag) (C : Addr) : Sp := fun vs H Q _ => ∃ (p dx d rl : Addr) (l n : Int) (rs : List Nat), vs = [.ref p] ∧ H p = some (.ins C dx (sf d rl l n)) ∧ H rl = some (.lst (rs.map nV)) ∧ rs.length = 256 ∧
  ∀ D, H D = none → Q (.ref D) (upd H D (.lst ((rs.filter nz).map nV)))
theorem scIR : FnScope ["self", "handle"] ["self"] (defScope sInRoots) := ⟨rfl, rfl, rfl, by decide +kernel, rfl, by decide +kernel, by decide +kernel⟩
def lcS : Scope := { kind := .function, names := [(".0", .local), ("handle", .local)], isGenerator := false, isCoroutine := false }
theorem bkS : BlkOk ["self", "handle"] (defScope sInRoots) lcS [("handle", 1)] := blkOk_by (by decide +kernel)
theorem ok_inr {f C an : Addr} {fd : FuncData} (F : Fun K "in_roots" "Store.in_roots" sInRoots f fd) (T : Txt K mg C an) : FnOk P w K mg base CX0 1 f fd ["self"] (spInR K C) := by
  refine F.ok scIR (fun vs H Q E h => ?_) (fun cdv A outer s H vs Q E hr h => ?_)
  · obtain ⟨p, dx, d, rl, l, n, rs, rfl, _⟩ := h
    rfl
  · obtain ⟨p, dx, d, rl, l, n, rs, rfl, hp, hrl, hlen, k⟩ := h
    refine ⟨_, pss_one (ps_ret (pe_lc (own := [("handle", 1)]) rfl scIR.nd (pi_list (pe_fld (pv 0) rfl)) bkS
        (fun _ _ _ _ _ => pg_name (i := 1) scIR.nd rfl (Or.inl rfl)) (fun _ _ _ _ _ => pts_one (pt_cmpR op_ne (pv 1) pe_int (nomark _))) (fun _ _ _ _ _ => pv 1))), ?_⟩
    refine ⟨_, rfl, p, C, dx, _, _, rfl, hp, T.cl, T.nR, sf_roots, rl, rfl, ⟨_, SqL.of hrl⟩, fun D hD => ?_⟩
    have nrD := ne_of_none hrl hD
    refine lc_list (K := K) (a := rl) (xs := rs.map nV) (fun i H' => H' = upd H D (.lst (((rs.take i).filter nz).map nV))) rfl ?_ ?_ ?_
    · rintro i _ hi rfl
      exact SqL.of (by rw [upd_ne nrD]; exact hrl)
    · rintro i x _ hi rfl
      obtain ⟨h, hh, rfl⟩ : ∃ h, rs[i]? = some h ∧ x = nV h := by
        rw [List.getElem?_map] at hi
        cases e : rs[i]? with
        | none => rw [e] at hi; cases hi
        | some h => rw [e] at hi; exact ⟨h, rfl, (Option.some.inj hi).symm⟩
      refine ⟨rfl, ?_⟩
      refine ⟨_, rfl, rfl, _, rfl, ?_⟩
      by_cases q : h = 0
      · refine ifF (by subst q; rfl) ?_
        rw [filter_take hh, if_neg (by simp [nz, q]), List.append_nil]
      · refine ifT ?_ ?_
        · have : ¬ (V.int (h : Int) = V.int 0) := fun z => q (by injection z with z; omega)
          rw [decide_eq_false this]
          rfl
        · refine ⟨_, rfl, _, upd_same, ?_, ?_⟩
          · rw [List.length_map]
            refine Nat.lt_of_le_of_lt (List.length_filter_le _ _) (Nat.lt_of_le_of_lt (List.length_take_le' _ _) ?_)
            rw [hlen]
            decide
          · rw [upd_upd, filter_take hh, if_pos (by simp [nz, q]), List.map_append]
            rfl
    · rintro _ rfl
      rw [List.length_map, List.take_length]
      exact k D hD
structure IR (P : Program) (w : World) (K : PySem.W.Frag) (mg : Str → Option Value) (base : Heap) (C : Addr) (fS : Addr) (fdS : FuncData) : Prop where
  ok : FnOk P w K mg base CX0 1 fS fdS ["self"] (spInR K C)
  b : Binds K fdS ["self"] []
  m : Meth K C "in_roots" fS
theorem no_inr : ¬ ("cells" : Str) = "in_roots" ∧ ¬ ("roots" : Str) = "in_roots" ∧ ¬ ("last" : Str) = "in_roots" ∧ ¬ ("newest" : Str) = "in_roots" := by decide +kernel
/-! ### sweep -/
def spSweep (K : PySem.W.Frag) (C : Addr) : Sp := fun vs H Q _ => ∃ (p : Addr) (t : Sz13.St) (own : List Addr), vs = [.ref p] ∧ StAt K C H p t own ∧ Good t ∧ sumU t.cells ≤ 65536 ∧
  ∀ (H' : Hp) (own' : List Addr), StAt K C H' p (tidy t) own' → Keep H own H' own' → Q .non H'
theorem scSw : FnScope ["self", "starts"] ["self"] (defScope sSweep) := ⟨rfl, rfl, rfl, by decide +kernel, rfl, by decide +kernel, by decide +kernel⟩
theorem ok_sweep {f C an fL fR : Addr} {fd fdL fdR : FuncData} (F : Fun K "sweep" "Store.sweep" sSweep f fd) (T : Txt K mg C an) (FL : Fun K "led_to" "led_to" sLed fL fdL) (mL : mg "led_to" = some (.ref fL)) (IR_ : IR P w K mg base C fR fdR) (bL : Binds K fdL ["cells", "starts"] []) :
    FnOk P w K mg base CX0 2 f fd ["self"] (spSweep K C) := by
  obtain ⟨tk, hHC⟩ := T.gHC
  have GL : FnOk P w K mg base CX0 1 fL fdL ["cells", "starts"] (spLed K) := ok_led FL T.bList hHC
  refine F.ok scSw (fun vs H Q E h => ?_) (fun cdv A outer s H vs Q E hr h => ?_)
  · obtain ⟨p, t, own, rfl, _⟩ := h
    rfl
  · obtain ⟨p, t, own, rfl, ⟨dx, d, rl, Tb, rfl, hp, hd, hrl, hra, hT, hpm⟩, g, hU, k⟩ := h
    have hr1 : Room 1 _ := hr.mono (by decide)
    refine ⟨_, pss_cons (ps_set (i := 1) scSw.nd rfl (Or.inl rfl) (pe_meth0 (pv 0) T.cl IR_.m IR_.ok hr IR_.b .nil pass0))
      (pss_cons (ps_if (pt_cmpR op_ne (pe_fld (pv 0) rfl) pe_int (nomark _))
        (pss_one (ps_expr (pe_bm PySem.F.plainAttrs_list PySem.F.slot_list_append PySem.F.type_list_append mt_append (pv 1) (pa_cons (pe_fld (pv 0) rfl) pa_nil)))) pss_nil)
      (pss_one (ps_fld (pv 0) (pe_call GL hr rfl mL FL.kp bL .nil pass0 (pa_cons (pe_fld (pv 0) rfl) (pa_cons (pv 1) pa_nil))) rfl))), ?_⟩
    -- the roots that have a cell
    refine ⟨_, rfl, p, dx, _, rfl, hp, sf_no no_inr, p, dx, d, rl, _, _, t.roots, rfl, hp, hrl, g.rl, fun D hD => ?_⟩
    have npD := ne_of_none hp hD
    have nrD := ne_of_none hrl hD
    have ndD := ne_of_none hd hD
    · skip
      -- the cell made last
      have h1p : (upd H D (.lst ((t.roots.filter nz).map nV))) p = some (.ins C dx (sf d rl (t.newest : Int) ((t.next : Int) - 1))) := by rw [upd_ne npD]; exact hp
      have hkT : (keys (cof Tb)).Nodup := by rw [keys_cof]; exact hT.nk
      have hmem : ∀ h, h ∈ keys t.cells → h ∈ hs Tb := fun h hh => by
        rw [← keys_cof]
        exact (hpm.map _).mem_iff.mpr hh
      have sD : ∀ o, Same H (upd H D o) := fun o => same_new hD
      have hrf : ∀ e ∈ Tb, ∀ k ∈ refs e.2.2, k ∈ hs Tb := fun e he k hk => hmem k (g.rf _ (hpm.mem_iff.mp (mem_cof he)) k hk)
      have hUT : sumU (cof Tb) ≤ 65536 := by rw [sumU_perm hpm]; exact hU
      have fin : ∀ (S : List Nat), (∀ a, a ∈ S ↔ a ∈ t.starts) → ∀ (H2 : Hp) (d' : Addr) (R : List Rw), Same (upd H D (.lst (S.map nV))) H2 → (upd H D (.lst (S.map nV))) d' = none → H2 d' = some (.dK (rows R)) → (∀ e ∈ R, e ∈ Tb) → (hs R).Nodup → (∀ h, h ∈ hs R ↔ Led (cof Tb) S h) →
          H2 p = some (.ins C dx (sf d rl (t.newest : Int) ((t.next : Int) - 1))) ∧ Q .non (upd H2 p (.ins C dx (putF "cells" (.ref d') (sf d rl (t.newest : Int) ((t.next : Int) - 1))))) := by
        intro S hS H2 d' R sm hd' h2d sub nk hled
        have sH : Same H H2 := (sD _).trans sm
        have hd0 : H d' = none := (sD _).free hd'
        refine ⟨sH _ _ hp, ?_⟩
        rw [pf_cells]
        have nd'p : d' ≠ p := fun e => by rw [e, hp] at hd0; cases hd0
        have hall : ∀ h, h ∈ hs R ↔ Led t.cells t.starts h := fun h => by
          rw [hled]
          constructor
          · exact fun z => led_perm hpm hkT (fun a ha => (hS a).mp ha) z
          · exact fun z => led_perm hpm.symm g.nd (fun a ha => (hS a).mpr ha) z
        have sU : ∀ b o, H b = some o → b ≠ p → upd H2 p (.ins C dx (sf d' rl (t.newest : Int) ((t.next : Int) - 1))) b = some o := fun b o e hb => by rw [upd_ne hb]; exact sH b o e
        have hrl' : rl ∉ ads R := fun z => hra (ads_sub sub rl z)
        refine k _ (p :: d' :: rl :: ads R) ⟨dx, d', rl, R, rfl, upd_same, by rw [upd_ne nd'p]; exact h2d, sU rl _ hrl (ne_of hrl hp (by intro z; cases z)), hrl', ?_, cof_kept hT.nk hpm sub nk hall⟩ ?_
        · have hTR := hT.sub sub nk
          refine ⟨hTR.nk, hTR.na, fun e he => ?_⟩
          refine (hTR.at_ e he).same (fun b xs z => sU b _ z (ne_of z hp (by intro z; cases z))) (fun b o xs z => sU b _ z (ne_of z hp (by intro z; cases z))) ?_
          obtain ⟨vs, hvs, _⟩ := hTR.at_ e he
          rw [hvs]
          exact sU _ _ hvs (ne_of hvs hp (by intro z; cases z))
        · intro b o e hb
          simp only [List.mem_cons, not_or] at hb
          refine ⟨sU b o e hb.1, ?_⟩
          simp only [List.mem_cons, not_or]
          exact ⟨hb.1, ne_of_none e hd0, hb.2.2.1, fun z => hb.2.2.2 (ads_sub sub b z)⟩
      have hroot : ∀ a, a ∈ t.roots.filter nz ↔ a ∈ t.roots ∧ a ≠ 0 := fun a => by
        rw [List.mem_filter]
        simp [nz]
      have hfl : (t.roots.filter nz).length ≤ 256 := by
        have := List.length_filter_le nz t.roots
        rw [g.rl] at this
        exact this
      refine ⟨_, rfl, p, C, dx, _, _, rfl, h1p, T.cl, T.nL, sf_last, rfl, _, rfl, ?_⟩
      by_cases q : t.newest = 0
      · refine ifF (by rw [q]; rfl) ?_
        have hS : ∀ a, a ∈ t.roots.filter nz ↔ a ∈ t.starts := fun a => by
          rw [hroot, mem_starts]
          constructor
          · exact fun z => ⟨.inr z.1, z.2⟩
          · rintro ⟨z | z, z2⟩
            · exact absurd (z.trans q) z2
            · exact ⟨z, z2⟩
        refine ⟨_, rfl, p, C, dx, _, _, rfl, h1p, T.cl, T.nC, sf_cells, _, rfl, d, D, Tb, t.roots.filter nz, rfl, sD _ _ _ hd, hT.keep (sD _), SqL.of upd_same, fun h hh => hmem h (g.st h ((hS h).mp hh)), hrf, by omega, hUT, ?_⟩
        intro H2 d' R a1 a2 a3 a4 a5 a6
        have z := fin _ hS H2 d' R a1 a2 a3 a4 a5 a6
        exact ⟨_, rfl, p, C, dx, _, rfl, z.1, T.cl, T.nC, by show 4 < 1000; decide, z.2⟩
      · refine ifT ?_ ?_
        · have : ¬ (V.int (t.newest : Int) = V.int 0) := fun z => q (by injection z with z; omega)
          rw [decide_eq_false this]
          rfl
        · have hS : ∀ a, a ∈ t.roots.filter nz ++ [t.newest] ↔ a ∈ t.starts := fun a => by
            rw [List.mem_append, hroot, mem_starts, List.mem_singleton]
            constructor
            · rintro (z | z)
              · exact ⟨.inr z.1, z.2⟩
              · exact ⟨.inl z, z ▸ q⟩
            · rintro ⟨z | z, z2⟩
              · exact .inr z
              · exact .inl ⟨z, z2⟩
          refine ⟨_, rfl, .inl ⟨rfl, _, SqL.of upd_same⟩, _, rfl, p, C, dx, _, _, rfl, h1p, T.cl, T.nL, sf_last, D, _, _, rfl, rfl, upd_same, ?_, ?_⟩
          · rw [List.length_map]
            exact Nat.lt_of_le_of_lt hfl (by decide)
          · have e1 : upd (upd H D (.lst ((t.roots.filter nz).map nV))) D (.lst ((t.roots.filter nz).map nV ++ [V.int (t.newest : Int)])) = upd H D (.lst ((t.roots.filter nz ++ [t.newest]).map nV)) := by
              rw [upd_upd, List.map_append]
              rfl
            rw [e1]
            have h2p : (upd H D (.lst ((t.roots.filter nz ++ [t.newest]).map nV))) p = some (.ins C dx (sf d rl (t.newest : Int) ((t.next : Int) - 1))) := by rw [upd_ne npD]; exact hp
            refine ⟨_, rfl, p, C, dx, _, _, rfl, h2p, T.cl, T.nC, sf_cells, _, rfl, d, D, Tb, t.roots.filter nz ++ [t.newest], rfl, sD _ _ _ hd, hT.keep (sD _), SqL.of upd_same, fun h hh => hmem h (g.st h ((hS h).mp hh)), hrf, ?_, hUT, ?_⟩
            · rw [List.length_append, List.length_singleton]
              omega
            intro H2 d' R a1 a2 a3 a4 a5 a6
            have z := fin _ hS H2 d' R a1 a2 a3 a4 a5 a6
            exact ⟨_, rfl, p, C, dx, _, rfl, z.1, T.cl, T.nC, by show 4 < 1000; decide, z.2⟩
end
end Rc

end
section
set_option Elab.async false
set_option linter.all false
set_option maxRecDepth 100000
set_option maxHeartbeats 2000000
namespace Rc
open PySem PySem.Spec PyProof.Rows L2
open Sz13 (Field Cell Cells Led refs kept does done made)
/-- a method that answers the call c on the store at p -/
def Ans (K : PySem.W.Frag) (C : Addr) (H : Hp) (p : Addr) (c : Sz13.Call) (Q : VK) : Prop := ∃ (t : Sz13.St) (own : List Addr), StAt K C H p t own ∧ Tid t ∧
  ∀ (H' : Hp) (own' : List Addr), StAt K C H' p (tidy (does t c).1) own' → Keep H own H' own' → Q (.int (does t c).2) H'
theorem ans_to {K : PySem.W.Frag} {C : Addr} {H H' : Hp} {p : Addr} {t t' : Sz13.St} {own own' : List Addr} {c : Sz13.Call} {z : Int} {Q : VK} (e : does t c = (t', z)) (h : StAt K C H' p (tidy t') own') (kp : Keep H own H' own')
    (k : ∀ (H' : Hp) (own' : List Addr), StAt K C H' p (tidy (does t c).1) own' → Keep H own H' own' → Q (.int (does t c).2) H') : Q (.int z) H' := by
  rw [e] at k
  exact k H' own' h kp
theorem ans_stay {K : PySem.W.Frag} {C : Addr} {H : Hp} {p : Addr} {t : Sz13.St} {own : List Addr} {c : Sz13.Call} {z : Int} {Q : VK} (e : does t c = (t, z)) (st : StAt K C H p t own) (T : Tid t)
    (k : ∀ (H' : Hp) (own' : List Addr), StAt K C H' p (tidy (does t c).1) own' → Keep H own H' own' → Q (.int (does t c).2) H') : Q (.int z) H :=
  ans_to e (by rw [T.self]; exact st) (Keep.refl _ _) k
theorem does_of {t : Sz13.St} {c : Sz13.Call} (h : ∀ x ∈ c.needs, t.has x = true) : does t c = done t c := by
  unfold Sz13.does
  rw [if_pos (List.all_eq_true.mpr h)]
theorem does_no {t : Sz13.St} {c : Sz13.Call} {x : Nat} (hx : x ∈ c.needs) (h : ¬ t.has x = true) : does t c = (t, -1) := by
  unfold Sz13.does
  rw [if_neg (fun z => h (List.all_eq_true.mp z x hx))]
/-! ### make, the mathematics -/
theorem good_last0 {t : Sz13.St} (g : Good t) : Good { t with newest := 0 } :=
  ⟨g.nd, g.lo, g.hi, g.rf, g.w8, g.rl, g.np, fun h hh => by
    have := mem_starts.mp hh
    rcases this.1 with z | z
    · exact absurd z this.2
    · exact g.st h (mem_starts.mpr ⟨.inr z, this.2⟩)⟩
theorem starts_last0 (t : Sz13.St) : Sz13.St.starts { t with newest := 0 } = t.rooted := rfl
/-- what is kept, with new cells ahead of it that lead on among themselves -/
theorem led_more {c new : Cells} {f g : List Nat} (hn : ∀ a ∈ keys new, a ∉ keys c) (hf : ∀ a ∈ f, a ∈ g) {a : Nat} (q : Led c f a) : Led (new ++ c) g a := by
  have hg : ∀ b, b ∈ keys c → Cells.get (new ++ c) b = c.get b := fun b hb => by
    have h1 : ∀ (new : Cells), b ∉ keys new → Cells.get (new ++ c) b = c.get b := by
      intro new
      induction new with
      | nil => exact fun _ => rfl
      | cons x new ih =>
        intro hx
        have : x.1 ≠ b := fun e => hx (e ▸ List.mem_cons_self ..)
        show Cells.get ((x.1, x.2) :: (new ++ c)) b = _
        rw [get_cons, if_neg this]
        exact ih fun z => hx (List.mem_cons_of_mem _ z)
    exact h1 new fun z => hn b z hb
  induction q with
  | start hm hs => exact .start (hf _ hm) (by rw [hg _ (isSome_iff.mp hs)]; exact hs)
  | step p e hk hs ih => exact .step ih (by rw [hg _ (isSome_iff.mp (by rw [e]; rfl))]; exact e) hk (by rw [hg _ (isSome_iff.mp hs)]; exact hs)
theorem kept_led {c : Cells} (hc : (keys c).Nodup) {f : List Nat} {a : Nat} (h : a ∈ keys (kept c f)) : Led (kept c f) f a := by
  obtain ⟨x, hx, e⟩ := List.mem_map.mp h
  have := ((mem_kept hc).mp hx).2
  rw [e] at this
  exact (led_kept hc led_self).mpr this
theorem tidy_made {t : Sz13.St} (g : Good t) (n : Nat) : tidy ⟨(t.next, List.replicate n .nothing) :: kept t.cells t.rooted, t.roots, t.next, t.next + 1⟩ = ⟨(t.next, List.replicate n .nothing) :: kept t.cells t.rooted, t.roots, t.next, t.next + 1⟩ := by
  have hk : ∀ a ∈ keys (kept t.cells t.rooted), a < t.next := fun a ha => by
    obtain ⟨x, hx, e⟩ := List.mem_map.mp ha
    exact e ▸ g.hi x (List.mem_filter.mp hx).1
  have hnd : (keys ((t.next, List.replicate n Field.nothing) :: kept t.cells t.rooted)).Nodup := List.nodup_cons.mpr ⟨fun z => Nat.lt_irrefl _ (hk _ z), nodup_kept g.nd⟩
  unfold tidy
  congr 1
  refine kept_all hnd fun a ha => ?_
  rcases List.mem_cons.mp (show a ∈ t.next :: keys (kept t.cells t.rooted) from ha) with z | z
  · subst z
    refine .start (mem_starts.mpr ⟨.inl rfl, by have := g.np; omega⟩) (by rw [get_cons, if_pos rfl]; rfl)
  · have hst : ∀ b ∈ t.rooted, b ∈ Sz13.St.starts ⟨(t.next, List.replicate n Field.nothing) :: kept t.cells t.rooted, t.roots, t.next, t.next + 1⟩ := fun b hb => mem_starts.mpr ⟨.inr (mem_rooted.mp hb).1, (mem_rooted.mp hb).2⟩
    refine led_more (new := [(t.next, List.replicate n Field.nothing)]) (f := t.rooted) (fun b hb hb' => ?_) hst (kept_led g.nd z)
    have : b = t.next := List.mem_singleton.mp hb
    have := hk b hb'
    omega
theorem paired_rep {α β : Type} {F : α → β → Prop} {a : α} {b : β} (h : F a b) : ∀ n : Nat, Paired F (List.replicate n a) (List.replicate n b)
  | 0 => .nil
  | n + 1 => .cons h (paired_rep h n)
/-! ### make -/
section
variable {P : Program} {w : World} {K : PySem.W.Frag} {mg : Str → Option Value} {base : Heap}
def spMake (K : PySem.W.Frag) (C : Addr) : Sp := fun vs H Q _ => ∃ (p : Addr) (n : Int), vs = [.ref p, .int n] ∧ Ans K C H p (.make n) Q
theorem scMk : FnScope ["self", "fields"] ["self", "fields"] (defScope sMake) := ⟨rfl, rfl, rfl, by decide +kernel, rfl, by decide +kernel, by decide +kernel⟩
structure Sw (P : Program) (w : World) (K : PySem.W.Frag) (mg : Str → Option Value) (base : Heap) (C : Addr) (fS : Addr) (fdS : FuncData) : Prop where
  ok : FnOk P w K mg base CX0 2 fS fdS ["self"] (spSweep K C)
  b : Binds K fdS ["self"] []
  m : Meth K C "sweep" fS
theorem no_sweep : ¬ ("cells" : Str) = "sweep" ∧ ¬ ("roots" : Str) = "sweep" ∧ ¬ ("last" : Str) = "sweep" ∧ ¬ ("newest" : Str) = "sweep" := by decide +kernel
theorem ok_make {f C an fS fU : Addr} {fd fdS fdU : FuncData} (F : Fun K "make" "Store.make" sMake f fd) (T : Txt K mg C an) (S : Sw P w K mg base C fS fdS) (FU : Fun K "units" "units" sUnits fU fdU) (mU : mg "units" = some (.ref fU)) (bU : Binds K fdU ["cells"] []) :
    FnOk P w K mg base CX0 3 f fd ["self", "fields"] (spMake K C) := by
  have GU : FnOk P w K mg base CX0 1 fU fdU ["cells"] (spUnits K) := ok_units FU T.bSum T.bLen
  refine F.ok scMk (fun vs H Q E h => ?_) (fun cdv A outer s H vs Q E hr h => ?_)
  · obtain ⟨p, n, rfl, _⟩ := h
    rfl
  · obtain ⟨p, n, rfl, t, own, st, Td, k⟩ := h
    have hu := hu_of hr
    have hr1 : Room 1 _ := hr.mono (by decide)
    refine ⟨_, pss_cons (ps_if (PW.pt (pw_or (pt_cmpR op_lt (pv 1) pe_int (nomark _)) (pw_or1 (pt_cmpR op_gt (pv 1) (pe_gi T.gMF (by rfl)) (nomark _))))) (pss_one (ps_ret (pe_gi T.gOut (by rfl)))) pss_nil)
      (pss_cons (ps_fld (pv 0) pe_int rfl)
      (pss_cons (ps_expr (pe_meth0 (pv 0) T.cl S.m S.ok hr S.b .nil pass0))
      (pss_cons (ps_if (pt_cmpR op_gt (pe_op op_add (pe_op op_add (pe_call GU hr1 rfl mU FU.kp bU .nil pass0 (pa_cons (pe_fld (pv 0) rfl) pa_nil)) pe_int) (pv 1)) (pe_gi T.gRoom (by rfl)) (nomark _)) (pss_one (ps_ret (pe_gi T.gNo (by rfl)))) pss_nil)
      (pss_cons (ps_fldaug (pv 0) pe_int in_add)
      (pss_cons (ps_dput hu (pe_fld (pv 0) rfl) (pe_fld (pv 0) rfl) (pe_op op_rep (pe_lst (pa_cons (pe_glob (v := .ref an) (by rfl) T.gNil rfl) pa_nil)) (pv 1)) rfl)
      (pss_cons (ps_fld (pv 0) (pe_fld (pv 0) rfl) rfl)
      (pss_one (ps_ret (pe_fld (pv 0) rfl))))))))), ?_⟩
    have em : does t (.make n) = made t n := does_of (fun x hx => nomatch hx)
    have neg2 : n < 0 ∨ 8 < n → Q (.int (-2)) H := fun q => by
      refine ans_stay (c := .make n) ?_ st Td k
      rw [em]
      unfold Sz13.made
      rw [if_pos q]
    refine ⟨_, rfl, _, _, rfl, rfl, _, rfl, ?_⟩
    by_cases q0 : n < 0
    · refine ifT (decide_eq_true q0) (ifT rfl ?_)
      exact neg2 (.inl q0)
    refine ifF (decide_eq_false q0) ?_
    refine ⟨_, rfl, _, _, rfl, rfl, _, rfl, ?_⟩
    by_cases q8 : 8 < n
    · refine ifT (decide_eq_true q8) ?_
      exact neg2 (.inr q8)
    refine ifF (decide_eq_false q8) ?_
    -- none was made last; what no root leads to goes
    have g := Td.good
    obtain ⟨dx, d, rl, Tb, rfl, hp, hd, hrl, hra, hT, hpm⟩ := st
    refine ⟨_, rfl, p, C, dx, _, rfl, hp, T.cl, T.nL, by show 4 < 1000; decide, ?_⟩
    rw [pf_last]
    have kp1 : Keep H (p :: d :: rl :: ads Tb) (upd H p (.ins C dx (sf d rl 0 ((t.next : Int) - 1)))) (p :: d :: rl :: ads Tb) := keep_upd (List.mem_cons_self ..)
    have st1 : StAt K C (upd H p (.ins C dx (sf d rl 0 ((t.next : Int) - 1)))) p { t with newest := 0 } (p :: d :: rl :: ads Tb) := StAt.ins (t := t) (t' := { t with newest := 0 }) hp hd hrl hra hT hpm
    refine ⟨_, rfl, p, dx, _, rfl, upd_same, sf_no no_sweep, p, { t with newest := 0 }, _, rfl, st1, good_last0 g, Td.room, fun H2 own2 st2 kp2 => ?_⟩
    have kp12 := kp1.trans kp2
    have st2' := st2
    obtain ⟨dx2, d2, rl2, T2, rfl, hp2, hd2, hrl2, hra2, hT2, hpm2⟩ := st2
    have hpm2 : (cof T2).Perm (kept t.cells t.rooted) := hpm2
    have hU2 : sumU (cof T2) ≤ 65536 := by rw [sumU_perm hpm2]; exact Nat.le_trans (sumU_kept _ _) Td.room
    have hl2 : T2.length ≤ 65536 := by
      rw [← cof_len]
      exact Nat.le_trans (len_le_sumU _) hU2
    -- is there room
    refine ⟨_, rfl, p, C, dx2, _, _, rfl, hp2, T.cl, T.nC, sf_cells, d2, T2, rfl, hd2, hT2, hl2, fun H3 sm3 => ?_⟩
    refine ⟨_, _, rfl, rfl, _, rfl, _, _, rfl, rfl, _, _, rfl, rfl, _, rfl, ?_⟩
    have hun : Sz13.units (kept t.cells t.rooted) = sumU (cof T2) := by rw [units_eq, sumU_perm hpm2]
    by_cases qr : (65536 : Int) < (sumU (cof T2) : Nat) + 1 + n
    · refine ifT (decide_eq_true qr) ?_
      refine ans_to (c := .make n) (t' := { t with cells := kept t.cells t.rooted, newest := 0 }) ?_ ?_ (kp12.trans (Keep.same sm3)) k
      · rw [em]
        unfold Sz13.made
        rw [if_neg (by omega)]
        show (if Sz13.ROOM < Sz13.units (kept t.cells t.rooted) + n.toNat + 1 then _ else _) = _
        rw [if_pos (by rw [hun]; unfold Sz13.ROOM; omega)]
      · have e : tidy { t with cells := kept t.cells t.rooted, newest := 0 } = tidy { t with newest := 0 } := tidy_tidy (s := { t with newest := 0 }) g.nd
        rw [e]
        exact st2'.keep sm3
    refine ifF (decide_eq_false qr) ?_
    have hp3 : H3 p = some (.ins C dx2 (sf d2 rl2 0 ((t.next : Int) - 1))) := sm3 _ _ hp2
    refine ⟨_, rfl, p, C, dx2, _, _, rfl, hp3, T.cl, T.nN, sf_newest, _, _, rfl, rfl, dx2, _, hp3, by show 4 < 1000; decide, ?_⟩
    have en : ((t.next : Int) - 1 + 1) = (t.next : Int) := by omega
    rw [pf_newest, en]
    have hT3 := hT2.keep sm3
    have hd3 := sm3 _ _ hd2
    have hrl3 := sm3 _ _ hrl2
    have hT4 : Tab K (upd H3 p (.ins C dx2 (sf d2 rl2 0 (t.next : Int)))) T2 := hT3.upd hp3 rfl (hT3.not_at hp3 (by intro xs z; cases z))
    -- the new cell's fields
    refine ⟨by show 1 ≤ sizeLine; decide, fun q hq => ?_⟩
    have nqp : q ≠ p := fun e => by subst e; rw [upd_same] at hq; cases hq
    refine ⟨_, rfl, q, n, [V.ref an], rfl, rfl, upd_same, by omega, by omega, ?_, fun a ha => ?_⟩
    · have : n.toNat ≤ 8 := by omega
      show 1 * n.toNat ≤ sizeLine
      have : (8 : Nat) ≤ sizeLine := by decide
      omega
    have sq : Same (upd H3 p (.ins C dx2 (sf d2 rl2 0 (t.next : Int)))) (upd (upd H3 p (.ins C dx2 (sf d2 rl2 0 (t.next : Int)))) q (.lst [V.ref an])) := same_new hq
    have sqa := sq.trans (same_new (o := .lst (List.replicate n.toNat [V.ref an]).flatten) ha)
    rw [rep_flat] at sqa ⊢
    have h4a : (upd H3 p (.ins C dx2 (sf d2 rl2 0 (t.next : Int)))) a = none := sq.free ha
    have nap : a ≠ p := fun e => by subst e; rw [upd_same] at h4a; cases h4a
    have h3a : H3 a = none := by rw [upd_ne nap] at h4a; exact h4a
    have h3q : H3 q = none := by rw [upd_ne nqp] at hq; exact hq
    have nad : a ≠ d2 := fun e => by subst e; rw [hd3] at h3a; cases h3a
    have nqd : q ≠ d2 := fun e => by subst e; rw [hd3] at h3q; cases h3q
    have ndp : d2 ≠ p := ne_of hd3 hp3 (by intro z; cases z)
    have h5p := sqa p _ upd_same
    have h5d := sqa d2 (.dK (rows T2)) (by rw [upd_ne ndp]; exact hd3)
    have h5r := sqa rl2 _ (show (upd H3 p (.ins C dx2 (sf d2 rl2 0 (t.next : Int)))) rl2 = some (.lst (t.roots.map nV)) by rw [upd_ne (ne_of hrl3 hp3 (by intro z; cases z))]; exact hrl3)
    have hT5 := hT4.keep sqa
    refine ⟨_, rfl, p, C, dx2, _, _, rfl, h5p, T.cl, T.nC, sf_cells, _, rfl, p, C, dx2, _, _, rfl, h5p, T.cl, T.nN, sf_newest, d2, _, rfl, DPut.k (k := Sum.inl (t.next : Int)) h5d (by rw [rows_len]; exact Nat.lt_of_le_of_lt hl2 (by decide)), ?_⟩
    have hlt : ∀ r ∈ T2, r.1 < t.next := fun r hr => by
      have h1 : (r.1, r.2.2) ∈ kept t.cells t.rooted := hpm2.mem_iff.mp (mem_cof hr)
      exact g.hi _ (List.mem_filter.mp h1).1
    have er : putK (rows T2) (Sum.inl (t.next : Int)) (V.ref a) = rows (T2 ++ [(t.next, a, List.replicate n.toNat .nothing)]) := by
      rw [putK_new]
      · unfold rows
        rw [List.map_append]
        rfl
      · exact valV_rows_no fun r hr z => by have := hlt r hr; omega
    rw [er]
    have nT5 := hT5.not_at h5d (by intro xs z; cases z)
    have hT6 := hT5.upd (o := .dK (rows (T2 ++ [(t.next, a, List.replicate n.toNat .nothing)]))) h5d rfl nT5
    have haT : a ∉ ads T2 := fun z => by
      obtain ⟨e, he, ee⟩ := List.mem_map.mp z
      obtain ⟨vs, hvs, _⟩ := hT3.at_ e he
      have ee' : e.2.1 = a := ee
      rw [ee', h3a] at hvs
      cases hvs
    have e1 : hs (T2 ++ [(t.next, a, List.replicate n.toNat Field.nothing)]) = hs T2 ++ [t.next] := by unfold hs; rw [List.map_append]; rfl
    have e2 : ads (T2 ++ [(t.next, a, List.replicate n.toNat Field.nothing)]) = ads T2 ++ [a] := by unfold ads; rw [List.map_append]; rfl
    have ndp' : p ≠ d2 := fun e => ndp e.symm
    have h6p := (same_upd (o := .dK (rows (T2 ++ [(t.next, a, List.replicate n.toNat .nothing)]))) h5p ndp')
    have hT7 : Tab K (upd (upd (upd (upd H3 p (.ins C dx2 (sf d2 rl2 0 (t.next : Int)))) q (.lst [V.ref an])) a (.lst (List.replicate n.toNat (V.ref an)))) d2 (.dK (rows (T2 ++ [(t.next, a, List.replicate n.toNat .nothing)])))) (T2 ++ [(t.next, a, List.replicate n.toNat .nothing)]) := by
      refine ⟨?_, ?_, fun e he => ?_⟩
      · rw [e1]
        refine nd_snoc hT2.nk fun z => ?_
        obtain ⟨r, hr, ee⟩ := List.mem_map.mp z
        have := hlt r hr
        omega
      · rw [e2]
        exact nd_snoc hT2.na haT
      · rcases List.mem_append.mp he with z | z
        · exact hT6.at_ e z
        · have := List.mem_singleton.mp z
          subst this
          refine ⟨_, by rw [upd_ne nad, upd_same], paired_rep ⟨an, rfl, T.nil _⟩ _⟩
    refine ⟨_, rfl, p, C, dx2, _, _, rfl, h6p, T.cl, T.nN, sf_newest, _, rfl, p, C, dx2, _, rfl, h6p, T.cl, T.nL, by show 4 < 1000; decide, ?_⟩
    rw [pf_last]
    refine ⟨_, rfl, p, C, dx2, _, _, rfl, upd_same, T.cl, T.nN, sf_newest, ?_⟩
    have hrl7 : rl2 ∉ ads (T2 ++ [(t.next, a, List.replicate n.toNat Field.nothing)]) := by
      rw [e2]
      intro z
      rcases List.mem_append.mp z with z | z
      · exact hra2 z
      · have := List.mem_singleton.mp z
        rw [this, h3a] at hrl3
        cases hrl3
    refine ans_to (c := .make n) (own' := p :: d2 :: rl2 :: ads (T2 ++ [(t.next, a, List.replicate n.toNat Field.nothing)])) (t' := ⟨(t.next, List.replicate n.toNat .nothing) :: kept t.cells t.rooted, t.roots, t.next, t.next + 1⟩) ?_ ?_ ?_ k
    · rw [em]
      unfold Sz13.made
      rw [if_neg (by omega)]
      show (if Sz13.ROOM < Sz13.units (kept t.cells t.rooted) + n.toNat + 1 then _ else _) = _
      rw [if_neg (by rw [hun]; unfold Sz13.ROOM; omega)]
    · rw [tidy_made g]
      have z := StAt.ins (t := t) (t' := ⟨(t.next, List.replicate n.toNat .nothing) :: kept t.cells t.rooted, t.roots, t.next, t.next + 1⟩) h6p upd_same (by rw [upd_ne (ne_of h5r h5d (by intro z; cases z))]; exact h5r) hrl7 hT7 (by
        unfold cof
        rw [List.map_append]
        exact (List.perm_append_comm).trans (hpm2.cons _))
      have e3 : (((t.next + 1 : Nat) : Int) - 1) = (t.next : Int) := by omega
      rw [e3] at z
      exact z
    · refine kp12.trans fun b o e hb => ?_
      have e3 := sm3 _ _ e
      have hbp : b ≠ p := fun z => hb (by rw [z]; exact List.mem_cons_self ..)
      have hbd : b ≠ d2 := fun z => hb (by rw [z]; exact List.mem_cons_of_mem _ (List.mem_cons_self ..))
      refine ⟨?_, ?_⟩
      · rw [upd_ne hbp, upd_ne hbd, upd_ne (ne_of_none e3 h3a), upd_ne (ne_of_none e3 h3q), upd_ne hbp]
        exact e3
      · rw [e2]
        simp only [List.mem_cons, not_or, List.mem_append] at hb ⊢
        exact ⟨hbp, hbd, hb.2.2.1, hb.2.2.2, ne_of_none e3 h3a, fun z => nomatch z⟩
end
end Rc

end
section
set_option Elab.async false
set_option linter.all false
set_option maxRecDepth 100000
set_option maxHeartbeats 2000000
namespace Rc
open PySem PySem.Spec PyProof.Rows L2
open Sz13 (Field Cell Cells Led refs kept does done made putIn)
theorem ixN_of {n : Nat} {k : Int} (h0 : 0 ≤ k) (h1 : k < n) : ixN n k = some k.toNat := by
  unfold ixN
  rw [if_pos h0, if_pos h1]
theorem atI_of {α : Type} {xs : List α} {k : Int} {v : α} (h0 : 0 ≤ k) (h : xs[k.toNat]? = some v) : atI xs k = some v := by
  unfold atI
  rw [ixN_of h0 (by have := (List.getElem?_eq_some_iff.mp h).1; omega)]
  exact h
theorem mem_set_of {l : List Nat} {i b c a : Nat} (hb : l[i]? = some b) (ha : a ∈ l) (hn : a ≠ b) : a ∈ l.set i c := by
  obtain ⟨j, hj⟩ := List.mem_iff_getElem?.mp ha
  refine List.mem_iff_getElem?.mpr ⟨j, ?_⟩
  rw [List.getElem?_set_ne]
  · exact hj
  · intro e
    subst e
    rw [hb] at hj
    exact hn (Option.some.inj hj).symm
theorem and_by {t u : TT} {σ : L2.St} {H : Hp} {Qb : Bool → Hp → Prop} {a b : Bool} (h1 : ∀ Q' : Bool → Hp → Prop, Q' a H → t σ H Q') (h2 : a = true → ∀ Q' : Bool → Hp → Prop, Q' b H → u σ H Q') (h : Qb (a && b) H) : tAnd t u σ H Qb := by
  refine h1 _ ?_
  cases a with
  | false => exact ifF rfl h
  | true => exact ifT rfl (h2 rfl _ h)
theorem or_by {t u : TT} {σ : L2.St} {H : Hp} {Qb : Bool → Hp → Prop} {a b : Bool} (h1 : ∀ Q' : Bool → Hp → Prop, Q' a H → t σ H Q') (h2 : a = false → ∀ Q' : Bool → Hp → Prop, Q' b H → u σ H Q') (h : Qb (a || b) H) : tOr t u σ H Qb := by
  refine h1 _ ?_
  cases a with
  | false => exact ifF rfl (h2 rfl _ h)
  | true => exact ifT rfl h
theorem next_of {D : Ends} {σ : L2.St} {H : Hp} (h : D.nx σ H) : tNext D σ H := h
theorem seq_if {c : TT} {t u v : TS} {D : Ends} {σ : L2.St} {H : Hp} (h : c σ H fun b H1 => if b = true then t { D with nx := v D } σ H1 else u { D with nx := v D } σ H1) : tSeq (tIfS c t u) v D σ H := h
theorem done_root (t : Sz13.St) (r : Int) (h : Nat) : done t (.root r h) = if r < 0 ∨ 255 < r then (t, -2) else ({ t with roots := t.roots.set r.toNat h }, 0) := rfl
theorem done_rooted (t : Sz13.St) (r : Int) : done t (.rooted r) = if r < 0 ∨ 255 < r then (t, -2) else (t, ((t.roots.getD r.toNat 0 : Nat) : Int)) := rfl
theorem hs_iff {T : List Rw} {c : Cells} (hp : (cof T).Perm c) (h : Nat) : h ∈ hs T ↔ h ∈ keys c := by
  rw [← keys_cof]
  exact (hp.map _).mem_iff
section
variable {P : Program} {w : World} {K : PySem.W.Frag} {mg : Str → Option Value} {base : Heap}
/-! ### rooted -/
def spRooted (K : PySem.W.Frag) (C : Addr) : Sp := fun vs H Q _ => ∃ (p : Addr) (r : Int), vs = [.ref p, .int r] ∧ Ans K C H p (.rooted r) Q
theorem scRd : FnScope ["self", "r"] ["self", "r"] (defScope sRooted) := ⟨rfl, rfl, rfl, by decide +kernel, rfl, by decide +kernel, by decide +kernel⟩
theorem getD_at {l : List Nat} {i : Nat} (h : i < l.length) : l[i]? = some (l.getD i 0) := by
  rw [List.getD_eq_getElem?_getD, List.getElem?_eq_getElem h]
  rfl
theorem ok_rooted {f C an : Addr} {fd : FuncData} (F : Fun K "rooted" "Store.rooted" sRooted f fd) (T : Txt K mg C an) : FnOk P w K mg base CX0 1 f fd ["self", "r"] (spRooted K C) := by
  refine F.ok scRd (fun vs H Q E h => ?_) (fun cdv A outer s H vs Q E hr h => ?_)
  · obtain ⟨p, r, rfl, _⟩ := h
    rfl
  · obtain ⟨p, r, rfl, t, own, st, Td, k⟩ := h
    refine ⟨_, pss_cons (ps_if (PW.pt (pw_or (pt_cmpR op_lt (pv 1) pe_int (nomark _)) (pw_or1 (pt_cmpR op_ge (pv 1) (pe_gi T.gRC (by rfl)) (nomark _))))) (pss_one (ps_ret (pe_gi T.gOut (by rfl)))) pss_nil)
      (pss_one (ps_ret (pe_ix ix_list (pe_fld (pv 0) rfl) (pv 1) (fun _ _ => rfl)))), ?_⟩
    have em : does t (.rooted r) = done t (.rooted r) := does_of (fun x hx => nomatch hx)
    have neg2 : r < 0 ∨ 255 < r → Q (.int (-2)) H := fun q => by
      refine ans_stay (c := .rooted r) ?_ st Td k
      rw [em, done_rooted, if_pos q]
    refine ⟨_, rfl, _, _, rfl, rfl, _, rfl, ?_⟩
    by_cases q0 : r < 0
    · refine ifT (decide_eq_true q0) (ifT rfl ?_)
      exact neg2 (.inl q0)
    refine ifF (decide_eq_false q0) ?_
    refine ⟨_, rfl, _, _, rfl, rfl, _, rfl, ?_⟩
    by_cases q8 : 256 ≤ r
    · refine ifT (decide_eq_true q8) ?_
      exact neg2 (.inr (by omega))
    refine ifF (decide_eq_false q8) ?_
    have st' := st
    obtain ⟨dx, d, rl, Tb, rfl, hp, hd, hrl, hra, hT, hpm⟩ := st
    have hlt : r.toNat < t.roots.length := by rw [Td.good.rl]; omega
    refine ⟨_, rfl, p, C, dx, _, _, rfl, hp, T.cl, T.nR, sf_roots, _, rfl, rl, _, _, nV (t.roots.getD r.toNat 0), rfl, rfl, SqL.of hrl, atI_of (by omega) (by rw [List.getElem?_map, getD_at hlt]; rfl), ?_⟩
    refine ans_stay (c := .rooted r) ?_ st' Td k
    rw [em, done_rooted, if_neg (by omega)]
/-! ### root -/
def spRoot (K : PySem.W.Frag) (C : Addr) : Sp := fun vs H Q _ => ∃ (p : Addr) (r h : Int), vs = [.ref p, .int r, .int h] ∧ 0 ≤ h ∧ Ans K C H p (.root r h.toNat) Q
theorem scRt : FnScope ["self", "r", "h", "former"] ["self", "r", "h"] (defScope sRoot) := ⟨rfl, rfl, rfl, by decide +kernel, rfl, by decide +kernel, by decide +kernel⟩
theorem ok_root {f C an fS : Addr} {fd fdS : FuncData} (F : Fun K "root" "Store.root" sRoot f fd) (T : Txt K mg C an) (S : Sw P w K mg base C fS fdS) : FnOk P w K mg base CX0 3 f fd ["self", "r", "h"] (spRoot K C) := by
  refine F.ok scRt (fun vs H Q E h => ?_) (fun cdv A outer s H vs Q E hr h => ?_)
  · obtain ⟨p, r, h, rfl, _⟩ := h
    rfl
  · obtain ⟨p, r, h, rfl, h0, t, own, st, Td, k⟩ := h
    have hu := hu_of hr
    refine ⟨_, pss_cons (ps_if (PW.pt (pw_and (pt_cmpR op_ne (pv 2) pe_int (nomark _)) (pw_and1 (pt_cmp (pc_dnotin hu (pv 2) (pe_fld (pv 0) rfl)))))) (pss_one (ps_ret (pe_gi T.gNot (by rfl)))) pss_nil)
      (pss_cons (ps_if (PW.pt (pw_or (pt_cmpR op_lt (pv 1) pe_int (nomark _)) (pw_or1 (pt_cmpR op_ge (pv 1) (pe_gi T.gRC (by rfl)) (nomark _))))) (pss_one (ps_ret (pe_gi T.gOut (by rfl)))) pss_nil)
      (pss_cons (ps_set (i := 3) scRt.nd rfl (Or.inl rfl) (pe_ix ix_list (pe_fld (pv 0) rfl) (pv 1) (fun _ _ => rfl)))
      (pss_cons (ps_asg (pv 2) (pg_sub (pe_fld (pv 0) rfl) (pv 1) set_list))
      (pss_cons (ps_if (pt_cmpR op_ne (pv 3) pe_int (nomark _)) (pss_one (ps_expr (pe_meth0 (pv 0) T.cl S.m S.ok hr S.b .nil pass0))) pss_nil)
      (pss_one (ps_ret (pe_gi T.gDone (by rfl)))))))), ?_⟩
    have g := Td.good
    have st' := st
    obtain ⟨dx, d, rl, Tb, rfl, hp, hd, hrl, hra, hT, hpm⟩ := st
    refine and_by (a := !decide (V.int h = V.int 0)) (b := !decide (h.toNat ∈ hs Tb)) (fun Q' z => ⟨_, rfl, rfl, _, rfl, z⟩)
      (fun _ Q' z => ⟨_, rfl, _, rfl, p, C, dx, _, _, rfl, hp, T.cl, T.nC, sf_cells, d, _, rfl, DGet.k (k := Sum.inl h) hd, _, rfl, by rw [valV_rows_isSome hT.nk h0]; exact z⟩) ?_
    have hneeds : (Sz13.Call.root r h.toNat).needs = [h.toNat].filter fun x => x != 0 := rfl
    by_cases qn : h ≠ 0 ∧ h.toNat ∉ hs Tb
    · refine ifT ?_ ?_
      · rw [decide_eq_false (fun z => qn.1 (by injection z)), decide_eq_false qn.2]
        rfl
      · refine ans_stay (c := .root r h.toNat) (does_no (x := h.toNat) ?_ ?_) st' Td k
        · rw [hneeds]
          have : h.toNat ≠ 0 := by omega
          simp [this]
        · rw [Td.has, ← hs_iff hpm]
          exact qn.2
    have hok : does t (.root r h.toNat) = done t (.root r h.toNat) := does_of fun x hx => by
      rw [hneeds, List.mem_filter, List.mem_singleton] at hx
      have h1 : x ≠ 0 := by simpa using hx.2
      have h2 : h.toNat ∈ hs Tb := by
        by_cases z : h.toNat ∈ hs Tb
        · exact z
        · exact absurd ⟨by omega, z⟩ qn
      rw [Td.has, ← hs_iff hpm, hx.1]
      exact h2
    refine ifF ?_ ?_
    · by_cases z : h = 0
      · rw [z]
        rfl
      · have h2 : h.toNat ∈ hs Tb := by
          by_cases z2 : h.toNat ∈ hs Tb
          · exact z2
          · exact absurd ⟨z, z2⟩ qn
        rw [decide_eq_true h2, Bool.not_true, Bool.and_false]
    refine next_of ?_
    dsimp only
    refine seq_if ?_
    refine or_by (a := decide (r < 0)) (b := decide (256 ≤ r)) (fun Q' z => ⟨_, rfl, _, _, rfl, rfl, _, rfl, z⟩) (fun _ Q' z => ⟨_, rfl, _, _, rfl, rfl, _, rfl, z⟩) ?_
    by_cases q2 : r < 0 ∨ 256 ≤ r
    · refine ifT (by simpa using q2) ?_
      refine ans_stay (c := .root r h.toNat) ?_ st' Td k
      rw [hok, done_root, if_pos (by omega)]
    refine ifF (by simpa using q2) ?_
    have ed : does t (.root r h.toNat) = ({ t with roots := t.roots.set r.toNat h.toNat }, 0) := by rw [hok, done_root, if_neg (by omega)]
    have g1 : Good ({ t with roots := t.roots.set r.toNat h.toNat } : Sz13.St) := by
      have := good_does g (.root r h.toNat)
      rw [ed] at this
      exact this
    have hlt : r.toNat < t.roots.length := by rw [g.rl]; omega
    refine ⟨_, rfl, p, C, dx, _, _, rfl, hp, T.cl, T.nR, sf_roots, _, rfl, rl, _, _, nV (t.roots.getD r.toNat 0), rfl, rfl, SqL.of hrl, atI_of (by omega) (by rw [List.getElem?_map, getD_at hlt]; rfl), ?_⟩
    refine ⟨_, rfl, _, rfl, p, C, dx, _, _, rfl, hp, T.cl, T.nR, sf_roots, _, rfl, rl, _, r, r.toNat, rfl, rfl, hrl, ixN_of (by omega) (by rw [List.length_map]; omega), ?_⟩
    have er : (t.roots.map nV).set r.toNat (V.int h) = (t.roots.set r.toNat h.toNat).map nV := by
      rw [List.map_set]
      congr 2
      omega
    rw [er]
    have npr : p ≠ rl := ne_of hp hrl (by intro z; cases z)
    have st1 : StAt K C (upd H rl (.lst ((t.roots.set r.toNat h.toNat).map nV))) p { t with roots := t.roots.set r.toNat h.toNat } (p :: d :: rl :: ads Tb) :=
      ⟨dx, d, rl, Tb, rfl, same_upd hp npr, same_upd hd (ne_of hd hrl (by intro z; cases z)), upd_same, hra, hT.upd hrl rfl hra, hpm⟩
    have kp1 : Keep H (p :: d :: rl :: ads Tb) (upd H rl (.lst ((t.roots.set r.toNat h.toNat).map nV))) (p :: d :: rl :: ads Tb) := keep_upd (List.mem_cons_of_mem _ (List.mem_cons_of_mem _ (List.mem_cons_self ..)))
    refine ⟨_, rfl, rfl, _, rfl, ?_⟩
    by_cases qf : t.roots.getD r.toNat 0 = 0
    · refine ifF ?_ ?_
      · rw [qf]
        rfl
      · refine ans_to (c := .root r h.toNat) ed ?_ kp1 k
        have e : tidy { t with roots := t.roots.set r.toNat h.toNat } = { t with roots := t.roots.set r.toNat h.toNat } := by
          unfold tidy
          congr 1
          refine kept_all g.nd fun a ha => led_mono (fun b hb hbs => ?_) (Td.all a ha)
          have hb' := mem_starts.mp hb
          refine .start (mem_starts.mpr ⟨?_, hb'.2⟩) hbs
          rcases hb'.1 with z | z
          · exact .inl z
          · exact .inr (mem_set_of (getD_at hlt) z (by rw [qf]; exact hb'.2))
        rw [e]
        exact st1
    · refine ifT ?_ ?_
      · rw [decide_eq_false (fun z => qf (by injection z with z; omega))]
        rfl
      · refine ⟨_, rfl, p, dx, _, rfl, same_upd hp npr, sf_no no_sweep, p, _, _, rfl, st1, g1, Td.room, fun H2 own2 st2 kp2 => ?_⟩
        exact ans_to (c := .root r h.toNat) ed st2 (kp1.trans kp2) k
end
end Rc

end
section
set_option Elab.async false
set_option linter.all false
set_option maxRecDepth 100000
set_option maxHeartbeats 2000000
namespace Rc
open PySem PySem.Spec PyProof.Rows L2
open Sz13 (Field Cell Cells Led refs kept does done made putIn)
/-! ### put, the mathematics -/
def putT (T : List Rw) (h i : Nat) (f : Field) : List Rw := T.map fun e => if e.1 = h then (e.1, e.2.1, e.2.2.set i f) else e
theorem hs_putT (T : List Rw) (h i : Nat) (f : Field) : hs (putT T h i f) = hs T := by
  unfold hs putT
  rw [List.map_map]
  apply List.map_congr_left
  intro e _
  show (if e.1 = h then (e.1, e.2.1, e.2.2.set i f) else e).1 = e.1
  split <;> rfl
theorem ads_putT (T : List Rw) (h i : Nat) (f : Field) : ads (putT T h i f) = ads T := by
  unfold ads putT
  rw [List.map_map]
  apply List.map_congr_left
  intro e _
  show (if e.1 = h then (e.1, e.2.1, e.2.2.set i f) else e).2.1 = e.2.1
  split <;> rfl
theorem rows_putT (T : List Rw) (h i : Nat) (f : Field) : rows (putT T h i f) = rows T := by
  unfold rows putT
  rw [List.map_map]
  apply List.map_congr_left
  intro e _
  show (Sum.inl (((if e.1 = h then (e.1, e.2.1, e.2.2.set i f) else e).1 : Nat) : Int), V.ref (if e.1 = h then (e.1, e.2.1, e.2.2.set i f) else e).2.1) = _
  split <;> rfl
theorem cof_putT (T : List Rw) (h i : Nat) (f : Field) : cof (putT T h i f) = putC (cof T) h i f := by
  unfold cof putT putC
  rw [List.map_map, List.map_map]
  apply List.map_congr_left
  intro e _
  show ((if e.1 = h then (e.1, e.2.1, e.2.2.set i f) else e).1, (if e.1 = h then (e.1, e.2.1, e.2.2.set i f) else e).2.2) = if e.1 = h then (h, e.2.2.set i f) else (e.1, e.2.2)
  by_cases q : e.1 = h
  · simp only [if_pos q]
    rw [q]
  · simp only [if_neg q]
theorem paired_set {α β : Type} {F : α → β → Prop} {a : α} {b : β} (h : F a b) : ∀ {l : List α} {m : List β}, Paired F l m → ∀ i : Nat, Paired F (l.set i a) (m.set i b)
  | _, _, .nil, _ => .nil
  | _, _, .cons _ t, 0 => .cons h t
  | _, _, .cons h0 t, i + 1 => .cons h0 (paired_set h t i)
theorem Tab.putT {K : PySem.W.Frag} {H : Hp} {T : List Rw} {e : Rw} {vs : List V} {v : V} {i : Nat} {f : Field} (hT : Tab K H T) (he : e ∈ T) (hvs : H e.2.1 = some (.lst vs)) (hp : Paired (FAt K H) vs e.2.2) (hf : FAt K H v f) :
    Tab K (L2.upd H e.2.1 (.lst (vs.set i v))) (putT T e.1 i f) := by
  have st : ∀ b xs, H b = some (.tup xs) → (L2.upd H e.2.1 (.lst (vs.set i v))) b = some (.tup xs) := fun b xs z => by rw [upd_ne (ne_of z hvs (by intro q; cases q))]; exact z
  have st' : ∀ b o xs, H b = some (.frz o (.tup xs)) → (L2.upd H e.2.1 (.lst (vs.set i v))) b = some (.frz o (.tup xs)) := fun b o xs z => by rw [upd_ne (ne_of z hvs (by intro q; cases q))]; exact z
  refine ⟨by rw [hs_putT]; exact hT.nk, by rw [ads_putT]; exact hT.na, fun r hr => ?_⟩
  obtain ⟨r0, hr0, er⟩ := List.mem_map.mp hr
  by_cases q : r0.1 = e.1
  · have : r0 = e := inj_of_nodup hT.nk r0 hr0 e he q
    subst this
    rw [if_pos rfl] at er
    subst er
    exact ⟨_, upd_same, paired_set (hf.same st st') (Paired.mapP hp fun _ _ z => z.same st st') i⟩
  · rw [if_neg q] at er
    subst er
    refine (hT.at_ r0 hr0).same st st' ?_
    rw [upd_ne]
    intro z
    exact q (congrArg (fun x => x.1) (inj_of_nodup hT.na r0 hr0 e he z))
theorem refs_set_up {x : Cell} {i : Nat} {f g : Field} {k : Nat} (hg : x[i]? = some g) (hn : ∀ j, g ≠ .cell j) (h : k ∈ refs x) : k ∈ refs (x.set i f) := by
  unfold refs at h ⊢
  obtain ⟨y, hy, e⟩ := List.mem_filterMap.mp h
  obtain ⟨j, hj⟩ := List.mem_iff_getElem?.mp hy
  refine List.mem_filterMap.mpr ⟨y, List.mem_iff_getElem?.mpr ⟨j, ?_⟩, e⟩
  rw [List.getElem?_set_ne]
  · exact hj
  · intro z
    subst z
    rw [hg] at hj
    cases hj
    cases g with
    | nothing => simp at e
    | number _ => simp at e
    | cell j => exact hn j rfl
/-- a field that held no cell: what was led to still is -/
theorem led_putC_up {c : Cells} {S : List Nat} {h i : Nat} {f : Field} {x : Cell} {g : Field} (hx : c.get h = some x) (hg : x[i]? = some g) (hn : ∀ j, g ≠ .cell j) {a : Nat} (q : Led c S a) : Led (putC c h i f) S a := by
  have hs : ∀ a, ((putC c h i f).get a).isSome = true ↔ (c.get a).isSome = true := fun a => by rw [isSome_iff, isSome_iff, keys_putC]
  induction q with
  | start hm he => exact .start hm ((hs _).mpr he)
  | @step b k y p e hk he ih =>
    by_cases q : b = h
    · subst q
      have exy : x = y := Option.some.inj (hx.symm.trans e)
      subst exy
      exact .step (x := x.set i f) ih (by rw [get_putC, if_pos rfl, hx]; rfl) (refs_set_up hg hn hk) ((hs _).mpr he)
    · exact .step (x := y) ih (by rw [get_putC, if_neg q]; exact e) hk ((hs _).mpr he)
theorem tidy_put {t : Sz13.St} (T : Tid t) {h i : Nat} {f : Field} {x : Cell} {g : Field} (hx : t.cells.get h = some x) (hg : x[i]? = some g) (hn : ∀ j, g ≠ .cell j) : tidy (t.put h i f) = t.put h i f := by
  show ({ t with cells := kept (putC t.cells h i f) t.starts } : Sz13.St) = { t with cells := putC t.cells h i f }
  rw [kept_all]
  · rw [keys_putC]
    exact T.good.nd
  · intro a ha
    rw [keys_putC] at ha
    exact led_putC_up hx hg hn (T.all a ha)
theorem field_at {t : Sz13.St} {h : Nat} {i : Int} {x : Cell} (hx : t.cells.get h = some x) (h0 : 0 ≤ i) : Sz13.field t h i = x[i.toNat]? := by
  unfold Sz13.field
  rw [if_pos h0, hx]
  rfl
theorem field_none {t : Sz13.St} {h : Nat} {i : Int} {x : Cell} (hx : t.cells.get h = some x) (hn : i < 0 ∨ (x.length : Int) ≤ i) : Sz13.field t h i = none := by
  unfold Sz13.field
  by_cases h0 : 0 ≤ i
  · rw [if_pos h0, hx]
    show x[i.toNat]? = none
    exact List.getElem?_eq_none (by omega)
  · rw [if_neg h0]
theorem putIn_none {t : Sz13.St} {h : Nat} {i : Int} {f : Field} (e : Sz13.field t h i = none) : putIn t h i f = (t, -2) := by
  unfold Sz13.putIn
  rw [e]
theorem putIn_some {t : Sz13.St} {h : Nat} {i : Int} {f g : Field} (e : Sz13.field t h i = some g) : putIn t h i f = (t.put h i.toNat f, 0) := by
  unfold Sz13.putIn
  rw [e]
/-! ### put -/
section
variable {P : Program} {w : World} {K : PySem.W.Frag} {mg : Str → Option Value} {base : Heap}
def putR (t : Sz13.St) (h : Nat) (i : Int) (f : Field) : Sz13.St × Int := if t.has h = true then putIn t h i f else (t, -1)
def spPut (K : PySem.W.Frag) (C : Addr) : Sp := fun vs H Q _ => ∃ (p : Addr) (h i : Int) (v : V) (f : Field) (t : Sz13.St) (own : List Addr), vs = [.ref p, .int h, .int i, v] ∧ 0 ≤ h ∧ FAt K H v f ∧ StAt K C H p t own ∧ Tid t ∧ (∀ k, f = .cell k → k ∈ keys t.cells) ∧
  ∀ (H' : Hp) (own' : List Addr), StAt K C H' p (tidy (putR t h.toNat i f).1) own' → Keep H own H' own' → Q (.int (putR t h.toNat i f).2) H'
/-! ### kind -/
def kindR (t : Sz13.St) (h : Nat) (i : Int) : Int := if t.has h = true then (match Sz13.field t h i with
  | none => -2
  | some f => fK f) else -1
theorem kindR_no {t : Sz13.St} {h : Nat} {i : Int} (hh : ¬ t.has h = true) : kindR t h i = -1 := by
  unfold kindR
  rw [if_neg hh]
theorem kindR_out {t : Sz13.St} {h : Nat} {i : Int} (hh : t.has h = true) (e : Sz13.field t h i = none) : kindR t h i = -2 := by
  unfold kindR
  rw [if_pos hh, e]
theorem kindR_at {t : Sz13.St} {h : Nat} {i : Int} {f : Field} (hh : t.has h = true) (e : Sz13.field t h i = some f) : kindR t h i = fK f := by
  unfold kindR
  rw [if_pos hh, e]
theorem fK_nonneg (f : Field) : 0 ≤ fK f := by
  cases f with
  | nothing => exact Int.le_refl 0
  | number z => show (0 : Int) ≤ 1; decide
  | cell h => show (0 : Int) ≤ 2; decide
def spKind (K : PySem.W.Frag) (C : Addr) : Sp := fun vs H Q _ => ∃ (p : Addr) (h i : Int) (t : Sz13.St) (own : List Addr), vs = [.ref p, .int h, .int i] ∧ 0 ≤ h ∧ StAt K C H p t own ∧ Tid t ∧ Q (.int (kindR t h.toNat i)) H
theorem scKi : FnScope ["self", "h", "i"] ["self", "h", "i"] (defScope sKind) := ⟨rfl, rfl, rfl, by decide +kernel, rfl, by decide +kernel, by decide +kernel⟩
/-- a handle that is there: its row -/
theorem row_of {T : List Rw} {h : Int} (h0 : 0 ≤ h) (q : h.toNat ∈ hs T) : ∃ e ∈ T, h = (e.1 : Int) := by
  obtain ⟨e, he, ee⟩ := List.mem_map.mp q
  have ee' : e.1 = h.toNat := ee
  exact ⟨e, he, by omega⟩
theorem dget_row {H : Hp} {d : Addr} {T : List Rw} {e : Rw} (hd : H d = some (.dK (rows T))) (hn : (hs T).Nodup) (he : e ∈ T) : DGet H d (.int (e.1 : Int)) (some (.ref e.2.1)) := by
  have hg := DGet.k (k := Sum.inl (e.1 : Int)) hd
  rw [valV_rows hn he] at hg
  exact hg
theorem get_row {T : List Rw} {c : Cells} (hn : (hs T).Nodup) (hpm : (cof T).Perm c) {e : Rw} (he : e ∈ T) : c.get e.1 = some e.2.2 := by
  rw [← get_perm hpm (by rw [keys_cof]; exact hn)]
  exact get_cof hn he
theorem ok_kind {f C an : Addr} {fd : FuncData} (F : Fun K "kind" "Store.kind" sKind f fd) (T : Txt K mg C an) : FnOk P w K mg base CX0 1 f fd ["self", "h", "i"] (spKind K C) := by
  refine F.ok scKi (fun vs H Q E h => ?_) (fun cdv A outer s H vs Q E hr h => ?_)
  · obtain ⟨p, h, i, t, own, rfl, _⟩ := h
    rfl
  · obtain ⟨p, h, i, t, own, rfl, h0, st, Td, k⟩ := h
    have hu := hu_of hr
    refine ⟨_, pss_cons (ps_if (pt_cmp (pc_dnotin hu (pv 1) (pe_fld (pv 0) rfl))) (pss_one (ps_ret (pe_gi T.gNot (by rfl)))) pss_nil)
      (pss_cons (ps_if (PW.pt (pw_or (pt_cmpR op_lt (pv 2) pe_int (nomark _)) (pw_or1 (pt_cmpR op_ge (pv 2) (pe_callB (call_lenK K) (by rfl) T.bLen PySem.boot_len (pa_cons (pe_dget hu (pe_fld (pv 0) rfl) (pv 1) (fun _ _ => rfl)) pa_nil)) (nomark _))))) (pss_one (ps_ret (pe_gi T.gOut (by rfl)))) pss_nil)
      (pss_one (ps_ret (pe_ix ix_tup (pe_ix ix_list (pe_dget hu (pe_fld (pv 0) rfl) (pv 1) (fun _ _ => rfl)) (pv 2) (fun _ _ => rfl)) pe_int (fun _ _ => rfl))))), ?_⟩
    obtain ⟨dx, d, rl, Tb, rfl, hp, hd, hrl, hra, hT, hpm⟩ := st
    refine ⟨_, rfl, _, rfl, p, C, dx, _, _, rfl, hp, T.cl, T.nC, sf_cells, d, _, rfl, DGet.k (k := Sum.inl h) hd, _, rfl, ?_⟩
    rw [valV_rows_isSome hT.nk h0]
    by_cases qh : h.toNat ∈ hs Tb
    · refine ifF (by rw [decide_eq_true qh]; rfl) ?_
      have hhas : t.has h.toNat = true := by rw [Td.has, ← hs_iff hpm]; exact qh
      obtain ⟨e, he, rfl⟩ := row_of h0 qh
      rw [Int.toNat_natCast] at k hhas
      have hx := get_row hT.nk hpm he
      obtain ⟨vs, hvs, hpr⟩ := hT.at_ e he
      have hg := dget_row hd hT.nk he
      have hvl : vs.length = e.2.2.length := Paired.length hpr
      refine next_of ?_
      dsimp only
      refine seq_if ?_
      refine or_by (a := decide (i < 0)) (b := decide ((vs.length : Int) ≤ i)) (fun Q' z => ⟨_, rfl, _, _, rfl, rfl, _, rfl, z⟩) (fun _ Q' z => ⟨_, rfl, _, rfl, p, C, dx, _, _, rfl, hp, T.cl, T.nC, sf_cells, _, rfl, d, V.ref e.2.1, rfl, hg, e.2.1, vs, rfl, .inl (SqL.of hvs), _, _, rfl, rfl, _, rfl, z⟩) ?_
      by_cases q2 : i < 0 ∨ (vs.length : Int) ≤ i
      · refine ifT (by simpa using q2) ?_
        rw [kindR_out hhas (field_none hx (by rw [← hvl]; exact q2))] at k
        exact k
      refine ifF (by simpa using q2) ?_
      have hi0 : 0 ≤ i := by omega
      have hil : i.toNat < vs.length := by omega
      have hvi : vs[i.toNat]? = some vs[i.toNat] := List.getElem?_eq_getElem hil
      obtain ⟨go, hgo, b, hb1, hb2⟩ := paired_at hpr hvi
      rw [hb1] at hvi
      rw [kindR_at hhas (by rw [field_at hx hi0]; exact hgo)] at k
      exact ⟨_, rfl, p, C, dx, _, _, rfl, hp, T.cl, T.nC, sf_cells, _, rfl, d, V.ref e.2.1, rfl, hg, _, rfl, e.2.1, vs, i, V.ref b, rfl, rfl, SqL.of hvs, atI_of hi0 hvi, b, _, 0, V.int (fK go), rfl, rfl, hb2, rfl, k⟩
    · refine ifT (by rw [decide_eq_false qh]; rfl) ?_
      rw [kindR_no (by rw [Td.has, ← hs_iff hpm]; exact qh)] at k
      exact k
structure Kd (P : Program) (w : World) (K : PySem.W.Frag) (mg : Str → Option Value) (base : Heap) (C : Addr) (fS : Addr) (fdS : FuncData) : Prop where
  ok : FnOk P w K mg base CX0 1 fS fdS ["self", "h", "i"] (spKind K C)
  b : Binds K fdS ["self", "h", "i"] []
  m : Meth K C "kind" fS
theorem no_kind : ¬ ("cells" : Str) = "kind" ∧ ¬ ("roots" : Str) = "kind" ∧ ¬ ("last" : Str) = "kind" ∧ ¬ ("newest" : Str) = "kind" := by decide +kernel
theorem scPt : FnScope ["self", "h", "i", "field", "former"] ["self", "h", "i", "field"] (defScope sPut) := ⟨rfl, rfl, rfl, by decide +kernel, rfl, by decide +kernel, by decide +kernel⟩
theorem ok_put {f C an fS fK' : Addr} {fd fdS fdK : FuncData} (F : Fun K "put" "Store.put" sPut f fd) (T : Txt K mg C an) (S : Sw P w K mg base C fS fdS) (KD : Kd P w K mg base C fK' fdK) : FnOk P w K mg base CX0 3 f fd ["self", "h", "i", "field"] (spPut K C) := by
  refine F.ok scPt (fun vs H Q E h => ?_) (fun cdv A outer s H vs Q E hr h => ?_)
  · obtain ⟨p, h, i, v, f, t, own, rfl, _⟩ := h
    rfl
  · obtain ⟨p, h, i, v, f, t, own, rfl, h0, hf, st, Td, hfk, k⟩ := h
    have hu := hu_of hr
    have hr1 : Room 1 _ := hr.mono (by decide)
    refine ⟨_, pss_cons (ps_set (i := 4) scPt.nd rfl (Or.inl rfl) (pe_meth (pv 0) T.cl KD.m KD.ok hr1 KD.b .nil pass0 (pa_cons (pv 1) (pa_cons (pv 2) pa_nil))))
      (pss_cons (ps_if (pt_cmpR op_lt (pv 4) pe_int (nomark _)) (pss_one (ps_ret (pv 4))) pss_nil)
      (pss_cons (ps_asg (pv 3) (pg_sub (pe_dget hu (pe_fld (pv 0) rfl) (pv 1) (fun _ _ => rfl)) (pv 2) set_list))
      (pss_cons (ps_if (pt_cmpR op_eq (pv 4) (pe_gi T.gHC (by rfl)) (nomark _)) (pss_one (ps_expr (pe_meth0 (pv 0) T.cl S.m S.ok hr S.b .nil pass0))) pss_nil)
      (pss_one (ps_ret (pe_gi T.gDone (by rfl))))))), ?_⟩
    have g := Td.good
    have st' := st
    obtain ⟨dx, d, rl, Tb, rfl, hp, hd, hrl, hra, hT, hpm⟩ := st
    have stay : ∀ z : Int, putR t h.toNat i f = (t, z) → Q (.int z) H := fun z e => by
      rw [e, show tidy (t, z).1 = t from Td.self] at k
      exact k H _ st' (Keep.refl _ _)
    refine ⟨_, rfl, p, dx, _, rfl, hp, sf_no no_kind, _, rfl, _, rfl, p, h, i, t, _, rfl, h0, st', Td, ?_⟩
    by_cases qh : h.toNat ∈ hs Tb
    · have hhas : t.has h.toNat = true := by rw [Td.has, ← hs_iff hpm]; exact qh
      obtain ⟨e, he, rfl⟩ := row_of h0 qh
      rw [Int.toNat_natCast] at k hhas stay
      rw [Int.toNat_natCast]
      have hx := get_row hT.nk hpm he
      obtain ⟨vs, hvs, hpr⟩ := hT.at_ e he
      have hg := dget_row hd hT.nk he
      have hvl : vs.length = e.2.2.length := Paired.length hpr
      have er : putR t e.1 i f = putIn t e.1 i f := by unfold putR; rw [if_pos hhas]
      by_cases q2 : i < 0 ∨ (vs.length : Int) ≤ i
      · have hfn := field_none hx (by rw [← hvl]; exact q2)
        rw [kindR_out hhas hfn]
        refine ⟨_, rfl, _, _, rfl, rfl, _, rfl, ?_⟩
        refine ifT (by decide) ?_
        refine ⟨_, rfl, stay (-2) ?_⟩
        rw [er, putIn_none hfn]
      have hi0 : 0 ≤ i := by omega
      have hil : i.toNat < vs.length := by omega
      have hvi : vs[i.toNat]? = some vs[i.toNat] := List.getElem?_eq_getElem hil
      obtain ⟨go, hgo, b, hb1, hb2⟩ := paired_at hpr hvi
      rw [hb1] at hvi
      have hfs : Sz13.field t e.1 i = some go := by rw [field_at hx hi0]; exact hgo
      rw [kindR_at hhas hfs]
      refine ⟨_, rfl, _, _, rfl, rfl, _, rfl, ?_⟩
      refine ifF (decide_eq_false (by have := fK_nonneg go; omega)) ?_
      refine ⟨_, rfl, _, rfl, p, C, dx, _, _, rfl, hp, T.cl, T.nC, sf_cells, _, rfl, d, V.ref e.2.1, rfl, hg, _, rfl, e.2.1, vs, i, i.toNat, rfl, rfl, hvs, ixN_of hi0 (by omega), ?_⟩
      have er2 : putR t e.1 i f = (t.put e.1 i.toNat f, 0) := by rw [er, putIn_some hfs]
      have g1 : Good (t.put e.1 i.toNat f) := by
        have := good_putIn g e.1 i (f := f) hfk
        rw [← er, er2] at this
        exact this
      have heads : e.2.1 ∈ ads Tb := List.mem_map.mpr ⟨e, he, rfl⟩
      have nre : rl ≠ e.2.1 := fun z => hra (by rw [z]; exact heads)
      have st1 : StAt K C (upd H e.2.1 (.lst (vs.set i.toNat v))) p (t.put e.1 i.toNat f) (p :: d :: rl :: ads Tb) := by
        refine ⟨dx, d, rl, putT Tb e.1 i.toNat f, by rw [ads_putT], same_upd hp (ne_of hp hvs (by intro z; cases z)), ?_, same_upd hrl nre, by rw [ads_putT]; exact hra, hT.putT he hvs hpr hf, ?_⟩
        · rw [rows_putT]
          exact same_upd hd (ne_of hd hvs (by intro z; cases z))
        · rw [cof_putT]
          exact hpm.map _
      have kp1 : Keep H (p :: d :: rl :: ads Tb) (upd H e.2.1 (.lst (vs.set i.toNat v))) (p :: d :: rl :: ads Tb) := keep_upd (List.mem_cons_of_mem _ (List.mem_cons_of_mem _ (List.mem_cons_of_mem _ heads)))
      rw [er2] at k
      have hroom : sumU (t.put e.1 i.toNat f).cells ≤ 65536 := by
        show sumU (putC t.cells e.1 i.toNat f) ≤ 65536
        rw [sumU_putC]
        exact Td.room
      refine ⟨_, rfl, rfl, _, rfl, ?_⟩
      by_cases qc : ∃ j, go = .cell j
      · obtain ⟨j, rfl⟩ := qc
        refine ifT (by show decide (V.int 2 = V.int 2) = true; decide) ?_
        refine ⟨_, rfl, p, dx, _, rfl, same_upd hp (ne_of hp hvs (by intro z; cases z)), sf_no no_sweep, p, _, _, rfl, st1, g1, hroom, fun H2 own2 st2 kp2 => ?_⟩
        exact k H2 own2 st2 (kp1.trans kp2)
      · refine ifF ?_ ?_
        · cases go with
          | nothing => rfl
          | number z => show decide (V.int 1 = V.int 2) = false; decide
          | cell j => exact absurd ⟨j, rfl⟩ qc
        · refine k _ _ ?_ kp1
          show StAt K C _ p (tidy (t.put e.1 i.toNat f)) _
          rw [tidy_put Td hx hgo (fun j z => qc ⟨j, z⟩)]
          exact st1
    · have hno : ¬ t.has h.toNat = true := by rw [Td.has, ← hs_iff hpm]; exact qh
      rw [kindR_no hno]
      refine ⟨_, rfl, _, _, rfl, rfl, _, rfl, ?_⟩
      refine ifT (by decide) ?_
      refine ⟨_, rfl, stay (-1) ?_⟩
      unfold putR
      rw [if_neg hno]
end
end Rc

end
section
set_option Elab.async false
set_option linter.all false
set_option maxRecDepth 100000
set_option maxHeartbeats 2000000
namespace Rc
open PySem PySem.Spec PyProof.Rows L2
open Sz13 (Field Cell Cells Led refs kept does done made putIn)
theorem putR_number (t : Sz13.St) (h : Nat) (i z : Int) : does t (.setNumber h i z) = putR t h i (.number z) := by
  unfold Sz13.does putR
  show (if ([h].all t.has) = true then _ else _) = _
  rw [List.all_cons, List.all_nil, Bool.and_true]
  rfl
theorem putR_unset (t : Sz13.St) (h : Nat) (i : Int) : does t (.unset h i) = putR t h i .nothing := by
  unfold Sz13.does putR
  show (if ([h].all t.has) = true then _ else _) = _
  rw [List.all_cons, List.all_nil, Bool.and_true]
  rfl
theorem putR_cell0 (t : Sz13.St) (h : Nat) (i : Int) : does t (.setCell h i 0) = putR t h i .nothing := by
  unfold Sz13.does putR
  show (if ([h].all t.has) = true then _ else _) = _
  rw [List.all_cons, List.all_nil, Bool.and_true]
  rfl
theorem putR_cell {t : Sz13.St} {h k : Nat} {i : Int} (hk : k ≠ 0) (hh : t.has k = true) : does t (.setCell h i k) = putR t h i (.cell k) := by
  unfold Sz13.does putR
  have e : (Sz13.Call.setCell h i k).needs = [h, k] := by
    show h :: [k].filter (fun x => x != 0) = [h, k]
    rw [List.filter_cons, if_pos (by simpa using hk)]
    rfl
  rw [e, List.all_cons, List.all_cons, List.all_nil, hh, Bool.and_true, Bool.and_true]
  show (if t.has h = true then putIn t h i (if k = 0 then .nothing else .cell k) else (t, -1)) = _
  rw [if_neg hk]
theorem putR_cell_no {t : Sz13.St} {h k : Nat} {i : Int} (hk : k ≠ 0) (hh : ¬ t.has k = true) : does t (.setCell h i k) = (t, -1) := by
  refine does_no (x := k) ?_ hh
  show k ∈ h :: [k].filter (fun x => x != 0)
  rw [List.filter_cons, if_pos (by simpa using hk)]
  simp
section
variable {P : Program} {w : World} {K : PySem.W.Frag} {mg : Str → Option Value} {base : Heap}
structure Pt (P : Program) (w : World) (K : PySem.W.Frag) (mg : Str → Option Value) (base : Heap) (C : Addr) (fP : Addr) (fdP : FuncData) : Prop where
  ok : FnOk P w K mg base CX0 3 fP fdP ["self", "h", "i", "field"] (spPut K C)
  b : Binds K fdP ["self", "h", "i", "field"] []
  m : Meth K C "put" fP
theorem no_put : ¬ ("cells" : Str) = "put" ∧ ¬ ("roots" : Str) = "put" ∧ ¬ ("last" : Str) = "put" ∧ ¬ ("newest" : Str) = "put" := by decide +kernel
theorem StAt.at_ {C : Addr} {H : Hp} {p : Addr} {t : Sz13.St} {own : List Addr} (st : StAt K C H p t own) : ∃ dx d rl l n, H p = some (.ins C dx (sf d rl l n)) := by
  obtain ⟨dx, d, rl, Tb, rfl, hp, _⟩ := st
  exact ⟨dx, d, rl, _, _, hp⟩
/-! ### unset -/
def spUnset (K : PySem.W.Frag) (C : Addr) : Sp := fun vs H Q _ => ∃ (p : Addr) (h i : Int), vs = [.ref p, .int h, .int i] ∧ 0 ≤ h ∧ Ans K C H p (.unset h.toNat i) Q
theorem scUn : FnScope ["self", "h", "i"] ["self", "h", "i"] (defScope sUnset) := ⟨rfl, rfl, rfl, by decide +kernel, rfl, by decide +kernel, by decide +kernel⟩
theorem ok_unset {f C an fP : Addr} {fd fdP : FuncData} (F : Fun K "unset" "Store.unset" sUnset f fd) (T : Txt K mg C an) (S : Pt P w K mg base C fP fdP) : FnOk P w K mg base CX0 4 f fd ["self", "h", "i"] (spUnset K C) := by
  refine F.ok scUn (fun vs H Q E h => ?_) (fun cdv A outer s H vs Q E hr h => ?_)
  · obtain ⟨p, h, i, rfl, _⟩ := h
    rfl
  · obtain ⟨p, h, i, rfl, h0, t, own, st, Td, k⟩ := h
    refine ⟨_, pss_one (ps_ret (pe_meth (pv 0) T.cl S.m S.ok hr S.b .nil pass0 (pa_cons (pv 1) (pa_cons (pv 2) (pa_cons (pe_glob (v := .ref an) (by rfl) T.gNil rfl) pa_nil))))), ?_⟩
    obtain ⟨dx, d, rl, l, n, hp⟩ := st.at_
    refine ⟨_, rfl, p, dx, _, rfl, hp, sf_no no_put, _, rfl, _, rfl, p, h, i, _, .nothing, t, own, rfl, h0, ⟨an, rfl, T.nil H⟩, st, Td, fun k z => (nomatch z), ?_⟩
    rw [putR_unset] at k
    exact k
/-! ### number -/
def spNumber (K : PySem.W.Frag) (C : Addr) : Sp := fun vs H Q _ => ∃ (p : Addr) (h i z : Int), vs = [.ref p, .int h, .int i, .int z] ∧ 0 ≤ h ∧ Ans K C H p (.setNumber h.toNat i z) Q
theorem scNu : FnScope ["self", "h", "i", "z"] ["self", "h", "i", "z"] (defScope sNumber) := ⟨rfl, rfl, rfl, by decide +kernel, rfl, by decide +kernel, by decide +kernel⟩
theorem ok_number {f C an fP : Addr} {fd fdP : FuncData} (F : Fun K "number" "Store.number" sNumber f fd) (T : Txt K mg C an) (S : Pt P w K mg base C fP fdP) : FnOk P w K mg base CX0 4 f fd ["self", "h", "i", "z"] (spNumber K C) := by
  refine F.ok scNu (fun vs H Q E h => ?_) (fun cdv A outer s H vs Q E hr h => ?_)
  · obtain ⟨p, h, i, z, rfl, _⟩ := h
    rfl
  · obtain ⟨p, h, i, z, rfl, h0, t, own, st, Td, k⟩ := h
    refine ⟨_, pss_one (ps_ret (pe_meth (pv 0) T.cl S.m S.ok hr S.b .nil pass0 (pa_cons (pv 1) (pa_cons (pv 2) (pa_cons (pe_tup (pa_cons (pe_gi T.gHN (by rfl)) (pa_cons (pv 3) pa_nil))) pa_nil))))), ?_⟩
    obtain ⟨dx, d, rl, l, n, hp⟩ := st.at_
    refine ⟨_, rfl, p, dx, _, rfl, hp, sf_no no_put, _, rfl, _, rfl, _, rfl, by show 2 ≤ sizeLine; decide, fun q hq => ?_⟩
    refine ⟨p, h, i, _, .number z, t, own, rfl, h0, ⟨q, rfl, SqT.of upd_same⟩, st.keep (same_new hq), Td, fun k z => (nomatch z), fun H' own' st' kp => ?_⟩
    rw [putR_number] at k
    exact k H' own' st' ((Keep.same (same_new hq)).trans kp)
/-! ### cell -/
def spCell (K : PySem.W.Frag) (C : Addr) : Sp := fun vs H Q _ => ∃ (p : Addr) (h i k : Int), vs = [.ref p, .int h, .int i, .int k] ∧ 0 ≤ h ∧ 0 ≤ k ∧ Ans K C H p (.setCell h.toNat i k.toNat) Q
theorem scCe : FnScope ["self", "h", "i", "k"] ["self", "h", "i", "k"] (defScope sCell) := ⟨rfl, rfl, rfl, by decide +kernel, rfl, by decide +kernel, by decide +kernel⟩
theorem ok_cell {f C an fP : Addr} {fd fdP : FuncData} (F : Fun K "cell" "Store.cell" sCell f fd) (T : Txt K mg C an) (S : Pt P w K mg base C fP fdP) : FnOk P w K mg base CX0 4 f fd ["self", "h", "i", "k"] (spCell K C) := by
  refine F.ok scCe (fun vs H Q E h => ?_) (fun cdv A outer s H vs Q E hr h => ?_)
  · obtain ⟨p, h, i, k, rfl, _⟩ := h
    rfl
  · obtain ⟨p, h, i, kk, rfl, h0, k0, t, own, st, Td, k⟩ := h
    have hu := hu_of hr
    refine ⟨_, pss_cons (ps_if (pt_cmpR op_eq (pv 3) pe_int (nomark _)) (pss_one (ps_ret (pe_meth (pv 0) T.cl S.m S.ok hr S.b .nil pass0 (pa_cons (pv 1) (pa_cons (pv 2) (pa_cons (pe_glob (v := .ref an) (by rfl) T.gNil rfl) pa_nil)))))) pss_nil)
      (pss_cons (ps_if (pt_cmp (pc_dnotin hu (pv 3) (pe_fld (pv 0) rfl))) (pss_one (ps_ret (pe_gi T.gNot (by rfl)))) pss_nil)
      (pss_one (ps_ret (pe_meth (pv 0) T.cl S.m S.ok hr S.b .nil pass0 (pa_cons (pv 1) (pa_cons (pv 2) (pa_cons (pe_tup (pa_cons (pe_gi T.gHC (by rfl)) (pa_cons (pv 3) pa_nil))) pa_nil))))))), ?_⟩
    have st' := st
    obtain ⟨dx, d, rl, Tb, rfl, hp, hd, hrl, hra, hT, hpm⟩ := st
    refine ⟨_, rfl, rfl, _, rfl, ?_⟩
    by_cases q : kk = 0
    · subst q
      refine ifT (by decide) ?_
      refine ⟨_, rfl, p, dx, _, rfl, hp, sf_no no_put, _, rfl, _, rfl, p, h, i, _, .nothing, t, _, rfl, h0, ⟨an, rfl, T.nil H⟩, st', Td, fun k z => (nomatch z), ?_⟩
      rw [show (0 : Int).toNat = 0 from rfl, putR_cell0] at k
      exact k
    · refine ifF (decide_eq_false (fun z => q (by injection z))) ?_
      have hk0 : kk.toNat ≠ 0 := by omega
      refine ⟨_, rfl, _, rfl, p, C, dx, _, _, rfl, hp, T.cl, T.nC, sf_cells, d, _, rfl, DGet.k (k := Sum.inl kk) hd, _, rfl, ?_⟩
      rw [valV_rows_isSome hT.nk k0]
      by_cases qk : kk.toNat ∈ hs Tb
      · refine ifF (by rw [decide_eq_true qk]; rfl) ?_
        have hin : kk.toNat ∈ keys t.cells := (hs_iff hpm _).mp qk
        refine ⟨_, rfl, p, dx, _, rfl, hp, sf_no no_put, _, rfl, _, rfl, _, rfl, by show 2 ≤ sizeLine; decide, fun a ha => ?_⟩
        have e1 : (kk : Int) = fV (.cell kk.toNat) := by show kk = ((kk.toNat : Nat) : Int); omega
        refine ⟨p, h, i, _, .cell kk.toNat, t, _, rfl, h0, ⟨a, rfl, SqT.of (by rw [← e1]; exact upd_same)⟩, st'.keep (same_new ha), Td, fun j z => by cases z; exact hin, fun H' own' st2 kp => ?_⟩
        rw [putR_cell hk0 ((Td.has _).mpr hin)] at k
        exact k H' own' st2 ((Keep.same (same_new ha)).trans kp)
      · refine ifT (by rw [decide_eq_false qk]; rfl) ?_
        refine ans_stay (putR_cell_no hk0 (by rw [Td.has, ← hs_iff hpm]; exact qk)) st' Td k
/-! ### a new store -/
def spInit (K : PySem.W.Frag) (C : Addr) : Sp := fun vs H Q _ => ∃ (p dx : Addr), vs = [.ref p] ∧ H p = some (.ins C dx []) ∧ ∀ (H' : Hp) (own' : List Addr), StAt K C H' p Sz13.fresh own' → Keep H [p] H' own' → Q .non H'
theorem scIn : FnScope ["self"] ["self"] (defScope sInit) := ⟨rfl, rfl, rfl, by decide +kernel, rfl, by decide +kernel, by decide +kernel⟩
theorem ok_init {f C an fC : Addr} {fd fdC : FuncData} (F : Fun K "__init__" "Store.__init__" sInit f fd) (T : Txt K mg C an) (FC : Fun K "clear" "Store.clear" sClear fC fdC) (bC : Binds K fdC ["self"] []) (mC : Meth K C "clear" fC) : FnOk P w K mg base CX0 2 f fd ["self"] (spInit K C) := by
  have GC : FnOk P w K mg base CX0 1 fC fdC ["self"] (spClear K C) := ok_clear FC T
  refine F.ok scIn (fun vs H Q E h => ?_) (fun cdv A outer s H vs Q E hr h => ?_)
  · obtain ⟨p, dx, rfl, _⟩ := h
    rfl
  · obtain ⟨p, dx, rfl, hp, k⟩ := h
    refine ⟨_, pss_one (ps_expr (pe_meth0 (pv 0) T.cl mC GC hr bC .nil pass0)), ?_⟩
    refine ⟨_, rfl, p, dx, _, rfl, hp, rfl, p, dx, _, rfl, hp, .inl rfl, fun H' own' st kp => ?_⟩
    exact k H' own' st kp
end
end Rc

end
section
set_option Elab.async false
set_option linter.all false
set_option maxRecDepth 100000
set_option maxHeartbeats 2000000
namespace Rc
open PySem PySem.Spec PyProof.Rows L2
open Sz13 (Field Cell Cells Led refs kept does done made putIn)
/-! ### a dict of the file's top, its keys whole numbers -/
def MD (K : PySem.W.Frag) (a : Addr) (z : Int) (v : V) : Prop := ∃ (es : Array DictEntry) (n : Nat) (u : Value), K.lookup a = some ⟨.type "dict", none, .dict es n, #[]⟩ ∧ (∀ e ∈ es, ∃ z t, e.key = .int z t ∧ e.hash = hashInt z) ∧
  findBy Value.isInt es z = some u ∧ RelV v u
def tDGetM (K : PySem.W.Frag) (td ty : TE) : TE := fun σ H Q => td σ H fun x H1 => ty σ H1 fun y H2 => ∃ a z v, x = .ref a ∧ y = .int z ∧ MD K a z v ∧ Q v H2
theorem pe_dgetM {X : Cx} {o i : Expr} {pos : Pos} {td ty : TE} (ho : PE X o td) (hi : PE X i ty) (hs : NoSl i) : PE X (.Subscript o i pos) (tDGetM X.K td ty) := by
  intro pins s σ H Q I h
  refine subD_of PySem.F.slot_dict_getitem.lookup hs (thn (ho pins s σ H _ I h) fun u s1 ⟨x, H1, I1, rx, q1⟩ => thn (hi pins s1 σ H1 _ I1 q1) fun iv s2 ⟨y, H2, I2, ry, a, z, v, ex, ey, ⟨es, n, w', hl, hk, hf, rw'⟩, q2⟩ => ?_)
  subst ex ey
  obtain rfl : u = Value.ref a := rx
  obtain ⟨t, rfl⟩ : ∃ t, iv = Value.int z t := ry
  have hm : s2.heap.MapOf (PySem.intKind X.prog X.w) a (fun k => findBy Value.isInt es k) := ⟨_, es, n, I2.kIn _ _ hl, ⟨rfl, rfl, rfl⟩, rfl, fun e he => by
    obtain ⟨z', t', e1, e2⟩ := hk e he
    exact ⟨z', by rw [e1]; exact PySem.intKind_is X.prog X.w z' t', e2⟩, fun _ => rfl⟩
  exact ⟨hm.typeIs, wpAny_getItem_of (PySem.intKind_is X.prog X.w z t) hm hf ⟨v, H2, I2.tok _, rw', q2⟩⟩
theorem SqL.stay {K : PySem.W.Frag} {H H' : Hp} {a : Addr} {xs : List V} (e : ∀ o, H a = some o → H' a = some o) (h : SqL K H a xs) : SqL K H' a xs := by
  rcases h with (h | ⟨o, h⟩) | h
  · exact .inl (.inl (e _ h))
  · exact .inl (.inr ⟨o, e _ h⟩)
  · exact .inr h
theorem cut_args {ns : List Int} {i n : Nat} (h : i + 1 + n ≤ ns.length) : cutV (ns.map V.int) (some ((i : Int) + 1)) (some ((i : Int) + 1 + (n : Int))) = ((ns.drop (i + 1)).take n).map V.int := by
  unfold cutV
  rw [List.length_map]
  have e1 : HT.sIx ns.length 0 (some ((i : Int) + 1)) = i + 1 := by
    unfold HT.sIx
    simp only
    rw [if_neg (by omega)]
    have : ((i : Int) + 1).toNat = i + 1 := by omega
    rw [this]
    omega
  have e2 : HT.sIx ns.length ns.length (some ((i : Int) + 1 + (n : Int))) = i + 1 + n := by
    unfold HT.sIx
    simp only
    rw [if_neg (by omega)]
    have : ((i : Int) + 1 + (n : Int)).toNat = i + 1 + n := by omega
    rw [this]
    omega
  rw [e1, e2, List.map_take, List.map_drop]
  congr 1
  omega
section
variable {P : Program} {w : World} {K : PySem.W.Frag} {mg : Str → Option Value} {base : Heap}
theorem StAt.out {C : Addr} {H : Hp} {p q : Addr} {t : Sz13.St} {own : List Addr} {u o : HO} (st : StAt K C H p t own) (hq : H q = some u) (hu : noTup u = true) (hn : q ∉ own) : StAt K C (upd H q o) p t own := by
  obtain ⟨dx, d, rl, T, rfl, hp, hd, hrl, hra, hT, hpm⟩ := st
  simp only [List.mem_cons, not_or] at hn
  exact ⟨dx, d, rl, T, rfl, same_upd hp (fun z => hn.1 z.symm), same_upd hd (fun z => hn.2.1 z.symm), same_upd hrl (fun z => hn.2.2.1 z.symm), hra, hT.upd hq hu hn.2.2.2, hpm⟩
/-! ### answers -/
def spAnswer (K : PySem.W.Frag) (C : Addr) : Sp := fun vs H Q _ => ∃ (p g : Addr) (z : Int) (as : List Int) (c : Sz13.Call), vs = [.ref p, .int z, .ref g] ∧ SqL K H g (as.map V.int) ∧ Is z as c ∧ Ans K C H p c Q
def spAns (K : PySem.W.Frag) : Sp := fun vs H Q _ => ∃ (a : Addr) (ns : List Int), vs = [.ref a] ∧ SqL K H a (ns.map V.int) ∧ PySz13.answers_asked ns = true ∧ ns.length ≤ 16000 ∧
  ∀ (H' : Hp) (q : Addr), H' q = some (.lst ((PySz13.answers ns).map V.int)) → Q (.ref q) H'
theorem scAs : FnScope ["calls", "store", "said", "at", "behind"] ["calls"] (defScope sAnswers) := ⟨rfl, rfl, rfl, by decide +kernel, rfl, by decide +kernel, by decide +kernel⟩
theorem ok_answers {f C an fA fI aS : Addr} {fd fdA fdI : FuncData} (F : Fun K "answers" "answers" sAnswers f fd) (T : Txt K mg C an) (M : Mk K C fI) (GI : FnOk P w K mg base CX0 2 fI fdI ["self"] (spInit K C)) (bI : Binds K fdI ["self"] [])
    (FA : Fun K "answer" "answer" sAnswer fA fdA) (GA : FnOk P w K mg base CX0 5 fA fdA ["store", "call", "given"] (spAnswer K C)) (mA : mg "answer" = some (.ref fA)) (bA : Binds K fdA ["store", "call", "given"] [])
    (mS : mg "SIZES" = some (.ref aS)) (hS : ∀ z as c, Is z as c → MD K aS z (.int (sz z : Nat))) : FnOk P w K mg base CX0 6 f fd ["calls"] (spAns K) := by
  refine F.ok scAs (fun vs H Q E h => ?_) (fun cdv A outer s H vs Q E hr h => ?_)
  · obtain ⟨a, ns, rfl, _⟩ := h
    rfl
  · obtain ⟨a, ns, rfl, hL, hask, hlen, k⟩ := h
    have hr3 : Room 3 _ := hr.mono (by decide)
    have hr5 : Room 5 _ := hr.mono (by decide)
    refine ⟨_, pss_cons (ps_set (i := 1) scAs.nd rfl (Or.inl rfl) (pe_make0 M GI hr3 rfl T.mgC bI .nil pass0))
      (pss_cons (ps_set (i := 2) scAs.nd rfl (Or.inl rfl) (pe_lst pa_nil))
      (pss_cons (ps_set (i := 3) scAs.nd rfl (Or.inl rfl) pe_int)
      (pss_cons (ps_while PassesOwn.never (pt_cmpR op_lt (pv 3) (pe_callB (call_lenK K) (by rfl) T.bLen PySem.boot_len (pa_cons (pv 0) pa_nil)) (nomark _))
        (pss_cons (ps_set (i := 4) scAs.nd rfl (Or.inl rfl) (pe_op op_add (pe_op op_add (pv 3) pe_int) (pe_dgetM (pe_glob (v := .ref aS) (by rfl) mS rfl) (pe_ix ix_list (pv 0) (pv 3) (fun _ _ => rfl)) (fun _ _ => rfl))))
        (pss_cons (ps_expr (pe_bm PySem.F.plainAttrs_list PySem.F.slot_list_append PySem.F.type_list_append mt_append (pv 2) (pa_cons pe_int pa_nil)))
        (pss_cons (ps_expr (pe_bm PySem.F.plainAttrs_list PySem.F.slot_list_append PySem.F.type_list_append mt_append (pv 2) (pa_cons
          (pe_call GA hr5 rfl mA FA.kp bA .nil pass0 (pa_cons (pv 1) (pa_cons (pe_ix ix_list (pv 0) (pv 3) (fun _ _ => rfl)) (pa_cons (pe_slice sl_list (pv 0) (po_some (pe_op op_add (pv 3) pe_int)) (po_some (pv 4))) pa_nil)))) pa_nil)))
        (pss_one (ps_set (i := 3) scAs.nd rfl (Or.inl rfl) (pv 4))))))
      ) (pss_one (ps_ret (pv 2)))))), ?_⟩
    -- store = Store()
    intro p dx np ndx nex
    refine ⟨p, dx, rfl, upd_same, fun H1 own1 st1 kp1 => ⟨rfl, ?_⟩⟩
    have keepA : ∀ o, H a = some o → H1 a = some o ∧ a ∉ own1 := fun o e => by
      refine kp1 a o ?_ ?_
      · rw [upd_ne (ne_of_none e np), upd_ne (ne_of_none e ndx)]
        exact e
      · intro z
        exact ne_of_none e np (List.mem_singleton.mp z)
    -- said = []
    refine ⟨Nat.zero_le _, fun q hq => ?_⟩
    have nq : q ∉ own1 := fun z => by
      obtain ⟨dx1, d1, rl1, T1, rfl, hp1, hd1, hrl1, hra1, hT1, hpm1⟩ := st1
      rcases List.mem_cons.mp z with z | z
      · rw [z, hp1] at hq; cases hq
      rcases List.mem_cons.mp z with z | z
      · rw [z, hd1] at hq; cases hq
      rcases List.mem_cons.mp z with z | z
      · rw [z, hrl1] at hq; cases hq
      · obtain ⟨e, he, ee⟩ := List.mem_map.mp z
        obtain ⟨vs, hvs, _⟩ := hT1.at_ e he
        have ee' : e.2.1 = q := ee
        rw [ee', hq] at hvs
        cases hvs
    refine ⟨fun m σ H' => ∃ (i : Nat) (t : Sz13.St) (own : List Addr) (out : List Int) (bv : Option V), σ = [some (.ref a), some (.ref p), some (.ref q), some (.int (i : Int)), bv] ∧ (∀ o, H a = some o → H' a = some o ∧ a ∉ own) ∧ StAt K C H' p t own ∧
      H' q = some (.lst (out.map V.int)) ∧ q ∉ own ∧ H q = none ∧ At ns t i out ∧ m = ns.length - i, ⟨_, 0, Sz13.fresh, own1, [], none, rfl, ?_, st1.keep (same_new hq), upd_same, nq, ?_, at_start hask, rfl⟩, ?_⟩
    · exact fun o e => ⟨same_new hq _ _ (keepA o e).1, (keepA o e).2⟩
    · cases e : H q with
      | none => rfl
      | some o =>
        have := (kp1 q o (by rw [upd_ne (ne_of_none e np), upd_ne (ne_of_none e ndx)]; exact e) (fun z => ne_of_none e np (List.mem_singleton.mp z))).1
        rw [hq] at this
        cases this
    rintro m σ H' ⟨i, t, own, out, bv, rfl, hA, st, hq', nq', hq0, hAt, rfl⟩
    have hL' : SqL K H' a (ns.map V.int) := Rc.SqL.stay (fun o e => (hA o e).1) hL
    refine ⟨_, rfl, _, rfl, a, _, rfl, .inl hL', _, _, rfl, rfl, _, rfl, ?_⟩
    rw [List.length_map]
    by_cases qi : i < ns.length
    · refine ifT (decide_eq_true (by omega)) ?_
      refine ⟨_, fun σ' H' z => z, ?_⟩
      obtain ⟨z, as, c, hz, has, hasl, hle, hIs, hAt2⟩ := hAt.turn qi
      have hzi : atI (ns.map V.int) (i : Int) = some (V.int z) := atI_of (by omega) (by rw [Int.toNat_natCast, List.getElem?_map, hz]; rfl)
      have hol := hAt.len
      have hsz : (40000 : Nat) ≤ sizeLine := by decide
      refine ⟨_, rfl, _, _, rfl, rfl, _, rfl, _, rfl, a, _, _, V.int z, rfl, rfl, hL', hzi, aS, z, _, rfl, rfl, hS z as c hIs, _, _, rfl, rfl, ?_⟩
      refine ⟨_, rfl, .inl ⟨rfl, _, SqL.of hq'⟩, q, _, _, rfl, rfl, hq', by rw [List.length_map]; omega, ?_⟩
      have sA : ∀ (o : HO) (u : HO), H a = some o → upd H' q u a = some o := fun o u e => by rw [upd_ne (ne_of_none e hq0)]; exact (hA o e).1
      have hL2 : SqL K (upd H' q (.lst (out.map V.int ++ [V.int 1]))) a (ns.map V.int) := Rc.SqL.stay (fun o e => sA o _ e) hL
      refine ⟨_, rfl, .inl ⟨rfl, _, SqL.of upd_same⟩, _, rfl, _, rfl, _, rfl, a, _, _, V.int z, rfl, rfl, hL2, hzi, _, rfl, _, rfl, _, _, rfl, rfl, _, rfl, _, rfl, _, rfl, a, _, rfl, hL2, fun g hg => ?_⟩
      rw [cut_args hle, ← has]
      have ngq : q ≠ g := ne_of_none upd_same hg
      have st2 : StAt K C (upd H' q (.lst (out.map V.int ++ [V.int 1]))) p t own := st.out hq' rfl nq'
      refine ⟨p, g, z, as, c, rfl, SqL.of upd_same, hIs, t, own, st2.keep (same_new hg), hAt.tid, fun H4 own4 st4 kp4 => ?_⟩
      have hq4 := kp4 q _ (same_new hg _ _ upd_same) nq'
      refine ⟨q, _, _, rfl, rfl, hq4.1, by rw [List.length_append, List.length_map, List.length_singleton]; omega, ?_⟩
      refine ⟨_, rfl, ns.length - (i + 1 + sz z), by omega, i + 1 + sz z, _, own4, out ++ [1, (does t c).2], some (V.int ((i : Int) + 1 + (sz z : Int))), ?_, fun o e => ?_, st4.out hq4.1 rfl hq4.2, ?_, hq4.2, hq0, hAt2, rfl⟩
      · rw [show (((i + 1 + sz z : Nat)) : Int) = (i : Int) + 1 + (sz z : Int) by omega]
        rfl
      · have h4 := kp4 a o (same_new hg _ _ (sA o _ e)) (hA o e).2
        exact ⟨by rw [upd_ne (ne_of_none e hq0)]; exact h4.1, h4.2⟩
      · rw [upd_same, List.map_append, List.append_assoc]
        rfl
    · refine ifF (decide_eq_false (by omega)) ?_
      refine ⟨_, rfl, ?_⟩
      refine k H' q ?_
      rw [← hAt.end_ (by omega)]
      exact hq'
end
end Rc

end
section
set_option Elab.async false
set_option linter.all false
set_option maxRecDepth 100000
set_option maxHeartbeats 2000000
namespace Rc
open PySem PySem.Spec PyProof.Rows L2
/-! ### sorted -/
section
variable {prog : Program} {w : World} {A : Around} {E : Value → Shared → Prop} {s : Shared}
/-- sorted(d), the keys whole numbers, however many -/
theorem sorted_dict_raw {κ : Type} [DecidableEq κ] {knd : PySem.KeyKind prog w κ} {d : Addr} {kvs : List (κ × Value)} {ns : List Int} {Q : Value → Shared → Prop} (hh : A.handled = none) (hd : s.heap.DictOf knd d kvs) (lo : (d == sysModules) = false)
    (hI : ∀ l : List Value, l.length = kvs.length → (∀ (j : Nat) (v : Value), l[j]? = some v → ∃ k x, kvs[j]? = some (k, x) ∧ knd.is k v = true) → IntsAre l ns) (hL : kvs.length ≤ sizeLine)
    (h : ∀ (h1 h' : Heap) (tk : Nat) (a : Addr) (out : Array Value) (ns' : List Int) (ep : Nat), (∀ b o, s.heap.get? b = some o → h1.get? b = some o) → (∀ b o, h1.get? b = some o → h'.get? b = some o) → h1.objs.size ≤ a → h'.get? a = some { cls := .type "list", data := .seq out ep } →
      IntsAre out.toList ns' → ns'.Perm ns → ns'.Pairwise (· ≤ ·) → Q (.ref a) { s with heap := h', toks := tk }) :
    wpAny (model prog w) A (call (.builtin "sorted") [.ref d]) Q E s := by
  obtain ⟨ep0, hat⟩ := hd.dictAt
  refine Calls.call_function_entry PyProof.Rows.kind_sorted PyProof.Rows.plain_sorted PyProof.Rows.entry_sorted (PyProof.Rows.args_sorted1 _) ?_
  unfold Builtin.«sorted»
  refine wpAny_bind (m := checkCount "sorted" 1 1 _) (wpAny_pure ?_)
  refine wpAny_bind (PySem.W.kdu_collect (A := A.in1) (PySem.W.kdl_dict (knd := knd) (kvs := kvs) (ep := ep0) lo) hh hat hL fun h1 tk acc hk hacc => ?_)
  have hl : acc.toList.length = kvs.length := by rw [Array.length_toList]; exact hacc.1
  have hi : IntsAre acc.toList ns := hI acc.toList hl fun j v e => hacc.2 j v (by rw [← Array.getElem?_toList]; exact e)
  have hlL : acc.toList.length ≤ sizeLine := by rw [hl]; exact hL
  refine wpAny_bind (wpAny_newList ?_ hlL)
  have hoL : (h1.push (PyProof.Rows.seqObj "list" acc.toList.toArray 0)).get? h1.objs.size = some (PyProof.Rows.seqObj "list" acc.toList.toArray 0) := Heap.get?_push_size _ rfl
  show wpAny _ _ _ _ _ { s with heap := h1.push (PyProof.Rows.seqObj "list" acc.toList.toArray 0), toks := tk }
  refine wpAny_bind (wpAny_holding (wpAny_call_entry PyProof.Rows.slot_list_sort ⟨_, hoL, rfl⟩ PyProof.Rows.entry_list_sort (PyProof.Rows.list_sort_treeAny hoL hi hlL fun out ns' a1 a2 a3 => ⟨_, rfl, ?_⟩) (PyProof.Rows.args_list_sort _)))
  obtain ⟨ep, he⟩ := PyProof.Rows.sortedHeap_at (out := out) hoL
  refine wpAny_pure ⟨_, rfl, ?_⟩
  refine h h1 _ tk h1.objs.size out ns' ep hk (fun b o e1 => ?_) (Nat.le_refl _) he a1 a2 a3
  have hlt := Heap.lt_size e1
  rw [PyProof.Rows.sortedHeap_old (Nat.ne_of_lt hlt) (by rw [size_push']; exact Nat.lt_succ_of_lt hlt), Heap.get?_push_ne _ _ _ (Nat.ne_of_lt hlt)]
  exact e1
end
theorem kv_keys {κ : Type} {kvs : List (κ × V)} {vs : List (κ × Value)} (h : KV kvs vs) : vs.map (·.1) = kvs.map (·.1) := by
  unfold KV at h
  induction h with
  | nil => rfl
  | cons a _ ih => rw [List.map_cons, List.map_cons, ih, a.1]
theorem key_int {k : Key} {v : Value} {n : Int} (e : k = Sum.inl n) (h : keyIs k v = true) : ∃ t, v = Value.int n t := by
  subst e
  rcases keyIs_shape h with ⟨i, t, e1, e2⟩ | ⟨x, t, e1, e2⟩
  · cases e1
    exact ⟨t, e2⟩
  · cases e1
theorem ints_of : ∀ (l : List Value) (ns : List Int), l.length = ns.length → (∀ (j : Nat) (v : Value), l[j]? = some v → ∃ n t, ns[j]? = some n ∧ v = Value.int n t) → IntsAre l ns
  | [], [], _, _ => .nil
  | v :: l, n :: ns, hl, h => by
    obtain ⟨n', t, e1, e2⟩ := h 0 v rfl
    have e3 : n = n' := Option.some.inj e1
    subst e3 e2
    exact .cons n t (ints_of l ns (by simpa using hl) fun j u e => h (j + 1) u e)
section
variable {X : Cx}
/-- sorted(d) of a dict whose keys are ints -/
def rSortedD : List V → Hp → VK → Prop := fun vs H Q => ∃ (d : Addr) (kvs : List (Key × V)) (ns : List Int), vs = [V.ref d] ∧ H d = some (.dK kvs) ∧ kvs.map (·.1) = ns.map Sum.inl ∧
  ∀ (ns' : List Int) (p : Addr), ns'.Perm ns → ns'.Pairwise (· ≤ ·) → H p = none → Q (.ref p) (upd H p (.lst (ns'.map V.int)))
theorem cr_sortedD (hc : X.calm = true) : CallR X (.builtin "sorted") rSortedD := by
  intro pins s σ H vs us Q I r h
  obtain ⟨d, kvs, ns, rfl, hd, hk, q⟩ := h
  rw [Vals.ref1 r]
  obtain ⟨z, lo, vs', rel, dd⟩ := I.hok d _ hd
  have hlen : kvs.length = vs'.length := KV.length rel
  have hnl : ns.length = vs'.length := by
    have := congrArg List.length hk
    rw [List.length_map, List.length_map] at this
    omega
  refine sorted_dict_raw (ns := ns) (I.ok.hd hc) dd lo (fun l hl hv => ?_) (by rw [← hlen]; exact z) fun h1 h' tk a out ns' ep k1 k2 ha hg a1 a2 a3 => ?_
  · refine ints_of l ns (by rw [hl, hnl]) fun j v e => ?_
    obtain ⟨k, x, ek, is⟩ := hv j v e
    have hj : j < ns.length := by
      have := (List.getElem?_eq_some_iff.mp e).1
      omega
    have e2 : k = Sum.inl ns[j] := by
      have hkv : vs'.map (·.1) = kvs.map (·.1) := kv_keys rel
      have e3 : (vs'.map (·.1))[j]? = some k := by rw [List.getElem?_map, ek]; rfl
      rw [hkv, hk, List.getElem?_map, List.getElem?_eq_getElem hj] at e3
      exact (Option.some.inj e3).symm
    obtain ⟨t, ev⟩ := key_int e2 is
    exact ⟨ns[j], t, List.getElem?_eq_getElem hj, ev⟩
  · have hl2 : (ns'.map V.int).length ≤ sizeLine := by rw [List.length_map, a2.length_eq]; omega
    have I1 : Inv X pins σ H { s with heap := h1, toks := tk } := I.kept k1
    exact ⟨.ref a, upd H a (.lst (ns'.map V.int)), I1.laid (t' := tk) k2 ha ⟨hl2, out.toList, ep, vals_of_ints a1, hg⟩, rfl, q ns' a a2 a3 (I1.hok.fresh ha)⟩
/-- sorted(xs) of a list of ints, however long -/
def rSortedA (K : PySem.W.Frag) : List V → Hp → VK → Prop := fun vs H Q => ∃ (a : Addr) (ns : List Int), vs = [V.ref a] ∧ SqL K H a (ns.map V.int) ∧
  ∀ (ns' : List Int) (p : Addr), ns'.Perm ns → ns'.Pairwise (· ≤ ·) → H p = none → Q (.ref p) (upd H p (.lst (ns'.map V.int)))
theorem cr_sortedA : CallR X (.builtin "sorted") (rSortedA X.K) := by
  intro pins s σ H vs us Q I r h
  obtain ⟨a, ns, rfl, hs, q⟩ := h
  obtain ⟨its, rv, hl, hz⟩ := I.list hs
  rw [Vals.ref1 r]
  have hi := rv.ints
  rw [List.length_map] at hz
  refine PyProof.Rows.sorted_intsAny hl.isList hi (by rw [hi.length]; exact hz) fun out ns' h1 h2 h3 => ?_
  obtain ⟨ep, he'⟩ := PyProof.Rows.sortedAll_at s.heap its out
  have hlen : (ns'.map V.int).length ≤ sizeLine := by rw [List.length_map, h2.length_eq]; exact hz
  exact ⟨.ref _, upd H (s.heap.objs.size + 1) (.lst (ns'.map V.int)), I.laid (t' := s.toks) (fun _ _ => PyProof.Rows.sortedAll_old) (Nat.le_succ _) ⟨hlen, out.toList, ep, vals_of_ints h1, he'⟩, rfl, q ns' _ h2 h3 (I.hok.fresh (Nat.le_succ _))⟩
end
end Rc

end
section
set_option Elab.async false
set_option linter.all false
set_option maxRecDepth 100000
set_option maxHeartbeats 2000000
namespace Rc
open PySem PySem.Spec PyProof.Rows L2
open Sz13 (Field Cell Cells Led refs kept does done made putIn)
/-! ### dict(d), d.update(o) -/
section
variable {X : Cx}
def rDictOf : List V → Hp → VK → Prop := fun vs H Q => ∃ (d : Addr) (kvs : List (Key × V)), vs = [V.ref d] ∧ H d = some (.dK kvs) ∧ ∀ p, H p = none → Q (.ref p) (upd H p (.dK kvs))
theorem cr_dictOf : CallR X (.type "dict") rDictOf := by
  intro pins s σ H vs us Q I r h
  obtain ⟨d, kvs, rfl, hd, q⟩ := h
  rw [Vals.ref1 r]
  exact d_copyOf I (.inl hd) fun p s' hp I' => ⟨.ref p, _, I', rfl, q p hp⟩
def rUpdate : V → List V → Hp → VK → Prop := fun x vs H Q => ∃ (d o : Addr) (kvs more : List (Key × V)), x = .ref d ∧ vs = [.ref o] ∧ d ≠ o ∧ H d = some (.dK kvs) ∧ H o = some (.dK more) ∧ kvs.length + more.length ≤ sizeLine ∧
  Q .non (upd H d (.dK (mergeK kvs more)))
theorem mt_update : MtR X "dict.update" rUpdate := by
  intro pins s σ H x vs v us Q I rx rv h
  obtain ⟨d, o, kvs, more, rfl, rfl, hne, hd, ho, hz, q⟩ := h
  cases rx
  obtain ⟨u, rfl, ru⟩ := rv.one
  cases ru
  obtain ⟨z1, hd1, vs1, rel1, dd1⟩ := dk_of I.hok hd
  obtain ⟨z2, hd2, vs2, rel2, dd2⟩ := dk_of I.hok ho
  refine call_meetsIn PySem.F.slot_dict_update dd1.typeIs PySem.F.entry_dict_update (PySem.F.args_dict_update_2 _ _) (meets_dict_update (mixKind X.prog X.w) d o hne hd2) ⟨vs1, vs2, dd1, dd2, by rw [← rel1.length, ← rel2.length]; exact hz, fun h' dd' _ hs => ?_⟩
  have he : ∃ q, h'.get? d = some q := let ⟨q, _, _, hq, _⟩ := dd'; ⟨q, hq⟩
  exact ⟨.non, _, d_write (t' := s.toks) I (by rw [hd]; exact True.intro) hs he (dk_new (Nat.le_trans (length_mergeK more kvs) hz) hd1 (rel2.merge rel1) dd'), rfl, q⟩
end
section
variable {P : Program} {w : World} {K : PySem.W.Frag} {mg : Str → Option Value} {base : Heap}
/-! ### value_of, told, held -/
def valR (t : Sz13.St) (h : Nat) (i kd : Int) : Int := if t.has h = true then (match Sz13.field t h i with
  | none => 0
  | some f => if fK f = kd then fV f else 0) else -1
theorem valR_no {t : Sz13.St} {h : Nat} {i kd : Int} (hh : ¬ t.has h = true) : valR t h i kd = -1 := by
  unfold valR
  rw [if_neg hh]
theorem valR_out {t : Sz13.St} {h : Nat} {i kd : Int} (hh : t.has h = true) (e : Sz13.field t h i = none) : valR t h i kd = 0 := by
  unfold valR
  rw [if_pos hh, e]
theorem valR_at {t : Sz13.St} {h : Nat} {i kd : Int} {f : Field} (hh : t.has h = true) (e : Sz13.field t h i = some f) : valR t h i kd = if fK f = kd then fV f else 0 := by
  unfold valR
  rw [if_pos hh, e]
theorem valR_number (t : Sz13.St) (h : Nat) (i : Int) : does t (.number h i) = (t, valR t h i 1) := by
  unfold Sz13.does valR
  show (if ([h].all t.has) = true then _ else _) = _
  rw [List.all_cons, List.all_nil, Bool.and_true]
  by_cases q : t.has h = true
  · rw [if_pos q, if_pos q]
    show (t, _) = (t, _)
    cases e : Sz13.field t h i with
    | none => simp only [Sz13.done, e]
    | some f => cases f <;> simp [Sz13.done, e, fK, fV]
  · rw [if_neg q, if_neg q]
theorem valR_cell (t : Sz13.St) (h : Nat) (i : Int) : does t (.cell h i) = (t, valR t h i 2) := by
  unfold Sz13.does valR
  show (if ([h].all t.has) = true then _ else _) = _
  rw [List.all_cons, List.all_nil, Bool.and_true]
  by_cases q : t.has h = true
  · rw [if_pos q, if_pos q]
    show (t, _) = (t, _)
    cases e : Sz13.field t h i with
    | none => simp only [Sz13.done, e]
    | some f => cases f <;> simp [Sz13.done, e, fK, fV]
  · rw [if_neg q, if_neg q]
theorem kindR_does (t : Sz13.St) (h : Nat) (i : Int) : does t (.kind h i) = (t, kindR t h i) := by
  unfold Sz13.does kindR
  show (if ([h].all t.has) = true then _ else _) = _
  rw [List.all_cons, List.all_nil, Bool.and_true]
  by_cases q : t.has h = true
  · rw [if_pos q, if_pos q]
    show (t, _) = (t, _)
    cases e : Sz13.field t h i with
    | none => simp only [Sz13.done, e]
    | some f => cases f <;> simp [Sz13.done, e, fK]
  · rw [if_neg q, if_neg q]
def spVal (K : PySem.W.Frag) (C : Addr) : Sp := fun vs H Q _ => ∃ (p : Addr) (h i kd : Int) (t : Sz13.St) (own : List Addr), vs = [.ref p, .int h, .int i, .int kd] ∧ 0 ≤ h ∧ 0 ≤ kd ∧ StAt K C H p t own ∧ Tid t ∧ Q (.int (valR t h.toNat i kd)) H
theorem scVa : FnScope ["self", "h", "i", "kind"] ["self", "h", "i", "kind"] (defScope sValue) := ⟨rfl, rfl, rfl, by decide +kernel, rfl, by decide +kernel, by decide +kernel⟩
theorem ok_value {f C an fK' : Addr} {fd fdK : FuncData} (F : Fun K "value_of" "Store.value_of" sValue f fd) (T : Txt K mg C an) (KD : Kd P w K mg base C fK' fdK) : FnOk P w K mg base CX0 2 f fd ["self", "h", "i", "kind"] (spVal K C) := by
  refine F.ok scVa (fun vs H Q E h => ?_) (fun cdv A outer s H vs Q E hr h => ?_)
  · obtain ⟨p, h, i, kd, t, own, rfl, _⟩ := h
    rfl
  · obtain ⟨p, h, i, kd, t, own, rfl, h0, kd0, st, Td, k⟩ := h
    have hu := hu_of hr
    refine ⟨_, pss_cons (ps_if (pt_cmp (pc_dnotin hu (pv 1) (pe_fld (pv 0) rfl))) (pss_one (ps_ret (pe_gi T.gNot (by rfl)))) pss_nil)
      (pss_cons (ps_if (pt_cmpR op_ne (pe_meth (pv 0) T.cl KD.m KD.ok hr KD.b .nil pass0 (pa_cons (pv 1) (pa_cons (pv 2) pa_nil))) (pv 3) (nomark _)) (pss_one (ps_ret pe_int)) pss_nil)
      (pss_one (ps_ret (pe_ix ix_tup (pe_ix ix_list (pe_dget hu (pe_fld (pv 0) rfl) (pv 1) (fun _ _ => rfl)) (pv 2) (fun _ _ => rfl)) pe_int (fun _ _ => rfl))))), ?_⟩
    have st' := st
    obtain ⟨dx, d, rl, Tb, rfl, hp, hd, hrl, hra, hT, hpm⟩ := st
    refine ⟨_, rfl, _, rfl, p, C, dx, _, _, rfl, hp, T.cl, T.nC, sf_cells, d, _, rfl, DGet.k (k := Sum.inl h) hd, _, rfl, ?_⟩
    rw [valV_rows_isSome hT.nk h0]
    by_cases qh : h.toNat ∈ hs Tb
    · refine ifF (by rw [decide_eq_true qh]; rfl) ?_
      have hhas : t.has h.toNat = true := by rw [Td.has, ← hs_iff hpm]; exact qh
      refine ⟨_, rfl, p, dx, _, rfl, hp, sf_no no_kind, _, rfl, _, rfl, p, h, i, t, _, rfl, h0, st', Td, ?_⟩
      refine ⟨_, rfl, rfl, _, rfl, ?_⟩
      obtain ⟨e, he, rfl⟩ := row_of h0 qh
      rw [Int.toNat_natCast] at k hhas
      rw [Int.toNat_natCast]
      have hx := get_row hT.nk hpm he
      obtain ⟨vs, hvs, hpr⟩ := hT.at_ e he
      have hg := dget_row hd hT.nk he
      have hvl : vs.length = e.2.2.length := Paired.length hpr
      by_cases q2 : i < 0 ∨ (vs.length : Int) ≤ i
      · have hfn := field_none hx (by rw [← hvl]; exact q2)
        rw [kindR_out hhas hfn]
        rw [valR_out hhas hfn] at k
        refine ifT ?_ k
        rw [decide_eq_false (fun z => by injection z with z; omega)]
        rfl
      have hi0 : 0 ≤ i := by omega
      have hil : i.toNat < vs.length := by omega
      have hvi : vs[i.toNat]? = some vs[i.toNat] := List.getElem?_eq_getElem hil
      obtain ⟨go, hgo, b, hb1, hb2⟩ := paired_at hpr hvi
      rw [hb1] at hvi
      have hfs : Sz13.field t e.1 i = some go := by rw [field_at hx hi0]; exact hgo
      rw [kindR_at hhas hfs]
      rw [valR_at hhas hfs] at k
      by_cases qk : fK go = kd
      · rw [if_pos qk] at k
        refine ifF (by rw [qk, decide_eq_true rfl]; rfl) ?_
        exact ⟨_, rfl, p, C, dx, _, _, rfl, hp, T.cl, T.nC, sf_cells, _, rfl, d, V.ref e.2.1, rfl, hg, _, rfl, e.2.1, vs, i, V.ref b, rfl, rfl, SqL.of hvs, atI_of hi0 hvi, b, _, 1, V.int (fV go), rfl, rfl, hb2, rfl, k⟩
      · rw [if_neg qk] at k
        refine ifT ?_ k
        rw [decide_eq_false (fun z => qk (by injection z))]
        rfl
    · refine ifT (by rw [decide_eq_false qh]; rfl) ?_
      rw [valR_no (by rw [Td.has, ← hs_iff hpm]; exact qh)] at k
      exact k
structure Vl (P : Program) (w : World) (K : PySem.W.Frag) (mg : Str → Option Value) (base : Heap) (C : Addr) (fS : Addr) (fdS : FuncData) : Prop where
  ok : FnOk P w K mg base CX0 2 fS fdS ["self", "h", "i", "kind"] (spVal K C)
  b : Binds K fdS ["self", "h", "i", "kind"] []
  m : Meth K C "value_of" fS
theorem no_val : ¬ ("cells" : Str) = "value_of" ∧ ¬ ("roots" : Str) = "value_of" ∧ ¬ ("last" : Str) = "value_of" ∧ ¬ ("newest" : Str) = "value_of" := by decide +kernel
def spTold (K : PySem.W.Frag) (C : Addr) : Sp := fun vs H Q _ => ∃ (p : Addr) (h i : Int), vs = [.ref p, .int h, .int i] ∧ 0 ≤ h ∧ Ans K C H p (.number h.toNat i) Q
theorem scTo : FnScope ["self", "h", "i"] ["self", "h", "i"] (defScope sTold) := ⟨rfl, rfl, rfl, by decide +kernel, rfl, by decide +kernel, by decide +kernel⟩
theorem ok_told {f C an fV' : Addr} {fd fdV : FuncData} (F : Fun K "told" "Store.told" sTold f fd) (T : Txt K mg C an) (V_ : Vl P w K mg base C fV' fdV) : FnOk P w K mg base CX0 3 f fd ["self", "h", "i"] (spTold K C) := by
  refine F.ok scTo (fun vs H Q E h => ?_) (fun cdv A outer s H vs Q E hr h => ?_)
  · obtain ⟨p, h, i, rfl, _⟩ := h
    rfl
  · obtain ⟨p, h, i, rfl, h0, t, own, st, Td, k⟩ := h
    refine ⟨_, pss_one (ps_ret (pe_meth (pv 0) T.cl V_.m V_.ok hr V_.b .nil pass0 (pa_cons (pv 1) (pa_cons (pv 2) (pa_cons (pe_gi T.gHN (by rfl)) pa_nil))))), ?_⟩
    obtain ⟨dx, d, rl, l, n, hp⟩ := st.at_
    exact ⟨_, rfl, p, dx, _, rfl, hp, sf_no no_val, _, rfl, _, rfl, p, h, i, 1, t, own, rfl, h0, by decide, st, Td, ans_stay (valR_number t h.toNat i) st Td k⟩
def spHeld (K : PySem.W.Frag) (C : Addr) : Sp := fun vs H Q _ => ∃ (p : Addr) (h i : Int), vs = [.ref p, .int h, .int i] ∧ 0 ≤ h ∧ Ans K C H p (.cell h.toNat i) Q
theorem scHe : FnScope ["self", "h", "i"] ["self", "h", "i"] (defScope sHeld) := ⟨rfl, rfl, rfl, by decide +kernel, rfl, by decide +kernel, by decide +kernel⟩
theorem ok_held {f C an fV' : Addr} {fd fdV : FuncData} (F : Fun K "held" "Store.held" sHeld f fd) (T : Txt K mg C an) (V_ : Vl P w K mg base C fV' fdV) : FnOk P w K mg base CX0 3 f fd ["self", "h", "i"] (spHeld K C) := by
  refine F.ok scHe (fun vs H Q E h => ?_) (fun cdv A outer s H vs Q E hr h => ?_)
  · obtain ⟨p, h, i, rfl, _⟩ := h
    rfl
  · obtain ⟨p, h, i, rfl, h0, t, own, st, Td, k⟩ := h
    refine ⟨_, pss_one (ps_ret (pe_meth (pv 0) T.cl V_.m V_.ok hr V_.b .nil pass0 (pa_cons (pv 1) (pa_cons (pv 2) (pa_cons (pe_gi T.gHC (by rfl)) pa_nil))))), ?_⟩
    obtain ⟨dx, d, rl, l, n, hp⟩ := st.at_
    exact ⟨_, rfl, p, dx, _, rfl, hp, sf_no no_val, _, rfl, _, rfl, p, h, i, 2, t, own, rfl, h0, by decide, st, Td, ans_stay (valR_cell t h.toNat i) st Td k⟩
/-! ### fields -/
def spFields (K : PySem.W.Frag) (C : Addr) : Sp := fun vs H Q _ => ∃ (p : Addr) (h : Int), vs = [.ref p, .int h] ∧ 0 ≤ h ∧ Ans K C H p (.fields h.toNat) Q
theorem scFi : FnScope ["self", "h"] ["self", "h"] (defScope sFields) := ⟨rfl, rfl, rfl, by decide +kernel, rfl, by decide +kernel, by decide +kernel⟩
theorem has_row {t : Sz13.St} {Tb : List Rw} (Td : Tid t) (hpm : (cof Tb).Perm t.cells) {h : Nat} : t.has h = true ↔ h ∈ hs Tb := by rw [Td.has, ← hs_iff hpm]
theorem ok_fields {f C an : Addr} {fd : FuncData} (F : Fun K "fields" "Store.fields" sFields f fd) (T : Txt K mg C an) : FnOk P w K mg base CX0 1 f fd ["self", "h"] (spFields K C) := by
  refine F.ok scFi (fun vs H Q E h => ?_) (fun cdv A outer s H vs Q E hr h => ?_)
  · obtain ⟨p, h, rfl, _⟩ := h
    rfl
  · obtain ⟨p, h, rfl, h0, t, own, st, Td, k⟩ := h
    have hu := hu_of hr
    refine ⟨_, pss_cons (ps_if (pt_cmp (pc_dnotin hu (pv 1) (pe_fld (pv 0) rfl))) (pss_one (ps_ret (pe_gi T.gNot (by rfl)))) pss_nil)
      (pss_one (ps_ret (pe_callB (call_lenK K) (by rfl) T.bLen PySem.boot_len (pa_cons (pe_dget hu (pe_fld (pv 0) rfl) (pv 1) (fun _ _ => rfl)) pa_nil)))), ?_⟩
    have st' := st
    obtain ⟨dx, d, rl, Tb, rfl, hp, hd, hrl, hra, hT, hpm⟩ := st
    refine ⟨_, rfl, _, rfl, p, C, dx, _, _, rfl, hp, T.cl, T.nC, sf_cells, d, _, rfl, DGet.k (k := Sum.inl h) hd, _, rfl, ?_⟩
    rw [valV_rows_isSome hT.nk h0]
    by_cases qh : h.toNat ∈ hs Tb
    · refine ifF (by rw [decide_eq_true qh]; rfl) ?_
      have hhas : t.has h.toNat = true := (has_row Td hpm).mpr qh
      obtain ⟨e, he, rfl⟩ := row_of h0 qh
      rw [Int.toNat_natCast] at k hhas
      have hx := get_row hT.nk hpm he
      obtain ⟨vs, hvs, hpr⟩ := hT.at_ e he
      have hg := dget_row hd hT.nk he
      have hvl : vs.length = e.2.2.length := Paired.length hpr
      refine ⟨_, rfl, p, C, dx, _, _, rfl, hp, T.cl, T.nC, sf_cells, _, rfl, d, V.ref e.2.1, rfl, hg, e.2.1, vs, rfl, .inl (SqL.of hvs), ?_⟩
      refine ans_stay (c := .fields e.1) ?_ st' Td k
      rw [does_of (fun x hx' => by have : x = e.1 := List.mem_singleton.mp hx'; rw [this]; exact hhas)]
      show (t, ((((t.cells.get e.1).getD []).length : Nat) : Int)) = _
      rw [hx, hvl]
      rfl
    · refine ifT (by rw [decide_eq_false qh]; rfl) ?_
      exact ans_stay (c := .fields h.toNat) (does_no (x := h.toNat) (List.mem_singleton.mpr rfl) (fun z => qh ((has_row Td hpm).mp z))) st' Td k
/-! ### count -/
def spCount (K : PySem.W.Frag) (C : Addr) : Sp := fun vs H Q _ => ∃ (p : Addr), vs = [.ref p] ∧ Ans K C H p .count Q
theorem scCo : FnScope ["self"] ["self"] (defScope sCount) := ⟨rfl, rfl, rfl, by decide +kernel, rfl, by decide +kernel, by decide +kernel⟩
theorem rooted_nz (t : Sz13.St) : t.rooted = t.roots.filter nz := rfl
structure Lt (P : Program) (w : World) (K : PySem.W.Frag) (mg : Str → Option Value) (base : Heap) (fL : Addr) (fdL : FuncData) : Prop where
  ok : FnOk P w K mg base CX0 1 fL fdL ["cells", "starts"] (spLed K)
  b : Binds K fdL ["cells", "starts"] []
  m : mg "led_to" = some (.ref fL)
  kp : PySem.W.keepIn K (.ref fL) = true
/-- what led_to asks of a tidy store -/
theorem Tid.ask {t : Sz13.St} {Tb : List Rw} (Td : Tid t) (hT : (hs Tb).Nodup) (hpm : (cof Tb).Perm t.cells) : (∀ e ∈ Tb, ∀ k ∈ refs e.2.2, k ∈ hs Tb) ∧ sumU (cof Tb) ≤ 65536 ∧ ∀ h ∈ t.rooted, h ∈ hs Tb := by
  refine ⟨fun e he k hk => (hs_iff hpm k).mpr (Td.good.rf _ (hpm.mem_iff.mp (mem_cof he)) k hk), by rw [sumU_perm hpm]; exact Td.room, fun h hh => ?_⟩
  refine (hs_iff hpm h).mpr (Td.good.st h (mem_starts.mpr ⟨.inr (mem_rooted.mp hh).1, (mem_rooted.mp hh).2⟩))
theorem led_cof {c : Cells} {Tb : List Rw} (hT : (hs Tb).Nodup) (hpm : (cof Tb).Perm c) {S : List Nat} {h : Nat} : Led (cof Tb) S h ↔ Led c S h := by
  have hkT : (keys (cof Tb)).Nodup := by rw [keys_cof]; exact hT
  have hc : (keys c).Nodup := (hpm.map _).nodup_iff.mp hkT
  exact ⟨fun z => led_perm hpm hkT (fun _ ha => ha) z, fun z => led_perm hpm.symm hc (fun _ ha => ha) z⟩
theorem ok_count {f C an fR fL : Addr} {fd fdR fdL : FuncData} (F : Fun K "count" "Store.count" sCount f fd) (T : Txt K mg C an) (IR_ : IR P w K mg base C fR fdR) (LT : Lt P w K mg base fL fdL) : FnOk P w K mg base CX0 2 f fd ["self"] (spCount K C) := by
  refine F.ok scCo (fun vs H Q E h => ?_) (fun cdv A outer s H vs Q E hr h => ?_)
  · obtain ⟨p, rfl, _⟩ := h
    rfl
  · obtain ⟨p, rfl, t, own, st, Td, k⟩ := h
    refine ⟨_, pss_one (ps_ret (pe_callB call_lenD (by rfl) T.bLen PySem.boot_len (pa_cons (pe_call LT.ok hr rfl LT.m LT.kp LT.b .nil pass0 (pa_cons (pe_fld (pv 0) rfl) (pa_cons (pe_meth0 (pv 0) T.cl IR_.m IR_.ok hr IR_.b .nil pass0) pa_nil))) pa_nil))), ?_⟩
    have st' := st
    obtain ⟨dx, d, rl, Tb, rfl, hp, hd, hrl, hra, hT, hpm⟩ := st
    obtain ⟨a1, a2, a3⟩ := Td.ask hT.nk hpm
    refine ⟨_, rfl, p, C, dx, _, _, rfl, hp, T.cl, T.nC, sf_cells, _, rfl, p, dx, _, rfl, hp, sf_no no_inr, p, dx, d, rl, _, _, t.roots, rfl, hp, hrl, Td.good.rl, fun D hD => ?_⟩
    have sD : Same H (upd H D (.lst ((t.roots.filter nz).map nV))) := same_new hD
    have hfl : (t.roots.filter nz).length ≤ 1000 := by
      have := List.length_filter_le nz t.roots
      rw [Td.good.rl] at this
      omega
    refine ⟨d, D, Tb, t.roots.filter nz, rfl, sD _ _ hd, hT.keep sD, SqL.of upd_same, a3, a1, hfl, a2, ?_⟩
    intro H2 d' R b1 b2 b3 b4 b5 b6
    refine ⟨d', _, rfl, b3, ?_⟩
    have hlen : (rows R).length = (kept t.cells t.rooted).length := by
      rw [rows_len, ← cof_len]
      exact (cof_kept hT.nk hpm b4 b5 (fun h => (b6 h).trans (led_cof hT.nk hpm))).length_eq
    rw [hlen]
    refine ans_to (c := .count) (does_of (fun x hx => nomatch hx)) ?_ (Keep.same (sD.trans b1)) k
    show StAt K C H2 p (tidy t) _
    rw [Td.self]
    exact st'.keep (sD.trans b1)
end
end Rc

end
section
set_option Elab.async false
set_option linter.all false
set_option maxRecDepth 100000
set_option maxHeartbeats 2000000
namespace Rc
open PySem PySem.Spec PyProof.Rows L2
open Sz13 (Field Cell Cells Led refs kept does done made putIn Alike alikeFields)
/-! ### any loop by its turns -/
theorem for_any {J : It} {n : Nat} {g : TG} {tb : TS} {D : Ends} {σ : L2.St} {H : Hp} (Pv : Nat → L2.St → Hp → Prop) (h0 : Pv 0 σ H) (hgo : ∀ i σ H, i < n → Pv i σ H → J.go i H) (hst : ∀ σ H, Pv n σ H → J.stop n H)
    (hs : ∀ i x σ H H', i < n → Pv i σ H → J.yld i H x H' → g x σ H' fun σ2 H2 => tb { D with nx := Pv (i + 1), ct := Pv (i + 1), bk := D.nx } σ2 H2) (hd : ∀ σ H, Pv n σ H → D.nx σ H) :
    ∃ W : Nat → Nat → L2.St → Hp → Prop, (∃ m, W 0 m σ H) ∧ ∀ i m σ H, W i m σ H →
      (J.stop i H ∧ D.nx σ H) ∨ (J.go i H ∧ ∃ N : L2.St → Hp → Prop, (∀ σ' H', N σ' H' → ∃ m', m' < m ∧ W (i + 1) m' σ' H') ∧ ∀ x H', J.yld i H x H' → g x σ H' fun σ2 H2 => tb { D with nx := N, ct := N, bk := D.nx } σ2 H2) := by
  refine ⟨fun i m σ H => m = n - i ∧ i ≤ n ∧ Pv i σ H, ⟨n, by simp, Nat.zero_le _, h0⟩, ?_⟩
  rintro i m σ H ⟨rfl, hi, p⟩
  by_cases hlt : i < n
  · exact .inr ⟨hgo i σ H hlt p, Pv (i + 1), fun σ' H' p' => ⟨n - (i + 1), by omega, rfl, hlt, p'⟩, fun x H' y => hs i x σ H H' hlt p y⟩
  · have e : i = n := by omega
    subst e
    exact .inl ⟨hst σ H p, hd σ H p⟩
theorem FAt.keep {K : PySem.W.Frag} {H H' : Hp} {v : V} {f : Field} (s : Same H H') (h : FAt K H v f) : FAt K H' v f := h.same (fun b xs z => s b _ z) (fun b o xs z => s b _ z)
theorem fOk_iff (f g : Field) : fOk (f, g) = true ↔ fK f = fK g ∧ (fK f = 2 ∨ fV f = fV g) := by
  cases f <;> cases g <;> simp [fOk, fK, fV]
structure Txt2 (mg : Str → Option Value) : Prop where
  zip : mg "zip" = none
  dict : mg "dict" = none
  sorted : mg "sorted" = none
section
variable {P : Program} {w : World} {K : PySem.W.Frag} {mg : Str → Option Value} {base : Heap}
/-! ### agree -/
def agr (x y : Cell) : Bool := decide (x.length = y.length) && (x.zip y).all fOk
def spAgree (K : PySem.W.Frag) : Sp := fun vs H Q _ => ∃ (a b : Addr) (x y : Cell), vs = [.ref a, .ref b] ∧ CellAt K H a x ∧ CellAt K H b y ∧ ∀ H', Same H H' → Q (.bl (agr x y)) H'
theorem scAg : FnScope ["one", "other", "mine", "theirs"] ["one", "other"] (defScope sAgree) := ⟨rfl, rfl, rfl, by decide +kernel, rfl, by decide +kernel, by decide +kernel⟩
theorem zip_at {x y : Cell} {i : Nat} {f g : Field} (h1 : x[i]? = some f) (h2 : y[i]? = some g) : (x.zip y)[i]? = some (f, g) := by
  rw [List.getElem?_zip_eq_some]
  exact ⟨h1, h2⟩
theorem ok_agree {f C an : Addr} {fd : FuncData} (F : Fun K "agree" "agree" sAgree f fd) (T : Txt K mg C an) (T2 : Txt2 mg) : FnOk P w K mg base CX0 1 f fd ["one", "other"] (spAgree K) := by
  refine F.ok scAg (fun vs H Q E h => ?_) (fun cdv A outer s H vs Q E hr h => ?_)
  · obtain ⟨a, b, x, y, rfl, _⟩ := h
    rfl
  · obtain ⟨a, b, x, y, rfl, ⟨va, hva, pa⟩, ⟨vb, hvb, pb⟩, k⟩ := h
    refine ⟨_, pss_cons (ps_if (pt_cmpR op_ne (pe_callB (call_lenK K) (by rfl) T.bLen PySem.boot_len (pa_cons (pv 0) pa_nil)) (pe_callB (call_lenK K) (by rfl) T.bLen PySem.boot_len (pa_cons (pv 1) pa_nil)) (nomark _)) (pss_one (ps_ret pe_bl)) pss_nil)
      (pss_cons (ps_for PassesOwn.never rfl (pi_zip (by rfl) T2.zip (pa_cons (pv 0) (pa_cons (pv 1) pa_nil))) (pg_tupK (n := 2) K rfl (pgs_cons (pg_name (i := 2) scAg.nd rfl (Or.inl rfl)) (pgs_cons (pg_name (i := 3) scAg.nd rfl (Or.inl rfl)) pgs_nil)))
        (pss_cons (ps_if (pt_cmpR op_ne (pe_ix ix_tup (pv 2) pe_int (fun _ _ => rfl)) (pe_ix ix_tup (pv 3) pe_int (fun _ _ => rfl)) (nomark _)) (pss_one (ps_ret pe_bl)) pss_nil)
        (pss_one (ps_if (PW.pt (pw_and (pt_cmpR op_ne (pe_ix ix_tup (pv 2) pe_int (fun _ _ => rfl)) (pe_gi T.gHC (by rfl)) (nomark _)) (pw_and1 (pt_cmpR op_ne (pe_ix ix_tup (pv 2) pe_int (fun _ _ => rfl)) (pe_ix ix_tup (pv 3) pe_int (fun _ _ => rfl)) (nomark _))))) (pss_one (ps_ret pe_bl)) pss_nil))))
      (pss_one (ps_ret pe_bl))), ?_⟩
    have la : va.length = x.length := Paired.length pa
    have lb : vb.length = y.length := Paired.length pb
    refine ⟨_, rfl, a, va, rfl, .inl (SqL.of hva), _, rfl, b, vb, rfl, .inl (SqL.of hvb), rfl, _, rfl, ?_⟩
    by_cases ql : x.length = y.length
    · refine ifF ?_ ?_
      · rw [la, lb, ql, decide_eq_true rfl]
        rfl
      have hno : ∀ (i : Nat) (f g : Field), x[i]? = some f → y[i]? = some g → ¬ fOk (f, g) = true → agr x y = false := fun i f g h1 h2 hn => by
        unfold agr
        rw [Bool.and_eq_false_iff]
        right
        rw [List.all_eq_false]
        exact ⟨(f, g), List.mem_of_getElem? (zip_at h1 h2), hn⟩
      refine ⟨_, rfl, _, rfl, a, b, va, vb, rfl, SqL.of hva, SqL.of hvb, ?_⟩
      refine for_any (n := x.length) (fun i σ H' => (∃ m t, σ = [some (.ref a), some (.ref b), m, t]) ∧ Same H H' ∧ ((x.zip y).take i).all fOk = true) ⟨⟨none, none, rfl⟩, fun _ _ z => z, rfl⟩ ?_ ?_ ?_ ?_
      · rintro i σ H1 hi ⟨_, sm, _⟩
        have i1 : i < va.length := by omega
        have i2 : i < vb.length := by omega
        exact ⟨va, vb, va[i], vb[i], SqL.of (sm _ _ hva), SqL.of (sm _ _ hvb), List.getElem?_eq_getElem i1, List.getElem?_eq_getElem i2⟩
      · rintro σ H1 ⟨_, sm, _⟩
        exact ⟨va, vb, SqL.of (sm _ _ hva), SqL.of (sm _ _ hvb), .inl (by omega)⟩
      · rintro i v σ H1 H2 hi ⟨⟨m, t, rfl⟩, sm, hall⟩ ⟨Tp, v1, v2, rfl, hTp, rfl, y1, y2⟩
        have e1 := y1 va (SqL.of (sm _ _ hva))
        have e2 := y2 vb (SqL.of (sm _ _ hvb))
        have sm2 : Same H (upd H1 Tp (.tup [v1, v2])) := sm.trans (same_new hTp)
        obtain ⟨f1, hf1, q1⟩ := paired_at pa e1
        obtain ⟨f2, hf2, q2⟩ := paired_at pb e2
        obtain ⟨b1, rfl, q1⟩ := q1.keep sm2
        obtain ⟨b2, rfl, q2⟩ := q2.keep sm2
        refine ⟨Tp, _, rfl, SqT.of upd_same, rfl, _, _, rfl, _, _, rfl, rfl, ?_⟩
        refine ⟨_, rfl, b1, _, 0, V.int (fK f1), rfl, rfl, q1, rfl, _, rfl, b2, _, 0, V.int (fK f2), rfl, rfl, q2, rfl, rfl, _, rfl, ?_⟩
        by_cases qk : fK f1 = fK f2
        · refine ifF (by rw [qk, decide_eq_true rfl]; rfl) ?_
          refine next_of ?_
          dsimp only
          refine and_by (a := !decide (V.int (fK f1) = V.int 2)) (b := !decide (V.int (fV f1) = V.int (fV f2))) (fun Q' z => ⟨_, rfl, b1, _, 0, V.int (fK f1), rfl, rfl, q1, rfl, rfl, _, rfl, z⟩) (fun _ Q' z => ⟨_, rfl, b1, _, 1, V.int (fV f1), rfl, rfl, q1, rfl, _, rfl, b2, _, 1, V.int (fV f2), rfl, rfl, q2, rfl, rfl, _, rfl, z⟩) ?_
          by_cases qv : fK f1 = 2 ∨ fV f1 = fV f2
          · refine ifF ?_ ⟨⟨_, _, rfl⟩, sm2, ?_⟩
            · rw [Bool.and_eq_false_iff]
              rcases qv with z | z
              · exact .inl (by rw [z, decide_eq_true rfl]; rfl)
              · exact .inr (by rw [z, decide_eq_true rfl]; rfl)
            · rw [take_snoc (zip_at hf1 hf2), List.all_append, hall]
              simp only [List.all_cons, List.all_nil, Bool.and_true, Bool.true_and]
              exact (fOk_iff f1 f2).mpr ⟨qk, qv⟩
          · refine ifT ?_ ?_
            · rw [decide_eq_false (fun z => qv (.inl (by injection z))), decide_eq_false (fun z => qv (.inr (by injection z)))]
              rfl
            · have := k _ sm2
              rw [hno i f1 f2 hf1 hf2 (fun z => qv ((fOk_iff f1 f2).mp z).2)] at this
              exact this
        · refine ifT ?_ ?_
          · rw [decide_eq_false (fun z => qk (by injection z))]
            rfl
          · have := k _ sm2
            rw [hno i f1 f2 hf1 hf2 (fun z => qk ((fOk_iff f1 f2).mp z).1)] at this
            exact this
      · rintro σ H1 ⟨_, sm, hall⟩
        have := k H1 sm
        have e : agr x y = true := by
          unfold agr
          rw [decide_eq_true ql, Bool.true_and]
          rw [List.take_of_length_le (by rw [List.length_zip]; omega)] at hall
          exact hall
        rw [e] at this
        exact this
    · refine ifT ?_ ?_
      · rw [decide_eq_false (fun z => ql (by injection z with z; omega))]
        rfl
      · have := k H (fun _ _ z => z)
        have e : agr x y = false := by
          unfold agr
          rw [decide_eq_false ql]
          rfl
        rw [e] at this
        exact this
end
end Rc

end
section
set_option Elab.async false
set_option linter.all false
set_option maxRecDepth 100000
set_option maxHeartbeats 2000000
namespace Rc
open PySem PySem.Spec PyProof.Rows L2
open Sz13 (Field Cell Cells Led refs kept does done made putIn Alike alikeFields)
/-! ### held_pairs -/
def PAt (H : Hp) (v : V) (p : Nat × Nat) : Prop := ∃ a, v = .ref a ∧ H a = some (.tup [nV p.1, nV p.2])
theorem PAt.keep {H H' : Hp} {v : V} {p : Nat × Nat} (s : Same H H') (h : PAt H v p) : PAt H' v p := by
  obtain ⟨a, e, q⟩ := h
  exact ⟨a, e, s _ _ q⟩
theorem paired_snoc {α β : Type} {G : α → β → Prop} {a : α} {b : β} : ∀ {l : List α} {m : List β}, Paired G l m → G a b → Paired G (l ++ [a]) (m ++ [b])
  | _, _, .nil, h => .cons h .nil
  | _, _, .cons h0 t, h => .cons h0 (paired_snoc t h)
theorem paired_app {α β : Type} {G : α → β → Prop} : ∀ {l l' : List α} {m m' : List β}, Paired G l m → Paired G l' m' → Paired G (l ++ l') (m ++ m')
  | _, _, _, _, .nil, h => h
  | _, _, _, _, .cons h0 t, h => .cons h0 (paired_app t h)
def nx (l : List (Field × Field)) : List (Nat × Nat) := l.filterMap fRef
theorem nx_take {l : List (Field × Field)} {i : Nat} {f g : Field} (h : l[i]? = some (f, g)) : nx (l.take (i + 1)) = nx (l.take i) ++ nx [(f, g)] := by
  unfold nx
  rw [take_snoc h, List.filterMap_append]
section
variable {P : Program} {w : World} {K : PySem.W.Frag} {mg : Str → Option Value} {base : Heap}
def spPairs (K : PySem.W.Frag) : Sp := fun vs H Q _ => ∃ (a b : Addr) (x y : Cell), vs = [.ref a, .ref b] ∧ CellAt K H a x ∧ CellAt K H b y ∧ agr x y = true ∧ x.length ≤ 8 ∧
  ∀ H' D ws, Same H H' → H D = none → H' D = some (.lst ws) → Paired (PAt H') ws (nexts x y) → Q (.ref D) H'
theorem scHP : FnScope ["one", "other", "mine", "theirs"] ["one", "other"] (defScope sPairs) := ⟨rfl, rfl, rfl, by decide +kernel, rfl, by decide +kernel, by decide +kernel⟩
def lcP : Scope := { kind := .function, names := [(".0", .local), ("mine", .local), ("theirs", .local), ("HOLDS_CELL", .globalImplicit)], isGenerator := false, isCoroutine := false }
theorem bkP : BlkOk ["one", "other", "mine", "theirs"] (defScope sPairs) lcP [("mine", 2), ("theirs", 3)] := blkOk_by (by decide +kernel)
theorem ix_tupK {X : Cx} (K : PySem.W.Frag) (h : X.K = K := by rfl) : IxR X (rIxT K) := by
  subst h
  exact ix_tup
theorem ok_pairs {f C an : Addr} {fd : FuncData} (F : Fun K "held_pairs" "held_pairs" sPairs f fd) (T : Txt K mg C an) (T2 : Txt2 mg) : FnOk P w K mg base CX0 1 f fd ["one", "other"] (spPairs K) := by
  obtain ⟨tk, hHC⟩ := T.gHC
  refine F.ok scHP (fun vs H Q E h => ?_) (fun cdv A outer s H vs Q E hr h => ?_)
  · obtain ⟨a, b, x, y, rfl, _⟩ := h
    rfl
  · obtain ⟨a, b, x, y, rfl, ⟨va, hva, pa⟩, ⟨vb, hvb, pb⟩, hag, h8, k⟩ := h
    refine ⟨_, pss_one (ps_ret (pe_lc (own := [("mine", 2), ("theirs", 3)]) rfl scHP.nd (pi_zip (by rfl) T2.zip (pa_cons (pv 0) (pa_cons (pv 1) pa_nil))) bkP
        (fun _ _ _ _ _ => pg_tupK (n := 2) K rfl (pgs_cons (pg_name (i := 2) scHP.nd rfl (Or.inl rfl)) (pgs_cons (pg_name (i := 3) scHP.nd rfl (Or.inl rfl)) pgs_nil)))
        (fun _ _ _ _ _ => pts_one (pt_cmpR op_eq (pe_ix (ix_tupK K) (pv 2) pe_int (fun _ _ => rfl)) (pe_glob (v := .int 2) (by rfl) hHC ⟨_, rfl⟩) (nomark _)))
        (fun _ _ _ _ _ => pe_tup (pa_cons (pe_ix (ix_tupK K) (pv 2) pe_int (fun _ _ => rfl)) (pa_cons (pe_ix (ix_tupK K) (pv 3) pe_int (fun _ _ => rfl)) pa_nil))))), ?_⟩
    have la : va.length = x.length := Paired.length pa
    have lb : vb.length = y.length := Paired.length pb
    have hag' : x.length = y.length ∧ (x.zip y).all fOk = true := by
      unfold agr at hag
      rw [Bool.and_eq_true, decide_eq_true_eq] at hag
      exact hag
    refine ⟨_, rfl, _, rfl, a, b, va, vb, rfl, SqL.of hva, SqL.of hvb, fun D hD => ?_⟩
    refine lc_any (n := x.length) (fun i H' => Same H H' ∧ ∃ ws, H' D = some (.lst ws) ∧ Paired (PAt H') ws (nx ((x.zip y).take i))) ⟨same_new hD, [], upd_same, .nil⟩ ?_ ?_ ?_ ?_
    · rintro i H1 hi ⟨sm, _⟩
      have i1 : i < va.length := by omega
      have i2 : i < vb.length := by omega
      exact ⟨va, vb, va[i], vb[i], SqL.of (sm _ _ hva), SqL.of (sm _ _ hvb), List.getElem?_eq_getElem i1, List.getElem?_eq_getElem i2⟩
    · rintro H1 ⟨sm, _⟩
      exact ⟨va, vb, SqL.of (sm _ _ hva), SqL.of (sm _ _ hvb), .inl (by omega)⟩
    · rintro i v H1 H2 hi ⟨sm, ws, hws, pw⟩ ⟨Tp, v1, v2, rfl, hTp, rfl, y1, y2⟩
      have e1 := y1 va (SqL.of (sm _ _ hva))
      have e2 := y2 vb (SqL.of (sm _ _ hvb))
      have sT : Same H1 (upd H1 Tp (.tup [v1, v2])) := same_new hTp
      have sm2 : Same H (upd H1 Tp (.tup [v1, v2])) := sm.trans sT
      obtain ⟨f1, hf1, q1⟩ := paired_at pa e1
      obtain ⟨f2, hf2, q2⟩ := paired_at pb e2
      obtain ⟨b1, rfl, q1⟩ := q1.keep sm2
      obtain ⟨b2, rfl, q2⟩ := q2.keep sm2
      have hz := zip_at hf1 hf2
      have hok : fOk (f1, f2) = true := List.all_eq_true.mp hag'.2 _ (List.mem_of_getElem? hz)
      refine ⟨Tp, _, rfl, SqT.of upd_same, rfl, _, _, rfl, _, _, rfl, rfl, rfl, ?_⟩
      refine ⟨_, rfl, b1, _, 0, V.int (fK f1), rfl, rfl, q1, rfl, rfl, _, rfl, ?_⟩
      rw [nx_take hz]
      by_cases qc : fK f1 = 2
      · refine ifT (by rw [qc, decide_eq_true rfl]) ?_
        have hc : ∃ h1 h2, f1 = .cell h1 ∧ f2 = .cell h2 := by
          have := ((fOk_iff f1 f2).mp hok).1
          cases f1 <;> cases f2 <;> simp [fK] at qc this ⊢
        obtain ⟨h1, h2, rfl, rfl⟩ := hc
        refine ⟨_, rfl, b1, _, 1, nV h1, rfl, rfl, q1, rfl, _, rfl, b2, _, 1, nV h2, rfl, rfl, q2, rfl, by show 2 ≤ sizeLine; decide, fun p hp => ?_⟩
        have hws2 := sT _ _ hws
        have npD : p ≠ D := fun z => by rw [z, hws2] at hp; cases hp
        have sp : Same (upd H1 Tp (.tup [V.ref b1, V.ref b2])) (upd (upd H1 Tp (.tup [V.ref b1, V.ref b2])) p (.tup [nV h1, nV h2])) := same_new hp
        have hl : ws.length ≤ 8 := by
          rw [Paired.length pw]
          unfold nx
          exact Nat.le_trans (List.length_filterMap_le _ _) (Nat.le_trans (List.length_take_le _ _) (by omega))
        refine ⟨ws, sp _ _ hws2, Nat.lt_of_le_of_lt hl (by decide), ?_⟩
        have sD : ∀ o, Same H (upd (upd (upd H1 Tp (.tup [V.ref b1, V.ref b2])) p (.tup [nV h1, nV h2])) D o) := fun o c u z => by
          rw [upd_ne (ne_of_none z hD)]
          exact sp _ _ (sm2 _ _ z)
        have up : ∀ {v q}, PAt (upd (upd H1 Tp (.tup [V.ref b1, V.ref b2])) p (.tup [nV h1, nV h2])) v q → PAt (upd (upd (upd H1 Tp (.tup [V.ref b1, V.ref b2])) p (.tup [nV h1, nV h2])) D (.lst (ws ++ [V.ref p]))) v q := by
          rintro v q ⟨c, e, z⟩
          exact ⟨c, e, by rw [upd_ne (ne_of z (sp _ _ hws2) (by intro q; cases q))]; exact z⟩
        refine ⟨sD _, ws ++ [V.ref p], upd_same, ?_⟩
        refine paired_snoc (Paired.mapP pw fun _ _ z => up ((z.keep sT).keep sp)) (up ⟨p, rfl, upd_same⟩)
      · refine ifF ?_ ⟨sm2, ws, sT _ _ hws, ?_⟩
        · rw [decide_eq_false (fun z => qc (by injection z))]
        · have e : nx [(f1, f2)] = [] := by
            cases f1 <;> cases f2 <;> simp [fK] at qc <;> rfl
          rw [e, List.append_nil]
          exact Paired.mapP pw fun _ _ z => z.keep sT
    · rintro H1 ⟨sm, ws, hws, pw⟩
      rw [List.take_of_length_le (by rw [List.length_zip]; omega)] at pw
      exact k H1 D ws sm hD hws pw
end
end Rc

end
section
set_option Elab.async false
set_option linter.all false
set_option maxRecDepth 100000
set_option maxHeartbeats 2000000
namespace Rc
open PySem PySem.Spec PyProof.Rows L2
open Sz13 (Field Cell Cells Led refs kept does done made putIn Alike alikeFields)
/-! ### the search, the mathematics -/
def Pairing (c : Cells) (r : Nat → Nat → Prop) : Prop := (∀ h k l, r h k → r h l → k = l) ∧ (∀ h k l, r h l → r k l → h = k) ∧ ∀ h k, r h k → ∃ x y, c.get h = some x ∧ c.get k = some y ∧ alikeFields r x y
structure SInv (c : Cells) (h k : Nat) (met ah : List (Nat × Nat)) : Prop where
  n1 : (met.map fun p => p.1).Nodup
  n2 : (met.map fun p => p.2).Nodup
  inK : ∀ p ∈ ah, p.1 ∈ keys c ∧ p.2 ∈ keys c
  inM : ∀ p ∈ met, p.1 ∈ keys c
  st : (h, k) ∈ ah ∨ (h, k) ∈ met
  cl : ∀ p ∈ met, ∃ x y, c.get p.1 = some x ∧ c.get p.2 = some y ∧ agr x y = true ∧ ∀ q ∈ nexts x y, q ∈ ah ∨ q ∈ met
  so : ∀ r, r h k → Pairing c r → ∀ p, (p ∈ ah ∨ p ∈ met) → r p.1 p.2
  fuel : ah.length + sumU (left c met) ≤ 1 + sumU c
theorem agr_iff {x y : Cell} : agr x y = true ↔ x.length = y.length ∧ (x.zip y).all fOk = true := by
  unfold agr
  rw [Bool.and_eq_true, decide_eq_true_eq]
theorem left_nil (c : Cells) : left c [] = c := by
  unfold left
  rw [List.filter_eq_self]
  intro z _
  rfl
theorem SInv.start {c : Cells} {h k : Nat} (hh : h ∈ keys c) (hk : k ∈ keys c) : SInv c h k [] [(h, k)] := by
  refine ⟨List.nodup_nil, List.nodup_nil, fun p hp => ?_, fun p hp => (nomatch hp), .inl (List.mem_singleton.mpr rfl), fun p hp => (nomatch hp), fun r hr _ p hp => ?_, ?_⟩
  · rw [List.mem_singleton.mp hp]
    exact ⟨hh, hk⟩
  · rcases hp with z | z
    · rw [List.mem_singleton.mp z]
      exact hr
    · cases z
  · rw [left_nil]
    exact Nat.le_refl _
theorem SInv.skip {c : Cells} {h k : Nat} {met ah : List (Nat × Nat)} {p : Nat × Nat} (L : SInv c h k met (ah ++ [p])) (hp : p ∈ met) : SInv c h k met ah := by
  have to : ∀ q, q ∈ ah ++ [p] ∨ q ∈ met → q ∈ ah ∨ q ∈ met := fun q hq => by
    rcases hq with z | z
    · rcases List.mem_append.mp z with z | z
      · exact .inl z
      · exact .inr (List.mem_singleton.mp z ▸ hp)
    · exact .inr z
  refine ⟨L.n1, L.n2, fun q hq => L.inK q (List.mem_append_left _ hq), L.inM, to _ L.st, fun q hq => ?_, fun r hr hP q hq => L.so r hr hP q (hq.imp (fun z => List.mem_append_left _ z) id), ?_⟩
  · obtain ⟨x, y, ex, ey, ha, hn⟩ := L.cl q hq
    exact ⟨x, y, ex, ey, ha, fun z hz => to z (hn z hz)⟩
  · have := L.fuel
    rw [List.length_append, List.length_singleton] at this
    omega
theorem left_snoc {c : Cells} (hc : (keys c).Nodup) {met : List (Nat × Nat)} {p : Nat × Nat} {x : Cell} (ex : c.get p.1 = some x) (hm : p.1 ∉ met.map fun q => q.1) : sumU (left c (met ++ [p])) + (x.length + 1) = sumU (left c met) := by
  have e : left c (met ++ [p]) = left c ((p.1, p.2) :: met) := by
    unfold left
    apply List.filter_congr
    intro z _
    rw [List.any_append, List.any_cons, List.any_cons, List.any_nil, Bool.or_false, Bool.or_comm]
  rw [e]
  exact left_drop hc ex fun q hq z => hm (List.mem_map.mpr ⟨q, hq, z⟩)
theorem SInv.add {c : Cells} (hc : (keys c).Nodup) (hrf : ∀ x ∈ c, ∀ a ∈ refs x.2, a ∈ keys c) {h k : Nat} {met ah : List (Nat × Nat)} {p : Nat × Nat} {x y : Cell} (L : SInv c h k met (ah ++ [p])) (ex : c.get p.1 = some x) (ey : c.get p.2 = some y)
    (h1 : p.1 ∉ met.map fun q => q.1) (h2 : p.2 ∉ met.map fun q => q.2) (ha : agr x y = true) : SInv c h k (met ++ [p]) (ah ++ nexts x y) := by
  have to : ∀ q, q ∈ ah ++ [p] ∨ q ∈ met → q ∈ ah ++ nexts x y ∨ q ∈ met ++ [p] := fun q hq => by
    rcases hq with z | z
    · rcases List.mem_append.mp z with z | z
      · exact .inl (List.mem_append_left _ z)
      · exact .inr (List.mem_append_right _ z)
    · exact .inr (List.mem_append_left _ z)
  have hd := left_snoc hc ex h1
  have hl := nexts_len x y
  refine ⟨?_, ?_, fun q hq => ?_, fun q hq => ?_, to _ L.st, fun q hq => ?_, fun r hr hP q hq => ?_, ?_⟩
  · rw [List.map_append]
    exact nd_snoc L.n1 h1
  · rw [List.map_append]
    exact nd_snoc L.n2 h2
  · rcases List.mem_append.mp hq with z | z
    · exact L.inK q (List.mem_append_left _ z)
    · have := nexts_ref z
      exact ⟨hrf _ (mem_of_get ex) _ this.1, hrf _ (mem_of_get ey) _ this.2⟩
  · rcases List.mem_append.mp hq with z | z
    · exact L.inM q z
    · rw [List.mem_singleton.mp z]
      exact isSome_iff.mp (by rw [ex]; rfl)
  · rcases List.mem_append.mp hq with z | z
    · obtain ⟨x', y', ex', ey', ha', hn⟩ := L.cl q z
      exact ⟨x', y', ex', ey', ha', fun u hu => to u (hn u hu)⟩
    · rw [List.mem_singleton.mp z]
      exact ⟨x, y, ex, ey, ha, fun u hu => .inl (List.mem_append_right _ hu)⟩
  · have rp : r p.1 p.2 := L.so r hr hP p (.inl (List.mem_append_right _ (List.mem_singleton.mpr rfl)))
    rcases hq with z | z
    · rcases List.mem_append.mp z with z | z
      · exact L.so r hr hP q (.inl (List.mem_append_left _ z))
      · obtain ⟨x', y', ex', ey', haf⟩ := hP.2.2 _ _ rp
        rw [ex] at ex'
        rw [ey] at ey'
        cases ex'
        cases ey'
        exact (af_iff.mp haf).2.2 q z
    · rcases List.mem_append.mp z with z | z
      · exact L.so r hr hP q (.inr z)
      · rw [List.mem_singleton.mp z]
        exact rp
  · have := L.fuel
    rw [List.length_append, List.length_singleton] at this
    rw [List.length_append]
    omega
theorem SInv.yes {c : Cells} {h k : Nat} {met : List (Nat × Nat)} (L : SInv c h k met []) : Alike c h k := by
  have hst : (h, k) ∈ met := L.st.elim (fun z => nomatch z) id
  refine ⟨fun a b => (a, b) ∈ met, hst, fun a b d z1 z2 => ?_, fun a b d z1 z2 => ?_, fun a b hm => ?_⟩
  · have := inj_of_nodup L.n1 _ z1 _ z2 rfl
    cases this
    rfl
  · have := inj_of_nodup L.n2 _ z1 _ z2 rfl
    cases this
    rfl
  · obtain ⟨x, y, ex, ey, ha, hn⟩ := L.cl _ hm
    have hag := agr_iff.mp ha
    exact ⟨x, y, ex, ey, af_iff.mpr ⟨hag.1, hag.2, fun p hp => (hn p hp).elim (fun z => nomatch z) id⟩⟩
theorem SInv.no_met {c : Cells} {h k : Nat} {met ah : List (Nat × Nat)} {p : Nat × Nat} (L : SInv c h k met (ah ++ [p])) (hp : p ∉ met) (hm : p.1 ∈ (met.map fun q => q.1) ∨ p.2 ∈ met.map fun q => q.2) : ¬ Alike c h k := by
  rintro ⟨r, hr, r1, r2, r3⟩
  have rp : r p.1 p.2 := L.so r hr ⟨r1, r2, r3⟩ p (.inl (List.mem_append_right _ (List.mem_singleton.mpr rfl)))
  rcases hm with z | z
  · obtain ⟨q, hq, e⟩ := List.mem_map.mp z
    have rq := L.so r hr ⟨r1, r2, r3⟩ q (.inr hq)
    have e' : q.1 = p.1 := e
    rw [e'] at rq
    have := r1 _ _ _ rp rq
    exact hp (by have e2 : q = p := Prod.ext e' this.symm; rw [← e2]; exact hq)
  · obtain ⟨q, hq, e⟩ := List.mem_map.mp z
    have rq := L.so r hr ⟨r1, r2, r3⟩ q (.inr hq)
    have e' : q.2 = p.2 := e
    rw [e'] at rq
    have := r2 _ _ _ rp rq
    exact hp (by have e2 : q = p := Prod.ext this.symm e'; rw [← e2]; exact hq)
theorem SInv.no_agr {c : Cells} {h k : Nat} {met ah : List (Nat × Nat)} {p : Nat × Nat} {x y : Cell} (L : SInv c h k met (ah ++ [p])) (ex : c.get p.1 = some x) (ey : c.get p.2 = some y) (ha : agr x y = false) : ¬ Alike c h k := by
  rintro ⟨r, hr, r1, r2, r3⟩
  have rp : r p.1 p.2 := L.so r hr ⟨r1, r2, r3⟩ p (.inl (List.mem_append_right _ (List.mem_singleton.mpr rfl)))
  obtain ⟨x', y', ex', ey', haf⟩ := r3 _ _ rp
  rw [ex] at ex'
  rw [ey] at ey'
  cases ex'
  cases ey'
  have := af_iff.mp haf
  rw [agr_iff.mpr ⟨this.1, this.2.1⟩] at ha
  cases ha
/-! ### dicts of ints -/
def mapK {α : Type} (kf : α → Nat) (vf : α → V) (l : List α) : List (Key × V) := l.map fun e => (Sum.inl (kf e : Int), vf e)
theorem mapK_len {α : Type} (kf : α → Nat) (vf : α → V) (l : List α) : (mapK kf vf l).length = l.length := by unfold mapK; rw [List.length_map]
theorem valV_mapK {α : Type} {kf : α → Nat} {vf : α → V} : ∀ {l : List α}, (l.map kf).Nodup → ∀ {a : α}, a ∈ l → valV (mapK kf vf l) (Sum.inl (kf a : Int)) = some (vf a)
  | [], _, a, ha => nomatch ha
  | x :: l, hn, a, ha => by
    have hn' := List.nodup_cons.mp (show (kf x :: l.map kf).Nodup from hn)
    rcases List.mem_cons.mp ha with z | z
    · subst z
      exact valV_pos (p := (Sum.inl (kf a : Int), vf a)) rfl
    · have hne : ¬ kf x = kf a := fun q => hn'.1 (List.mem_map.mpr ⟨a, z, q.symm⟩)
      exact (valV_neg (p := (Sum.inl (kf x : Int), vf x)) (fun q => hne (by have := Sum.inl.inj q; omega))).trans (valV_mapK hn'.2 z)
theorem valV_mapK_no {α : Type} {kf : α → Nat} {vf : α → V} {n : Nat} : ∀ {l : List α}, n ∉ l.map kf → valV (mapK kf vf l) (Sum.inl (n : Int)) = none
  | [], _ => rfl
  | x :: l, h => by
    have hne : ¬ kf x = n := fun q => h (by rw [← q]; exact List.mem_cons_self ..)
    exact (valV_neg (p := (Sum.inl (kf x : Int), vf x)) (fun q => hne (by have := Sum.inl.inj q; omega))).trans (valV_mapK_no fun z => h (List.mem_cons_of_mem _ z))
theorem valV_mapK_some {α : Type} {kf : α → Nat} {vf : α → V} {l : List α} (hn : (l.map kf).Nodup) (n : Nat) : (valV (mapK kf vf l) (Sum.inl (n : Int))).isSome = decide (n ∈ l.map kf) := by
  by_cases q : n ∈ l.map kf
  · obtain ⟨a, ha, e⟩ := List.mem_map.mp q
    subst e
    rw [valV_mapK hn ha, decide_eq_true q]
    rfl
  · rw [valV_mapK_no q, decide_eq_false q]
    rfl
theorem putK_mapK {α : Type} {kf : α → Nat} {vf : α → V} {l : List α} {a : α} (h : kf a ∉ l.map kf) : putK (mapK kf vf l) (Sum.inl (kf a : Int)) (vf a) = mapK kf vf (l ++ [a]) := by
  rw [putK_new _ (valV_mapK_no h)]
  unfold mapK
  rw [List.map_append]
  rfl
end Rc

end
section
set_option Elab.async false
set_option linter.all false
set_option maxRecDepth 100000
set_option maxHeartbeats 2000000
namespace Rc
open PySem PySem.Spec PyProof.Rows L2
open Sz13 (Field Cell Cells Led refs kept does done made putIn Alike alikeFields)
theorem paired_unsnoc {α β : Type} {G : α → β → Prop} {b : β} : ∀ {m : List β} {l : List α}, Paired G l (m ++ [b]) → ∃ l' a, l = l' ++ [a] ∧ Paired G l' m ∧ G a b
  | [], _, .cons h .nil => ⟨[], _, rfl, .nil, h⟩
  | _ :: m, _, .cons h t => by
    obtain ⟨l', a, e, p, g⟩ := paired_unsnoc (m := m) t
    exact ⟨_ :: l', a, by rw [e]; rfl, .cons h p, g⟩
theorem if_of {c : TT} {t u : TS} {D : Ends} {σ : L2.St} {H : Hp} (h : c σ H fun b H1 => if b = true then t D σ H1 else u D σ H1) : tIfS c t u D σ H := h
structure Fn1 (P : Program) (w : World) (K : PySem.W.Frag) (mg : Str → Option Value) (base : Heap) (x : Str) (k : Nat) (ps : List Str) (sp : Sp) (fL : Addr) (fdL : FuncData) : Prop where
  ok : FnOk P w K mg base CX0 k fL fdL ps sp
  b : Binds K fdL ps []
  m : mg x = some (.ref fL)
  kp : PySem.W.keepIn K (.ref fL) = true
structure Mt1 (P : Program) (w : World) (K : PySem.W.Frag) (mg : Str → Option Value) (base : Heap) (C : Addr) (x : Str) (k : Nat) (ps : List Str) (sp : Sp) (fL : Addr) (fdL : FuncData) : Prop where
  ok : FnOk P w K mg base CX0 k fL fdL ps sp
  b : Binds K fdL ps []
  m : Meth K C x fL
section
variable {P : Program} {w : World} {K : PySem.W.Frag} {mg : Str → Option Value} {base : Heap}
abbrev kvP (met : List (Nat × Nat)) : List (Key × V) := mapK (fun p : Nat × Nat => p.1) (fun p => nV p.2) met
abbrev kvT (met : List (Nat × Nat)) : List (Key × V) := mapK (fun p : Nat × Nat => p.2) (fun _ => V.bl true) met
def spCan (K : PySem.W.Frag) : Sp := fun vs H Q _ => ∃ (d : Addr) (T : List Rw) (h k : Nat), vs = [.ref d, nV h, nV k] ∧ H d = some (.dK (rows T)) ∧ Tab K H T ∧ h ∈ hs T ∧ k ∈ hs T ∧ (∀ e ∈ T, ∀ k ∈ refs e.2.2, k ∈ hs T) ∧ sumU (cof T) ≤ 65536 ∧
  (∀ e ∈ T, e.2.2.length ≤ 8) ∧ (∀ e ∈ T, 0 < e.1) ∧ ∀ H' b, Same H H' → (b = true ↔ Alike (cof T) h k) → Q (.bl b) H'
theorem scCa : FnScope ["cells", "h", "k", "partners", "taken", "ahead", "pair", "one", "other"] ["cells", "h", "k"] (defScope sCan) := ⟨rfl, rfl, rfl, by decide +kernel, rfl, by decide +kernel, by decide +kernel⟩
theorem ok_can {f C an fA fH : Addr} {fd fdA fdH : FuncData} (F : Fun K "can_be_paired" "can_be_paired" sCan f fd) (T_ : Txt K mg C an) (GA : Fn1 P w K mg base "agree" 1 ["one", "other"] (spAgree K) fA fdA) (GH : Fn1 P w K mg base "held_pairs" 1 ["one", "other"] (spPairs K) fH fdH) :
    FnOk P w K mg base CX0 2 f fd ["cells", "h", "k"] (spCan K) := by
  refine F.ok scCa (fun vs H Q E h => ?_) (fun cdv A outer s H vs Q E hr h => ?_)
  · obtain ⟨d, T, h, k, rfl, _⟩ := h
    rfl
  · obtain ⟨d, T, h, k, rfl, hd, hT, hh, hk, hrf, hU, h8, hpos, kk⟩ := h
    have hu := hu_of hr
    refine ⟨_, pss_cons (ps_set (i := 3) scCa.nd rfl (Or.inl rfl) pe_dnewK)
      (pss_cons (ps_set (i := 4) scCa.nd rfl (Or.inl rfl) pe_dnewK)
      (pss_cons (ps_set (i := 5) scCa.nd rfl (Or.inl rfl) (pe_lst (pa_cons (pe_tup (pa_cons (pv 1) (pa_cons (pv 2) pa_nil))) pa_nil)))
      (pss_cons (ps_while PassesOwn.never (pt_truth (pv 5) (fun _ => rfl))
        (pss_cons (ps_set (i := 6) scCa.nd rfl (Or.inl rfl) (pe_bm0 PySem.F.plainAttrs_list PySem.F.slot_list_pop PySem.F.type_list_pop mt_pop (pv 5)))
        (pss_cons (ps_set (i := 7) scCa.nd rfl (Or.inl rfl) (pe_ix ix_tup (pv 6) pe_int (fun _ _ => rfl)))
        (pss_cons (ps_set (i := 8) scCa.nd rfl (Or.inl rfl) (pe_ix ix_tup (pv 6) pe_int (fun _ _ => rfl)))
        (pss_one (ps_if (PW.pt (pw_or (pt_cmp (pc_din hu (pv 7) (pv 3))) (pw_or1 (pt_cmp (pc_din hu (pv 8) (pv 4))))))
          (pss_one (ps_if (pt_cmpR op_ne (pe_dget2 hu (pv 3) (pv 7) pe_int ⟨rfl, rfl, rfl, rfl⟩) (pv 8) (nomark _)) (pss_one (ps_ret pe_bl)) pss_nil))
          (pss_one (ps_if (pt_val (pe_call GA.ok hr rfl GA.m GA.kp GA.b .nil pass0 (pa_cons (pe_dget hu (pv 0) (pv 7) (fun _ _ => rfl)) (pa_cons (pe_dget hu (pv 0) (pv 8) (fun _ _ => rfl)) pa_nil))))
            (pss_cons (ps_dput hu (pv 3) (pv 7) (pv 8) rfl)
            (pss_cons (ps_dput hu (pv 4) (pv 8) pe_bl rfl)
            (pss_one (ps_expr (pe_bm PySem.F.plainAttrs_list PySem.F.slot_list_extend PySem.F.type_list_extend mt_extend (pv 5) (pa_cons
              (pe_call GH.ok hr rfl GH.m GH.kp GH.b .nil pass0 (pa_cons (pe_dget hu (pv 0) (pv 7) (fun _ _ => rfl)) (pa_cons (pe_dget hu (pv 0) (pv 8) (fun _ _ => rfl)) pa_nil))) pa_nil))))))
            (pss_one (ps_ret pe_bl))))))))))
      (pss_one (ps_ret pe_bl))))), ?_⟩
    have hck : (keys (cof T)).Nodup := by rw [keys_cof]; exact hT.nk
    have hcr : ∀ x ∈ cof T, ∀ a ∈ refs x.2, a ∈ keys (cof T) := fun x hx a ha => by
      obtain ⟨e, he, rfl⟩ := List.mem_map.mp hx
      rw [keys_cof]
      exact hrf e he a ha
    intro dp hdp dt hdt
    have npt : dp ≠ dt := ne_of_none upd_same hdt
    have hdt0 : H dt = none := by rw [upd_ne (fun e => npt e.symm)] at hdt; exact hdt
    refine ⟨_, rfl, _, rfl, by show 2 ≤ sizeLine; decide, fun tp htp => ⟨by show 1 ≤ sizeLine; decide, fun da hda => ?_⟩⟩
    have s1 : Same H (upd H dp (.dK [])) := same_new hdp
    have s2 := s1.trans (same_new (o := .dK []) hdt)
    have s3 := s2.trans (same_new (o := .tup [nV h, nV k]) htp)
    have s4 := s3.trans (same_new (o := .lst [V.ref tp]) hda)
    have hda0 : H da = none := s3.free hda
    refine ⟨fun m σ H' => ∃ (o1 o2 o3 : Option V) (met ah : List (Nat × Nat)) (ws : List V), σ = [some (.ref d), some (nV h), some (nV k), some (.ref dp), some (.ref dt), some (.ref da), o1, o2, o3] ∧ Same H H' ∧ H' dp = some (.dK (kvP met)) ∧ H' dt = some (.dK (kvT met)) ∧
      H' da = some (.lst ws) ∧ Paired (PAt H') ws ah ∧ SInv (cof T) h k met ah ∧ m = ah.length + sumU (left (cof T) met), ⟨_, none, none, none, [], [(h, k)], [V.ref tp], rfl, s4, ?_, ?_, upd_same, .cons ⟨tp, rfl, ?_⟩ .nil, SInv.start (by rw [keys_cof]; exact hh) (by rw [keys_cof]; exact hk), rfl⟩, ?_⟩
    · exact same_new hda _ _ (same_new htp _ _ (same_new hdt _ _ upd_same))
    · exact same_new hda _ _ (same_new htp _ _ upd_same)
    · exact same_new hda _ _ upd_same
    rintro m σ H1 ⟨o1, o2, o3, met, ah, ws, rfl, sm, h1p, h1t, h1a, pw, L, rfl⟩
    refine ⟨_, rfl, !ws.isEmpty, .inl ⟨_, SqL.of h1a, rfl⟩, ?_⟩
    rcases List.eq_nil_or_concat ah with rfl | ⟨ah', p, rfl⟩
    · cases pw
      refine ifF rfl ?_
      exact kk H1 true sm ⟨fun _ => L.yes, fun _ => rfl⟩
    · rw [List.concat_eq_append] at pw L ⊢
      obtain ⟨ws', v, rfl, pw', tq, rfl, htq⟩ := paired_unsnoc pw
      refine ifT (by simp) ?_
      refine ⟨_, fun σ' H' z => z, ?_⟩
      refine ⟨_, rfl, .inl ⟨rfl, _, SqL.of h1a⟩, da, ws' ++ [V.ref tq], V.ref tq, rfl, rfl, h1a, by simp, ?_⟩
      rw [List.dropLast_concat]
      have npa : dp ≠ da := ne_of h1p h1a (by intro z; cases z)
      have nta : dt ≠ da := ne_of h1t h1a (by intro z; cases z)
      have nqa : tq ≠ da := ne_of htq h1a (by intro z; cases z)
      have sm2 : Same H (upd H1 da (.lst ws')) := fun b o z => by rw [upd_ne (ne_of_none z hda0)]; exact sm b o z
      have h2p := same_upd (o := .lst ws') h1p npa
      have h2t := same_upd (o := .lst ws') h1t nta
      have h2q := same_upd (o := .lst ws') htq nqa
      have pw2 : Paired (PAt (upd H1 da (.lst ws'))) ws' ah' := Paired.mapP pw' fun _ _ ⟨c, e, z⟩ => ⟨c, e, same_upd z (ne_of z h1a (by intro z; cases z))⟩
      refine ⟨_, rfl, tq, _, 0, nV p.1, rfl, rfl, SqT.of h2q, rfl, ?_⟩
      refine ⟨_, rfl, tq, _, 1, nV p.2, rfl, rfl, SqT.of h2q, rfl, ?_⟩
      dsimp only [gName]
      refine if_of ?_
      refine or_by (a := decide (p.1 ∈ met.map fun q => q.1)) (b := decide (p.2 ∈ met.map fun q => q.2)) (fun Q' z => ⟨_, rfl, _, rfl, dp, _, rfl, DGet.k (k := Sum.inl (p.1 : Int)) h2p, _, rfl, by rw [valV_mapK_some L.n1]; exact z⟩)
        (fun _ Q' z => ⟨_, rfl, _, rfl, dt, _, rfl, DGet.k (k := Sum.inl (p.2 : Int)) h2t, _, rfl, by rw [valV_mapK_some L.n2]; exact z⟩) ?_
      have pK := L.inK p (List.mem_append_right _ (List.mem_singleton.mpr rfl))
      rw [keys_cof] at pK
      obtain ⟨e1, he1, ee1⟩ := List.mem_map.mp pK.1
      obtain ⟨e2, he2, ee2⟩ := List.mem_map.mp pK.2
      have ee1 : e1.1 = p.1 := ee1
      have ee2 : e2.1 = p.2 := ee2
      have gx : (cof T).get p.1 = some e1.2.2 := by rw [← ee1]; exact get_cof hT.nk he1
      have gy : (cof T).get p.2 = some e2.2.2 := by rw [← ee2]; exact get_cof hT.nk he2
      by_cases q : p.1 ∈ (met.map fun q => q.1) ∨ p.2 ∈ met.map fun q => q.2
      · refine ifT (by simpa using q) ?_
        by_cases qm : p ∈ met
        · have hg := DGet.k (k := Sum.inl (p.1 : Int)) h2p
          rw [valV_mapK L.n1 qm] at hg
          refine ⟨_, rfl, dp, rfl, .inl ⟨_, .inl h2p⟩, _, rfl, _, hg, _, rfl, rfl, _, rfl, ?_⟩
          refine ifF (by simp) ?_
          refine ⟨_, ?_, _, _, _, met, ah', ws', rfl, sm2, h2p, h2t, upd_same, pw2, L.skip qm, rfl⟩
          simp only [List.length_append, List.length_singleton]
          omega
        · have no : Q (.bl false) (upd H1 da (.lst ws')) := kk _ false sm2 ⟨fun z => (nomatch z), fun z => (L.no_met qm q z).elim⟩
          by_cases qp : p.1 ∈ met.map fun q => q.1
          · obtain ⟨r, hr', er⟩ := List.mem_map.mp qp
            have er : r.1 = p.1 := er
            have hg := DGet.k (k := Sum.inl (r.1 : Int)) h2p
            rw [valV_mapK L.n1 hr', er] at hg
            refine ⟨_, rfl, dp, rfl, .inl ⟨_, .inl h2p⟩, _, rfl, _, hg, _, rfl, rfl, _, rfl, ?_⟩
            refine ifT ?_ no
            have : ¬ (V.int (r.2 : Int) = V.int (p.2 : Int)) := fun z => qm (by
              injection z with z
              have e2 : r = p := Prod.ext er (by omega)
              rw [← e2]
              exact hr')
            show (!decide (V.int (r.2 : Int) = V.int (p.2 : Int))) = true
            rw [decide_eq_false this]
            rfl
          · have hg := DGet.k (k := Sum.inl (p.1 : Int)) h2p
            rw [valV_mapK_no qp] at hg
            refine ⟨_, rfl, dp, rfl, .inl ⟨_, .inl h2p⟩, _, rfl, _, hg, _, rfl, rfl, _, rfl, ?_⟩
            refine ifT ?_ no
            have : ¬ (V.int 0 = V.int (p.2 : Int)) := fun z => by
              injection z with z
              have := hpos e2 he2
              omega
            show (!decide (V.int 0 = V.int (p.2 : Int))) = true
            rw [decide_eq_false this]
            rfl
      · refine ifF (by simpa using q) ?_
        have q1 : p.1 ∉ met.map fun q => q.1 := fun z => q (.inl z)
        have q2 : p.2 ∉ met.map fun q => q.2 := fun z => q (.inr z)
        have hg1 : ∀ H' : Hp, Same H H' → DGet H' d (nV p.1) (some (.ref e1.2.1)) := fun H' sH => by rw [← ee1]; exact dget_row (sH _ _ hd) hT.nk he1
        have hg2 : ∀ H' : Hp, Same H H' → DGet H' d (nV p.2) (some (.ref e2.2.1)) := fun H' sH => by rw [← ee2]; exact dget_row (sH _ _ hd) hT.nk he2
        have hT2 := hT.keep sm2
        refine ⟨_, rfl, _, rfl, d, .ref e1.2.1, rfl, hg1 _ sm2, _, rfl, _, rfl, d, .ref e2.2.1, rfl, hg2 _ sm2, e1.2.1, e2.2.1, e1.2.2, e2.2.2, rfl, hT2.at_ e1 he1, hT2.at_ e2 he2, fun H3 s23 => ⟨_, rfl, ?_⟩⟩
        have sm3 : Same H H3 := sm2.trans s23
        by_cases qa : agr e1.2.2 e2.2.2 = true
        · refine ifT qa ?_
          have h3p := s23 _ _ h2p
          have h3t := s23 _ _ h2t
          have h3a := s23 _ _ (upd_same (H := H1) (a := da) (o := .lst ws'))
          have pw3 : Paired (PAt H3) ws' ah' := Paired.mapP pw2 fun _ _ z => z.keep s23
          have hml : met.length ≤ 65536 := by
            have h1 : (met.map fun q => q.1).length ≤ (keys (cof T)).length := len_sub L.n1 fun a ha => by
              obtain ⟨r, hr', er⟩ := List.mem_map.mp ha
              exact er ▸ L.inM r hr'
            have h2 := len_le_sumU (cof T)
            unfold keys at h1
            rw [List.length_map, List.length_map] at h1
            omega
          refine ⟨_, rfl, _, rfl, _, rfl, dp, _, rfl, DPut.k (k := Sum.inl (p.1 : Int)) h3p (by rw [mapK_len]; exact Nat.lt_of_le_of_lt hml (by decide)), ?_⟩
          rw [putK_mapK (a := p) q1]
          have h4t := same_upd (o := .dK (kvP (met ++ [p]))) h3t (fun z => npt z.symm)
          have h4a := same_upd (o := .dK (kvP (met ++ [p]))) h3a (fun z => npa z.symm)
          refine ⟨_, rfl, _, rfl, dt, _, rfl, DPut.k (k := Sum.inl (p.2 : Int)) h4t (by rw [mapK_len]; exact Nat.lt_of_le_of_lt hml (by decide)), ?_⟩
          rw [putK_mapK (a := p) q2]
          have h5p := same_upd (o := .dK (kvT (met ++ [p]))) (upd_same (H := H3) (a := dp) (o := .dK (kvP (met ++ [p])))) npt
          have h5a := same_upd (o := .dK (kvT (met ++ [p]))) h4a (fun z => nta z.symm)
          have sm5 : Same H (upd (upd H3 dp (.dK (kvP (met ++ [p])))) dt (.dK (kvT (met ++ [p])))) := fun b o z => by rw [upd_ne (ne_of_none z hdt0), upd_ne (ne_of_none z hdp)]; exact sm3 b o z
          have pw5 : Paired (PAt (upd (upd H3 dp (.dK (kvP (met ++ [p])))) dt (.dK (kvT (met ++ [p]))))) ws' ah' := Paired.mapP pw3 fun _ _ ⟨c, e, z⟩ => ⟨c, e, by rw [upd_ne (ne_of z h3t (by intro z; cases z)), upd_ne (ne_of z h3p (by intro z; cases z))]; exact z⟩
          have hT5 := hT.keep sm5
          refine ⟨_, rfl, .inl ⟨rfl, _, SqL.of h5a⟩, ?_⟩
          refine ⟨_, rfl, _, rfl, d, .ref e1.2.1, rfl, hg1 _ sm5, _, rfl, _, rfl, d, .ref e2.2.1, rfl, hg2 _ sm5, e1.2.1, e2.2.1, e1.2.2, e2.2.2, rfl, hT5.at_ e1 he1, hT5.at_ e2 he2, qa, h8 e1 he1, fun H6 D zs s56 hD5 h6D pz => ?_⟩
          have h6a := s56 _ _ h5a
          have sm6 := sm5.trans s56
          have hfl := (L.add hck hcr gx gy q1 q2 qa).fuel
          have hlw : ws'.length + zs.length ≤ sizeLine := by
            have l1 := Paired.length pw5
            have l2 := Paired.length pz
            rw [List.length_append] at hfl
            have : (65537 : Nat) ≤ sizeLine := by decide
            omega
          refine ⟨da, D, ws', zs, rfl, rfl, h6a, h6D, hlw, ?_⟩
          refine ⟨_, ?_, _, _, _, met ++ [p], ah' ++ nexts e1.2.2 e2.2.2, ws' ++ zs, rfl, ?_, ?_, ?_, upd_same, ?_, L.add hck hcr gx gy q1 q2 qa, rfl⟩
          · have hd1 := left_snoc hck gx q1
            have hd2 := nexts_len e1.2.2 e2.2.2
            simp only [List.length_append, List.length_singleton]
            omega
          · intro b o z
            rw [upd_ne (ne_of_none z hda0)]
            exact sm6 b o z
          · exact same_upd (s56 _ _ h5p) npa
          · exact same_upd (s56 _ _ upd_same) nta
          · have up : ∀ {v q}, PAt H6 v q → PAt (upd H6 da (.lst (ws' ++ zs))) v q := fun ⟨c, e, z⟩ => ⟨c, e, same_upd z (ne_of z h6a (by intro z; cases z))⟩
            exact paired_app (Paired.mapP pw5 fun _ _ z => up (z.keep s56)) (Paired.mapP pz fun _ _ z => up z)
        · have qa' : agr e1.2.2 e2.2.2 = false := by
            cases z : agr e1.2.2 e2.2.2 with
            | true => exact absurd z qa
            | false => rfl
          refine ifF qa' ?_
          exact kk _ false sm3 ⟨fun z => (nomatch z), fun z => (L.no_agr gx gy qa' z).elim⟩
end
end Rc

end
section
set_option Elab.async false
set_option linter.all false
set_option maxRecDepth 100000
set_option maxHeartbeats 2000000
namespace Rc
open PySem PySem.Spec PyProof.Rows L2
open Sz13 (Field Cell Cells Led refs kept does done made putIn Alike alikeFields)
theorem alike_get {c d : Cells} (h : ∀ a, c.get a = d.get a) {a b : Nat} (q : Alike c a b) : Alike d a b := by
  obtain ⟨r, h1, h2, h3, h4⟩ := q
  refine ⟨r, h1, h2, h3, fun u v hr => ?_⟩
  obtain ⟨x, y, ex, ey, hf⟩ := h4 u v hr
  exact ⟨x, y, by rw [← h]; exact ex, by rw [← h]; exact ey, hf⟩
section
variable {P : Program} {w : World} {K : PySem.W.Frag} {mg : Str → Option Value} {base : Heap}
def spAlike (K : PySem.W.Frag) (C : Addr) : Sp := fun vs H Q _ => ∃ (p : Addr) (h k : Int), vs = [.ref p, .int h, .int k] ∧ 0 ≤ h ∧ 0 ≤ k ∧ Ans K C H p (.alike h.toNat k.toNat) Q
theorem scAl : FnScope ["self", "h", "k"] ["self", "h", "k"] (defScope sAlike) := ⟨rfl, rfl, rfl, by decide +kernel, rfl, by decide +kernel, by decide +kernel⟩
theorem ok_alike {f C an fC : Addr} {fd fdC : FuncData} (F : Fun K "alike" "Store.alike" sAlike f fd) (T : Txt K mg C an) (G : Fn1 P w K mg base "can_be_paired" 2 ["cells", "h", "k"] (spCan K) fC fdC) : FnOk P w K mg base CX0 3 f fd ["self", "h", "k"] (spAlike K C) := by
  refine F.ok scAl (fun vs H Q E h => ?_) (fun cdv A outer s H vs Q E hr h => ?_)
  · obtain ⟨p, h, k, rfl, _⟩ := h
    rfl
  · obtain ⟨p, h, kz, rfl, h0, k0, t, own, st, Td, k⟩ := h
    have hu := hu_of hr
    refine ⟨_, pss_cons (ps_if (PW.pt (pw_or (pt_cmp (pc_dnotin hu (pv 1) (pe_fld (pv 0) rfl))) (pw_or1 (pt_cmp (pc_dnotin hu (pv 2) (pe_fld (pv 0) rfl)))))) (pss_one (ps_ret (pe_gi T.gNot (by rfl)))) pss_nil)
      (pss_one (ps_ret (pe_ifExp (pt_val (pe_call G.ok hr rfl G.m G.kp G.b .nil pass0 (pa_cons (pe_fld (pv 0) rfl) (pa_cons (pv 1) (pa_cons (pv 2) pa_nil))))) pe_int pe_int))), ?_⟩
    have st' := st
    obtain ⟨dx, d, rl, Tb, rfl, hp, hd, hrl, hra, hT, hpm⟩ := st
    obtain ⟨a1, a2, a3⟩ := Td.ask hT.nk hpm
    refine seq_if ?_
    refine or_by (a := !decide (h.toNat ∈ hs Tb)) (b := !decide (kz.toNat ∈ hs Tb)) (fun Q' z => ⟨_, rfl, _, rfl, p, C, dx, _, _, rfl, hp, T.cl, T.nC, sf_cells, d, _, rfl, DGet.k (k := Sum.inl h) hd, _, rfl, by rw [valV_rows_isSome hT.nk h0]; exact z⟩)
      (fun _ Q' z => ⟨_, rfl, _, rfl, p, C, dx, _, _, rfl, hp, T.cl, T.nC, sf_cells, d, _, rfl, DGet.k (k := Sum.inl kz) hd, _, rfl, by rw [valV_rows_isSome hT.nk k0]; exact z⟩) ?_
    by_cases q : h.toNat ∈ hs Tb ∧ kz.toNat ∈ hs Tb
    · refine ifF (by rw [decide_eq_true q.1, decide_eq_true q.2]; rfl) ?_
      obtain ⟨n, rfl⟩ : ∃ n : Nat, h = (n : Int) := ⟨h.toNat, by omega⟩
      obtain ⟨m, rfl⟩ : ∃ m : Nat, kz = (m : Int) := ⟨kz.toNat, by omega⟩
      rw [Int.toNat_natCast, Int.toNat_natCast] at q k
      have hc : ∀ a, (cof Tb).get a = t.cells.get a := fun a => get_perm hpm (by rw [keys_cof]; exact hT.nk) a
      have hin : ∀ e ∈ Tb, (e.1, e.2.2) ∈ t.cells := fun e he => hpm.mem_iff.mp (mem_cof he)
      refine ⟨_, rfl, p, C, dx, _, _, rfl, hp, T.cl, T.nC, sf_cells, _, rfl, _, rfl, d, Tb, n, m, rfl, hd, hT, q.1, q.2, a1, a2, fun e he => Td.good.w8 (e.1, e.2.2) (hin e he), fun e he => Td.good.lo (e.1, e.2.2) (hin e he), fun H' b sm hb => ⟨b, rfl, ?_⟩⟩
      have hdo : does t (.alike n m) = (t, if b = true then 1 else 0) := by
        rw [does_of (fun x hx => by
          have : x = n ∨ x = m := by simpa using (show x ∈ [n, m] from hx)
          rcases this with z | z
          · rw [z]
            exact (has_row Td hpm).mpr q.1
          · rw [z]
            exact (has_row Td hpm).mpr q.2)]
        show (t, if Sz13.alike t.cells n m = true then 1 else 0) = _
        have e : Sz13.alike t.cells n m = b := by
          have h1 := alike_iff (a := n) (b := m) Td.good.nd Td.good.w8
          have h2 : Alike (cof Tb) n m ↔ Alike t.cells n m := ⟨alike_get hc, alike_get fun a => (hc a).symm⟩
          rw [Bool.eq_iff_iff, h1, ← h2]
          exact hb.symm
        rw [e]
      have fin : Q (.int (if b = true then 1 else 0)) H' := by
        refine ans_to (c := .alike n m) hdo ?_ (Keep.same sm) k
        rw [Td.self]
        exact st'.keep sm
      cases b with
      | true => exact ifT rfl fin
      | false => exact ifF rfl fin
    · refine ifT ?_ ?_
      · by_cases z : h.toNat ∈ hs Tb
        · rw [decide_eq_true z, decide_eq_false (fun z2 => q ⟨z, z2⟩)]
          rfl
        · rw [decide_eq_false z]
          rfl
      · by_cases z : h.toNat ∈ hs Tb
        · exact ans_stay (c := .alike h.toNat kz.toNat) (does_no (x := kz.toNat) (by show kz.toNat ∈ [h.toNat, kz.toNat]; simp) (fun z2 => q ⟨z, (has_row Td hpm).mp z2⟩)) st' Td k
        · exact ans_stay (c := .alike h.toNat kz.toNat) (does_no (x := h.toNat) (by show h.toNat ∈ [h.toNat, kz.toNat]; simp) (fun z2 => z ((has_row Td hpm).mp z2))) st' Td k
end
end Rc

end
section
set_option Elab.async false
set_option linter.all false
set_option maxRecDepth 100000
set_option maxHeartbeats 2000000
namespace Rc
open PySem PySem.Spec PyProof.Rows L2
open Sz13 (Field Cell Cells Led refs kept does done made putIn)
/-! ### renamed -/
theorem SqT.keep {K : PySem.W.Frag} {H H' : Hp} {a : Addr} {xs : List V} (s : Same H H') (h : SqT K H a xs) : SqT K H' a xs := by
  rcases h with (q | ⟨o, q⟩) | q
  · exact .inl (.inl (s _ _ q))
  · exact .inl (.inr ⟨o, s _ _ q⟩)
  · exact .inr q
theorem rd_keep {H H' : Hp} {a : Addr} {u : HO} (s : Same H H') (h : Rd H a u) : Rd H' a u := by
  rcases h with q | ⟨o, q⟩
  · exact .inl (s _ _ q)
  · exact .inr ⟨o, s _ _ q⟩
theorem dget_rd {H : Hp} {a : Addr} {kvs : List (Key × V)} {k : Key} (e : Rd H a (.dK kvs)) : DGet H a (kV k) (valV kvs k) := .inl ⟨kvs, k, e, rfl, rfl⟩
/-- the new names -/
abbrev kvN (N : Nat → Nat) (l : List Nat) : List (Key × V) := mapK (fun x : Nat => x) (fun x => nV (N x)) l
section
variable {P : Program} {w : World} {K : PySem.W.Frag} {mg : Str → Option Value} {base : Heap}
def spRen (K : PySem.W.Frag) : Sp := fun vs H Q _ => ∃ (a dn : Addr) (x : Cell) (N : Nat → Nat) (l : List Nat), vs = [.ref a, .ref dn] ∧ CellAt K H a x ∧ Rd H dn (.dK (kvN N l)) ∧ l.Nodup ∧ (∀ k ∈ refs x, k ∈ l) ∧ x.length ≤ 8 ∧
  ∀ H' D, Same H H' → H D = none → CellAt K H' D (Sz13.renamed N x) → Q (.ref D) H'
theorem scRn : FnScope ["fields", "names", "kind", "value"] ["fields", "names"] (defScope sRen) := ⟨rfl, rfl, rfl, by decide +kernel, rfl, by decide +kernel, by decide +kernel⟩
def lcR : Scope := { kind := .function, names := [(".0", .local), ("kind", .local), ("value", .local), ("HOLDS_CELL", .globalImplicit), ("names", .free)], isGenerator := false, isCoroutine := false }
theorem bkR : BlkOk ["fields", "names", "kind", "value"] (defScope sRen) lcR [("kind", 2), ("value", 3)] := blkOk_by (by decide +kernel)
theorem ok_ren {f C an : Addr} {fd : FuncData} (F : Fun K "renamed" "renamed" sRen f fd) (T : Txt K mg C an) : FnOk P w K mg base CX0 1 f fd ["fields", "names"] (spRen K) := by
  obtain ⟨tk, hHC⟩ := T.gHC
  refine F.ok scRn (fun vs H Q E h => ?_) (fun cdv A outer s H vs Q E hr h => ?_)
  · obtain ⟨a, dn, x, N, l, rfl, _⟩ := h
    rfl
  · obtain ⟨a, dn, x, N, l, rfl, ⟨va, hva, pa⟩, hdn, hnd, hin, h8, k⟩ := h
    have hu := hu_of hr
    refine ⟨_, pss_one (ps_ret (pe_lc (own := [("kind", 2), ("value", 3)]) rfl scRn.nd (pi_list (pv 0)) bkR
        (fun _ _ _ _ _ => pg_tupK (n := 2) K rfl (pgs_cons (pg_name (i := 2) scRn.nd rfl (Or.inl rfl)) (pgs_cons (pg_name (i := 3) scRn.nd rfl (Or.inl rfl)) pgs_nil)))
        (fun _ _ _ _ _ => pts_nil)
        (fun _ _ _ _ _ => pe_tup (pa_cons (pv 2) (pa_cons (pe_ifExp (pt_cmpR op_eq (pv 2) (pe_glob (v := .int 2) (by rfl) hHC ⟨_, rfl⟩) (nomark _)) (pe_dget hu (pv 1) (pv 3) (fun _ _ => rfl)) (pv 3)) pa_nil))))), ?_⟩
    have la : va.length = x.length := Paired.length pa
    refine ⟨_, rfl, a, rfl, ⟨_, SqL.of hva⟩, fun D hD => ?_⟩
    refine lc_list (K := K) (a := a) (xs := va) (fun i H' => Same H H' ∧ CellAt K H' D (Sz13.renamed N (x.take i))) ⟨same_new hD, [], upd_same, .nil⟩ ?_ ?_ ?_
    · rintro i H1 hi ⟨sm, _⟩
      exact SqL.of (sm _ _ hva)
    · rintro i v H1 hi ⟨sm, ws, hws, pw⟩
      obtain ⟨f1, hf1, q0⟩ := paired_at pa hi
      obtain ⟨b1, rfl, q1⟩ := q0.keep sm
      have hD2 := hws
      refine ⟨b1, _, rfl, q1, rfl, _, _, rfl, _, _, rfl, rfl, rfl, ?_⟩
      refine yes ?_
      have hl : ws.length ≤ 8 := by
        rw [Paired.length pw, renamed_len]
        exact Nat.le_trans (List.length_take_le' _ _) h8
      have fin : ∀ p, H1 p = none → ∃ acc, (upd H1 p (.tup [V.int (fK f1), V.int (fV (reF N f1))])) D = some (.lst acc) ∧ acc.length < sizeLine ∧
          (Same H (upd (upd H1 p (.tup [V.int (fK f1), V.int (fV (reF N f1))])) D (.lst (acc ++ [V.ref p]))) ∧ CellAt K (upd (upd H1 p (.tup [V.int (fK f1), V.int (fV (reF N f1))])) D (.lst (acc ++ [V.ref p]))) D (Sz13.renamed N (x.take (i + 1)))) := by
        intro p hp
        have sp : Same H1 (upd H1 p (.tup [V.int (fK f1), V.int (fV (reF N f1))])) := same_new hp
        refine ⟨ws, sp _ _ hws, Nat.lt_of_le_of_lt hl (by decide), fun c u z => ?_, ws ++ [V.ref p], upd_same, ?_⟩
        · rw [upd_ne (ne_of_none z hD)]
          exact sp _ _ (sm _ _ z)
        · have hwp := sp _ _ hws
          have up : ∀ {v f}, FAt K (upd H1 p (.tup [V.int (fK f1), V.int (fV (reF N f1))])) v f → FAt K (upd (upd H1 p (.tup [V.int (fK f1), V.int (fV (reF N f1))])) D (.lst (ws ++ [V.ref p]))) v f := fun z =>
            z.same (fun b xs e => same_upd e (ne_of e hwp (by intro q; cases q))) (fun b o xs e => same_upd e (ne_of e hwp (by intro q; cases q)))
          have e1 : Sz13.renamed N (x.take (i + 1)) = Sz13.renamed N (x.take i) ++ [reF N f1] := by
            rw [renamed_eq, renamed_eq, take_snoc hf1, List.map_append]
            rfl
          rw [e1]
          refine paired_snoc (Paired.mapP pw fun _ _ z => up (z.keep sp)) (up ⟨p, rfl, SqT.of ?_⟩)
          rw [upd_same]
          cases f1 <;> rfl
      refine ⟨_, rfl, ?_⟩
      refine ⟨_, rfl, rfl, _, rfl, ?_⟩
      by_cases qc : fK f1 = 2
      · refine ifT (by rw [qc, decide_eq_true rfl]) ?_
        have hc : ∃ h1, f1 = .cell h1 := by
          cases f1 with
          | cell h1 => exact ⟨h1, rfl⟩
          | nothing => simp [fK] at qc
          | number z => simp [fK] at qc
        obtain ⟨h1, rfl⟩ := hc
        have hm : h1 ∈ l := hin h1 (List.mem_filterMap.mpr ⟨_, List.mem_of_getElem? hf1, rfl⟩)
        have hg := dget_rd (k := Sum.inl (h1 : Int)) (rd_keep sm hdn)
        rw [valV_mapK (kf := fun x : Nat => x) (by rw [List.map_id']; exact hnd) hm] at hg
        refine ⟨_, rfl, _, rfl, dn, _, rfl, hg, by show 2 ≤ sizeLine; decide, fin⟩
      · refine ifF (by rw [decide_eq_false (fun z => qc (by injection z))]) ?_
        have e2 : reF N f1 = f1 := by
          cases f1 with
          | cell h1 => exact absurd rfl qc
          | nothing => rfl
          | number z => rfl
        rw [e2] at fin
        exact ⟨_, rfl, by show 2 ≤ sizeLine; decide, fin⟩
    · rintro H1 ⟨sm, hc⟩
      rw [la, List.take_length] at hc
      exact k H1 D sm hD hc
end
end Rc

end
section
set_option Elab.async false
set_option linter.all false
namespace Rc
open Sz13 (Field Cell Cells Led refs kept does done made putIn)
/-! ### copy, the mathematics -/
theorem get_app : ∀ {c d : Cells} {h : Nat}, Cells.get (c ++ d) h = if h ∈ keys c then c.get h else d.get h
  | [], d, h => by
    rw [if_neg (by intro z; cases z)]
    rfl
  | (k, x) :: c, d, h => by
    show Cells.get ((k, x) :: (c ++ d)) h = _
    rw [get_cons, get_cons]
    by_cases q : k = h
    · rw [if_pos q, if_pos q, if_pos (by rw [← q]; exact List.mem_cons_self ..)]
    · rw [if_neg q, if_neg q, get_app]
      by_cases z : h ∈ keys c
      · rw [if_pos z, if_pos (show h ∈ keys ((k, x) :: c) from List.mem_cons_of_mem _ z)]
      · rw [if_neg z, if_neg (fun y => by
          rcases List.mem_cons.mp (show h ∈ k :: keys c from y) with y | y
          · exact q y.symm
          · exact z y)]
theorem refs_ren_mem {f : Nat → Nat} {x : Cell} {k : Nat} (h : k ∈ refs x) : f k ∈ refs (Sz13.renamed f x) := by
  rw [renamed_eq]
  unfold refs at h ⊢
  obtain ⟨g, hg, e⟩ := List.mem_filterMap.mp h
  refine List.mem_filterMap.mpr ⟨reF f g, List.mem_map.mpr ⟨g, hg, rfl⟩, ?_⟩
  cases g with
  | nothing => simp at e
  | number z => simp at e
  | cell j =>
    simp at e
    rw [e]
    rfl
theorem mem_starts' {s : Sz13.St} {h : Nat} : h ∈ s.starts ↔ (h = s.newest ∧ h ≠ 0) ∨ h ∈ s.rooted := by
  rw [mem_starts, mem_rooted]
  constructor
  · rintro ⟨a | a, b⟩
    · exact .inl ⟨a, b⟩
    · exact .inr ⟨a, b⟩
  · rintro (⟨a, b⟩ | ⟨a, b⟩)
    · exact ⟨.inl a, b⟩
    · exact ⟨.inr a, b⟩
def copySt (s : Sz13.St) (h : Nat) : Sz13.St := ⟨news' s.next (kept s.cells [h]) ++ kept s.cells (h :: s.rooted), s.roots, newOf s.next (kept s.cells [h]) h, s.next + (kept s.cells [h]).length⟩
theorem rooted_copy (s : Sz13.St) (h : Nat) : (copySt s h).rooted = s.rooted := rfl
theorem news_get {n : Nat} {part : Cells} (hp : (keys part).Nodup) {a : Nat} {x : Cell} (e : part.get a = some x) : (news' n part).get (newOf n part a) = some (Sz13.renamed (newOf n part) x) := by
  have hn : (keys (news' n part)).Nodup := by
    rw [keys_news']
    exact nodup_map hp fun a ha b hb e => place_inj ha hb (by unfold newOf at e; omega)
  refine (get_iff hn).mpr ?_
  exact List.mem_map.mpr ⟨(a, x), mem_of_get e, rfl⟩
theorem copy_perm {s : Sz13.St} (g : Good s) {h : Nat} (hh : h ∈ keys s.cells) (gS : Good (copySt s h)) : (news' s.next (kept s.cells [h]) ++ kept s.cells s.rooted).Perm (tidy (copySt s h)).cells := by
  have hnp : (keys (kept s.cells [h])).Nodup := nodup_kept g.nd
  have hnd := gS.nd
  have hnd' : (keys (news' s.next (kept s.cells [h])) ++ keys (kept s.cells (h :: s.rooted))).Nodup := by
    have e : keys (copySt s h).cells = keys (news' s.next (kept s.cells [h])) ++ keys (kept s.cells (h :: s.rooted)) := by
      show keys (_ ++ _) = _
      unfold keys
      rw [List.map_append]
    rw [← e]
    exact hnd
  rw [List.nodup_append] at hnd'
  obtain ⟨n1, n2, n3⟩ := hnd'
  have keyBig : ∀ a, Led s.cells (h :: s.rooted) a → a ∈ keys (kept s.cells (h :: s.rooted)) := fun a z => isSome_iff.mp (by rw [get_kept_led g.nd z]; exact led_there z)
  have rootBig : ∀ a, Led s.cells s.rooted a → Led s.cells (h :: s.rooted) a := fun a z => led_mono (fun b hb e => .start (List.mem_cons_of_mem _ hb) e) z
  have old : ∀ a, Led s.cells s.rooted a → a ∉ keys (news' s.next (kept s.cells [h])) := fun a z y => n3 a y a (keyBig a (rootBig a z)) rfl
  have keyPart : ∀ a, Led s.cells [h] a → a ∈ keys (kept s.cells [h]) := fun a z => isSome_iff.mp (by rw [get_kept_led g.nd z]; exact led_there z)
  have newKey : ∀ a, Led s.cells [h] a → newOf s.next (kept s.cells [h]) a ∈ keys (news' s.next (kept s.cells [h])) := fun a z => by
    rw [keys_news']
    exact List.mem_map.mpr ⟨a, keyPart a z, rfl⟩
  have getNew : ∀ a, a ∈ keys (news' s.next (kept s.cells [h])) → (copySt s h).cells.get a = Cells.get (news' s.next (kept s.cells [h])) a := fun a ha => by
    show Cells.get (_ ++ _) a = _
    rw [get_app, if_pos ha]
  have getOld : ∀ a, Led s.cells s.rooted a → (copySt s h).cells.get a = s.cells.get a := fun a ha => by
    show Cells.get (_ ++ _) a = _
    rw [get_app, if_neg (old a ha), get_kept_led g.nd (rootBig a ha)]
  have hNz : newOf s.next (kept s.cells [h]) h ≠ 0 := by
    have := g.np
    unfold newOf
    omega
  have L1 : ∀ a, Led s.cells [h] a → Led (copySt s h).cells (copySt s h).starts (newOf s.next (kept s.cells [h]) a) := by
    intro a q
    induction q with
    | @start a hm hs =>
      have : a = h := List.mem_singleton.mp hm
      subst this
      refine .start (mem_starts.mpr ⟨.inl rfl, hNz⟩) ?_
      rw [getNew _ (newKey a (.start hm hs))]
      exact isSome_iff.mpr (newKey a (.start hm hs))
    | @step b k x p e hk hs ih =>
      have hk' : Led s.cells [h] k := .step p e hk hs
      refine .step (x := Sz13.renamed (newOf s.next (kept s.cells [h])) x) ih ?_ (refs_ren_mem hk) ?_
      · rw [getNew _ (newKey b p)]
        exact news_get hnp (by rw [get_kept_led g.nd p]; exact e)
      · rw [getNew _ (newKey k hk')]
        exact isSome_iff.mpr (newKey k hk')
  have L2 : ∀ a, Led s.cells s.rooted a → Led (copySt s h).cells (copySt s h).starts a := by
    intro a q
    induction q with
    | @start a hm hs => exact .start (mem_starts'.mpr (.inr hm)) (by rw [getOld a (.start hm hs)]; exact hs)
    | @step b k x p e hk hs ih => exact .step ih (by rw [getOld b p]; exact e) hk (by rw [getOld k (.step p e hk hs)]; exact hs)
  have L3 : ∀ a, Led (copySt s h).cells (copySt s h).starts a → a ∈ keys (news' s.next (kept s.cells [h])) ∨ Led s.cells s.rooted a := by
    intro a q
    induction q with
    | @start a hm hs =>
      rcases mem_starts'.mp hm with z | z
      · rw [z.1]
        exact .inl (newKey h (.start (List.mem_singleton.mpr rfl) (isSome_iff.mpr hh)))
      · exact .inr (.start z (isSome_iff.mpr (g.st a (mem_starts'.mpr (.inr z)))))
    | @step b k x p e hk hs ih =>
      rcases ih with z | z
      · rw [getNew b z] at e
        obtain ⟨y, hy, ey⟩ := List.mem_map.mp (mem_of_get e)
        obtain ⟨ey1, ey2⟩ := Prod.mk.inj ey
        rw [← ey2] at hk
        obtain ⟨j, hj, ej⟩ := refs_renamed hk
        have hy' := (mem_kept g.nd).mp hy
        left
        rw [ej]
        exact newKey j (.step hy'.2 ((get_iff g.nd).mpr hy'.1) hj (isSome_iff.mpr (g.rf y hy'.1 j hj)))
      · rw [getOld b z] at e
        exact .inr (.step z e hk (isSome_iff.mpr (g.rf (b, x) (mem_of_get e) k hk)))
  refine perm_of_get ?_ (nodup_kept hnd) fun a => ?_
  · unfold keys
    rw [List.map_append, List.nodup_append]
    refine ⟨n1, nodup_kept g.nd, fun a ha b hb e => ?_⟩
    obtain ⟨x, hx, ex⟩ := List.mem_map.mp hb
    have := ((mem_kept g.nd).mp hx).2
    rw [ex, ← e] at this
    exact old a this ha
  · rw [get_app]
    by_cases q : a ∈ keys (news' s.next (kept s.cells [h]))
    · rw [if_pos q]
      have hq := q
      rw [keys_news'] at q
      obtain ⟨b, hb, e⟩ := List.mem_map.mp q
      obtain ⟨y, hy, ey⟩ := List.mem_map.mp hb
      have hl : Led s.cells [h] b := ey ▸ ((mem_kept g.nd).mp hy).2
      have := L1 b hl
      rw [e] at this
      exact (getNew a hq).symm.trans (get_kept_led hnd this).symm
    · rw [if_neg q]
      by_cases z : Led s.cells s.rooted a
      · rw [get_kept_led g.nd z, ← getOld a z]
        exact (get_kept_led hnd (L2 a z)).symm
      · rw [get_kept_not g.nd z]
        exact (get_kept_not hnd fun y => (L3 a y).elim q z).symm
/-! ### the place in a sorted list -/
theorem filter_lt_sorted : ∀ {l : List Nat}, l.Nodup → l.Pairwise (· ≤ ·) → ∀ {i x : Nat}, l[i]? = some x → (l.filter fun y => decide (y < x)).length = i
  | [], _, _, i, x, e => by simp at e
  | a :: l, hn, hs, i, x, e => by
    have hn' := List.nodup_cons.mp hn
    have hs' := List.pairwise_cons.mp hs
    cases i with
    | zero =>
      have : a = x := by simpa using e
      subst this
      rw [List.length_eq_zero_iff, List.filter_eq_nil_iff]
      intro y hy
      rcases List.mem_cons.mp hy with z | z
      · rw [z]
        simp
      · have := hs'.1 y z
        simp
        omega
    | succ i =>
      have e' : l[i]? = some x := by simpa using e
      have hx : x ∈ l := List.mem_of_getElem? e'
      have h1 := hs'.1 x hx
      have h2 : a ≠ x := fun z => hn'.1 (z ▸ hx)
      rw [List.filter_cons, if_pos (by simp; omega), List.length_cons, filter_lt_sorted hn'.2 hs'.2 e']
theorem place_keys (part : Cells) (x : Nat) : place part x = ((keys part).filter fun y => decide (y < x)).length := by
  unfold place keys
  rw [List.filter_map, List.length_map]
  rfl
theorem place_at {part : Cells} {l : List Nat} (hp : l.Perm (keys part)) (hn : (keys part).Nodup) (hs : l.Pairwise (· ≤ ·)) {i x : Nat} (e : l[i]? = some x) : place part x = i := by
  rw [place_keys, ← (hp.filter _).length_eq]
  exact filter_lt_sorted (hp.nodup_iff.mpr hn) hs e
end Rc

end
section
set_option Elab.async false
set_option linter.all false
set_option maxRecDepth 100000
set_option maxHeartbeats 2000000
namespace Rc
open PySem PySem.Spec PyProof.Rows L2
open Sz13 (Field Cell Cells Led refs kept does done made putIn)
def cellOf (c : Cells) (x : Nat) : Cell := (c.get x).getD []
def copyOf (N : Nat → Nat) (c : Cells) (x : Nat) : Nat × Cell := (N x, Sz13.renamed N (cellOf c x))
theorem cof_app (T R : List Rw) : cof (T ++ R) = cof T ++ cof R := by unfold cof; rw [List.map_append]
theorem hs_app (T R : List Rw) : hs (T ++ R) = hs T ++ hs R := by unfold hs; rw [List.map_append]
theorem ads_app (T R : List Rw) : ads (T ++ R) = ads T ++ ads R := by unfold ads; rw [List.map_append]
theorem rows_app (T R : List Rw) : rows (T ++ R) = rows T ++ rows R := by unfold rows; rw [List.map_append]
theorem news_perm {n : Nat} {part : Cells} {Tp : List Rw} {l : List Nat} (hn : (hs Tp).Nodup) (hpm : (cof Tp).Perm part) (hl : l.Perm (hs Tp)) : (l.map (copyOf (newOf n part) (cof Tp))).Perm (news' n part) := by
  have hkT : (keys (cof Tp)).Nodup := by rw [keys_cof]; exact hn
  have e1 : (hs Tp).map (copyOf (newOf n part) (cof Tp)) = (cof Tp).map fun x => (newOf n part x.1, Sz13.renamed (newOf n part) x.2) := by
    rw [← keys_cof]
    unfold keys
    rw [List.map_map]
    apply List.map_congr_left
    intro x hx
    show (newOf n part x.1, Sz13.renamed (newOf n part) (cellOf (cof Tp) x.1)) = _
    unfold cellOf
    rw [get_of_mem hkT (show (x.1, x.2) ∈ cof Tp from hx)]
    rfl
  refine (hl.map _).trans ?_
  rw [e1]
  exact hpm.map _
section
variable {P : Program} {w : World} {K : PySem.W.Frag} {mg : Str → Option Value} {base : Heap}
def spAdd (K : PySem.W.Frag) (C : Addr) : Sp := fun vs H Q _ => ∃ (p dx dk rl dp : Addr) (lz : Int) (n : Nat) (Tk Tp : List Rw) (part : Cells), vs = [.ref p, .ref dp] ∧ H p = some (.ins C dx (sf dk rl lz ((n : Int) - 1))) ∧ H dk = some (.dK (rows Tk)) ∧ H dp = some (.dK (rows Tp)) ∧ dk ≠ dp ∧
  Tab K H Tk ∧ Tab K H Tp ∧ (cof Tp).Perm part ∧ (∀ e ∈ Tp, ∀ k ∈ refs e.2.2, k ∈ hs Tp) ∧ (∀ e ∈ Tp, e.2.2.length ≤ 8) ∧ (∀ e ∈ Tk, e.1 < n) ∧ Tk.length ≤ 65536 ∧ Tp.length ≤ 65536 ∧
  ∀ (H' : Hp) (dn : Addr) (R : List Rw) (l : List Nat), l.Nodup → (∀ a, a ∈ l ↔ a ∈ hs Tp) → H dn = none → H' dn = some (.dK (kvN (newOf n part) l)) → H' p = some (.ins C dx (sf dk rl lz (((n + Tp.length : Nat) : Int) - 1))) → H' dk = some (.dK (rows (Tk ++ R))) →
    Tab K H' (Tk ++ R) → (∀ a ∈ ads R, H a = none) → (cof R).Perm (news' n part) → (∀ b o, H b = some o → b ≠ p → b ≠ dk → H' b = some o) → Q (.ref dn) H'
theorem scAd : FnScope ["self", "part", "names", "handle"] ["self", "part"] (defScope sAdd) := ⟨rfl, rfl, rfl, by decide +kernel, rfl, by decide +kernel, by decide +kernel⟩
theorem ok_add {f C an fR : Addr} {fd fdR : FuncData} (F : Fun K "add_copies" "Store.add_copies" sAdd f fd) (T : Txt K mg C an) (T2 : Txt2 mg) (GR : Fn1 P w K mg base "renamed" 1 ["fields", "names"] (spRen K) fR fdR) : FnOk P w K mg base CX0 2 f fd ["self", "part"] (spAdd K C) := by
  refine F.ok scAd (fun vs H Q E h => ?_) (fun cdv A outer s H vs Q E hr h => ?_)
  · obtain ⟨p, dx, dk, rl, dp, lz, n, Tk, Tp, part, rfl, _⟩ := h
    rfl
  · obtain ⟨p, dx, dk, rl, dp, lz, n, Tk, Tp, part, rfl, hp, hdk, hdp, nkp, hTk, hTp, hpm, hrf, h8, hlt, lk, lp, k⟩ := h
    have hu := hu_of hr
    refine ⟨_, pss_cons (ps_set (i := 2) scAd.nd rfl (Or.inl rfl) pe_dnewK)
      (pss_cons (ps_for PassesOwn.never rfl (pi_list (pe_callB (cr_sortedD rfl) (by rfl) T2.sorted bSorted (pa_cons (pv 1) pa_nil))) (pg_name (i := 3) scAd.nd rfl (Or.inl rfl))
        (pss_cons (ps_fldaug (pv 0) pe_int in_add)
        (pss_one (ps_dput hu (pv 2) (pv 3) (pe_fld (pv 0) rfl) rfl))))
      (pss_cons (ps_lock (ps_for PassesOwn.never rfl (pi_keys (pv 2)) (pg_name (i := 3) scAd.nd rfl (Or.inl rfl))
        (pss_one (ps_dput hu (pe_fld (pv 0) rfl) (pe_dget hu (pv 2) (pv 3) (fun _ _ => rfl)) (pe_call GR.ok hr rfl GR.m GR.kp GR.b .nil pass0 (pa_cons (pe_dget hu (pv 1) (pv 3) (fun _ _ => rfl)) (pa_cons (pv 2) pa_nil))) rfl))))
      (pss_one (ps_ret (pv 2))))), ?_⟩
    have hkp : (keys part).Nodup := (hpm.map _).nodup_iff.mp (show (keys (cof Tp)).Nodup by rw [keys_cof]; exact hTp.nk)
    have hhs : (hs Tp).Perm (keys part) := by rw [← keys_cof]; exact hpm.map _
    intro dn hdn
    have npn : p ≠ dn := ne_of_none hp hdn
    have nkn : dk ≠ dn := ne_of_none hdk hdn
    refine ⟨_, rfl, dp, rows Tp, (hs Tp).map fun x : Nat => (x : Int), rfl, same_new hdn _ _ hdp, ?_, fun ns' sq hperm hsort hsq => ?_⟩
    · unfold rows hs
      rw [List.map_map, List.map_map, List.map_map]
      rfl
    -- the sorted handles
    obtain ⟨srt, es⟩ : ∃ srt : List Nat, ns' = srt.map fun x : Nat => (x : Int) := by
      refine ⟨ns'.map Int.toNat, ?_⟩
      rw [List.map_map]
      have : ∀ z ∈ ns', ((z.toNat : Nat) : Int) = z := fun z hz => by
        obtain ⟨x, _, e⟩ := List.mem_map.mp (hperm.mem_iff.mp hz)
        omega
      exact (List.map_congr_left (g := id) (fun z hz => this z hz) |>.trans (List.map_id _)).symm
    subst es
    have hsrtp : srt.Perm (hs Tp) := by
      have := hperm.map Int.toNat
      rw [List.map_map, List.map_map] at this
      have e : ∀ l : List Nat, l.map (Int.toNat ∘ fun x : Nat => (x : Int)) = l := fun l => by
        have : (Int.toNat ∘ fun x : Nat => (x : Int)) = id := by
          funext x
          simp
        rw [this, List.map_id]
      rw [e, e] at this
      exact this
    have hss : srt.Pairwise (· ≤ ·) := by
      have := List.pairwise_map.mp hsort
      exact this.imp fun h => by omega
    have hsn : srt.Nodup := hsrtp.nodup_iff.mpr hTp.nk
    have hN : ∀ i x, srt[i]? = some x → newOf n part x = n + i := fun i x e => by
      unfold newOf
      rw [place_at (hsrtp.trans hhs) hkp hss e]
    have hslen : srt.length = Tp.length := by
      have := hsrtp.length_eq
      unfold hs at this
      rw [List.length_map] at this
      exact this
    have hsq0 : H sq = none := (same_new hdn).free hsq
    have nps : p ≠ sq := ne_of_none hp hsq0
    have nks : dk ≠ sq := ne_of_none hdk hsq0
    have nns : dn ≠ sq := ne_of_none upd_same hsq
    refine ⟨sq, rfl, ⟨_, SqL.of upd_same⟩, ?_⟩
    refine for_list (K := K) (a := sq) (xs := (srt.map fun x : Nat => (x : Int)).map V.int) (fun i σ H' => (∃ hv, σ = [some (.ref p), some (.ref dp), some (.ref dn), hv]) ∧ H' p = some (.ins C dx (sf dk rl lz ((n : Int) - 1 + i))) ∧ H' dn = some (.dK (kvN (newOf n part) (srt.take i))) ∧
      H' sq = some (.lst ((srt.map fun x : Nat => (x : Int)).map V.int)) ∧ ∀ b o, H b = some o → b ≠ p → H' b = some o) ⟨⟨none, rfl⟩, ?_, ?_, upd_same, ?_⟩ ?_ ?_ ?_
    · rw [upd_ne nps, upd_ne npn]
      rw [Int.natCast_zero, Int.add_zero]
      exact hp
    · rw [upd_ne nns]
      exact upd_same
    · intro b o e _
      rw [upd_ne (ne_of_none e hsq0), upd_ne (ne_of_none e hdn)]
      exact e
    · rintro i σ H1 hi ⟨_, _, _, h1q, _⟩
      exact SqL.of h1q
    · rintro i v σ H1 hi ⟨⟨hv, rfl⟩, h1p, h1n, h1q, fr⟩
      rw [List.map_map] at hi
      obtain ⟨x, hx, rfl⟩ : ∃ x, srt[i]? = some x ∧ v = nV x := by
        rw [List.getElem?_map] at hi
        cases e : srt[i]? with
        | none => rw [e] at hi; cases hi
        | some x => rw [e] at hi; exact ⟨x, rfl, (Option.some.inj hi).symm⟩
      have npn1 : dn ≠ p := fun z => npn z.symm
      refine ⟨_, rfl, p, C, dx, _, _, rfl, h1p, T.cl, T.nN, sf_newest, _, _, rfl, rfl, dx, _, h1p, by show 4 < 1000; decide, ?_⟩
      rw [pf_newest]
      have hli : i < srt.length := (List.getElem?_eq_some_iff.mp hx).1
      have h2n := same_upd (o := .ins C dx (sf dk rl lz ((n : Int) - 1 + (i : Int) + 1))) h1n npn1
      refine ⟨_, rfl, p, C, dx, _, _, rfl, upd_same, T.cl, T.nN, sf_newest, _, rfl, _, rfl, dn, _, rfl, DPut.k (k := Sum.inl (x : Int)) h2n ?_, ?_⟩
      · rw [mapK_len, List.length_take]
        have : (65536 : Nat) < sizeLine := by decide
        omega
      · have ez : (n : Int) - 1 + (i : Int) + 1 = ((newOf n part x : Nat) : Int) := by rw [hN i x hx]; omega
        have hxn : x ∉ (srt.take i).map fun y => y := by
          rw [List.map_id']
          intro z
          obtain ⟨j, hj⟩ := List.mem_iff_getElem?.mp z
          rw [List.getElem?_take] at hj
          split at hj
          · rename_i hji
            have := (List.getElem?_inj hli hsn).mp (hx.trans hj.symm)
            omega
          · cases hj
        have ep : putK (kvN (newOf n part) (srt.take i)) (Sum.inl (x : Int)) (V.int ((n : Int) - 1 + (i : Int) + 1)) = kvN (newOf n part) (srt.take (i + 1)) := by
          rw [ez]
          rw [take_snoc hx]
          exact putK_mapK (kf := fun y : Nat => y) (vf := fun y => nV (newOf n part y)) (a := x) hxn
        rw [ep]
        refine ⟨⟨_, rfl⟩, ?_, upd_same, ?_, ?_⟩
        · rw [upd_ne npn, upd_same]
          have : ((n : Int) - 1 + (i : Int) + 1) = (n : Int) - 1 + ((i + 1 : Nat) : Int) := by omega
          rw [this]
        · rw [upd_ne (ne_of h1q h1n (by intro z; cases z)), upd_ne (ne_of h1q h1p (by intro z; cases z))]
          exact h1q
        · intro b o e hb
          rw [upd_ne (ne_of_none e hdn), upd_ne hb]
          exact fr b o e hb
    · rintro σ H1 ⟨⟨hv, rfl⟩, h1p, h1n, h1q, fr⟩
      rw [List.length_map, List.length_map] at h1p h1n
      rw [List.take_length] at h1n
      refine ⟨dn, _, h1n, True.intro, fun od => ?_⟩
      have hD : ∀ e : Rw, e ∈ Tp → srt.length = Tp.length := fun _ _ => hslen
      have nkp1 : dk ≠ p := ne_of hdk hp (by intro z; cases z)
      have fr0 : ∀ b o, H b = some o → b ≠ p → upd H1 dn (.frz od (.dK (kvN (newOf n part) srt))) b = some o := fun b o e hb => by
        rw [upd_ne (ne_of_none e hdn)]
        exact fr b o e hb
      refine ⟨_, rfl, dn, od, rfl, .inl ⟨_, upd_same, ?_⟩⟩
      refine for_any (n := srt.length) (fun i σ H' => (∃ hv, σ = [some (.ref p), some (.ref dp), some (.ref dn), hv]) ∧ H' dn = some (.frz od (.dK (kvN (newOf n part) srt))) ∧ H' p = some (.ins C dx (sf dk rl lz ((n : Int) - 1 + srt.length))) ∧
        ∃ R : List Rw, H' dk = some (.dK (rows (Tk ++ R))) ∧ Tab K H' (Tk ++ R) ∧ (∀ a ∈ ads R, H a = none) ∧ cof R = (srt.take i).map (copyOf (newOf n part) (cof Tp)) ∧ ∀ b o, H b = some o → b ≠ p → b ≠ dk → H' b = some o) ⟨⟨hv, rfl⟩, upd_same, ?_, [], ?_, ?_, fun a ha => (nomatch ha), rfl, fun b o e hb _ => fr0 b o e hb⟩ ?_ ?_ ?_ ?_
      · rw [upd_ne npn]
        exact h1p
      · rw [List.append_nil]
        exact fr0 dk _ hdk nkp1
      · rw [List.append_nil]
        refine ⟨hTk.nk, hTk.na, fun e he => ?_⟩
        obtain ⟨vs, hvs, _⟩ := hTk.at_ e he
        refine (hTk.at_ e he).same (fun b xs z => fr0 b _ z (ne_of z hp (by intro q; cases q))) (fun b o xs z => fr0 b _ z (ne_of z hp (by intro q; cases q))) ?_
        rw [hvs]
        exact fr0 _ _ hvs (ne_of hvs hp (by intro q; cases q))
      · rintro i σ H2 hi ⟨_, h2n, _⟩
        exact ⟨h2n, by rw [mapK_len]; exact hi⟩
      · rintro σ H2 ⟨_, h2n, _⟩
        exact ⟨h2n, by rw [mapK_len]; exact Nat.le_refl _⟩
      · rintro i v σ H2 H2' hi ⟨⟨hv, rfl⟩, h2n, h2p, R, h2k, hTR, hfr, hcR, fr2⟩ ⟨rfl, kk, vv, ek, rfl⟩
        have hx : srt[i]? = some srt[i] := List.getElem?_eq_getElem hi
        have ekk : kk = Sum.inl ((srt[i] : Nat) : Int) := by
          unfold kvN mapK at ek
          rw [List.getElem?_map, hx] at ek
          exact ((Prod.mk.inj (Option.some.inj ek)).1).symm
        subst ekk
        have hxm : srt[i] ∈ hs Tp := hsrtp.mem_iff.mp (List.getElem_mem hi)
        obtain ⟨e, he, ee⟩ := List.mem_map.mp hxm
        have ee : e.1 = srt[i] := ee
        have npp : dp ≠ p := ne_of hdp hp (by intro z; cases z)
        have h2dp := fr2 dp _ hdp npp (fun z => nkp z.symm)
        have hge : DGet H2' dp (nV srt[i]) (some (.ref e.2.1)) := by rw [← ee]; exact dget_row h2dp hTp.nk he
        have hc2 : CellAt K H2' e.2.1 e.2.2 := by
          obtain ⟨vs, hvs, _⟩ := hTp.at_ e he
          have nT : ∀ b u, H b = some u → (∀ kv, u ≠ .dK kv) → (∀ c d f, u ≠ .ins c d f) → H2' b = some u := fun b u z h1 h2 => fr2 b u z (ne_of z hp (h2 _ _ _)) (ne_of z hdk (h1 _))
          refine (hTp.at_ e he).same (fun b xs z => nT b _ z (by intro kv q; cases q) (by intro c d f q; cases q)) (fun b o xs z => nT b _ z (by intro kv q; cases q) (by intro c d f q; cases q)) ?_
          rw [hvs]
          exact nT _ _ hvs (by intro kv q; cases q) (by intro c d f q; cases q)
        refine ⟨_, rfl, _, rfl, dp, .ref e.2.1, rfl, hge, _, rfl, e.2.1, dn, e.2.2, newOf n part, srt, rfl, hc2, .inr ⟨od, h2n⟩, hsn, fun k hk => hsrtp.mem_iff.mpr (hrf e he k hk), h8 e he, fun H3 D s23 hD3 hcD => ?_⟩
        have h3n := s23 _ _ h2n
        have h3p := s23 _ _ h2p
        have h3k := s23 _ _ h2k
        have hgn : DGet H3 dn (nV srt[i]) (some (nV (newOf n part srt[i]))) := by
          have z := dget_rd (k := Sum.inl ((srt[i] : Nat) : Int)) (.inr ⟨od, h3n⟩ : Rd H3 dn (.dK (kvN (newOf n part) srt)))
          rw [valV_mapK (kf := fun x : Nat => x) (by rw [List.map_id']; exact hsn) (List.getElem_mem hi)] at z
          exact z
        have hRlen : R.length = i := by
          have := congrArg List.length hcR
          rw [cof_len, List.length_map, List.length_take] at this
          omega
        refine ⟨_, rfl, p, C, dx, _, _, rfl, h3p, T.cl, T.nC, sf_cells, _, rfl, _, rfl, dn, _, rfl, hgn, dk, _, rfl, DPut.k (k := Sum.inl ((newOf n part srt[i] : Nat) : Int)) h3k ?_, ?_⟩
        · rw [rows_len, List.length_append]
          have : (131073 : Nat) < sizeLine := by decide
          omega
        · have hsR : hs R = (srt.take i).map (newOf n part) := by
            rw [← keys_cof, hcR]
            unfold keys
            rw [List.map_map]
            rfl
          have hnew : newOf n part srt[i] ∉ hs (Tk ++ R) := by
            rw [hs_app]
            intro z
            have e1 := hN i _ hx
            rcases List.mem_append.mp z with z | z
            · obtain ⟨r, hr', er⟩ := List.mem_map.mp z
              have := hlt r hr'
              have er' : r.1 = newOf n part srt[i] := er
              omega
            · rw [hsR] at z
              obtain ⟨y, hy, ey⟩ := List.mem_map.mp z
              obtain ⟨j, hj⟩ := List.mem_iff_getElem?.mp hy
              rw [List.getElem?_take] at hj
              split at hj
              · rename_i hji
                have := hN j y hj
                omega
              · cases hj
          have er : putK (rows (Tk ++ R)) (Sum.inl ((newOf n part srt[i] : Nat) : Int)) (V.ref D) = rows (Tk ++ (R ++ [(newOf n part srt[i], D, Sz13.renamed (newOf n part) e.2.2)])) := by
            rw [putK_new]
            · rw [← List.append_assoc, rows_app (Tk ++ R)]
              rfl
            · exact valV_rows_no fun r hr' z => hnew (List.mem_map.mpr ⟨r, hr', by omega⟩)
          rw [er]
          have h3D : D ∉ ads (Tk ++ R) := fun z => by
            obtain ⟨r, hr', er'⟩ := List.mem_map.mp z
            obtain ⟨vs, hvs, _⟩ := hTR.at_ r hr'
            have er' : r.2.1 = D := er'
            rw [er', hD3] at hvs
            cases hvs
          have nDk : D ≠ dk := fun z => by rw [z, h2k] at hD3; cases hD3
          have nDn : D ≠ dn := fun z => by rw [z, h2n] at hD3; cases hD3
          have hT3 := hTR.keep s23
          have hT4 : Tab K (upd H3 dk (.dK (rows (Tk ++ (R ++ [(newOf n part srt[i], D, Sz13.renamed (newOf n part) e.2.2)]))))) (Tk ++ R) := hT3.upd h3k rfl (hT3.not_at h3k (by intro xs z; cases z))
          have nnk : dn ≠ dk := fun z => nkn z.symm
          refine ⟨⟨_, rfl⟩, same_upd h3n nnk, same_upd h3p (fun z => nkp1 z.symm), R ++ [(newOf n part srt[i], D, Sz13.renamed (newOf n part) e.2.2)], upd_same, ?_, ?_, ?_, ?_⟩
          · rw [← List.append_assoc] at hT4 ⊢
            refine ⟨?_, ?_, fun r hr' => ?_⟩
            · rw [hs_app]
              exact nd_snoc hT4.nk hnew
            · rw [ads_app]
              exact nd_snoc hT4.na h3D
            · rcases List.mem_append.mp hr' with z | z
              · exact hT4.at_ r z
              · have := List.mem_singleton.mp z
                subst this
                refine hcD.same (fun b xs z => same_upd z (ne_of z h3k (by intro q; cases q))) (fun b o xs z => same_upd z (ne_of z h3k (by intro q; cases q))) ?_
                rw [upd_ne nDk]
          · intro a ha
            rw [ads_app] at ha
            rcases List.mem_append.mp ha with z | z
            · exact hfr a z
            · have : a = D := List.mem_singleton.mp z
              subst this
              cases q : H a with
              | none => rfl
              | some o =>
                by_cases q1 : a = p
                · rw [q1, h2p] at hD3
                  cases hD3
                · by_cases q2 : a = dk
                  · exact absurd q2 nDk
                  · rw [fr2 a o q q1 q2] at hD3
                    cases hD3
          · rw [cof_app, hcR, take_snoc hx, List.map_append]
            congr 1
            show [(newOf n part srt[i], Sz13.renamed (newOf n part) e.2.2)] = [(newOf n part srt[i], Sz13.renamed (newOf n part) (cellOf (cof Tp) srt[i]))]
            unfold cellOf
            rw [← ee, get_cof hTp.nk he]
            rfl
          · intro b o z hb1 hb2
            rw [upd_ne hb2]
            exact s23 _ _ (fr2 b o z hb1 hb2)
      · rintro σ H2 ⟨⟨hv, rfl⟩, h2n, h2p, R, h2k, hTR, hfr, hcR, fr2⟩
        rw [List.take_length] at hcR
        refine ⟨h2n, _, rfl, ?_⟩
        have nkn' : dn ∉ ads (Tk ++ R) := hTR.not_at h2n (by intro xs z; cases z)
        have hz : (n : Int) - 1 + (srt.length : Int) = ((n + Tp.length : Nat) : Int) - 1 := by rw [hslen]; omega
        rw [hz] at h2p
        refine k _ dn R srt hsn (fun a => hsrtp.mem_iff) hdn upd_same (same_upd h2p npn) (same_upd h2k nkn) (hTR.upd h2n rfl nkn') hfr (by rw [hcR]; exact news_perm hTp.nk hpm hsrtp) fun b o e hb1 hb2 => ?_
        exact same_upd (fr2 b o e hb1 hb2) (ne_of_none e hdn)
end
end Rc

end
section
set_option Elab.async false
set_option linter.all false
set_option maxRecDepth 100000
set_option maxHeartbeats 2000000
namespace Rc
open PySem PySem.Spec PyProof.Rows L2
open Sz13 (Field Cell Cells Led refs kept does done made putIn)
theorem bDict : bootBuiltins "dict" = some (.type "dict") := by decide +kernel
/-! ### dict.update of a part -/
def mergeT (R1 : List Rw) (R2 : List Rw) : List Rw := R2.foldl (fun acc e => if e.1 ∈ hs acc then acc else acc ++ [e]) R1
theorem put_row {T R : List Rw} (hT : (hs T).Nodup) (h1 : ∀ r ∈ R, r ∈ T) {e : Rw} (he : e ∈ T) : putK (rows R) (Sum.inl (e.1 : Int)) (V.ref e.2.1) = rows (if e.1 ∈ hs R then R else R ++ [e]) := by
  by_cases q : e.1 ∈ hs R
  · rw [if_pos q]
    unfold putK
    obtain ⟨r, hr, er⟩ := List.mem_map.mp q
    have hre : r = e := inj_of_nodup hT r (h1 r hr) e he er
    have hany : ((rows R).any fun kv => decide (kv.1 = Sum.inl (e.1 : Int))) = true := by
      rw [List.any_eq_true]
      exact ⟨(Sum.inl (e.1 : Int), V.ref e.2.1), List.mem_map.mpr ⟨e, hre ▸ hr, rfl⟩, by simp⟩
    rw [if_pos hany]
    have : ∀ kv ∈ rows R, (if kv.1 = Sum.inl (e.1 : Int) then (kv.1, V.ref e.2.1) else kv) = kv := fun kv hkv => by
      obtain ⟨r', hr', er'⟩ := List.mem_map.mp hkv
      by_cases z : kv.1 = Sum.inl (e.1 : Int)
      · rw [if_pos z]
        rw [← er'] at z
        have z2 : ((r'.1 : Nat) : Int) = (e.1 : Int) := Sum.inl.inj z
        have : r' = e := inj_of_nodup hT r' (h1 r' hr') e he (by omega)
        subst this
        rw [← er']
      · rw [if_neg z]
    exact (List.map_congr_left (g := id) this).trans (List.map_id _)
  · rw [if_neg q, putK_new]
    · rw [rows_app]
      rfl
    · exact valV_rows_no fun r hr z => q (List.mem_map.mpr ⟨r, hr, by omega⟩)
theorem merge_rows {T : List Rw} (hT : (hs T).Nodup) : ∀ {R2 R1 : List Rw}, (∀ r ∈ R1, r ∈ T) → (∀ r ∈ R2, r ∈ T) → (hs R1).Nodup →
    mergeK (rows R1) (rows R2) = rows (mergeT R1 R2) ∧ (∀ r ∈ mergeT R1 R2, r ∈ T) ∧ (hs (mergeT R1 R2)).Nodup ∧ ∀ a, a ∈ hs (mergeT R1 R2) ↔ a ∈ hs R1 ∨ a ∈ hs R2
  | [], R1, h1, _, hn => ⟨rfl, h1, hn, fun a => ⟨fun z => .inl z, fun z => z.elim id (fun y => nomatch y)⟩⟩
  | e :: R2, R1, h1, h2, hn => by
    have he : e ∈ T := h2 e (List.mem_cons_self ..)
    have hp := put_row hT h1 he
    have s1 : ∀ r ∈ (if e.1 ∈ hs R1 then R1 else R1 ++ [e]), r ∈ T := fun r hr => by
      split at hr
      · exact h1 r hr
      · rcases List.mem_append.mp hr with z | z
        · exact h1 r z
        · exact List.mem_singleton.mp z ▸ he
    have n1 : (hs (if e.1 ∈ hs R1 then R1 else R1 ++ [e])).Nodup := by
      split
      · exact hn
      · rename_i z
        rw [hs_app]
        exact nd_snoc hn z
    have m1 : ∀ a, a ∈ hs (if e.1 ∈ hs R1 then R1 else R1 ++ [e]) ↔ a ∈ hs R1 ∨ a = e.1 := fun a => by
      split
      · rename_i z
        exact ⟨fun y => .inl y, fun y => y.elim id fun y => y ▸ z⟩
      · rw [hs_app, List.mem_append]
        exact ⟨fun y => y.imp id fun y => List.mem_singleton.mp y, fun y => y.imp id fun y => List.mem_singleton.mpr y⟩
    obtain ⟨a1, a2, a3, a4⟩ := merge_rows hT (R2 := R2) s1 (fun r hr => h2 r (List.mem_cons_of_mem _ hr)) n1
    refine ⟨?_, a2, a3, fun a => ?_⟩
    · show mergeK (putK (rows R1) (Sum.inl (e.1 : Int)) (V.ref e.2.1)) (rows R2) = _
      rw [hp]
      exact a1
    · show a ∈ hs (mergeT (if e.1 ∈ hs R1 then R1 else R1 ++ [e]) R2) ↔ _
      rw [a4, m1]
      show _ ↔ a ∈ hs R1 ∨ a ∈ e.1 :: hs R2
      rw [List.mem_cons, or_assoc]
theorem led_cons {c : Cells} {h a : Nat} {S : List Nat} : Led c (h :: S) a ↔ Led c S a ∨ Led c [h] a := by
  constructor
  · intro q
    induction q with
    | start hm hs =>
      rcases List.mem_cons.mp hm with z | z
      · exact .inr (.start (List.mem_singleton.mpr z) hs)
      · exact .inl (.start z hs)
    | step _ e hk hs ih => exact ih.imp (fun z => .step z e hk hs) (fun z => .step z e hk hs)
  · rintro (z | z)
    · exact led_mono (fun b hb e => .start (List.mem_cons_of_mem _ hb) e) z
    · exact led_mono (fun b hb e => .start (by rw [List.mem_singleton.mp hb]; exact List.mem_cons_self ..) e) z
theorem led_same {c : Cells} {f g : List Nat} (h : ∀ a, a ∈ f ↔ a ∈ g) {a : Nat} : Led c f a ↔ Led c g a := ⟨fun z => led_mono (fun b hb e => .start ((h b).mp hb) e) z, fun z => led_mono (fun b hb e => .start ((h b).mpr hb) e) z⟩
section
variable {P : Program} {w : World} {K : PySem.W.Frag} {mg : Str → Option Value} {base : Heap}
def spCopy (K : PySem.W.Frag) (C : Addr) : Sp := fun vs H Q _ => ∃ (p : Addr) (h : Int), vs = [.ref p, .int h] ∧ 0 ≤ h ∧ Ans K C H p (.copy h.toNat) Q
theorem scCp : FnScope ["self", "h", "kept", "part", "with_part"] ["self", "h"] (defScope sCopy) := ⟨rfl, rfl, rfl, by decide +kernel, rfl, by decide +kernel, by decide +kernel⟩
theorem no_add : ¬ ("cells" : Str) = "add_copies" ∧ ¬ ("roots" : Str) = "add_copies" ∧ ¬ ("last" : Str) = "add_copies" ∧ ¬ ("newest" : Str) = "add_copies" := by decide +kernel
theorem ok_copy {f C an fR fL fU fA : Addr} {fd fdR fdL fdU fdA : FuncData} (F : Fun K "copy" "Store.copy" sCopy f fd) (T : Txt K mg C an) (T2 : Txt2 mg) (IR_ : IR P w K mg base C fR fdR) (LT : Lt P w K mg base fL fdL) (GU : Fn1 P w K mg base "units" 1 ["cells"] (spUnits K) fU fdU)
    (AD : Mt1 P w K mg base C "add_copies" 2 ["self", "part"] (spAdd K C) fA fdA) : FnOk P w K mg base CX0 3 f fd ["self", "h"] (spCopy K C) := by
  refine F.ok scCp (fun vs H Q E h => ?_) (fun cdv A outer s H vs Q E hr h => ?_)
  · obtain ⟨p, h, rfl, _⟩ := h
    rfl
  · obtain ⟨p, hz, rfl, h0, t, own, st, Td, k⟩ := h
    have hu := hu_of hr
    have hr1 : Room 1 _ := hr.mono (by decide)
    refine ⟨_, pss_cons (ps_if (pt_cmp (pc_dnotin hu (pv 1) (pe_fld (pv 0) rfl))) (pss_one (ps_ret (pe_gi T.gNot (by rfl)))) pss_nil)
      (pss_cons (ps_set (i := 2) scCp.nd rfl (Or.inl rfl) (pe_call LT.ok hr1 rfl LT.m LT.kp LT.b .nil pass0 (pa_cons (pe_fld (pv 0) rfl) (pa_cons (pe_meth0 (pv 0) T.cl IR_.m IR_.ok hr1 IR_.b .nil pass0) pa_nil))))
      (pss_cons (ps_set (i := 3) scCp.nd rfl (Or.inl rfl) (pe_call LT.ok hr1 rfl LT.m LT.kp LT.b .nil pass0 (pa_cons (pe_fld (pv 0) rfl) (pa_cons (pe_lst (pa_cons (pv 1) pa_nil)) pa_nil))))
      (pss_cons (ps_set (i := 4) scCp.nd rfl (Or.inl rfl) (pe_callTy cr_dictOf (by rfl) T2.dict bDict (pa_cons (pv 2) pa_nil)))
      (pss_cons (ps_expr (pe_bm PySem.F.plainAttrs_dict PySem.F.slot_dict_update PySem.F.type_dict_update mt_update (pv 4) (pa_cons (pv 3) pa_nil)))
      (pss_cons (ps_if (pt_cmpR op_gt (pe_op op_add (pe_call GU.ok hr1 rfl GU.m GU.kp GU.b .nil pass0 (pa_cons (pv 4) pa_nil)) (pe_call GU.ok hr1 rfl GU.m GU.kp GU.b .nil pass0 (pa_cons (pv 3) pa_nil))) (pe_gi T.gRoom (by rfl)) (nomark _))
        (pss_cons (ps_if (pt_cmpR op_eq (pe_fld (pv 0) rfl) (pv 1) (nomark _)) (pss_one (ps_fld (pv 0) (pv 4) rfl)) (pss_cons (ps_fld (pv 0) (pv 2) rfl) (pss_one (ps_fld (pv 0) pe_int rfl))))
        (pss_one (ps_ret (pe_gi T.gNo (by rfl))))) pss_nil)
      (pss_cons (ps_fld (pv 0) (pv 2) rfl)
      (pss_cons (ps_fld (pv 0) (pe_dget hu (pe_meth (pv 0) T.cl AD.m AD.ok hr AD.b .nil pass0 (pa_cons (pv 3) pa_nil)) (pv 1) (fun _ _ => rfl)) rfl)
      (pss_one (ps_ret (pe_fld (pv 0) rfl)))))))))), ?_⟩
    have g := Td.good
    have st' := st
    obtain ⟨dx, d, rl, Tb, rfl, hp, hd, hrl, hra, hT, hpm⟩ := st
    obtain ⟨a1, a2, a3⟩ := Td.ask hT.nk hpm
    refine ⟨_, rfl, _, rfl, p, C, dx, _, _, rfl, hp, T.cl, T.nC, sf_cells, d, _, rfl, DGet.k (k := Sum.inl hz) hd, _, rfl, ?_⟩
    rw [valV_rows_isSome hT.nk h0]
    by_cases qh : hz.toNat ∈ hs Tb
    · refine ifF (by rw [decide_eq_true qh]; rfl) ?_
      obtain ⟨h, rfl⟩ : ∃ n : Nat, hz = (n : Int) := ⟨hz.toNat, by omega⟩
      rw [Int.toNat_natCast] at qh k
      have hhas : t.has h = true := (has_row Td hpm).mpr qh
      have hkey : h ∈ keys t.cells := (hs_iff hpm h).mp qh
      have hh0 : h ≠ 0 := fun e => by
        obtain ⟨x, hx, e'⟩ := List.mem_map.mp hkey
        have := g.lo x hx
        omega
      have edo : does t (.copy h) = Sz13.copied t h := does_of (fun x hx => by rw [List.mem_singleton.mp hx]; exact hhas)
      -- what the roots lead to
      refine ⟨_, rfl, p, C, dx, _, _, rfl, hp, T.cl, T.nC, sf_cells, _, rfl, p, dx, _, rfl, hp, sf_no no_inr, p, dx, d, rl, _, _, t.roots, rfl, hp, hrl, g.rl, fun D hD => ?_⟩
      have sD : Same H (upd H D (.lst ((t.roots.filter nz).map nV))) := same_new hD
      have hfl : (t.roots.filter nz).length ≤ 1000 := by
        have := List.length_filter_le nz t.roots
        rw [g.rl] at this
        omega
      refine ⟨d, D, Tb, t.roots.filter nz, rfl, sD _ _ hd, hT.keep sD, SqL.of upd_same, a3, a1, hfl, a2, ?_⟩
      intro H2 d1 R1 b1 b2 b3 b4 b5 b6
      have s2 : Same H H2 := sD.trans b1
      have hd1 : H d1 = none := sD.free b2
      have l1 : ∀ a, a ∈ hs R1 ↔ Led t.cells t.rooted a := fun a => (b6 a).trans (led_cof hT.nk hpm)
      -- what h leads to
      refine ⟨_, rfl, p, C, dx, _, _, rfl, s2 _ _ hp, T.cl, T.nC, sf_cells, _, rfl, by show 1 ≤ sizeLine; decide, fun D2 hD2 => ?_⟩
      have sD2 : Same H2 (upd H2 D2 (.lst [V.int (h : Int)])) := same_new hD2
      refine ⟨d, D2, Tb, [h], rfl, sD2 _ _ (s2 _ _ hd), hT.keep (s2.trans sD2), SqL.of upd_same, fun a ha => by rw [List.mem_singleton.mp ha]; exact qh, a1, by show 1 ≤ 1000; decide, a2, ?_⟩
      intro H3 d2 R2 c1 c2 c3 c4 c5 c6
      have s23 : Same H2 H3 := sD2.trans c1
      have s3 : Same H H3 := s2.trans s23
      have hd2 : H2 d2 = none := sD2.free c2
      have l2 : ∀ a, a ∈ hs R2 ↔ Led t.cells [h] a := fun a => (c6 a).trans (led_cof hT.nk hpm)
      have h3d1 := s23 _ _ b3
      have n12 : d1 ≠ d2 := ne_of_none b3 hd2
      -- both
      refine ⟨_, rfl, d1, rows R1, rfl, h3d1, fun d3 hd3 => ?_⟩
      have s4 : Same H3 (upd H3 d3 (.dK (rows R1))) := same_new hd3
      have n32 : d3 ≠ d2 := fun z => by rw [z, c3] at hd3; cases hd3
      have n31 : d3 ≠ d1 := fun z => by rw [z, h3d1] at hd3; cases hd3
      have len : ∀ R : List Rw, (∀ r ∈ R, r ∈ Tb) → (hs R).Nodup → R.length ≤ 65536 := fun R h1 h2 => by
        have h3 : (hs R).length ≤ (hs Tb).length := len_sub h2 fun k hk => by
          obtain ⟨r, hr', er⟩ := List.mem_map.mp hk
          exact List.mem_map.mpr ⟨r, h1 r hr', er⟩
        have h4 : Tb.length ≤ sumU (cof Tb) := by
          rw [← cof_len]
          exact len_le_sumU _
        unfold hs at h3
        rw [List.length_map, List.length_map] at h3
        omega
      have len1 := len R1 b4 b5
      have len2 := len R2 c4 c5
      refine ⟨_, rfl, .inr (.inr (.inl ⟨rfl, .inl ⟨_, upd_same⟩⟩)), _, rfl, d3, d2, _, _, rfl, rfl, n32, upd_same, s4 _ _ c3, ?_, ?_⟩
      · rw [rows_len, rows_len]
        have : (131072 : Nat) ≤ sizeLine := by decide
        omega
      obtain ⟨m1, m2, m3, m4⟩ := merge_rows hT.nk (R1 := R1) (R2 := R2) b4 c4 b5
      rw [m1, upd_upd]
      have s35 : Same H3 (upd H3 d3 (.dK (rows (mergeT R1 R2)))) := same_new hd3
      have s5 := s3.trans s35
      have lW : ∀ a, a ∈ hs (mergeT R1 R2) ↔ Led t.cells (h :: t.rooted) a := fun a => by
        rw [m4, l1, l2]
        exact led_cons.symm
      have lenW := len _ m2 m3
      -- is there room
      refine ⟨_, rfl, d3, mergeT R1 R2, rfl, upd_same, (hT.keep s5).sub m2 m3, lenW, fun H6 s56 => ?_⟩
      have s6 := s5.trans s56
      have h6d2 := s56 _ _ (s35 _ _ c3)
      refine ⟨_, rfl, d2, R2, rfl, h6d2, (hT.keep s6).sub c4 c5, len2, fun H7 s67 => ?_⟩
      have s7 := s6.trans s67
      have hp7 := s7 _ _ hp
      have h7d1 := s67 _ _ (s56 _ _ (s35 _ _ h3d1))
      have h7d2 := s67 _ _ h6d2
      have h7d3 := s67 _ _ (s56 _ _ (upd_same (H := H3) (a := d3) (o := .dK (rows (mergeT R1 R2)))))
      have h7rl := s7 _ _ hrl
      have hT7 := hT.keep s7
      have n1p : d1 ≠ p := fun z => by rw [z, hp] at hd1; cases hd1
      have hd3' : H d3 = none := s3.free hd3
      have cW : (cof (mergeT R1 R2)).Perm (kept t.cells (h :: t.rooted)) := cof_kept hT.nk hpm m2 m3 lW
      have c2' : (cof R2).Perm (kept t.cells [h]) := cof_kept hT.nk hpm c4 c5 l2
      have c1' : (cof R1).Perm (kept t.cells t.rooted) := cof_kept hT.nk hpm b4 b5 l1
      have uW : Sz13.units (kept t.cells (h :: t.rooted)) = sumU (cof (mergeT R1 R2)) := by rw [units_eq, sumU_perm cW]
      have u2 : Sz13.units (kept t.cells [h]) = sumU (cof R2) := by rw [units_eq, sumU_perm c2']
      refine ⟨_, _, rfl, rfl, _, _, rfl, rfl, _, rfl, ?_⟩
      by_cases qr : (65536 : Int) < ((sumU (cof (mergeT R1 R2)) : Nat) : Int) + ((sumU (cof R2) : Nat) : Int)
      · refine ifT (decide_eq_true qr) ?_
        have edo2 : does t (.copy h) = ({ t with cells := kept t.cells (h :: t.rooted), newest := if t.newest = h then h else 0 }, -3) := by
          rw [edo, copied_eq, if_pos (by rw [uW, u2]; unfold Sz13.ROOM; omega)]
        refine ⟨_, rfl, p, C, dx, _, _, rfl, hp7, T.cl, T.nL, sf_last, _, rfl, rfl, _, rfl, ?_⟩
        by_cases ql : t.newest = h
        · rw [if_pos ql] at edo2
          refine ifT (by rw [ql, decide_eq_true rfl]) ?_
          refine ⟨_, rfl, _, rfl, p, C, dx, _, rfl, hp7, T.cl, T.nC, by show 4 < 1000; decide, ?_⟩
          rw [pf_cells]
          have hst : ∀ a, a ∈ Sz13.St.starts { t with cells := kept t.cells (h :: t.rooted), newest := h } ↔ a ∈ h :: t.rooted := fun a => by
            rw [mem_starts', List.mem_cons]
            constructor
            · rintro (z | z)
              · exact .inl z.1
              · exact .inr z
            · rintro (z | z)
              · exact .inl ⟨z, z ▸ hh0⟩
              · exact .inr z
          have et : (cof (mergeT R1 R2)).Perm (tidy { t with cells := kept t.cells (h :: t.rooted), newest := h }).cells := by
            show (cof (mergeT R1 R2)).Perm (kept (kept t.cells (h :: t.rooted)) _)
            rw [kept_kept g.nd (fun a ha e => .start ((hst a).mp ha) e)]
            exact cof_kept hT.nk hpm m2 m3 fun a => (lW a).trans (led_same fun b => (hst b).symm)
          have hra' : rl ∉ ads (mergeT R1 R2) := fun z => hra (ads_sub m2 rl z)
          have := StAt.ins (C := C) (t := t) (t' := tidy { t with cells := kept t.cells (h :: t.rooted), newest := h }) hp7 h7d3 h7rl hra' (hT7.sub m2 m3) et
          have e3 : (sf d3 rl ((tidy { t with cells := kept t.cells (h :: t.rooted), newest := h }).newest : Int) (((tidy { t with cells := kept t.cells (h :: t.rooted), newest := h }).next : Int) - 1)) = sf d3 rl (t.newest : Int) ((t.next : Int) - 1) := by
            show sf d3 rl (h : Int) ((t.next : Int) - 1) = _
            rw [ql]
          rw [e3] at this
          refine ans_to (c := .copy h) edo2 this (fun b o e hb => ?_) k
          simp only [List.mem_cons, not_or] at hb
          refine ⟨by rw [upd_ne hb.1]; exact s7 _ _ e, ?_⟩
          simp only [List.mem_cons, not_or]
          exact ⟨hb.1, ne_of_none e hd3', hb.2.2.1, fun z => hb.2.2.2 (ads_sub m2 b z)⟩
        · rw [if_neg ql] at edo2
          refine ifF (decide_eq_false (fun z => ql (by injection z with z; omega))) ?_
          refine ⟨_, rfl, _, rfl, p, C, dx, _, rfl, hp7, T.cl, T.nC, by show 4 < 1000; decide, ?_⟩
          rw [pf_cells]
          refine ⟨_, rfl, p, C, dx, _, rfl, upd_same, T.cl, T.nL, by show 4 < 1000; decide, ?_⟩
          rw [pf_last, upd_upd]
          have et : (cof R1).Perm (tidy { t with cells := kept t.cells (h :: t.rooted), newest := 0 }).cells := by
            show (cof R1).Perm (kept (kept t.cells (h :: t.rooted)) t.rooted)
            rw [kept_kept g.nd (fun a ha e => .start (List.mem_cons_of_mem _ ha) e)]
            exact c1'
          have hra' : rl ∉ ads R1 := fun z => hra (ads_sub b4 rl z)
          have := StAt.ins (C := C) (t := t) (t' := tidy { t with cells := kept t.cells (h :: t.rooted), newest := 0 }) hp7 h7d1 h7rl hra' (hT7.sub b4 b5) et
          refine ans_to (c := .copy h) edo2 this (fun b o e hb => ?_) k
          simp only [List.mem_cons, not_or] at hb
          refine ⟨by rw [upd_ne hb.1]; exact s7 _ _ e, ?_⟩
          simp only [List.mem_cons, not_or]
          exact ⟨hb.1, ne_of_none e hd1, hb.2.2.1, fun z => hb.2.2.2 (ads_sub b4 b z)⟩
      · refine ifF (decide_eq_false qr) ?_
        have edo2 : does t (.copy h) = (copySt t h, ((newOf t.next (kept t.cells [h]) h : Nat) : Int)) := by
          rw [edo, copied_eq, if_neg (by rw [uW, u2]; unfold Sz13.ROOM; omega)]
          rfl
        have gS : Good (copySt t h) := by
          have := good_does g (.copy h)
          rw [edo2] at this
          exact this
        refine ⟨_, rfl, _, rfl, p, C, dx, _, rfl, hp7, T.cl, T.nC, by show 4 < 1000; decide, ?_⟩
        rw [pf_cells]
        have nT7 := hT7.not_at hp7 (by intro xs z; cases z)
        have hT8 : Tab K (upd H7 p (.ins C dx (sf d1 rl (t.newest : Int) ((t.next : Int) - 1)))) Tb := hT7.upd hp7 rfl nT7
        have n2p : d2 ≠ p := ne_of h7d2 hp7 (by intro z; cases z)
        have hm1 : ∀ e ∈ R1, (e.1, e.2.2) ∈ t.cells := fun e he => hpm.mem_iff.mp (mem_cof (b4 e he))
        have hm2 : ∀ e ∈ R2, (e.1, e.2.2) ∈ t.cells := fun e he => hpm.mem_iff.mp (mem_cof (c4 e he))
        refine ⟨_, rfl, p, dx, _, rfl, upd_same, sf_no no_add, _, rfl, p, dx, d1, rl, d2, _, t.next, R1, R2, kept t.cells [h], rfl, upd_same, same_upd h7d1 n1p, same_upd h7d2 n2p, n12, hT8.sub b4 b5, hT8.sub c4 c5, c2', ?_, fun e he => g.w8 (e.1, e.2.2) (hm2 e he), fun e he => g.hi (e.1, e.2.2) (hm1 e he), len1, len2, ?_⟩
        · intro e he j hj
          have hl : Led t.cells [h] e.1 := (l2 e.1).mp (List.mem_map.mpr ⟨e, he, rfl⟩)
          exact (l2 j).mpr (.step hl ((get_iff g.nd).mpr (hm2 e he)) hj (isSome_iff.mpr (g.rf (e.1, e.2.2) (hm2 e he) j hj)))
        · intro H9 dn R l hln hlm hdn h9n h9p h9k hT9 hfr hcR fr
          have hhl : h ∈ l := (hlm h).mpr ((l2 h).mpr (.start (List.mem_singleton.mpr rfl) (isSome_iff.mpr hkey)))
          have hgn := dget_rd (k := Sum.inl (h : Int)) (.inl h9n : Rd H9 dn (.dK (kvN (newOf t.next (kept t.cells [h])) l)))
          rw [valV_mapK (kf := fun x : Nat => x) (by rw [List.map_id']; exact hln) hhl] at hgn
          refine ⟨_, rfl, dn, _, rfl, hgn, _, rfl, p, C, dx, _, rfl, h9p, T.cl, T.nL, by show 4 < 1000; decide, ?_⟩
          rw [pf_last]
          refine ⟨_, rfl, p, C, dx, _, _, rfl, upd_same, T.cl, T.nL, sf_last, ?_⟩
          have nrp : rl ≠ p := ne_of hrl hp (by intro z; cases z)
          have h9rl : H9 rl = some (.lst (t.roots.map nV)) := fr rl _ (same_upd h7rl nrp) nrp (fun z => by rw [← z, hrl] at hd1; cases hd1)
          have hra' : rl ∉ ads (R1 ++ R) := fun z => by
            rw [ads_app] at z
            rcases List.mem_append.mp z with z | z
            · exact hra (ads_sub b4 rl z)
            · have := hfr rl z
              rw [upd_ne nrp, h7rl] at this
              cases this
          have hlen : (kept t.cells [h]).length = R2.length := by rw [← cof_len, c2'.length_eq]
          have et : (cof (R1 ++ R)).Perm (tidy (copySt t h)).cells := by
            refine List.Perm.trans ?_ (copy_perm g hkey gS)
            rw [cof_app]
            exact (c1'.append hcR).trans List.perm_append_comm
          have := StAt.ins (C := C) (t := t) (t' := tidy (copySt t h)) h9p h9k h9rl hra' hT9 et
          have e3 : (sf d1 rl ((tidy (copySt t h)).newest : Int) (((tidy (copySt t h)).next : Int) - 1)) = sf d1 rl ((newOf t.next (kept t.cells [h]) h : Nat) : Int) (((t.next + R2.length : Nat) : Int) - 1) := by
            show sf d1 rl ((newOf t.next (kept t.cells [h]) h : Nat) : Int) (((t.next + (kept t.cells [h]).length : Nat) : Int) - 1) = _
            rw [hlen]
          rw [e3] at this
          refine ans_to (c := .copy h) edo2 this (fun b o e hb => ?_) k
          simp only [List.mem_cons, not_or] at hb
          have hb1 : b ≠ d1 := ne_of_none e hd1
          have e8 : (upd H7 p (.ins C dx (sf d1 rl (t.newest : Int) ((t.next : Int) - 1)))) b = some o := by rw [upd_ne hb.1]; exact s7 _ _ e
          refine ⟨by rw [upd_ne hb.1]; exact fr b o e8 hb.1 hb1, ?_⟩
          simp only [List.mem_cons, not_or]
          refine ⟨hb.1, hb1, hb.2.2.1, fun z => ?_⟩
          rw [ads_app] at z
          rcases List.mem_append.mp z with z | z
          · exact hb.2.2.2 (ads_sub b4 b z)
          · rw [hfr b z] at e8
            cases e8
    · refine ifT (by rw [decide_eq_false qh]; rfl) ?_
      exact ans_stay (c := .copy hz.toNat) (does_no (x := hz.toNat) (List.mem_singleton.mpr rfl) (fun z => qh ((has_row Td hpm).mp z))) st' Td k
end
end Rc

end
section
set_option Elab.async false
set_option linter.all false
set_option maxRecDepth 100000
set_option maxHeartbeats 2000000
namespace Rc
open PySem PySem.Spec PyProof.Rows L2
open Sz13 (Field Cell Cells Led refs kept does done made putIn)
theorem no_m_clear : ¬ ("cells" : Str) = "clear" ∧ ¬ ("roots" : Str) = "clear" ∧ ¬ ("last" : Str) = "clear" ∧ ¬ ("newest" : Str) = "clear" := by decide +kernel
theorem no_m_make : ¬ ("cells" : Str) = "make" ∧ ¬ ("roots" : Str) = "make" ∧ ¬ ("last" : Str) = "make" ∧ ¬ ("newest" : Str) = "make" := by decide +kernel
theorem no_m_root : ¬ ("cells" : Str) = "root" ∧ ¬ ("roots" : Str) = "root" ∧ ¬ ("last" : Str) = "root" ∧ ¬ ("newest" : Str) = "root" := by decide +kernel
theorem no_m_rooted : ¬ ("cells" : Str) = "rooted" ∧ ¬ ("roots" : Str) = "rooted" ∧ ¬ ("last" : Str) = "rooted" ∧ ¬ ("newest" : Str) = "rooted" := by decide +kernel
theorem no_m_number : ¬ ("cells" : Str) = "number" ∧ ¬ ("roots" : Str) = "number" ∧ ¬ ("last" : Str) = "number" ∧ ¬ ("newest" : Str) = "number" := by decide +kernel
theorem no_m_cell : ¬ ("cells" : Str) = "cell" ∧ ¬ ("roots" : Str) = "cell" ∧ ¬ ("last" : Str) = "cell" ∧ ¬ ("newest" : Str) = "cell" := by decide +kernel
theorem no_m_unset : ¬ ("cells" : Str) = "unset" ∧ ¬ ("roots" : Str) = "unset" ∧ ¬ ("last" : Str) = "unset" ∧ ¬ ("newest" : Str) = "unset" := by decide +kernel
theorem no_m_kind : ¬ ("cells" : Str) = "kind" ∧ ¬ ("roots" : Str) = "kind" ∧ ¬ ("last" : Str) = "kind" ∧ ¬ ("newest" : Str) = "kind" := by decide +kernel
theorem no_m_told : ¬ ("cells" : Str) = "told" ∧ ¬ ("roots" : Str) = "told" ∧ ¬ ("last" : Str) = "told" ∧ ¬ ("newest" : Str) = "told" := by decide +kernel
theorem no_m_held : ¬ ("cells" : Str) = "held" ∧ ¬ ("roots" : Str) = "held" ∧ ¬ ("last" : Str) = "held" ∧ ¬ ("newest" : Str) = "held" := by decide +kernel
theorem no_m_fields : ¬ ("cells" : Str) = "fields" ∧ ¬ ("roots" : Str) = "fields" ∧ ¬ ("last" : Str) = "fields" ∧ ¬ ("newest" : Str) = "fields" := by decide +kernel
theorem no_m_count : ¬ ("cells" : Str) = "count" ∧ ¬ ("roots" : Str) = "count" ∧ ¬ ("last" : Str) = "count" ∧ ¬ ("newest" : Str) = "count" := by decide +kernel
theorem no_m_alike : ¬ ("cells" : Str) = "alike" ∧ ¬ ("roots" : Str) = "alike" ∧ ¬ ("last" : Str) = "alike" ∧ ¬ ("newest" : Str) = "alike" := by decide +kernel
theorem no_m_copy : ¬ ("cells" : Str) = "copy" ∧ ¬ ("roots" : Str) = "copy" ∧ ¬ ("last" : Str) = "copy" ∧ ¬ ("newest" : Str) = "copy" := by decide +kernel
structure TxtA (mg : Str → Option Value) : Prop where
  c1 : GI mg "CLEAR" 1
  c2 : GI mg "MAKE" 2
  c3 : GI mg "ROOT" 3
  c4 : GI mg "ROOTED" 4
  c5 : GI mg "NUMBER" 5
  c6 : GI mg "CELL" 6
  c7 : GI mg "UNSET" 7
  c8 : GI mg "KIND" 8
  c9 : GI mg "TOLD" 9
  c10 : GI mg "HELD" 10
  c11 : GI mg "FIELDS" 11
  c12 : GI mg "COUNT" 12
  c13 : GI mg "ALIKE" 13
section
variable {P : Program} {w : World} {K : PySem.W.Frag} {mg : Str → Option Value} {base : Heap}
structure Ms (P : Program) (w : World) (K : PySem.W.Frag) (mg : Str → Option Value) (base : Heap) (C : Addr) (f1 f2 f3 f4 f5 f6 f7 f8 f9 f10 f11 f12 f13 f14 : Addr) (d1 d2 d3 d4 d5 d6 d7 d8 d9 d10 d11 d12 d13 d14 : FuncData) : Prop where
  m1 : Mt1 P w K mg base C "clear" 1 ["self"] (spClear K C) f1 d1
  m2 : Mt1 P w K mg base C "make" 3 ["self", "fields"] (spMake K C) f2 d2
  m3 : Mt1 P w K mg base C "root" 3 ["self", "r", "h"] (spRoot K C) f3 d3
  m4 : Mt1 P w K mg base C "rooted" 1 ["self", "r"] (spRooted K C) f4 d4
  m5 : Mt1 P w K mg base C "number" 4 ["self", "h", "i", "z"] (spNumber K C) f5 d5
  m6 : Mt1 P w K mg base C "cell" 4 ["self", "h", "i", "k"] (spCell K C) f6 d6
  m7 : Mt1 P w K mg base C "unset" 4 ["self", "h", "i"] (spUnset K C) f7 d7
  m8 : Mt1 P w K mg base C "kind" 1 ["self", "h", "i"] (spKind K C) f8 d8
  m9 : Mt1 P w K mg base C "told" 3 ["self", "h", "i"] (spTold K C) f9 d9
  m10 : Mt1 P w K mg base C "held" 3 ["self", "h", "i"] (spHeld K C) f10 d10
  m11 : Mt1 P w K mg base C "fields" 1 ["self", "h"] (spFields K C) f11 d11
  m12 : Mt1 P w K mg base C "count" 2 ["self"] (spCount K C) f12 d12
  m13 : Mt1 P w K mg base C "alike" 3 ["self", "h", "k"] (spAlike K C) f13 d13
  m14 : Mt1 P w K mg base C "copy" 3 ["self", "h"] (spCopy K C) f14 d14
theorem scAn : FnScope ["store", "call", "given"] ["store", "call", "given"] (defScope sAnswer) := ⟨rfl, rfl, rfl, by decide +kernel, rfl, by decide +kernel, by decide +kernel⟩
theorem at0 {a : Int} {l : List Int} : atI ((a :: l).map V.int) 0 = some (V.int a) := atI_of (by decide) rfl
theorem at1 {a b : Int} {l : List Int} : atI ((a :: b :: l).map V.int) 1 = some (V.int b) := atI_of (by decide) rfl
theorem at2 {a b c : Int} {l : List Int} : atI ((a :: b :: c :: l).map V.int) 2 = some (V.int c) := atI_of (by decide) rfl
theorem ok_answer {f C an : Addr} {fd : FuncData} {f1 f2 f3 f4 f5 f6 f7 f8 f9 f10 f11 f12 f13 f14 : Addr} {d1 d2 d3 d4 d5 d6 d7 d8 d9 d10 d11 d12 d13 d14 : FuncData} (F : Fun K "answer" "answer" sAnswer f fd) (T : Txt K mg C an) (TA : TxtA mg) (G : Ms P w K mg base C f1 f2 f3 f4 f5 f6 f7 f8 f9 f10 f11 f12 f13 f14 d1 d2 d3 d4 d5 d6 d7 d8 d9 d10 d11 d12 d13 d14) : FnOk P w K mg base CX0 5 f fd ["store", "call", "given"] (spAnswer K C) := by
  refine F.ok scAn (fun vs H Q E h => ?_) (fun cdv A outer s H vs Q E hr h => ?_)
  · obtain ⟨p, g, z, as, c, rfl, _⟩ := h
    rfl
  · obtain ⟨p, g, z, as, c, rfl, hL, hI, t, own, st, Td, k⟩ := h
    have hr1 : Room 1 _ := hr.mono (by decide)
    have hr2 : Room 2 _ := hr.mono (by decide)
    have hr3 : Room 3 _ := hr.mono (by decide)
    have hr4 : Room 4 _ := hr
    refine ⟨_, pss_cons (ps_if (pt_cmpR op_eq (pv 1) (pe_gi TA.c1 (by rfl)) (nomark _)) (pss_one (ps_ret (pe_meth0 (pv 0) T.cl G.m1.m G.m1.ok hr1 G.m1.b .nil pass0))) pss_nil)
      (pss_cons (ps_if (pt_cmpR op_eq (pv 1) (pe_gi TA.c2 (by rfl)) (nomark _)) (pss_one (ps_ret (pe_meth (pv 0) T.cl G.m2.m G.m2.ok hr3 G.m2.b .nil pass0 (pa_cons (pe_ix ix_list (pv 2) pe_int (fun _ _ => rfl)) pa_nil)))) pss_nil)
      (pss_cons (ps_if (pt_cmpR op_eq (pv 1) (pe_gi TA.c3 (by rfl)) (nomark _)) (pss_one (ps_ret (pe_meth (pv 0) T.cl G.m3.m G.m3.ok hr3 G.m3.b .nil pass0 (pa_cons (pe_ix ix_list (pv 2) pe_int (fun _ _ => rfl)) (pa_cons (pe_ix ix_list (pv 2) pe_int (fun _ _ => rfl)) pa_nil))))) pss_nil)
      (pss_cons (ps_if (pt_cmpR op_eq (pv 1) (pe_gi TA.c4 (by rfl)) (nomark _)) (pss_one (ps_ret (pe_meth (pv 0) T.cl G.m4.m G.m4.ok hr1 G.m4.b .nil pass0 (pa_cons (pe_ix ix_list (pv 2) pe_int (fun _ _ => rfl)) pa_nil)))) pss_nil)
      (pss_cons (ps_if (pt_cmpR op_eq (pv 1) (pe_gi TA.c5 (by rfl)) (nomark _)) (pss_one (ps_ret (pe_meth (pv 0) T.cl G.m5.m G.m5.ok hr4 G.m5.b .nil pass0 (pa_cons (pe_ix ix_list (pv 2) pe_int (fun _ _ => rfl)) (pa_cons (pe_ix ix_list (pv 2) pe_int (fun _ _ => rfl)) (pa_cons (pe_ix ix_list (pv 2) pe_int (fun _ _ => rfl)) pa_nil)))))) pss_nil)
      (pss_cons (ps_if (pt_cmpR op_eq (pv 1) (pe_gi TA.c6 (by rfl)) (nomark _)) (pss_one (ps_ret (pe_meth (pv 0) T.cl G.m6.m G.m6.ok hr4 G.m6.b .nil pass0 (pa_cons (pe_ix ix_list (pv 2) pe_int (fun _ _ => rfl)) (pa_cons (pe_ix ix_list (pv 2) pe_int (fun _ _ => rfl)) (pa_cons (pe_ix ix_list (pv 2) pe_int (fun _ _ => rfl)) pa_nil)))))) pss_nil)
      (pss_cons (ps_if (pt_cmpR op_eq (pv 1) (pe_gi TA.c7 (by rfl)) (nomark _)) (pss_one (ps_ret (pe_meth (pv 0) T.cl G.m7.m G.m7.ok hr4 G.m7.b .nil pass0 (pa_cons (pe_ix ix_list (pv 2) pe_int (fun _ _ => rfl)) (pa_cons (pe_ix ix_list (pv 2) pe_int (fun _ _ => rfl)) pa_nil))))) pss_nil)
      (pss_cons (ps_if (pt_cmpR op_eq (pv 1) (pe_gi TA.c8 (by rfl)) (nomark _)) (pss_one (ps_ret (pe_meth (pv 0) T.cl G.m8.m G.m8.ok hr1 G.m8.b .nil pass0 (pa_cons (pe_ix ix_list (pv 2) pe_int (fun _ _ => rfl)) (pa_cons (pe_ix ix_list (pv 2) pe_int (fun _ _ => rfl)) pa_nil))))) pss_nil)
      (pss_cons (ps_if (pt_cmpR op_eq (pv 1) (pe_gi TA.c9 (by rfl)) (nomark _)) (pss_one (ps_ret (pe_meth (pv 0) T.cl G.m9.m G.m9.ok hr3 G.m9.b .nil pass0 (pa_cons (pe_ix ix_list (pv 2) pe_int (fun _ _ => rfl)) (pa_cons (pe_ix ix_list (pv 2) pe_int (fun _ _ => rfl)) pa_nil))))) pss_nil)
      (pss_cons (ps_if (pt_cmpR op_eq (pv 1) (pe_gi TA.c10 (by rfl)) (nomark _)) (pss_one (ps_ret (pe_meth (pv 0) T.cl G.m10.m G.m10.ok hr3 G.m10.b .nil pass0 (pa_cons (pe_ix ix_list (pv 2) pe_int (fun _ _ => rfl)) (pa_cons (pe_ix ix_list (pv 2) pe_int (fun _ _ => rfl)) pa_nil))))) pss_nil)
      (pss_cons (ps_if (pt_cmpR op_eq (pv 1) (pe_gi TA.c11 (by rfl)) (nomark _)) (pss_one (ps_ret (pe_meth (pv 0) T.cl G.m11.m G.m11.ok hr1 G.m11.b .nil pass0 (pa_cons (pe_ix ix_list (pv 2) pe_int (fun _ _ => rfl)) pa_nil)))) pss_nil)
      (pss_cons (ps_if (pt_cmpR op_eq (pv 1) (pe_gi TA.c12 (by rfl)) (nomark _)) (pss_one (ps_ret (pe_meth0 (pv 0) T.cl G.m12.m G.m12.ok hr2 G.m12.b .nil pass0))) pss_nil)
      (pss_cons (ps_if (pt_cmpR op_eq (pv 1) (pe_gi TA.c13 (by rfl)) (nomark _)) (pss_one (ps_ret (pe_meth (pv 0) T.cl G.m13.m G.m13.ok hr3 G.m13.b .nil pass0 (pa_cons (pe_ix ix_list (pv 2) pe_int (fun _ _ => rfl)) (pa_cons (pe_ix ix_list (pv 2) pe_int (fun _ _ => rfl)) pa_nil))))) pss_nil)
      (pss_one (ps_ret (pe_meth (pv 0) T.cl G.m14.m G.m14.ok hr3 G.m14.b .nil pass0 (pa_cons (pe_ix ix_list (pv 2) pe_int (fun _ _ => rfl)) pa_nil)))))))))))))))), ?_⟩
    obtain ⟨dx, d, rl, l, n, hp⟩ := st.at_
    have hpo : p ∈ own := by
      obtain ⟨_, _, _, _, rfl, _⟩ := st
      exact List.mem_cons_self ..
    cases hI with
    | clear =>
      refine ⟨_, rfl, rfl, _, rfl, ifT (by decide) ?_⟩
      refine ⟨_, rfl, p, dx, _, rfl, hp, sf_no no_m_clear, p, dx, _, rfl, hp, .inr ⟨_, _, _, _, rfl⟩, fun H' own' st' kp => ?_⟩
      refine ans_to (c := .clear) (does_of (fun x hx => nomatch hx)) ?_ (fun b o e hb => kp b o e (fun y => hb (by rw [List.mem_singleton.mp y]; exact hpo))) k
      rw [tid_fresh.self]
      exact st'
    | @make a ha =>
      refine ⟨_, rfl, rfl, _, rfl, ifF (by decide) ?_⟩
      refine ⟨_, rfl, rfl, _, rfl, ifT (by decide) ?_⟩
      refine ⟨_, rfl, p, dx, _, rfl, hp, sf_no no_m_make, _, rfl, g, _, 0, V.int a, rfl, rfl, hL, at0, p, a, rfl, t, own, st, Td, k⟩
    | @root a b ha hb =>
      refine ⟨_, rfl, rfl, _, rfl, ifF (by decide) ?_⟩
      refine ⟨_, rfl, rfl, _, rfl, ifF (by decide) ?_⟩
      refine ⟨_, rfl, rfl, _, rfl, ifT (by decide) ?_⟩
      refine ⟨_, rfl, p, dx, _, rfl, hp, sf_no no_m_root, _, rfl, g, _, 0, V.int a, rfl, rfl, hL, at0, _, rfl, g, _, 1, V.int b, rfl, rfl, hL, at1, p, a, b, rfl, hb.1, t, own, st, Td, k⟩
    | @rooted a ha =>
      refine ⟨_, rfl, rfl, _, rfl, ifF (by decide) ?_⟩
      refine ⟨_, rfl, rfl, _, rfl, ifF (by decide) ?_⟩
      refine ⟨_, rfl, rfl, _, rfl, ifF (by decide) ?_⟩
      refine ⟨_, rfl, rfl, _, rfl, ifT (by decide) ?_⟩
      refine ⟨_, rfl, p, dx, _, rfl, hp, sf_no no_m_rooted, _, rfl, g, _, 0, V.int a, rfl, rfl, hL, at0, p, a, rfl, t, own, st, Td, k⟩
    | @setNumber a b c ha hb hc =>
      refine ⟨_, rfl, rfl, _, rfl, ifF (by decide) ?_⟩
      refine ⟨_, rfl, rfl, _, rfl, ifF (by decide) ?_⟩
      refine ⟨_, rfl, rfl, _, rfl, ifF (by decide) ?_⟩
      refine ⟨_, rfl, rfl, _, rfl, ifF (by decide) ?_⟩
      refine ⟨_, rfl, rfl, _, rfl, ifT (by decide) ?_⟩
      refine ⟨_, rfl, p, dx, _, rfl, hp, sf_no no_m_number, _, rfl, g, _, 0, V.int a, rfl, rfl, hL, at0, _, rfl, g, _, 1, V.int b, rfl, rfl, hL, at1, _, rfl, g, _, 2, V.int c, rfl, rfl, hL, at2, p, a, b, c, rfl, ha.1, t, own, st, Td, k⟩
    | @setCell a b c ha hb hc =>
      refine ⟨_, rfl, rfl, _, rfl, ifF (by decide) ?_⟩
      refine ⟨_, rfl, rfl, _, rfl, ifF (by decide) ?_⟩
      refine ⟨_, rfl, rfl, _, rfl, ifF (by decide) ?_⟩
      refine ⟨_, rfl, rfl, _, rfl, ifF (by decide) ?_⟩
      refine ⟨_, rfl, rfl, _, rfl, ifF (by decide) ?_⟩
      refine ⟨_, rfl, rfl, _, rfl, ifT (by decide) ?_⟩
      refine ⟨_, rfl, p, dx, _, rfl, hp, sf_no no_m_cell, _, rfl, g, _, 0, V.int a, rfl, rfl, hL, at0, _, rfl, g, _, 1, V.int b, rfl, rfl, hL, at1, _, rfl, g, _, 2, V.int c, rfl, rfl, hL, at2, p, a, b, c, rfl, ha.1, hc.1, t, own, st, Td, k⟩
    | @unset a b ha hb =>
      refine ⟨_, rfl, rfl, _, rfl, ifF (by decide) ?_⟩
      refine ⟨_, rfl, rfl, _, rfl, ifF (by decide) ?_⟩
      refine ⟨_, rfl, rfl, _, rfl, ifF (by decide) ?_⟩
      refine ⟨_, rfl, rfl, _, rfl, ifF (by decide) ?_⟩
      refine ⟨_, rfl, rfl, _, rfl, ifF (by decide) ?_⟩
      refine ⟨_, rfl, rfl, _, rfl, ifF (by decide) ?_⟩
      refine ⟨_, rfl, rfl, _, rfl, ifT (by decide) ?_⟩
      refine ⟨_, rfl, p, dx, _, rfl, hp, sf_no no_m_unset, _, rfl, g, _, 0, V.int a, rfl, rfl, hL, at0, _, rfl, g, _, 1, V.int b, rfl, rfl, hL, at1, p, a, b, rfl, ha.1, t, own, st, Td, k⟩
    | @kind a b ha hb =>
      refine ⟨_, rfl, rfl, _, rfl, ifF (by decide) ?_⟩
      refine ⟨_, rfl, rfl, _, rfl, ifF (by decide) ?_⟩
      refine ⟨_, rfl, rfl, _, rfl, ifF (by decide) ?_⟩
      refine ⟨_, rfl, rfl, _, rfl, ifF (by decide) ?_⟩
      refine ⟨_, rfl, rfl, _, rfl, ifF (by decide) ?_⟩
      refine ⟨_, rfl, rfl, _, rfl, ifF (by decide) ?_⟩
      refine ⟨_, rfl, rfl, _, rfl, ifF (by decide) ?_⟩
      refine ⟨_, rfl, rfl, _, rfl, ifT (by decide) ?_⟩
      refine ⟨_, rfl, p, dx, _, rfl, hp, sf_no no_m_kind, _, rfl, g, _, 0, V.int a, rfl, rfl, hL, at0, _, rfl, g, _, 1, V.int b, rfl, rfl, hL, at1, p, a, b, t, own, rfl, ha.1, st, Td, ans_stay (kindR_does t a.toNat b) st Td k⟩
    | @number a b ha hb =>
      refine ⟨_, rfl, rfl, _, rfl, ifF (by decide) ?_⟩
      refine ⟨_, rfl, rfl, _, rfl, ifF (by decide) ?_⟩
      refine ⟨_, rfl, rfl, _, rfl, ifF (by decide) ?_⟩
      refine ⟨_, rfl, rfl, _, rfl, ifF (by decide) ?_⟩
      refine ⟨_, rfl, rfl, _, rfl, ifF (by decide) ?_⟩
      refine ⟨_, rfl, rfl, _, rfl, ifF (by decide) ?_⟩
      refine ⟨_, rfl, rfl, _, rfl, ifF (by decide) ?_⟩
      refine ⟨_, rfl, rfl, _, rfl, ifF (by decide) ?_⟩
      refine ⟨_, rfl, rfl, _, rfl, ifT (by decide) ?_⟩
      refine ⟨_, rfl, p, dx, _, rfl, hp, sf_no no_m_told, _, rfl, g, _, 0, V.int a, rfl, rfl, hL, at0, _, rfl, g, _, 1, V.int b, rfl, rfl, hL, at1, p, a, b, rfl, ha.1, t, own, st, Td, k⟩
    | @cell a b ha hb =>
      refine ⟨_, rfl, rfl, _, rfl, ifF (by decide) ?_⟩
      refine ⟨_, rfl, rfl, _, rfl, ifF (by decide) ?_⟩
      refine ⟨_, rfl, rfl, _, rfl, ifF (by decide) ?_⟩
      refine ⟨_, rfl, rfl, _, rfl, ifF (by decide) ?_⟩
      refine ⟨_, rfl, rfl, _, rfl, ifF (by decide) ?_⟩
      refine ⟨_, rfl, rfl, _, rfl, ifF (by decide) ?_⟩
      refine ⟨_, rfl, rfl, _, rfl, ifF (by decide) ?_⟩
      refine ⟨_, rfl, rfl, _, rfl, ifF (by decide) ?_⟩
      refine ⟨_, rfl, rfl, _, rfl, ifF (by decide) ?_⟩
      refine ⟨_, rfl, rfl, _, rfl, ifT (by decide) ?_⟩
      refine ⟨_, rfl, p, dx, _, rfl, hp, sf_no no_m_held, _, rfl, g, _, 0, V.int a, rfl, rfl, hL, at0, _, rfl, g, _, 1, V.int b, rfl, rfl, hL, at1, p, a, b, rfl, ha.1, t, own, st, Td, k⟩
    | @fields a ha =>
      refine ⟨_, rfl, rfl, _, rfl, ifF (by decide) ?_⟩
      refine ⟨_, rfl, rfl, _, rfl, ifF (by decide) ?_⟩
      refine ⟨_, rfl, rfl, _, rfl, ifF (by decide) ?_⟩
      refine ⟨_, rfl, rfl, _, rfl, ifF (by decide) ?_⟩
      refine ⟨_, rfl, rfl, _, rfl, ifF (by decide) ?_⟩
      refine ⟨_, rfl, rfl, _, rfl, ifF (by decide) ?_⟩
      refine ⟨_, rfl, rfl, _, rfl, ifF (by decide) ?_⟩
      refine ⟨_, rfl, rfl, _, rfl, ifF (by decide) ?_⟩
      refine ⟨_, rfl, rfl, _, rfl, ifF (by decide) ?_⟩
      refine ⟨_, rfl, rfl, _, rfl, ifF (by decide) ?_⟩
      refine ⟨_, rfl, rfl, _, rfl, ifT (by decide) ?_⟩
      refine ⟨_, rfl, p, dx, _, rfl, hp, sf_no no_m_fields, _, rfl, g, _, 0, V.int a, rfl, rfl, hL, at0, p, a, rfl, ha.1, t, own, st, Td, k⟩
    | count =>
      refine ⟨_, rfl, rfl, _, rfl, ifF (by decide) ?_⟩
      refine ⟨_, rfl, rfl, _, rfl, ifF (by decide) ?_⟩
      refine ⟨_, rfl, rfl, _, rfl, ifF (by decide) ?_⟩
      refine ⟨_, rfl, rfl, _, rfl, ifF (by decide) ?_⟩
      refine ⟨_, rfl, rfl, _, rfl, ifF (by decide) ?_⟩
      refine ⟨_, rfl, rfl, _, rfl, ifF (by decide) ?_⟩
      refine ⟨_, rfl, rfl, _, rfl, ifF (by decide) ?_⟩
      refine ⟨_, rfl, rfl, _, rfl, ifF (by decide) ?_⟩
      refine ⟨_, rfl, rfl, _, rfl, ifF (by decide) ?_⟩
      refine ⟨_, rfl, rfl, _, rfl, ifF (by decide) ?_⟩
      refine ⟨_, rfl, rfl, _, rfl, ifF (by decide) ?_⟩
      refine ⟨_, rfl, rfl, _, rfl, ifT (by decide) ?_⟩
      refine ⟨_, rfl, p, dx, _, rfl, hp, sf_no no_m_count, p, rfl, t, own, st, Td, k⟩
    | @alike a b ha hb =>
      refine ⟨_, rfl, rfl, _, rfl, ifF (by decide) ?_⟩
      refine ⟨_, rfl, rfl, _, rfl, ifF (by decide) ?_⟩
      refine ⟨_, rfl, rfl, _, rfl, ifF (by decide) ?_⟩
      refine ⟨_, rfl, rfl, _, rfl, ifF (by decide) ?_⟩
      refine ⟨_, rfl, rfl, _, rfl, ifF (by decide) ?_⟩
      refine ⟨_, rfl, rfl, _, rfl, ifF (by decide) ?_⟩
      refine ⟨_, rfl, rfl, _, rfl, ifF (by decide) ?_⟩
      refine ⟨_, rfl, rfl, _, rfl, ifF (by decide) ?_⟩
      refine ⟨_, rfl, rfl, _, rfl, ifF (by decide) ?_⟩
      refine ⟨_, rfl, rfl, _, rfl, ifF (by decide) ?_⟩
      refine ⟨_, rfl, rfl, _, rfl, ifF (by decide) ?_⟩
      refine ⟨_, rfl, rfl, _, rfl, ifF (by decide) ?_⟩
      refine ⟨_, rfl, rfl, _, rfl, ifT (by decide) ?_⟩
      refine ⟨_, rfl, p, dx, _, rfl, hp, sf_no no_m_alike, _, rfl, g, _, 0, V.int a, rfl, rfl, hL, at0, _, rfl, g, _, 1, V.int b, rfl, rfl, hL, at1, p, a, b, rfl, ha.1, hb.1, t, own, st, Td, k⟩
    | @copy a ha =>
      refine ⟨_, rfl, rfl, _, rfl, ifF (by decide) ?_⟩
      refine ⟨_, rfl, rfl, _, rfl, ifF (by decide) ?_⟩
      refine ⟨_, rfl, rfl, _, rfl, ifF (by decide) ?_⟩
      refine ⟨_, rfl, rfl, _, rfl, ifF (by decide) ?_⟩
      refine ⟨_, rfl, rfl, _, rfl, ifF (by decide) ?_⟩
      refine ⟨_, rfl, rfl, _, rfl, ifF (by decide) ?_⟩
      refine ⟨_, rfl, rfl, _, rfl, ifF (by decide) ?_⟩
      refine ⟨_, rfl, rfl, _, rfl, ifF (by decide) ?_⟩
      refine ⟨_, rfl, rfl, _, rfl, ifF (by decide) ?_⟩
      refine ⟨_, rfl, rfl, _, rfl, ifF (by decide) ?_⟩
      refine ⟨_, rfl, rfl, _, rfl, ifF (by decide) ?_⟩
      refine ⟨_, rfl, rfl, _, rfl, ifF (by decide) ?_⟩
      refine ⟨_, rfl, rfl, _, rfl, ifF (by decide) ?_⟩
      refine ⟨_, rfl, p, dx, _, rfl, hp, sf_no no_m_copy, _, rfl, g, _, 0, V.int a, rfl, rfl, hL, at0, p, a, rfl, ha.1, t, own, st, Td, k⟩
end
end Rc

end
section
set_option Elab.async false
set_option linter.all false
set_option maxRecDepth 100000
set_option maxHeartbeats 2000000
namespace Rc
open PySem PySem.Spec PyProof.Rows L2
open PySem.W (Codec)
/-! ### what the top has written -/
def sizesOk (es : Array DictEntry) : Bool := (es.toList.all fun e => match e.key with
  | .int z _ => decide (e.hash = hashInt z)
  | _ => false) && ([1, 2, 3, 4, 5, 6, 7, 8, 9, 10, 11, 12, 13, 14] : List Int).all fun z => match findBy Value.isInt es z with
  | some (.int n _) => decide (n = ((sz z : Nat) : Int))
  | _ => false
theorem sizes_md {K : PySem.W.Frag} {aS : Addr} {es : Array DictEntry} {ns : Nat} (l : K.lookup aS = some ⟨.type "dict", none, .dict es ns, #[]⟩) (h : sizesOk es = true) : ∀ z as c, Is z as c → MD K aS z (.int (sz z : Nat)) := by
  intro z as c hI
  unfold sizesOk at h
  rw [Bool.and_eq_true] at h
  have hz : z ∈ ([1, 2, 3, 4, 5, 6, 7, 8, 9, 10, 11, 12, 13, 14] : List Int) := by cases hI <;> decide
  have h2 := List.all_eq_true.mp h.2 z hz
  have h1 : ∀ e ∈ es, ∃ z t, e.key = .int z t ∧ e.hash = hashInt z := fun e he => by
    have := List.all_eq_true.mp h.1 e (Array.mem_toList_iff.mpr he)
    split at this
    · rename_i z t ek
      exact ⟨z, t, ek, of_decide_eq_true this⟩
    · cases this
  split at h2
  · rename_i n t ef
    exact ⟨es, ns, _, l, h1, ef, ⟨t, by rw [of_decide_eq_true h2]⟩⟩
  · cases h2
theorem all_mk {P : Program} {w : World} {K : PySem.W.Frag} {h : Heap} {mg : Str → Option Value} {fa C : Addr} (X : K.In h) (G : h.Ns mainGlobals mg) (hfa : mg "answers" = some (.ref fa))
    {fLe : Addr} {odLe anLe : Option Addr} {slLe : Array (Option Value)} {ocLe kVLe dcLe pmLe cdLe ctLe : Value}
    {fUn : Addr} {odUn anUn : Option Addr} {slUn : Array (Option Value)} {ocUn kVUn dcUn pmUn cdUn ctUn : Value}
    {fAg : Addr} {odAg anAg : Option Addr} {slAg : Array (Option Value)} {ocAg kVAg dcAg pmAg cdAg ctAg : Value}
    {fHp : Addr} {odHp anHp : Option Addr} {slHp : Array (Option Value)} {ocHp kVHp dcHp pmHp cdHp ctHp : Value}
    {fCb : Addr} {odCb anCb : Option Addr} {slCb : Array (Option Value)} {ocCb kVCb dcCb pmCb cdCb ctCb : Value}
    {fRn : Addr} {odRn anRn : Option Addr} {slRn : Array (Option Value)} {ocRn kVRn dcRn pmRn cdRn ctRn : Value}
    {fIn : Addr} {odIn anIn : Option Addr} {slIn : Array (Option Value)} {ocIn kVIn dcIn pmIn cdIn ctIn : Value}
    {fCl : Addr} {odCl anCl : Option Addr} {slCl : Array (Option Value)} {ocCl kVCl dcCl pmCl cdCl ctCl : Value}
    {fIr : Addr} {odIr anIr : Option Addr} {slIr : Array (Option Value)} {ocIr kVIr dcIr pmIr cdIr ctIr : Value}
    {fSw : Addr} {odSw anSw : Option Addr} {slSw : Array (Option Value)} {ocSw kVSw dcSw pmSw cdSw ctSw : Value}
    {fMk : Addr} {odMk anMk : Option Addr} {slMk : Array (Option Value)} {ocMk kVMk dcMk pmMk cdMk ctMk : Value}
    {fRt : Addr} {odRt anRt : Option Addr} {slRt : Array (Option Value)} {ocRt kVRt dcRt pmRt cdRt ctRt : Value}
    {fRd : Addr} {odRd anRd : Option Addr} {slRd : Array (Option Value)} {ocRd kVRd dcRd pmRd cdRd ctRd : Value}
    {fPt : Addr} {odPt anPt : Option Addr} {slPt : Array (Option Value)} {ocPt kVPt dcPt pmPt cdPt ctPt : Value}
    {fNu : Addr} {odNu anNu : Option Addr} {slNu : Array (Option Value)} {ocNu kVNu dcNu pmNu cdNu ctNu : Value}
    {fCe : Addr} {odCe anCe : Option Addr} {slCe : Array (Option Value)} {ocCe kVCe dcCe pmCe cdCe ctCe : Value}
    {fUs : Addr} {odUs anUs : Option Addr} {slUs : Array (Option Value)} {ocUs kVUs dcUs pmUs cdUs ctUs : Value}
    {fKi : Addr} {odKi anKi : Option Addr} {slKi : Array (Option Value)} {ocKi kVKi dcKi pmKi cdKi ctKi : Value}
    {fVa : Addr} {odVa anVa : Option Addr} {slVa : Array (Option Value)} {ocVa kVVa dcVa pmVa cdVa ctVa : Value}
    {fTo : Addr} {odTo anTo : Option Addr} {slTo : Array (Option Value)} {ocTo kVTo dcTo pmTo cdTo ctTo : Value}
    {fHe : Addr} {odHe anHe : Option Addr} {slHe : Array (Option Value)} {ocHe kVHe dcHe pmHe cdHe ctHe : Value}
    {fFi : Addr} {odFi anFi : Option Addr} {slFi : Array (Option Value)} {ocFi kVFi dcFi pmFi cdFi ctFi : Value}
    {fCo : Addr} {odCo anCo : Option Addr} {slCo : Array (Option Value)} {ocCo kVCo dcCo pmCo cdCo ctCo : Value}
    {fAl : Addr} {odAl anAl : Option Addr} {slAl : Array (Option Value)} {ocAl kVAl dcAl pmAl cdAl ctAl : Value}
    {fCp : Addr} {odCp anCp : Option Addr} {slCp : Array (Option Value)} {ocCp kVCp dcCp pmCp cdCp ctCp : Value}
    {fAd : Addr} {odAd anAd : Option Addr} {slAd : Array (Option Value)} {ocAd kVAd dcAd pmAd cdAd ctAd : Value}
    {fAn : Addr} {odAn anAn : Option Addr} {slAn : Array (Option Value)} {ocAn kVAn dcAn pmAn cdAn ctAn : Value}
    {fAs : Addr} {odAs anAs : Option Addr} {slAs : Array (Option Value)} {ocAs kVAs dcAs pmAs cdAs ctAs : Value}
    {t_ROOM : Tok}
    {t_ROOT_COUNT : Tok}
    {t_MOST_FIELDS : Tok}
    {t_DONE : Tok}
    {t_NOT_LED_TO : Tok}
    {t_OUT_OF_RANGE : Tok}
    {t_NO_ROOM : Tok}
    {t_HOLDS_NUMBER : Tok}
    {t_HOLDS_CELL : Tok}
    {t_CLEAR : Tok}
    {t_MAKE : Tok}
    {t_ROOT : Tok}
    {t_ROOTED : Tok}
    {t_NUMBER : Tok}
    {t_CELL : Tok}
    {t_UNSET : Tok}
    {t_KIND : Tok}
    {t_TOLD : Tok}
    {t_HELD : Tok}
    {t_FIELDS : Tok}
    {t_COUNT : Tok}
    {t_ALIKE : Tok}
    {an : Addr} {odn : Option Addr} {sln : Array (Option Value)} {nn : Nat} {tn1 tn2 : Tok}
    {adS : Addr} {es : Array DictEntry} {ns : Nat}
    (hStore : PySem.W.nsIn K mainGlobals "Store" = some (some (.ref C)))
    (haLe : PySem.W.nsIn K mainGlobals "led_to" = some (some (.ref fLe)))
    (hlLe : K.lookup fLe = some ⟨ocLe, odLe, .func (PySem.W.fnOf "led_to" "led_to" (defArgs sLed) (defBody sLed) (defScope sLed) .none kVLe dcLe pmLe anLe cdLe ctLe), slLe⟩)
    (hcLe : PySem.W.codeIn K cdLe "led_to" = true)
    (hkLe : PySem.W.keepIn K (.ref fLe) = true)
    (haUn : PySem.W.nsIn K mainGlobals "units" = some (some (.ref fUn)))
    (hlUn : K.lookup fUn = some ⟨ocUn, odUn, .func (PySem.W.fnOf "units" "units" (defArgs sUnits) (defBody sUnits) (defScope sUnits) .none kVUn dcUn pmUn anUn cdUn ctUn), slUn⟩)
    (hcUn : PySem.W.codeIn K cdUn "units" = true)
    (hkUn : PySem.W.keepIn K (.ref fUn) = true)
    (haAg : PySem.W.nsIn K mainGlobals "agree" = some (some (.ref fAg)))
    (hlAg : K.lookup fAg = some ⟨ocAg, odAg, .func (PySem.W.fnOf "agree" "agree" (defArgs sAgree) (defBody sAgree) (defScope sAgree) .none kVAg dcAg pmAg anAg cdAg ctAg), slAg⟩)
    (hcAg : PySem.W.codeIn K cdAg "agree" = true)
    (hkAg : PySem.W.keepIn K (.ref fAg) = true)
    (haHp : PySem.W.nsIn K mainGlobals "held_pairs" = some (some (.ref fHp)))
    (hlHp : K.lookup fHp = some ⟨ocHp, odHp, .func (PySem.W.fnOf "held_pairs" "held_pairs" (defArgs sPairs) (defBody sPairs) (defScope sPairs) .none kVHp dcHp pmHp anHp cdHp ctHp), slHp⟩)
    (hcHp : PySem.W.codeIn K cdHp "held_pairs" = true)
    (hkHp : PySem.W.keepIn K (.ref fHp) = true)
    (haCb : PySem.W.nsIn K mainGlobals "can_be_paired" = some (some (.ref fCb)))
    (hlCb : K.lookup fCb = some ⟨ocCb, odCb, .func (PySem.W.fnOf "can_be_paired" "can_be_paired" (defArgs sCan) (defBody sCan) (defScope sCan) .none kVCb dcCb pmCb anCb cdCb ctCb), slCb⟩)
    (hcCb : PySem.W.codeIn K cdCb "can_be_paired" = true)
    (hkCb : PySem.W.keepIn K (.ref fCb) = true)
    (haRn : PySem.W.nsIn K mainGlobals "renamed" = some (some (.ref fRn)))
    (hlRn : K.lookup fRn = some ⟨ocRn, odRn, .func (PySem.W.fnOf "renamed" "renamed" (defArgs sRen) (defBody sRen) (defScope sRen) .none kVRn dcRn pmRn anRn cdRn ctRn), slRn⟩)
    (hcRn : PySem.W.codeIn K cdRn "renamed" = true)
    (hkRn : PySem.W.keepIn K (.ref fRn) = true)
    (haIn : PySem.W.findIn K (.ref C) "__init__" = some (some (.ref fIn)))
    (hiIn : PySem.W.isFn K (.ref fIn) = true)
    (hlIn : K.lookup fIn = some ⟨ocIn, odIn, .func (PySem.W.fnOf "__init__" "Store.__init__" (defArgs sInit) (defBody sInit) (defScope sInit) .none kVIn dcIn pmIn anIn cdIn ctIn), slIn⟩)
    (hcIn : PySem.W.codeIn K cdIn "Store.__init__" = true)
    (hkIn : PySem.W.keepIn K (.ref fIn) = true)
    (haCl : PySem.W.findIn K (.ref C) "clear" = some (some (.ref fCl)))
    (hiCl : PySem.W.isFn K (.ref fCl) = true)
    (hlCl : K.lookup fCl = some ⟨ocCl, odCl, .func (PySem.W.fnOf "clear" "Store.clear" (defArgs sClear) (defBody sClear) (defScope sClear) .none kVCl dcCl pmCl anCl cdCl ctCl), slCl⟩)
    (hcCl : PySem.W.codeIn K cdCl "Store.clear" = true)
    (hkCl : PySem.W.keepIn K (.ref fCl) = true)
    (haIr : PySem.W.findIn K (.ref C) "in_roots" = some (some (.ref fIr)))
    (hiIr : PySem.W.isFn K (.ref fIr) = true)
    (hlIr : K.lookup fIr = some ⟨ocIr, odIr, .func (PySem.W.fnOf "in_roots" "Store.in_roots" (defArgs sInRoots) (defBody sInRoots) (defScope sInRoots) .none kVIr dcIr pmIr anIr cdIr ctIr), slIr⟩)
    (hcIr : PySem.W.codeIn K cdIr "Store.in_roots" = true)
    (hkIr : PySem.W.keepIn K (.ref fIr) = true)
    (haSw : PySem.W.findIn K (.ref C) "sweep" = some (some (.ref fSw)))
    (hiSw : PySem.W.isFn K (.ref fSw) = true)
    (hlSw : K.lookup fSw = some ⟨ocSw, odSw, .func (PySem.W.fnOf "sweep" "Store.sweep" (defArgs sSweep) (defBody sSweep) (defScope sSweep) .none kVSw dcSw pmSw anSw cdSw ctSw), slSw⟩)
    (hcSw : PySem.W.codeIn K cdSw "Store.sweep" = true)
    (hkSw : PySem.W.keepIn K (.ref fSw) = true)
    (haMk : PySem.W.findIn K (.ref C) "make" = some (some (.ref fMk)))
    (hiMk : PySem.W.isFn K (.ref fMk) = true)
    (hlMk : K.lookup fMk = some ⟨ocMk, odMk, .func (PySem.W.fnOf "make" "Store.make" (defArgs sMake) (defBody sMake) (defScope sMake) .none kVMk dcMk pmMk anMk cdMk ctMk), slMk⟩)
    (hcMk : PySem.W.codeIn K cdMk "Store.make" = true)
    (hkMk : PySem.W.keepIn K (.ref fMk) = true)
    (haRt : PySem.W.findIn K (.ref C) "root" = some (some (.ref fRt)))
    (hiRt : PySem.W.isFn K (.ref fRt) = true)
    (hlRt : K.lookup fRt = some ⟨ocRt, odRt, .func (PySem.W.fnOf "root" "Store.root" (defArgs sRoot) (defBody sRoot) (defScope sRoot) .none kVRt dcRt pmRt anRt cdRt ctRt), slRt⟩)
    (hcRt : PySem.W.codeIn K cdRt "Store.root" = true)
    (hkRt : PySem.W.keepIn K (.ref fRt) = true)
    (haRd : PySem.W.findIn K (.ref C) "rooted" = some (some (.ref fRd)))
    (hiRd : PySem.W.isFn K (.ref fRd) = true)
    (hlRd : K.lookup fRd = some ⟨ocRd, odRd, .func (PySem.W.fnOf "rooted" "Store.rooted" (defArgs sRooted) (defBody sRooted) (defScope sRooted) .none kVRd dcRd pmRd anRd cdRd ctRd), slRd⟩)
    (hcRd : PySem.W.codeIn K cdRd "Store.rooted" = true)
    (hkRd : PySem.W.keepIn K (.ref fRd) = true)
    (haPt : PySem.W.findIn K (.ref C) "put" = some (some (.ref fPt)))
    (hiPt : PySem.W.isFn K (.ref fPt) = true)
    (hlPt : K.lookup fPt = some ⟨ocPt, odPt, .func (PySem.W.fnOf "put" "Store.put" (defArgs sPut) (defBody sPut) (defScope sPut) .none kVPt dcPt pmPt anPt cdPt ctPt), slPt⟩)
    (hcPt : PySem.W.codeIn K cdPt "Store.put" = true)
    (hkPt : PySem.W.keepIn K (.ref fPt) = true)
    (haNu : PySem.W.findIn K (.ref C) "number" = some (some (.ref fNu)))
    (hiNu : PySem.W.isFn K (.ref fNu) = true)
    (hlNu : K.lookup fNu = some ⟨ocNu, odNu, .func (PySem.W.fnOf "number" "Store.number" (defArgs sNumber) (defBody sNumber) (defScope sNumber) .none kVNu dcNu pmNu anNu cdNu ctNu), slNu⟩)
    (hcNu : PySem.W.codeIn K cdNu "Store.number" = true)
    (hkNu : PySem.W.keepIn K (.ref fNu) = true)
    (haCe : PySem.W.findIn K (.ref C) "cell" = some (some (.ref fCe)))
    (hiCe : PySem.W.isFn K (.ref fCe) = true)
    (hlCe : K.lookup fCe = some ⟨ocCe, odCe, .func (PySem.W.fnOf "cell" "Store.cell" (defArgs sCell) (defBody sCell) (defScope sCell) .none kVCe dcCe pmCe anCe cdCe ctCe), slCe⟩)
    (hcCe : PySem.W.codeIn K cdCe "Store.cell" = true)
    (hkCe : PySem.W.keepIn K (.ref fCe) = true)
    (haUs : PySem.W.findIn K (.ref C) "unset" = some (some (.ref fUs)))
    (hiUs : PySem.W.isFn K (.ref fUs) = true)
    (hlUs : K.lookup fUs = some ⟨ocUs, odUs, .func (PySem.W.fnOf "unset" "Store.unset" (defArgs sUnset) (defBody sUnset) (defScope sUnset) .none kVUs dcUs pmUs anUs cdUs ctUs), slUs⟩)
    (hcUs : PySem.W.codeIn K cdUs "Store.unset" = true)
    (hkUs : PySem.W.keepIn K (.ref fUs) = true)
    (haKi : PySem.W.findIn K (.ref C) "kind" = some (some (.ref fKi)))
    (hiKi : PySem.W.isFn K (.ref fKi) = true)
    (hlKi : K.lookup fKi = some ⟨ocKi, odKi, .func (PySem.W.fnOf "kind" "Store.kind" (defArgs sKind) (defBody sKind) (defScope sKind) .none kVKi dcKi pmKi anKi cdKi ctKi), slKi⟩)
    (hcKi : PySem.W.codeIn K cdKi "Store.kind" = true)
    (hkKi : PySem.W.keepIn K (.ref fKi) = true)
    (haVa : PySem.W.findIn K (.ref C) "value_of" = some (some (.ref fVa)))
    (hiVa : PySem.W.isFn K (.ref fVa) = true)
    (hlVa : K.lookup fVa = some ⟨ocVa, odVa, .func (PySem.W.fnOf "value_of" "Store.value_of" (defArgs sValue) (defBody sValue) (defScope sValue) .none kVVa dcVa pmVa anVa cdVa ctVa), slVa⟩)
    (hcVa : PySem.W.codeIn K cdVa "Store.value_of" = true)
    (hkVa : PySem.W.keepIn K (.ref fVa) = true)
    (haTo : PySem.W.findIn K (.ref C) "told" = some (some (.ref fTo)))
    (hiTo : PySem.W.isFn K (.ref fTo) = true)
    (hlTo : K.lookup fTo = some ⟨ocTo, odTo, .func (PySem.W.fnOf "told" "Store.told" (defArgs sTold) (defBody sTold) (defScope sTold) .none kVTo dcTo pmTo anTo cdTo ctTo), slTo⟩)
    (hcTo : PySem.W.codeIn K cdTo "Store.told" = true)
    (hkTo : PySem.W.keepIn K (.ref fTo) = true)
    (haHe : PySem.W.findIn K (.ref C) "held" = some (some (.ref fHe)))
    (hiHe : PySem.W.isFn K (.ref fHe) = true)
    (hlHe : K.lookup fHe = some ⟨ocHe, odHe, .func (PySem.W.fnOf "held" "Store.held" (defArgs sHeld) (defBody sHeld) (defScope sHeld) .none kVHe dcHe pmHe anHe cdHe ctHe), slHe⟩)
    (hcHe : PySem.W.codeIn K cdHe "Store.held" = true)
    (hkHe : PySem.W.keepIn K (.ref fHe) = true)
    (haFi : PySem.W.findIn K (.ref C) "fields" = some (some (.ref fFi)))
    (hiFi : PySem.W.isFn K (.ref fFi) = true)
    (hlFi : K.lookup fFi = some ⟨ocFi, odFi, .func (PySem.W.fnOf "fields" "Store.fields" (defArgs sFields) (defBody sFields) (defScope sFields) .none kVFi dcFi pmFi anFi cdFi ctFi), slFi⟩)
    (hcFi : PySem.W.codeIn K cdFi "Store.fields" = true)
    (hkFi : PySem.W.keepIn K (.ref fFi) = true)
    (haCo : PySem.W.findIn K (.ref C) "count" = some (some (.ref fCo)))
    (hiCo : PySem.W.isFn K (.ref fCo) = true)
    (hlCo : K.lookup fCo = some ⟨ocCo, odCo, .func (PySem.W.fnOf "count" "Store.count" (defArgs sCount) (defBody sCount) (defScope sCount) .none kVCo dcCo pmCo anCo cdCo ctCo), slCo⟩)
    (hcCo : PySem.W.codeIn K cdCo "Store.count" = true)
    (hkCo : PySem.W.keepIn K (.ref fCo) = true)
    (haAl : PySem.W.findIn K (.ref C) "alike" = some (some (.ref fAl)))
    (hiAl : PySem.W.isFn K (.ref fAl) = true)
    (hlAl : K.lookup fAl = some ⟨ocAl, odAl, .func (PySem.W.fnOf "alike" "Store.alike" (defArgs sAlike) (defBody sAlike) (defScope sAlike) .none kVAl dcAl pmAl anAl cdAl ctAl), slAl⟩)
    (hcAl : PySem.W.codeIn K cdAl "Store.alike" = true)
    (hkAl : PySem.W.keepIn K (.ref fAl) = true)
    (haCp : PySem.W.findIn K (.ref C) "copy" = some (some (.ref fCp)))
    (hiCp : PySem.W.isFn K (.ref fCp) = true)
    (hlCp : K.lookup fCp = some ⟨ocCp, odCp, .func (PySem.W.fnOf "copy" "Store.copy" (defArgs sCopy) (defBody sCopy) (defScope sCopy) .none kVCp dcCp pmCp anCp cdCp ctCp), slCp⟩)
    (hcCp : PySem.W.codeIn K cdCp "Store.copy" = true)
    (hkCp : PySem.W.keepIn K (.ref fCp) = true)
    (haAd : PySem.W.findIn K (.ref C) "add_copies" = some (some (.ref fAd)))
    (hiAd : PySem.W.isFn K (.ref fAd) = true)
    (hlAd : K.lookup fAd = some ⟨ocAd, odAd, .func (PySem.W.fnOf "add_copies" "Store.add_copies" (defArgs sAdd) (defBody sAdd) (defScope sAdd) .none kVAd dcAd pmAd anAd cdAd ctAd), slAd⟩)
    (hcAd : PySem.W.codeIn K cdAd "Store.add_copies" = true)
    (hkAd : PySem.W.keepIn K (.ref fAd) = true)
    (haAn : PySem.W.nsIn K mainGlobals "answer" = some (some (.ref fAn)))
    (hlAn : K.lookup fAn = some ⟨ocAn, odAn, .func (PySem.W.fnOf "answer" "answer" (defArgs sAnswer) (defBody sAnswer) (defScope sAnswer) .none kVAn dcAn pmAn anAn cdAn ctAn), slAn⟩)
    (hcAn : PySem.W.codeIn K cdAn "answer" = true)
    (hkAn : PySem.W.keepIn K (.ref fAn) = true)
    (haAs : PySem.W.nsIn K mainGlobals "answers" = some (some (.ref fAs)))
    (hlAs : K.lookup fAs = some ⟨ocAs, odAs, .func (PySem.W.fnOf "answers" "answers" (defArgs sAnswers) (defBody sAnswers) (defScope sAnswers) .none kVAs dcAs pmAs anAs cdAs ctAs), slAs⟩)
    (hcAs : PySem.W.codeIn K cdAs "answers" = true)
    (hkAs : PySem.W.keepIn K (.ref fAs) = true)
    (pg : PySem.W.plainGet K C Str.empty = true)
    (hd : PySem.W.hasDictIn K C = true)
    (po : PySem.W.plainOver K C = true)
    (sa : PySem.W.findIn K (.ref C) "__setattr__" = some (some (.builtin "object.__setattr__")))
    (mk : PySem.W.makesIn K C = true)
    (kc : PySem.W.keepIn K (.ref C) = true)
    (n_cells : PySem.W.findIn K (.ref C) "cells" = some none)
    (n_roots : PySem.W.findIn K (.ref C) "roots" = some none)
    (n_last : PySem.W.findIn K (.ref C) "last" = some none)
    (n_newest : PySem.W.findIn K (.ref C) "newest" = some none)
    (z_len : PySem.W.nsIn K mainGlobals "len" = some none)
    (z_sum : PySem.W.nsIn K mainGlobals "sum" = some none)
    (z_list : PySem.W.nsIn K mainGlobals "list" = some none)
    (z_zip : PySem.W.nsIn K mainGlobals "zip" = some none)
    (z_dict : PySem.W.nsIn K mainGlobals "dict" = some none)
    (z_sorted : PySem.W.nsIn K mainGlobals "sorted" = some none)
    (g_ROOM : PySem.W.nsIn K mainGlobals "ROOM" = some (some (.int (65536) t_ROOM)))
    (g_ROOT_COUNT : PySem.W.nsIn K mainGlobals "ROOT_COUNT" = some (some (.int (256) t_ROOT_COUNT)))
    (g_MOST_FIELDS : PySem.W.nsIn K mainGlobals "MOST_FIELDS" = some (some (.int (8) t_MOST_FIELDS)))
    (g_DONE : PySem.W.nsIn K mainGlobals "DONE" = some (some (.int (0) t_DONE)))
    (g_NOT_LED_TO : PySem.W.nsIn K mainGlobals "NOT_LED_TO" = some (some (.int (-1) t_NOT_LED_TO)))
    (g_OUT_OF_RANGE : PySem.W.nsIn K mainGlobals "OUT_OF_RANGE" = some (some (.int (-2) t_OUT_OF_RANGE)))
    (g_NO_ROOM : PySem.W.nsIn K mainGlobals "NO_ROOM" = some (some (.int (-3) t_NO_ROOM)))
    (g_HOLDS_NUMBER : PySem.W.nsIn K mainGlobals "HOLDS_NUMBER" = some (some (.int (1) t_HOLDS_NUMBER)))
    (g_HOLDS_CELL : PySem.W.nsIn K mainGlobals "HOLDS_CELL" = some (some (.int (2) t_HOLDS_CELL)))
    (g_CLEAR : PySem.W.nsIn K mainGlobals "CLEAR" = some (some (.int (1) t_CLEAR)))
    (g_MAKE : PySem.W.nsIn K mainGlobals "MAKE" = some (some (.int (2) t_MAKE)))
    (g_ROOT : PySem.W.nsIn K mainGlobals "ROOT" = some (some (.int (3) t_ROOT)))
    (g_ROOTED : PySem.W.nsIn K mainGlobals "ROOTED" = some (some (.int (4) t_ROOTED)))
    (g_NUMBER : PySem.W.nsIn K mainGlobals "NUMBER" = some (some (.int (5) t_NUMBER)))
    (g_CELL : PySem.W.nsIn K mainGlobals "CELL" = some (some (.int (6) t_CELL)))
    (g_UNSET : PySem.W.nsIn K mainGlobals "UNSET" = some (some (.int (7) t_UNSET)))
    (g_KIND : PySem.W.nsIn K mainGlobals "KIND" = some (some (.int (8) t_KIND)))
    (g_TOLD : PySem.W.nsIn K mainGlobals "TOLD" = some (some (.int (9) t_TOLD)))
    (g_HELD : PySem.W.nsIn K mainGlobals "HELD" = some (some (.int (10) t_HELD)))
    (g_FIELDS : PySem.W.nsIn K mainGlobals "FIELDS" = some (some (.int (11) t_FIELDS)))
    (g_COUNT : PySem.W.nsIn K mainGlobals "COUNT" = some (some (.int (12) t_COUNT)))
    (g_ALIKE : PySem.W.nsIn K mainGlobals "ALIKE" = some (some (.int (13) t_ALIKE)))
    (a_NOTHING : PySem.W.nsIn K mainGlobals "NOTHING" = some (some (.ref an)))
    (l_NOTHING : K.lookup an = some ⟨.type "tuple", odn, .seq #[.int 0 tn1, .int 0 tn2] nn, sln⟩)
    (a_SIZES : PySem.W.nsIn K mainGlobals "SIZES" = some (some (.ref adS)))
    (l_SIZES : K.lookup adS = some ⟨.type "dict", none, .dict es ns, #[]⟩)
    (s_SIZES : sizesOk es = true) :
    ∃ fd : FuncData, (∀ (s : Shared) (us : List Value), us.length = (["calls"] : List Str).length → BindsTo s fd ⟨us, []⟩ ((["calls"] : List Str).zip us)) ∧ ∀ base : Heap, K.In base → base.Ns mainGlobals mg → FnOk P w K mg base CX0 6 fa fd ["calls"] (spAns K) := by
  have e := hfa.symm.trans (PySem.W.mg_of X G haAs)
  cases e
  have T : Txt K mg C an := ⟨⟨pg, hd, po, sa⟩, n_cells, n_roots, n_last, n_newest, PySem.W.mg_of X G hStore, ⟨_, PySem.W.mg_of X G g_ROOM⟩, ⟨_, PySem.W.mg_of X G g_ROOT_COUNT⟩, ⟨_, PySem.W.mg_of X G g_MOST_FIELDS⟩, ⟨_, PySem.W.mg_of X G g_DONE⟩, ⟨_, PySem.W.mg_of X G g_NOT_LED_TO⟩, ⟨_, PySem.W.mg_of X G g_OUT_OF_RANGE⟩, ⟨_, PySem.W.mg_of X G g_NO_ROOM⟩, ⟨_, PySem.W.mg_of X G g_HOLDS_NUMBER⟩, ⟨_, PySem.W.mg_of X G g_HOLDS_CELL⟩, PySem.W.mg_of X G a_NOTHING, fun H => .inr ⟨_, _, _, l_NOTHING, rfl, rfl, by show 2 ≤ sizeLine; decide, .cons ⟨_, rfl⟩ (.cons ⟨_, rfl⟩ .nil)⟩, PySem.W.mg_none_of X G z_len, PySem.W.mg_none_of X G z_sum, PySem.W.mg_none_of X G z_list⟩
  have FLe := fun_mk (st := sLed) hlLe hcLe hkLe
  have bLe := FLe.binds (ps := ["cells", "starts"]) fun _ _ _ _ _ _ us hl => match us, hl with | [_, _], _ => rfl
  have FUn := fun_mk (st := sUnits) hlUn hcUn hkUn
  have bUn := FUn.binds (ps := ["cells"]) fun _ _ _ _ _ _ us hl => match us, hl with | [_], _ => rfl
  have FAg := fun_mk (st := sAgree) hlAg hcAg hkAg
  have bAg := FAg.binds (ps := ["one", "other"]) fun _ _ _ _ _ _ us hl => match us, hl with | [_, _], _ => rfl
  have FHp := fun_mk (st := sPairs) hlHp hcHp hkHp
  have bHp := FHp.binds (ps := ["one", "other"]) fun _ _ _ _ _ _ us hl => match us, hl with | [_, _], _ => rfl
  have FCb := fun_mk (st := sCan) hlCb hcCb hkCb
  have bCb := FCb.binds (ps := ["cells", "h", "k"]) fun _ _ _ _ _ _ us hl => match us, hl with | [_, _, _], _ => rfl
  have FRn := fun_mk (st := sRen) hlRn hcRn hkRn
  have bRn := FRn.binds (ps := ["fields", "names"]) fun _ _ _ _ _ _ us hl => match us, hl with | [_, _], _ => rfl
  have FIn := fun_mk (st := sInit) hlIn hcIn hkIn
  have bIn := FIn.binds (ps := ["self"]) fun _ _ _ _ _ _ us hl => match us, hl with | [_], _ => rfl
  have FCl := fun_mk (st := sClear) hlCl hcCl hkCl
  have bCl := FCl.binds (ps := ["self"]) fun _ _ _ _ _ _ us hl => match us, hl with | [_], _ => rfl
  have FIr := fun_mk (st := sInRoots) hlIr hcIr hkIr
  have bIr := FIr.binds (ps := ["self"]) fun _ _ _ _ _ _ us hl => match us, hl with | [_], _ => rfl
  have FSw := fun_mk (st := sSweep) hlSw hcSw hkSw
  have bSw := FSw.binds (ps := ["self"]) fun _ _ _ _ _ _ us hl => match us, hl with | [_], _ => rfl
  have FMk := fun_mk (st := sMake) hlMk hcMk hkMk
  have bMk := FMk.binds (ps := ["self", "fields"]) fun _ _ _ _ _ _ us hl => match us, hl with | [_, _], _ => rfl
  have FRt := fun_mk (st := sRoot) hlRt hcRt hkRt
  have bRt := FRt.binds (ps := ["self", "r", "h"]) fun _ _ _ _ _ _ us hl => match us, hl with | [_, _, _], _ => rfl
  have FRd := fun_mk (st := sRooted) hlRd hcRd hkRd
  have bRd := FRd.binds (ps := ["self", "r"]) fun _ _ _ _ _ _ us hl => match us, hl with | [_, _], _ => rfl
  have FPt := fun_mk (st := sPut) hlPt hcPt hkPt
  have bPt := FPt.binds (ps := ["self", "h", "i", "field"]) fun _ _ _ _ _ _ us hl => match us, hl with | [_, _, _, _], _ => rfl
  have FNu := fun_mk (st := sNumber) hlNu hcNu hkNu
  have bNu := FNu.binds (ps := ["self", "h", "i", "z"]) fun _ _ _ _ _ _ us hl => match us, hl with | [_, _, _, _], _ => rfl
  have FCe := fun_mk (st := sCell) hlCe hcCe hkCe
  have bCe := FCe.binds (ps := ["self", "h", "i", "k"]) fun _ _ _ _ _ _ us hl => match us, hl with | [_, _, _, _], _ => rfl
  have FUs := fun_mk (st := sUnset) hlUs hcUs hkUs
  have bUs := FUs.binds (ps := ["self", "h", "i"]) fun _ _ _ _ _ _ us hl => match us, hl with | [_, _, _], _ => rfl
  have FKi := fun_mk (st := sKind) hlKi hcKi hkKi
  have bKi := FKi.binds (ps := ["self", "h", "i"]) fun _ _ _ _ _ _ us hl => match us, hl with | [_, _, _], _ => rfl
  have FVa := fun_mk (st := sValue) hlVa hcVa hkVa
  have bVa := FVa.binds (ps := ["self", "h", "i", "kind"]) fun _ _ _ _ _ _ us hl => match us, hl with | [_, _, _, _], _ => rfl
  have FTo := fun_mk (st := sTold) hlTo hcTo hkTo
  have bTo := FTo.binds (ps := ["self", "h", "i"]) fun _ _ _ _ _ _ us hl => match us, hl with | [_, _, _], _ => rfl
  have FHe := fun_mk (st := sHeld) hlHe hcHe hkHe
  have bHe := FHe.binds (ps := ["self", "h", "i"]) fun _ _ _ _ _ _ us hl => match us, hl with | [_, _, _], _ => rfl
  have FFi := fun_mk (st := sFields) hlFi hcFi hkFi
  have bFi := FFi.binds (ps := ["self", "h"]) fun _ _ _ _ _ _ us hl => match us, hl with | [_, _], _ => rfl
  have FCo := fun_mk (st := sCount) hlCo hcCo hkCo
  have bCo := FCo.binds (ps := ["self"]) fun _ _ _ _ _ _ us hl => match us, hl with | [_], _ => rfl
  have FAl := fun_mk (st := sAlike) hlAl hcAl hkAl
  have bAl := FAl.binds (ps := ["self", "h", "k"]) fun _ _ _ _ _ _ us hl => match us, hl with | [_, _, _], _ => rfl
  have FCp := fun_mk (st := sCopy) hlCp hcCp hkCp
  have bCp := FCp.binds (ps := ["self", "h"]) fun _ _ _ _ _ _ us hl => match us, hl with | [_, _], _ => rfl
  have FAd := fun_mk (st := sAdd) hlAd hcAd hkAd
  have bAd := FAd.binds (ps := ["self", "part"]) fun _ _ _ _ _ _ us hl => match us, hl with | [_, _], _ => rfl
  have FAn := fun_mk (st := sAnswer) hlAn hcAn hkAn
  have bAn := FAn.binds (ps := ["store", "call", "given"]) fun _ _ _ _ _ _ us hl => match us, hl with | [_, _, _], _ => rfl
  have FAs := fun_mk (st := sAnswers) hlAs hcAs hkAs
  have bAs := FAs.binds (ps := ["calls"]) fun _ _ _ _ _ _ us hl => match us, hl with | [_], _ => rfl
  refine ⟨PySem.W.fnOf "answers" "answers" (defArgs sAnswers) (defBody sAnswers) (defScope sAnswers) .none kVAs dcAs pmAs anAs cdAs ctAs, fun s us hu => match us, hu with | [_], _ => .of_eq rfl, fun base _ _ => ?_⟩
  have T2 : Txt2 mg := ⟨PySem.W.mg_none_of X G z_zip, PySem.W.mg_none_of X G z_dict, PySem.W.mg_none_of X G z_sorted⟩
  have TA : TxtA mg := ⟨⟨_, PySem.W.mg_of X G g_CLEAR⟩, ⟨_, PySem.W.mg_of X G g_MAKE⟩, ⟨_, PySem.W.mg_of X G g_ROOT⟩, ⟨_, PySem.W.mg_of X G g_ROOTED⟩, ⟨_, PySem.W.mg_of X G g_NUMBER⟩, ⟨_, PySem.W.mg_of X G g_CELL⟩, ⟨_, PySem.W.mg_of X G g_UNSET⟩, ⟨_, PySem.W.mg_of X G g_KIND⟩, ⟨_, PySem.W.mg_of X G g_TOLD⟩, ⟨_, PySem.W.mg_of X G g_HELD⟩, ⟨_, PySem.W.mg_of X G g_FIELDS⟩, ⟨_, PySem.W.mg_of X G g_COUNT⟩, ⟨_, PySem.W.mg_of X G g_ALIKE⟩⟩
  have iIr : IR P w K mg base C fIr _ := ⟨ok_inr FIr T, bIr, ⟨haIr, hiIr, hkIr⟩⟩
  have iLe : Lt P w K mg base fLe _ := ⟨ok_led FLe T.bList (PySem.W.mg_of X G g_HOLDS_CELL), bLe, PySem.W.mg_of X G haLe, hkLe⟩
  have iSw : Sw P w K mg base C fSw _ := ⟨ok_sweep FSw T FLe (PySem.W.mg_of X G haLe) iIr bLe, bSw, ⟨haSw, hiSw, hkSw⟩⟩
  have iKi : Kd P w K mg base C fKi _ := ⟨ok_kind FKi T, bKi, ⟨haKi, hiKi, hkKi⟩⟩
  have iPt : Pt P w K mg base C fPt _ := ⟨ok_put FPt T iSw iKi, bPt, ⟨haPt, hiPt, hkPt⟩⟩
  have iVa : Vl P w K mg base C fVa _ := ⟨ok_value FVa T iKi, bVa, ⟨haVa, hiVa, hkVa⟩⟩
  have iUn : Fn1 P w K mg base "units" 1 ["cells"] (spUnits K) fUn _ := ⟨ok_units FUn T.bSum T.bLen, bUn, PySem.W.mg_of X G haUn, hkUn⟩
  have iAg : Fn1 P w K mg base "agree" 1 ["one", "other"] (spAgree K) fAg _ := ⟨ok_agree FAg T T2, bAg, PySem.W.mg_of X G haAg, hkAg⟩
  have iHp : Fn1 P w K mg base "held_pairs" 1 ["one", "other"] (spPairs K) fHp _ := ⟨ok_pairs FHp T T2, bHp, PySem.W.mg_of X G haHp, hkHp⟩
  have iCb : Fn1 P w K mg base "can_be_paired" 2 ["cells", "h", "k"] (spCan K) fCb _ := ⟨ok_can FCb T iAg iHp, bCb, PySem.W.mg_of X G haCb, hkCb⟩
  have iRn : Fn1 P w K mg base "renamed" 1 ["fields", "names"] (spRen K) fRn _ := ⟨ok_ren FRn T, bRn, PySem.W.mg_of X G haRn, hkRn⟩
  have iAd : Mt1 P w K mg base C "add_copies" 2 ["self", "part"] (spAdd K C) fAd _ := ⟨ok_add FAd T T2 iRn, bAd, ⟨haAd, hiAd, hkAd⟩⟩
  have MS : Ms P w K mg base C fCl fMk fRt fRd fNu fCe fUs fKi fTo fHe fFi fCo fAl fCp (PySem.W.fnOf "clear" "Store.clear" (defArgs sClear) (defBody sClear) (defScope sClear) .none kVCl dcCl pmCl anCl cdCl ctCl) (PySem.W.fnOf "make" "Store.make" (defArgs sMake) (defBody sMake) (defScope sMake) .none kVMk dcMk pmMk anMk cdMk ctMk) (PySem.W.fnOf "root" "Store.root" (defArgs sRoot) (defBody sRoot) (defScope sRoot) .none kVRt dcRt pmRt anRt cdRt ctRt) (PySem.W.fnOf "rooted" "Store.rooted" (defArgs sRooted) (defBody sRooted) (defScope sRooted) .none kVRd dcRd pmRd anRd cdRd ctRd) (PySem.W.fnOf "number" "Store.number" (defArgs sNumber) (defBody sNumber) (defScope sNumber) .none kVNu dcNu pmNu anNu cdNu ctNu) (PySem.W.fnOf "cell" "Store.cell" (defArgs sCell) (defBody sCell) (defScope sCell) .none kVCe dcCe pmCe anCe cdCe ctCe) (PySem.W.fnOf "unset" "Store.unset" (defArgs sUnset) (defBody sUnset) (defScope sUnset) .none kVUs dcUs pmUs anUs cdUs ctUs) (PySem.W.fnOf "kind" "Store.kind" (defArgs sKind) (defBody sKind) (defScope sKind) .none kVKi dcKi pmKi anKi cdKi ctKi) (PySem.W.fnOf "told" "Store.told" (defArgs sTold) (defBody sTold) (defScope sTold) .none kVTo dcTo pmTo anTo cdTo ctTo) (PySem.W.fnOf "held" "Store.held" (defArgs sHeld) (defBody sHeld) (defScope sHeld) .none kVHe dcHe pmHe anHe cdHe ctHe) (PySem.W.fnOf "fields" "Store.fields" (defArgs sFields) (defBody sFields) (defScope sFields) .none kVFi dcFi pmFi anFi cdFi ctFi) (PySem.W.fnOf "count" "Store.count" (defArgs sCount) (defBody sCount) (defScope sCount) .none kVCo dcCo pmCo anCo cdCo ctCo) (PySem.W.fnOf "alike" "Store.alike" (defArgs sAlike) (defBody sAlike) (defScope sAlike) .none kVAl dcAl pmAl anAl cdAl ctAl) (PySem.W.fnOf "copy" "Store.copy" (defArgs sCopy) (defBody sCopy) (defScope sCopy) .none kVCp dcCp pmCp anCp cdCp ctCp) := ⟨⟨ok_clear FCl T, bCl, ⟨haCl, hiCl, hkCl⟩⟩, ⟨ok_make FMk T iSw FUn (PySem.W.mg_of X G haUn) bUn, bMk, ⟨haMk, hiMk, hkMk⟩⟩, ⟨ok_root FRt T iSw, bRt, ⟨haRt, hiRt, hkRt⟩⟩, ⟨ok_rooted FRd T, bRd, ⟨haRd, hiRd, hkRd⟩⟩, ⟨ok_number FNu T iPt, bNu, ⟨haNu, hiNu, hkNu⟩⟩, ⟨ok_cell FCe T iPt, bCe, ⟨haCe, hiCe, hkCe⟩⟩, ⟨ok_unset FUs T iPt, bUs, ⟨haUs, hiUs, hkUs⟩⟩, ⟨ok_kind FKi T, bKi, ⟨haKi, hiKi, hkKi⟩⟩, ⟨ok_told FTo T iVa, bTo, ⟨haTo, hiTo, hkTo⟩⟩, ⟨ok_held FHe T iVa, bHe, ⟨haHe, hiHe, hkHe⟩⟩, ⟨ok_fields FFi T, bFi, ⟨haFi, hiFi, hkFi⟩⟩, ⟨ok_count FCo T iIr iLe, bCo, ⟨haCo, hiCo, hkCo⟩⟩, ⟨ok_alike FAl T iCb, bAl, ⟨haAl, hiAl, hkAl⟩⟩, ⟨ok_copy FCp T T2 iIr iLe iUn iAd, bCp, ⟨haCp, hiCp, hkCp⟩⟩⟩
  exact ok_answers FAs T ⟨mk, haIn, hiIn, kc⟩ (ok_init FIn T FCl bCl ⟨haCl, hiCl, hkCl⟩) bIn FAn (ok_answer FAn T TA MS) (PySem.W.mg_of X G haAn) bAn (PySem.W.mg_of X G a_SIZES) (sizes_md l_SIZES s_SIZES)
end Rc
open PySem PySem.W PyProof.Rows
set_option maxRecDepth 100000 in
set_option maxHeartbeats 0 in
theorem PySem.Challenge.cw_ringcells_s01_answers_holds : PySem.Challenge.rw_ringcells_s01_answers.Holds := by
  w_on; k_headS; (case hw => exact ⟨[.list [.int 1]], by decide +kernel, by decide +kernel⟩)
  k_fillS
  refine L2.walk_specK (r := PySem.Challenge.rw_ringcells_s01_answers) (k := 6) (CX := L2.CX0) (ps := ["calls"]) (sp := Rc.spAns) (by decide +kernel) rfl rfl ⟨rfl, by decide, by decide⟩ (fun w h Y => PySem.W.kIn_of Y) ?F ?S (fun _ _ _ _ z => z)
  case F =>
    intro w mg fa h Y KX G hmg
    refine' Rc.all_mk KX G hmg ?hStore ?haLe ?hlLe ?hcLe ?hkLe ?haUn ?hlUn ?hcUn ?hkUn ?haAg ?hlAg ?hcAg ?hkAg ?haHp ?hlHp ?hcHp ?hkHp ?haCb ?hlCb ?hcCb ?hkCb ?haRn ?hlRn ?hcRn ?hkRn ?haIn ?hiIn ?hlIn ?hcIn ?hkIn ?haCl ?hiCl ?hlCl ?hcCl ?hkCl ?haIr ?hiIr ?hlIr ?hcIr ?hkIr ?haSw ?hiSw ?hlSw ?hcSw ?hkSw ?haMk ?hiMk ?hlMk ?hcMk ?hkMk ?haRt ?hiRt ?hlRt ?hcRt ?hkRt ?haRd ?hiRd ?hlRd ?hcRd ?hkRd ?haPt ?hiPt ?hlPt ?hcPt ?hkPt ?haNu ?hiNu ?hlNu ?hcNu ?hkNu ?haCe ?hiCe ?hlCe ?hcCe ?hkCe ?haUs ?hiUs ?hlUs ?hcUs ?hkUs ?haKi ?hiKi ?hlKi ?hcKi ?hkKi ?haVa ?hiVa ?hlVa ?hcVa ?hkVa ?haTo ?hiTo ?hlTo ?hcTo ?hkTo ?haHe ?hiHe ?hlHe ?hcHe ?hkHe ?haFi ?hiFi ?hlFi ?hcFi ?hkFi ?haCo ?hiCo ?hlCo ?hcCo ?hkCo ?haAl ?hiAl ?hlAl ?hcAl ?hkAl ?haCp ?hiCp ?hlCp ?hcCp ?hkCp ?haAd ?hiAd ?hlAd ?hcAd ?hkAd ?haAn ?hlAn ?hcAn ?hkAn ?haAs ?hlAs ?hcAs ?hkAs ?pg ?hd ?po ?sa ?mk ?kc ?n_cells ?n_roots ?n_last ?n_newest ?z_len ?z_sum ?z_list ?z_zip ?z_dict ?z_sorted ?g_ROOM ?g_ROOT_COUNT ?g_MOST_FIELDS ?g_DONE ?g_NOT_LED_TO ?g_OUT_OF_RANGE ?g_NO_ROOM ?g_HOLDS_NUMBER ?g_HOLDS_CELL ?g_CLEAR ?g_MAKE ?g_ROOT ?g_ROOTED ?g_NUMBER ?g_CELL ?g_UNSET ?g_KIND ?g_TOLD ?g_HELD ?g_FIELDS ?g_COUNT ?g_ALIKE ?a_NOTHING ?l_NOTHING ?a_SIZES ?l_SIZES ?s_SIZES
    (case hStore => k_is)
    (case haLe => k_is)
    (case hlLe => k_is)
    (case hcLe => k_is)
    (case hkLe => k_is)
    (case haUn => k_is)
    (case hlUn => k_is)
    (case hcUn => k_is)
    (case hkUn => k_is)
    (case haAg => k_is)
    (case hlAg => k_is)
    (case hcAg => k_is)
    (case hkAg => k_is)
    (case haHp => k_is)
    (case hlHp => k_is)
    (case hcHp => k_is)
    (case hkHp => k_is)
    (case haCb => k_is)
    (case hlCb => k_is)
    (case hcCb => k_is)
    (case hkCb => k_is)
    (case haRn => k_is)
    (case hlRn => k_is)
    (case hcRn => k_is)
    (case hkRn => k_is)
    (case haIn => k_is)
    (case hiIn => k_is)
    (case hlIn => k_is)
    (case hcIn => k_is)
    (case hkIn => k_is)
    (case haCl => k_is)
    (case hiCl => k_is)
    (case hlCl => k_is)
    (case hcCl => k_is)
    (case hkCl => k_is)
    (case haIr => k_is)
    (case hiIr => k_is)
    (case hlIr => k_is)
    (case hcIr => k_is)
    (case hkIr => k_is)
    (case haSw => k_is)
    (case hiSw => k_is)
    (case hlSw => k_is)
    (case hcSw => k_is)
    (case hkSw => k_is)
    (case haMk => k_is)
    (case hiMk => k_is)
    (case hlMk => k_is)
    (case hcMk => k_is)
    (case hkMk => k_is)
    (case haRt => k_is)
    (case hiRt => k_is)
    (case hlRt => k_is)
    (case hcRt => k_is)
    (case hkRt => k_is)
    (case haRd => k_is)
    (case hiRd => k_is)
    (case hlRd => k_is)
    (case hcRd => k_is)
    (case hkRd => k_is)
    (case haPt => k_is)
    (case hiPt => k_is)
    (case hlPt => k_is)
    (case hcPt => k_is)
    (case hkPt => k_is)
    (case haNu => k_is)
    (case hiNu => k_is)
    (case hlNu => k_is)
    (case hcNu => k_is)
    (case hkNu => k_is)
    (case haCe => k_is)
    (case hiCe => k_is)
    (case hlCe => k_is)
    (case hcCe => k_is)
    (case hkCe => k_is)
    (case haUs => k_is)
    (case hiUs => k_is)
    (case hlUs => k_is)
    (case hcUs => k_is)
    (case hkUs => k_is)
    (case haKi => k_is)
    (case hiKi => k_is)
    (case hlKi => k_is)
    (case hcKi => k_is)
    (case hkKi => k_is)
    (case haVa => k_is)
    (case hiVa => k_is)
    (case hlVa => k_is)
    (case hcVa => k_is)
    (case hkVa => k_is)
    (case haTo => k_is)
    (case hiTo => k_is)
    (case hlTo => k_is)
    (case hcTo => k_is)
    (case hkTo => k_is)
    (case haHe => k_is)
    (case hiHe => k_is)
    (case hlHe => k_is)
    (case hcHe => k_is)
    (case hkHe => k_is)
    (case haFi => k_is)
    (case hiFi => k_is)
    (case hlFi => k_is)
    (case hcFi => k_is)
    (case hkFi => k_is)
    (case haCo => k_is)
    (case hiCo => k_is)
    (case hlCo => k_is)
    (case hcCo => k_is)
    (case hkCo => k_is)
    (case haAl => k_is)
    (case hiAl => k_is)
    (case hlAl => k_is)
    (case hcAl => k_is)
    (case hkAl => k_is)
    (case haCp => k_is)
    (case hiCp => k_is)
    (case hlCp => k_is)
    (case hcCp => k_is)
    (case hkCp => k_is)
    (case haAd => k_is)
    (case hiAd => k_is)
    (case hlAd => k_is)
    (case hcAd => k_is)
    (case hkAd => k_is)
    (case haAn => k_is)
    (case hlAn => k_is)
    (case hcAn => k_is)
    (case hkAn => k_is)
    (case haAs => k_is)
    (case hlAs => k_is)
    (case hcAs => k_is)
    (case hkAs => k_is)
    (case pg => k_is)
    (case hd => k_is)
    (case po => k_is)
    (case sa => k_is)
    (case mk => k_is)
    (case kc => k_is)
    (case n_cells => k_is)
    (case n_roots => k_is)
    (case n_last => k_is)
    (case n_newest => k_is)
    (case z_len => k_is)
    (case z_sum => k_is)
    (case z_list => k_is)
    (case z_zip => k_is)
    (case z_dict => k_is)
    (case z_sorted => k_is)
    (case g_ROOM => k_is)
    (case g_ROOT_COUNT => k_is)
    (case g_MOST_FIELDS => k_is)
    (case g_DONE => k_is)
    (case g_NOT_LED_TO => k_is)
    (case g_OUT_OF_RANGE => k_is)
    (case g_NO_ROOM => k_is)
    (case g_HOLDS_NUMBER => k_is)
    (case g_HOLDS_CELL => k_is)
    (case g_CLEAR => k_is)
    (case g_MAKE => k_is)
    (case g_ROOT => k_is)
    (case g_ROOTED => k_is)
    (case g_NUMBER => k_is)
    (case g_CELL => k_is)
    (case g_UNSET => k_is)
    (case g_KIND => k_is)
    (case g_TOLD => k_is)
    (case g_HELD => k_is)
    (case g_FIELDS => k_is)
    (case g_COUNT => k_is)
    (case g_ALIKE => k_is)
    (case a_NOTHING => k_is)
    (case l_NOTHING => k_is)
    (case a_SIZES => k_is)
    (case l_SIZES => k_is)
    (case s_SIZES => decide +kernel)
  case S =>
    intro K H xs a hO hwi hask hx
    cases hx with
    | cons h1 h2 =>
      cases h2
      cases h1 with
      | lst hs ha =>
        have e := L2.ints_dw a.1 _ ha
        subst e
        have q : ((Codec.inLen 0 16000 a.1 && a.1.all (Codec.inInt (-9223372036854775808) 9223372036854775807)) && true) = true := hwi
        rw [Bool.and_eq_true, Bool.and_eq_true] at q
        exact ⟨_, a.1, rfl, hs, hask, (Codec.inNat_iff.mp q.1.1).2, fun H' p hp => .lst (L2.SqL.of hp) (L2.dw_ints _)⟩

end
