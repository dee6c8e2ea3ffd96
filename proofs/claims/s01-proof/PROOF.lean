import PyProof.Rows.All
import KE.BitLaws
import KE.KDictList
import KE.OsGo
import KE.OsHead
import Open.SpecLaws
import OpenK.AllK
import PyProof.EqAt
import PyProof.EqKinds
import PyProof.TupleCall
import PySd46
import PySem.Challenge.RW_stonesgame_s01_answers
import Wide.All
import Wide.FinOn
section
set_option Elab.async false
set_option linter.all false
set_option maxRecDepth 100000
namespace L2
open PySem PySem.Spec PyProof.Rows
abbrev Key := Sum Int Str
def keyIs : Key → Value → Bool
  | .inl k, v => Value.isInt k v
  | .inr x, v => Value.isStrOf x v
def keyH (w : World) : Key → Int
  | .inl k => hashInt k
  | .inr x => hashStr w x
theorem keyIs_shape : ∀ {k : Key} {v : Value}, keyIs k v = true → (∃ i t, k = Sum.inl i ∧ v = Value.int i t) ∨ (∃ x t, k = Sum.inr x ∧ v = Value.str x t)
  | .inl i, v, h => by
    obtain ⟨t, e⟩ := Value.isInt_shape (k := i) (v := v) h
    exact .inl ⟨i, t, rfl, e⟩
  | .inr x, v, h => by
    obtain ⟨t, e⟩ := Value.isStrOf_shape (x := x) (v := v) h
    exact .inr ⟨x, t, rfl, e⟩
theorem keyIs_int (i : Int) (t : Tok) : keyIs (.inl i) (.int i t) = true := by simp [keyIs, Value.isInt]
theorem keyIs_str (x : Str) (t : Tok) : keyIs (.inr x) (.str x t) = true := by simp [keyIs, Value.isStrOf]
theorem key_ll (a b : Int) : decide ((Sum.inl a : Key) = Sum.inl b) = (a == b) := by
  by_cases e : a = b
  · subst e; simp
  · have h : ¬ (Sum.inl a : Key) = Sum.inl b := fun q => e (Sum.inl.inj q)
    rw [decide_eq_false h]
    exact (beq_eq_false_iff_ne.mpr e).symm
theorem key_rr (a b : Str) : decide ((Sum.inr a : Key) = Sum.inr b) = decide (a = b) := by
  by_cases e : a = b
  · subst e; simp
  · have h : ¬ (Sum.inr a : Key) = Sum.inr b := fun q => e (Sum.inr.inj q)
    rw [decide_eq_false h, decide_eq_false e]
theorem key_lr (a : Int) (b : Str) : decide ((Sum.inl a : Key) = Sum.inr b) = false := decide_eq_false (fun q => nomatch q)
theorem key_rl (a : Str) (b : Int) : decide ((Sum.inr a : Key) = Sum.inl b) = false := decide_eq_false (fun q => nomatch q)
def mixKind (prog : Program) (w : World) : PySem.KeyKind prog w Key where
  is := keyIs
  hash := keyH w
  inj := fun v a b ha hb => by
    rcases keyIs_shape ha with ⟨i, t, rfl, rfl⟩ | ⟨x, t, rfl, rfl⟩
    · rcases keyIs_shape hb with ⟨j, u, rfl, e⟩ | ⟨y, u, rfl, e⟩
      · injection e with e1 _; rw [e1]
      · exact nomatch e
    · rcases keyIs_shape hb with ⟨j, u, rfl, e⟩ | ⟨y, u, rfl, e⟩
      · exact nomatch e
      · injection e with e1 _; rw [e1]
  byValue := fun k v h => by
    rcases keyIs_shape h with ⟨i, t, rfl, rfl⟩ | ⟨x, t, rfl, rfl⟩ <;> rfl
  pyHash := fun hv h => by
    rcases keyIs_shape hv with ⟨i, t, rfl, rfl⟩ | ⟨x, t, rfl, rfl⟩
    · exact wpAny_pyHash_int h
    · exact wpAny_pyHash_str h
  eqBool := fun hu hv h => by
    rcases keyIs_shape hu with ⟨i, t, rfl, rfl⟩ | ⟨x, t, rfl, rfl⟩
    · rcases keyIs_shape hv with ⟨j, u, rfl, rfl⟩ | ⟨y, u, rfl, rfl⟩
      · rw [key_ll] at h; exact wpAny_eqBool_int h
      · rw [key_lr] at h; exact SeqAt.EqAt.int_str i t y u _ _ _ _ h
    · rcases keyIs_shape hv with ⟨j, u, rfl, rfl⟩ | ⟨y, u, rfl, rfl⟩
      · rw [key_rl] at h; exact SeqAt.EqAt.str_int x t j u _ _ _ _ h
      · rw [key_rr] at h; exact wpAny_eqBool_str h
  «strs» := fun k x t v h => by
    rcases keyIs_shape h with ⟨i, u, rfl, e⟩ | ⟨y, u, rfl, e⟩
    · exact nomatch e
    · injection e with e1 _
      subst e1
      cases v <;> rfl
theorem mixKind_int (prog : Program) (w : World) (i : Int) (t : Tok) : (mixKind prog w).is (.inl i) (.int i t) = true := keyIs_int i t
theorem mixKind_str (prog : Program) (w : World) (x : Str) (t : Tok) : (mixKind prog w).is (.inr x) (.str x t) = true := keyIs_str x t
end L2
namespace L2
open PySem PySem.Spec PyProof.Rows
inductive V where
  | non | bl (b : Bool) | int (i : Int) | str (x : Str) | byt (b : Array UInt8) | flt (b : UInt64) | ref (a : Addr) | ty (n : String)
  deriving DecidableEq
def RelV : V → Value → Prop
  | .non, u => u = Value.none
  | .bl b, u => u = Value.bool b
  | .int i, u => ∃ t, u = Value.int i t
  | .str x, u => ∃ t, u = Value.str x t
  | .byt b, u => ∃ t, u = Value.bytes b t
  | .flt b, u => ∃ t, u = Value.float b t
  | .ref a, u => u = Value.ref a
  | .ty n, u => u = Value.type n
abbrev Vals : List V → List Value → Prop := Paired RelV
theorem Vals.length {xs : List V} {us : List Value} (r : Vals xs us) : xs.length = us.length := Paired.length r
theorem Vals.get : ∀ {xs : List V} {us : List Value} {i : Nat} {x : V}, Vals xs us → xs[i]? = some x → ∃ u, us[i]? = some u ∧ RelV x u
  | _, _, _, _, .nil, e => by simp at e
  | _, _, 0, _, .cons r _, e => by simp at e; subst e; exact ⟨_, rfl, r⟩
  | _, _, i + 1, x, .cons _ t, e => by
    obtain ⟨u, h1, h2⟩ := Vals.get (i := i) (x := x) t (by simpa using e)
    exact ⟨u, by simpa using h1, h2⟩
theorem Vals.set {x : V} {u : Value} (r : RelV x u) : ∀ {xs : List V} {us : List Value} (i : Nat), Vals xs us → Vals (xs.set i x) (us.set i u)
  | _, _, _, .nil => .nil
  | _, _, 0, .cons _ t => .cons r t
  | _, _, i + 1, .cons q t => .cons q (Vals.set r i t)
theorem Vals.append : ∀ {xs ys : List V} {us ws : List Value}, Vals xs us → Vals ys ws → Vals (xs ++ ys) (us ++ ws)
  | _, _, _, _, .nil, s => s
  | _, _, _, _, .cons r t, s => .cons r (Vals.append t s)
theorem Vals.take : ∀ {xs : List V} {us : List Value} (n : Nat), Vals xs us → Vals (xs.take n) (us.take n)
  | _, _, 0, _ => .nil
  | _, _, _ + 1, .nil => .nil
  | _, _, n + 1, .cons r t => .cons r (Vals.take n t)
theorem Vals.drop : ∀ {xs : List V} {us : List Value} (n : Nat), Vals xs us → Vals (xs.drop n) (us.drop n)
  | _, _, 0, r => r
  | _, _, _ + 1, .nil => .nil
  | _, _, n + 1, .cons _ t => Vals.drop n t
def RelO : Option V → Option Value → Prop
  | some v, some u => RelV v u
  | none, none => True
  | _, _ => False
def KV {κ : Type} : List (κ × V) → List (κ × Value) → Prop := Paired fun (p : κ × V) (q : κ × Value) => p.1 = q.1 ∧ RelV p.2 q.2
def kV : Key → V
  | .inl i => .int i
  | .inr x => .str x
inductive HO where
  | lst (xs : List V)
  | tup (xs : List V)
  | dK (kvs : List (Key × V)) | dT (kvs : List (List Key × V))
  | set (S : Int → Bool) (n : Nat)
  | ins (C dx : Addr) (fs : List (Str × V))
  | own (x : Addr)
  | xd (fs : List (Str × V))
  | met (f x : Addr)
  | rng (lo hi : Int)
  | frz (o : Obj) (u : HO)
  | tbl (ps : Array Value)
  | ext (φ : Heap → Prop)
abbrev Hp := Addr → Option HO
def upd (H : Hp) (a : Addr) (o : HO) : Hp := fun b => if b = a then some o else H b
theorem upd_same {H : Hp} {a : Addr} {o : HO} : upd H a o a = some o := by unfold upd; rw [if_pos rfl]
theorem upd_ne {H : Hp} {a b : Addr} {o : HO} (h : b ≠ a) : upd H a o b = H b := by unfold upd; rw [if_neg h]
theorem upd_upd {H : Hp} {a : Addr} {o u : HO} : upd (upd H a o) a u = upd H a u := by
  funext b; unfold upd; split <;> rfl
theorem ne_of {H : Hp} {a b : Addr} {o u : HO} (h : H a = some o) (h' : H b = some u) (d : o ≠ u) : a ≠ b := by
  intro e; subst e; rw [h] at h'; exact d (Option.some.inj h')
theorem ne_of_none {H : Hp} {a b : Addr} {o : HO} (h : H a = some o) (h' : H b = none) : a ≠ b := by
  intro e; subst e; rw [h] at h'; cases h'
section
variable (P : Program) (w : World)
def ObjOk (H : Hp) (h : Heap) (a : Addr) : HO → Prop
  | .lst xs => xs.length ≤ sizeLine ∧ ∃ (its : List Value) (n : Nat), Vals xs its ∧ h.get? a = some { cls := .type "list", data := .seq its.toArray n }
  | .tup xs => xs.length ≤ sizeLine ∧ ∃ its : List Value, Vals xs its ∧ IsTup h a its.toArray
  | .dK kvs => kvs.length ≤ sizeLine ∧ (a == sysModules) = false ∧ ∃ vs, KV kvs vs ∧ h.DictOf (mixKind P w) a vs
  | .dT kvs => kvs.length ≤ sizeLine ∧ (a == sysModules) = false ∧ ∃ xs : List (List Key × Addr × Value),
      Paired (fun (p : List Key × V) (q : List Key × Addr × Value) => p.1 = q.1 ∧ H q.2.1 = some (.tup (p.1.map kV)) ∧ RelV p.2 q.2.2) kvs xs ∧
      ∃ o es ep, h.get? a = some o ∧ o.ExactDict ∧ o.data = .dict es ep ∧ es.toList = xs.map (entryOfKey (tupleKind (mixKind P w))) ∧ (xs.map (·.1)).Nodup
  | .set S n => h.SetOf (intKind P w) a S n
  | .ins C dx fs => H dx = some (.own a) ∧ fs.length ≤ 1000 ∧ dx ≠ a ∧ h.get? a = some (PySem.W.instObj C dx) ∧
      ∃ mA, h.Ns1 dx mA ∧ (∀ f, RelO (fs.lookup f) (mA f)) ∧ PySem.Within mA (fs.map (·.1))
  | .own _ => ∃ o, h.get? a = some o
  | .xd fs => ∃ mA, h.Ns1 a mA ∧ ∀ f, RelO (fs.lookup f) (mA f)
  | .rng lo hi => ∃ t u v, h.get? a = some { cls := .type "range", data := .fields #[.int lo t, .int hi u, .int 1 v] }
  | .frz o u => h.get? a = some o ∧ ObjOk H h a u
  | .tbl ps => h.get? a = some { cls := .none, data := .fields ps }
  | .met f x => h.get? a = some (PySem.W.methodObj (.ref f) (.ref x))
  | .ext φ => φ h ∧ (∃ o, h.get? a = some o) ∧ ∀ h1 h2 : Heap, φ h1 → (∀ o, h1.get? a = some o → h2.get? a = some o) → φ h2
def HOk (H : Hp) (h : Heap) : Prop := ∀ a o, H a = some o → ObjOk P w H h a o
end
section
variable {P : Program} {w : World} {H H' : Hp} {h h' : Heap} {a : Addr} {o : HO}
theorem ObjOk.lt (x : ObjOk P w H h a o) : a < h.objs.size := by
  cases o with
  | lst xs => obtain ⟨_, _, _, _, e⟩ := x; exact Heap.lt_size e
  | tup xs => obtain ⟨_, _, _, p⟩ := x; exact p.lt
  | dK kvs => obtain ⟨_, _, _, _, o, _, _, e, _⟩ := x; exact Heap.lt_size e
  | dT kvs => obtain ⟨_, _, _, _, o, _, _, e, _⟩ := x; exact Heap.lt_size e
  | set S n => obtain ⟨o, _, _, _, e, _⟩ := x; exact Heap.lt_size e
  | ins C dx fs => obtain ⟨_, _, _, e, _⟩ := x; exact Heap.lt_size e
  | own y => obtain ⟨_, e⟩ := x; exact Heap.lt_size e
  | xd fs => obtain ⟨_, ⟨_, _, _, e, _⟩, _⟩ := x; exact Heap.lt_size e
  | rng lo hi => obtain ⟨_, _, _, e⟩ := x; exact Heap.lt_size e
  | frz ob u => obtain ⟨e, _⟩ := x; exact Heap.lt_size e
  | tbl ps => exact Heap.lt_size (show h.get? a = some _ from x)
  | met f y => exact Heap.lt_size (show h.get? a = some _ from x)
  | ext φ => obtain ⟨_, ⟨_, e⟩, _⟩ := x; exact Heap.lt_size e
theorem Paired.mapP {α β : Type} {F G : α → β → Prop} : ∀ {l₁ : List α} {l₂ : List β}, Paired F l₁ l₂ → (∀ a b, F a b → G a b) → Paired G l₁ l₂
  | _, _, .nil, _ => .nil
  | _, _, .cons r t, f => .cons (f _ _ r) (Paired.mapP t f)
theorem ObjOk.stay (x : ObjOk P w H h a o) (k : ∀ b u, (b = a ∨ H b = some (.own a)) → h.get? b = some u → h'.get? b = some u)
    (ho : ∀ b, H b = some (.own a) → H' b = some (.own a)) (ht : ∀ b xs, H b = some (.tup xs) → H' b = some (.tup xs)) : ObjOk P w H' h' a o := by
  induction o with
  | lst xs => obtain ⟨z, its, n, r, e⟩ := x; exact ⟨z, its, n, r, k _ _ (.inl rfl) e⟩
  | tup xs => obtain ⟨z, its, r, ob, e, c⟩ := x; exact ⟨z, its, r, ob, k _ _ (.inl rfl) e, c⟩
  | dK kvs => obtain ⟨z, y, vs, r, ob, es, ep, e, c⟩ := x; exact ⟨z, y, vs, r, ob, es, ep, k _ _ (.inl rfl) e, c⟩
  | dT kvs =>
    obtain ⟨z, y, xs, r, ob, es, ep, e, c⟩ := x
    exact ⟨z, y, xs, Paired.mapP r fun p q z => ⟨z.1, ht _ _ z.2.1, z.2.2⟩, ob, es, ep, k _ _ (.inl rfl) e, c⟩
  | set S n => obtain ⟨ob, es, ep, t, e, c⟩ := x; exact ⟨ob, es, ep, t, k _ _ (.inl rfl) e, c⟩
  | ins C dx fs =>
    obtain ⟨d, z, ne, e, mA, ⟨od, es, ep, e2, c⟩, r⟩ := x
    exact ⟨ho _ d, z, ne, k _ _ (.inl rfl) e, mA, ⟨od, es, ep, k _ _ (.inr d) e2, c⟩, r⟩
  | own y => obtain ⟨ob, e⟩ := x; exact ⟨ob, k _ _ (.inl rfl) e⟩
  | xd fs => obtain ⟨mA, ⟨od, es, ep, e, c⟩, r⟩ := x; exact ⟨mA, ⟨od, es, ep, k _ _ (.inl rfl) e, c⟩, r⟩
  | rng lo hi => obtain ⟨t, u, v, e⟩ := x; exact ⟨t, u, v, k _ _ (.inl rfl) e⟩
  | frz ob u ih => obtain ⟨e, q⟩ := x; exact ⟨k _ _ (.inl rfl) e, ih q⟩
  | tbl ps =>
    have e : h.get? a = some { cls := .none, data := .fields ps } := x
    show h'.get? a = some { cls := .none, data := .fields ps }
    exact k a _ (.inl rfl) e
  | met f y =>
    have e : h.get? a = some (PySem.W.methodObj (.ref f) (.ref y)) := x
    show h'.get? a = some (PySem.W.methodObj (.ref f) (.ref y))
    exact k a _ (.inl rfl) e
  | ext φ => obtain ⟨p, ⟨o, e⟩, st⟩ := x; exact ⟨st _ _ p fun o q => k _ _ (.inl rfl) q, ⟨o, k _ _ (.inl rfl) e⟩, st⟩
theorem HOk.lt (x : HOk P w H h) (e : H a = some o) : a < h.objs.size := (x a o e).lt
theorem HOk.fresh (x : HOk P w H h) (e : h.objs.size ≤ a) : H a = none := by
  cases q : H a with
  | none => rfl
  | some u => exact absurd (Nat.lt_of_lt_of_le (x.lt q) e) (Nat.lt_irrefl _)
theorem HOk.kept (x : HOk P w H h) (k : ∀ b u, h.get? b = some u → h'.get? b = some u) : HOk P w H h' := fun a o e =>
  (x a o e).stay (fun b u _ q => k b u q) (fun _ q => q) fun _ _ q => q
theorem HOk.laid (x : HOk P w H h) (k : ∀ b u, h.get? b = some u → h'.get? b = some u) (hp : h.objs.size ≤ a) (new : ObjOk P w (upd H a o) h' a o) : HOk P w (upd H a o) h' := fun b u e => by
  have hn := x.fresh hp
  by_cases hb : b = a
  · subst hb; rw [upd_same] at e; cases e; exact new
  · rw [upd_ne hb] at e
    exact (x b u e).stay (fun c v _ q => k c v q) (fun c q => by rw [upd_ne (ne_of_none q hn)]; exact q) fun c xs q => by rw [upd_ne (ne_of_none q hn)]; exact q
end
def Rd (H : Hp) (a : Addr) (u : HO) : Prop := H a = some u ∨ ∃ o, H a = some (.frz o u)
theorem Rd.ok {P : Program} {w : World} {H : Hp} {h : Heap} {a : Addr} {u : HO} (r : Rd H a u) (x : HOk P w H h) : ObjOk P w H h a u := by
  rcases r with r | ⟨o, r⟩
  · exact x a u r
  · obtain ⟨_, q⟩ := x a _ r
    exact q
def Mut : Option HO → Prop
  | some (.lst _) => True
  | some (.dK _) => True
  | some (.dT _) => True
  | some (.set _ _) => True
  | some (.ins _ _ _) => True
  | some (.ext _) => True
  | _ => False
section
variable {P : Program} {w : World} {H : Hp} {h h' : Heap} {x e : Addr} {o' : HO}
theorem HOk.write (ok : HOk P w H h) (mu : Mut (H x)) (he : e = x ∨ H e = some (.own x)) (k : ∀ b u, b ≠ e → h.get? b = some u → h'.get? b = some u) (heo : ∃ u, h'.get? e = some u)
    (new : ObjOk P w (upd H x o') h' x o') : HOk P w (upd H x o') h' := fun b u q => by
  have nown : ∀ c y, H c = some (.own y) → c ≠ x := fun c y r z => by subst z; rw [r] at mu; exact mu
  have ntup : ∀ c xs, H c = some (.tup xs) → c ≠ x := fun c xs r z => by subst z; rw [r] at mu; exact mu
  by_cases hb : b = x
  · subst hb; rw [upd_same] at q; cases q; exact new
  · rw [upd_ne hb] at q
    by_cases hbe : b = e
    · have q' : H b = some (.own x) := by
        rcases he with z | z
        · exact absurd (hbe.trans z) hb
        · rw [hbe]; exact z
      rw [q] at q'; cases q'
      obtain ⟨v, hv⟩ := heo
      exact ⟨v, by rw [hbe]; exact hv⟩
    · refine (ok b u q).stay (fun c v hc r => k c v ?_ r) (fun c r => by rw [upd_ne (nown c b r)]; exact r) fun c xs r => by rw [upd_ne (ntup c xs r)]; exact r
      rcases hc with rfl | hc
      · exact hbe
      · rintro rfl
        rcases he with z | z
        · exact nown c b hc z
        · rw [hc] at z; cases z; exact hb rfl
end
structure Un (fs ex : List Addr) (H H' : Hp) (h h' : Heap) : Prop where
  keep : ∀ b o, h.get? b = some o → H b = none → b ∉ fs → b ∉ ex → h'.get? b = some o
  slot : ∀ b o, h.get? b = some o → H b = none → b ∈ fs → b ∉ ex → ∃ sl, h'.get? b = some { o with slots := sl }
  free : ∀ b o, h.get? b = some o → H b = none → b ∉ ex → H' b = none
  there : ∀ b o, h.get? b = some o → b ∉ ex → ∃ o', h'.get? b = some o'
  tups : ∀ b xs, H b = some (.tup xs) → H' b = some (.tup xs)
  frzs : ∀ b o u, H b = some (.frz o u) → H' b = some (.frz o u)
  tbls : ∀ b ps, H b = some (.tbl ps) → ∃ more, H' b = some (.tbl (ps ++ more))
section
variable {fs fs' ex ex' : List Addr} {H H1 H2 : Hp} {h h1 h2 h' : Heap} {a x e : Addr} {o : HO}
theorem Un.any (u : Un fs ex H H1 h h1) {b : Addr} {ob : Obj} (q : h.get? b = some ob) (n : H b = none) (hx : b ∉ ex) : ∃ sl, h1.get? b = some { ob with slots := sl } := by
  by_cases hb : b ∈ fs
  · exact u.slot b ob q n hb hx
  · exact ⟨ob.slots, u.keep b ob q n hb hx⟩
theorem Un.kept (k : ∀ b u, h.get? b = some u → h'.get? b = some u) : Un fs ex H H h h' :=
  ⟨fun b ob q _ _ _ => k b ob q, fun b ob q _ _ _ => ⟨ob.slots, k b ob q⟩, fun _ _ _ n _ => n, fun b ob q _ => ⟨ob, k b ob q⟩, fun _ _ q => q, fun _ _ _ q => q, fun _ ps q => ⟨#[], by rw [q]; simp⟩⟩
theorem Un.refl : Un fs ex H H h h := Un.kept fun _ _ q => q
theorem Un.laid (k : ∀ b u, h.get? b = some u → h'.get? b = some u) (hp : h.objs.size ≤ a) (hn : H a = none) : Un fs ex H (upd H a o) h h' where
  keep := fun b u q _ _ _ => k b u q
  slot := fun b u q _ _ _ => ⟨u.slots, k b u q⟩
  free := fun b u q n _ => by rw [upd_ne (Nat.ne_of_lt (Nat.lt_of_lt_of_le (Heap.lt_size q) hp))]; exact n
  there := fun b u q _ => ⟨u, k b u q⟩
  tups := fun b xs q => by rw [upd_ne (ne_of_none q hn)]; exact q
  frzs := fun b u xs q => by rw [upd_ne (ne_of_none q hn)]; exact q
  tbls := fun b ps q => ⟨#[], by rw [upd_ne (ne_of_none q hn), q]; simp⟩
theorem Un.write (mu : Mut (H x)) (he : e = x ∨ H e = some (.own x)) (k : ∀ b u, b ≠ e → h.get? b = some u → h'.get? b = some u) (heo : ∃ u, h'.get? e = some u) : Un fs ex H (upd H x o) h h' := by
  have hx : ∀ b, H b = none → b ≠ x := fun b n z => by subst z; rw [n] at mu; exact mu
  have hb : ∀ b, H b = none → b ≠ e := fun b n z => by
    subst z
    rcases he with r | r
    · exact hx b n r
    · rw [n] at r; cases r
  have hm : ∀ b u, H b = some u → ¬ Mut (some u) → b ≠ x := fun b u q nm z => by subst z; rw [q] at mu; exact nm mu
  refine ⟨fun b u q n _ _ => k b u (hb b n) q, fun b u q n _ _ => ⟨u.slots, k b u (hb b n) q⟩, fun b u q n _ => by rw [upd_ne (hx b n)]; exact n, fun b u q _ => ?_,
    fun b xs q => by rw [upd_ne (hm b _ q fun z => z)]; exact q, fun b u xs q => by rw [upd_ne (hm b _ q fun z => z)]; exact q, fun b ps q => ⟨#[], by rw [upd_ne (hm b _ q fun z => z), q]; simp⟩⟩
  by_cases hbe : b = e
  · subst hbe; exact heo
  · exact ⟨u, k b u hbe q⟩
end
def trk (h : Heap) (H : Hp) : List Addr := (List.range h.objs.size).filter fun a => (H a).isSome
def hidT (h : Heap) (H : Hp) : Heap := PySem.W.hideAll h (trk h H)
theorem hidT_size (h : Heap) (H : Hp) : (hidT h H).objs.size = h.objs.size := PySem.W.hideAll_size _ _
theorem hidT_get {h : Heap} {H : Hp} {b : Addr} {o : Obj} (e : h.get? b = some o) (n : H b = none) : (hidT h H).get? b = some o :=
  PySem.W.hideAll_get _ e fun hm => by
    have q : (H b).isSome = true := (List.mem_filter.mp hm).2
    rw [n] at q; simp at q
theorem of_hidT {h : Heap} {H : Hp} {b : Addr} {o : Obj} (e : (hidT h H).get? b = some o) : h.get? b = some o ∧ H b = none := by
  have e' : h.get? b = some o := PySem.W.of_hideAll (trk h H) e
  refine ⟨e', ?_⟩
  cases q : H b with
  | none => rfl
  | some x =>
    have hm : b ∈ trk h H := List.mem_filter.mpr ⟨List.mem_range.mpr (Heap.lt_size e'), by simp [q]⟩
    have z : (hidT h H).get? b = none := PySem.W.hideAll_none (trk h H) hm
    rw [z] at e; cases e
def allNews (g h : Heap) (L : Addr) : List (Addr × Obj) := (List.range h.objs.size).filterMap fun a => if a = L ∨ (g.get? a).isSome = true then none else (h.get? a).map fun o => (a, o)
def rest (g h : Heap) (L d : Addr) : List (Addr × Obj) := (allNews g h L).filter fun p => decide (p.1 ≠ d)
end L2
namespace L2
open PySem PySem.Spec PyProof.Rows
structure Mod (K : PySem.W.Frag) (mg : Str → Option Value) (base : Heap) : Prop where
  kin : K.In base
  glob : base.Ns mainGlobals mg
  blt : ∃ mb, base.Ns builtinsNs mb ∧ ∀ x : Str, x ≠ "__name__" → mb x = bootBuiltins x
  nolimit : base.NoLimit
structure Cx where
  prog : Program
  w : World
  K : PySem.W.Frag
  mg : Str → Option Value
  base : Heap
  A : Around
  N : List Str
  s_0 : Shared
  H_0 : Hp
  env : Env
  outer : List Env
  stack : List Env
  ex : List Addr
  fn : Str → Bool
  calm : Bool
  pn : List (Addr × Obj)
  xe : Value → Shared → Prop
def frs (l : List Env) : List Addr := l.filterMap (·.frame)
abbrev Cx.fs (X : Cx) : List Addr := frs X.outer
def Vis (sc : Scope) (x : Str) : Prop := sc.names.lookup x = some .local ∨ sc.names.lookup x = some .cell ∨ sc.names.lookup x = some .free
def Loc (sc : Scope) (x : Str) : Prop := sc.names.lookup x = some .local ∨ sc.names.lookup x = some .cell
def Look (env : Env) (h : Heap) (m : Str → Option Value) (x : Str) (u : Value) : Prop :=
  (env.kindOf x = some .local ∧ m x = some u) ∨ ((env.kindOf x = some .cell ∨ env.kindOf x = some .free) ∧ ∃ c, env.cells.lookup x = some c ∧ h.IsCell c (some u))
structure Cx.Ok (X : Cx) : Prop where
  mod : Mod X.K X.mg X.base
  kind : X.env.scope.kind = .function
  glob : X.env.globals = mainGlobals
  blt : X.env.builtins = builtinsNs
  above : X.s_0.heap.objs.size ≤ X.env.locals
  inj : ∀ x y c, X.env.cells.lookup x = some c → X.env.cells.lookup y = some c → x = y
  has : ∀ x, (X.env.kindOf x = some .cell ∨ X.env.kindOf x = some .free) → ∃ c, X.env.cells.lookup x = some c
  cab : ∀ x c, X.fn x = true → X.env.cells.lookup x = some c → X.s_0.heap.objs.size ≤ c
  hd : X.calm = true → X.A.handled = none
  frames : X.A.frames = some X.stack
  stk : X.stack = X.outer ∨ (X.stack = X.env :: X.outer ∧ X.env.frame = some X.env.locals)
  exf : ∀ b ∈ X.ex, b ≠ X.env.locals ∧ ∀ x c, X.env.cells.lookup x = some c → c ≠ b
  bs : ∀ b o, X.base.get? b = some o → X.s_0.heap.get? b = some o ∧ X.H_0 b = none
  bsz : X.base.objs.size ≤ X.s_0.heap.objs.size
  noex : ∀ b o, X.base.get? b = some o → b ∉ X.ex
  exfs : ∀ b ∈ X.ex, b ∉ X.fs
  funs : X.s_0.heap.FunFrames X.base X.outer
  frf : ∀ b ∈ X.fs, X.H_0 b = none
structure Inv (X : Cx) (pins : List (Addr × Obj)) (σ : List (Option V)) (H : Hp) (s : Shared) : Prop where
  ok : X.Ok
  os : s.os = X.s_0.os
  bare : AllBare s.gens
  base : Un X.fs X.ex X.H_0 H X.s_0.heap s.heap
  loc : ∃ m, s.heap.Ns X.env.locals m ∧ ∀ (i : Nat) (x : Str) (v : V), X.N[i]? = some x → σ[i]? = some (some v) → Vis X.env.scope x → ∃ u, RelV v u ∧ Look X.env s.heap m x u
  cell : ∀ x c, X.env.cells.lookup x = some c → ∃ v, s.heap.IsCell c v
  free : H X.env.locals = none
  freeC : ∀ x c, X.env.cells.lookup x = some c → H c = none
  pin : ∀ p ∈ X.pn ++ pins, s.heap.get? p.1 = some p.2 ∧ H p.1 = none ∧ p.1 ≠ X.env.locals ∧ p.1 ∉ X.fs ∧ ∀ v, p.2.data ≠ .cell v
  hok : HOk X.prog X.w H s.heap
  len : σ.length = X.N.length
section
variable {X : Cx} {pins : List (Addr × Obj)} {σ : List (Option V)} {H H' : Hp} {s : Shared} {h' : Heap}
theorem Cx.Ok.nofr (ok : X.Ok) {b : Addr} {o : Obj} (e : X.base.get? b = some o) : b ∉ X.fs := fun hb => by
  have := (ok.funs.mem hb).1
  rw [e] at this; cases this
theorem Inv.bs (I : Inv X pins σ H s) : ∀ b o, X.base.get? b = some o → s.heap.get? b = some o ∧ H b = none := fun b o e =>
  ⟨I.base.keep b o (I.ok.bs b o e).1 (I.ok.bs b o e).2 (I.ok.nofr e) (I.ok.noex b o e), I.base.free b o (I.ok.bs b o e).1 (I.ok.bs b o e).2 (I.ok.noex b o e)⟩
theorem Inv.bk (I : Inv X pins σ H s) : ∀ b o, X.base.get? b = some o → s.heap.get? b = some o := fun b o e => (I.bs b o e).1
theorem Inv.mod (I : Inv X pins σ H s) : Mod X.K X.mg X.base := I.ok.mod
theorem Inv.kIn (I : Inv X pins σ H s) : X.K.In s.heap := I.ok.mod.kin.keeps I.bk
theorem Inv.lt (I : Inv X pins σ H s) : X.env.locals < s.heap.objs.size := let ⟨_, hn, _⟩ := I.loc; hn.lt
theorem Inv.sz (I : Inv X pins σ H s) : X.s_0.heap.objs.size ≤ s.heap.objs.size := Nat.le_trans I.ok.above (Nat.le_of_lt I.lt)
theorem Inv.nofs (I : Inv X pins σ H s) {a : Addr} (h : s.heap.objs.size ≤ a) : a ∉ X.fs := fun hb => by
  obtain ⟨_, o, ho, _⟩ := I.ok.funs.mem hb
  exact absurd (Nat.lt_of_lt_of_le (Heap.lt_size ho) (Nat.le_trans I.sz h)) (Nat.lt_irrefl _)
theorem Inv.cne (I : Inv X pins σ H s) : ∀ x c, X.env.cells.lookup x = some c → c ≠ X.env.locals := fun x c e z => by
  obtain ⟨v, o, ho, hd⟩ := I.cell x c e
  obtain ⟨m, ⟨o', es, ep, ho', hd', _⟩, _⟩ := I.loc
  rw [z, ho'] at ho; cases ho; rw [hd'] at hd; cases hd
theorem Inv.funs (I : Inv X pins σ H s) : s.heap.FunFrames X.base X.outer := by
  have all : ∀ (l : List Env), (∀ b ∈ frs l, b ∈ X.fs) → X.s_0.heap.FunFrames X.base l → s.heap.FunFrames X.base l := by
    intro l
    induction l with
    | nil => intro _ _; trivial
    | cons env r ih =>
      intro hs hl
      obtain ⟨hk, ⟨L, o, hf, hn, ho, hd⟩, hr⟩ := hl
      have hL : L ∈ X.fs := hs L (by unfold frs; rw [List.filterMap_cons, hf]; exact List.mem_cons_self)
      obtain ⟨sl, e⟩ := I.base.slot L o ho (I.ok.frf L hL) hL fun z => I.ok.exfs L z hL
      exact ⟨hk, ⟨L, _, hf, hn, e, hd⟩, ih (fun b hb => hs b (by unfold frs; rw [List.filterMap_cons, hf]; exact List.mem_cons_of_mem _ hb)) hr⟩
  exact all X.outer (fun _ hb => hb) I.ok.funs
theorem Inv.stack (I : Inv X pins σ H s) : s.heap.FunFrames X.base X.stack := by
  rcases I.ok.stk with e | ⟨e, hf⟩
  · rw [e]; exact I.funs
  · rw [e]
    obtain ⟨m, hn, _⟩ := I.loc
    refine .cons (by rw [I.ok.kind]; decide) hf hn ?_ I.funs
    exact Heap.get?_none_of_le (Nat.le_trans I.ok.bsz I.ok.above)
theorem Inv.stkSub (I : Inv X pins σ H s) : ∀ b ∈ frs X.stack, b ∈ X.env.locals :: X.fs := fun b hb => by
  rcases I.ok.stk with e | ⟨e, hf⟩
  · rw [e] at hb; exact List.mem_cons_of_mem _ hb
  · rw [e] at hb
    unfold frs at hb
    rw [List.filterMap_cons, hf] at hb
    exact hb
theorem Inv.stkFree (I : Inv X pins σ H s) : ∀ b ∈ frs X.stack, H b = none := fun b hb => by
  rcases List.mem_cons.mp (I.stkSub b hb) with e | hb
  · rw [e]; exact I.free
  · obtain ⟨_, o, ho, _⟩ := I.ok.funs.mem hb
    exact I.base.free b o ho (I.ok.frf b hb) fun z => I.ok.exfs b z hb
theorem Inv.step {g' : Array GenState} {t' : Nat} {d' : Drawn} {ch : List Addr} (I : Inv X pins σ H s)
    (hch : ∀ b ∈ ch, (b ∈ X.ex ∨ X.s_0.heap.objs.size ≤ b) ∧ b ≠ X.env.locals ∧ (∀ x c, X.env.cells.lookup x = some c → c ≠ b) ∧ ∀ p ∈ X.pn ++ pins, p.1 ≠ b)
    (keep : ∀ b o, b ≠ X.env.locals → b ∉ X.fs → b ∉ ch → s.heap.get? b = some o → H b = none → h'.get? b = some o)
    (slot : ∀ b o, b ≠ X.env.locals → b ∈ X.fs → b ∉ ch → s.heap.get? b = some o → H b = none → ∃ sl, h'.get? b = some { o with slots := sl }) (free : ∀ b o, b ∉ ch → s.heap.get? b = some o → H b = none → H' b = none)
    (there : ∀ b o, b ∉ ch → s.heap.get? b = some o → ∃ o', h'.get? b = some o')
    (tups : ∀ b xs, H b = some (.tup xs) → H' b = some (.tup xs)) (frzs : ∀ b o u, H b = some (.frz o u) → H' b = some (.frz o u)) (tbls : ∀ b ps, H b = some (.tbl ps) → ∃ more, H' b = some (.tbl (ps ++ more)))
    (ns : ∀ m, s.heap.Ns X.env.locals m → h'.Ns X.env.locals m) (hok : HOk X.prog X.w H' h') (hg : AllBare g') :
    Inv X pins σ H' { s with heap := h', gens := g', drawn := d', toks := t' } := by
  have neL : ∀ b o, X.s_0.heap.get? b = some o → b ≠ X.env.locals := fun b o e => Nat.ne_of_lt (Nat.lt_of_lt_of_le (Heap.lt_size e) I.ok.above)
  have neC : ∀ b o, X.s_0.heap.get? b = some o → b ∉ X.ex → b ∉ ch := fun b o e hx hb => by
    rcases (hch b hb).1 with z | z
    · exact hx z
    · exact absurd (Nat.lt_of_lt_of_le (Heap.lt_size e) z) (Nat.lt_irrefl _)
  have cellK : ∀ x c, X.env.cells.lookup x = some c → ∀ v, s.heap.IsCell c v → h'.IsCell c v := fun x c e v ⟨o, ho, hd⟩ => by
    have nch : c ∉ ch := fun z => (hch c z).2.2.1 x c e rfl
    by_cases hc : c ∈ X.fs
    · obtain ⟨sl, q⟩ := slot c o (I.cne x c e) hc nch ho (I.freeC x c e)
      exact ⟨_, q, hd⟩
    · exact ⟨o, keep c o (I.cne x c e) hc nch ho (I.freeC x c e), hd⟩
  refine ⟨I.ok, I.os, hg, ⟨fun b o e n hb hx => ?_, fun b o e n hb hx => ?_, fun b o e n hx => ?_, fun b o e hx => ?_, fun b xs e => tups b xs (I.base.tups b xs e), fun b o xs e => frzs b o xs (I.base.frzs b o xs e), fun b ps e => ?_⟩, ?_, fun x c e => ?_, ?_, fun x c e => ?_, fun p hp => ?_, hok, I.len⟩
  · exact keep b o (neL b o e) hb (neC b o e hx) (I.base.keep b o e n hb hx) (I.base.free b o e n hx)
  · obtain ⟨sl, e1⟩ := I.base.slot b o e n hb hx
    obtain ⟨sl', e2⟩ := slot b _ (neL b o e) hb (neC b o e hx) e1 (I.base.free b o e n hx)
    exact ⟨sl', e2⟩
  · obtain ⟨o', e1⟩ := I.base.there b o e hx
    exact free b o' (neC b o e hx) e1 (I.base.free b o e n hx)
  · obtain ⟨o', e1⟩ := I.base.there b o e hx
    exact there b o' (neC b o e hx) e1
  · obtain ⟨m1, e1⟩ := I.base.tbls b ps e
    obtain ⟨m2, e2⟩ := tbls b _ e1
    exact ⟨m1 ++ m2, by rw [e2, Array.append_assoc]⟩
  · obtain ⟨m, hn, hl⟩ := I.loc
    refine ⟨m, ns m hn, fun i x v e1 e2 e3 => ?_⟩
    obtain ⟨u, r, l⟩ := hl i x v e1 e2 e3
    refine ⟨u, r, ?_⟩
    rcases l with l | ⟨k, c, e, z⟩
    · exact .inl l
    · exact .inr ⟨k, c, e, cellK x c e _ z⟩
  · obtain ⟨v, z⟩ := I.cell x c e
    exact ⟨v, cellK x c e v z⟩
  · obtain ⟨m, ⟨o, _, _, ho, _⟩, _⟩ := I.loc
    exact free _ o (fun z => (hch _ z).2.1 rfl) ho I.free
  · obtain ⟨v, o, ho, hd⟩ := I.cell x c e
    exact free c o (fun z => (hch c z).2.2.1 x c e rfl) ho (I.freeC x c e)
  · obtain ⟨e, n, ne, nf, d⟩ := I.pin p hp
    have nch : p.1 ∉ ch := fun z => (hch p.1 z).2.2.2 p hp rfl
    exact ⟨keep p.1 p.2 ne nf nch e n, free p.1 p.2 nch e n, ne, nf, d⟩
theorem Inv.un {t' : Nat} (I : Inv X pins σ H s) (u : Un X.fs [] H H' s.heap h') (hok : HOk X.prog X.w H' h') : Inv X pins σ H' { s with heap := h', toks := t' } := by
  obtain ⟨m, ⟨o, es, ep, ho, r⟩, _⟩ := id I.loc
  obtain ⟨sl, hL⟩ := u.any ho I.free (by simp)
  exact I.step (g' := s.gens) (d' := s.drawn) (ch := []) (fun _ z => nomatch z) (fun b o _ hb _ e n => u.keep b o e n hb (by simp)) (fun b o _ hb _ e n => u.slot b o e n hb (by simp)) (fun b o _ e n => u.free b o e n (by simp)) (fun b o _ e => u.there b o e (by simp)) u.tups u.frzs u.tbls (fun m' hm => by
    obtain ⟨o', es', ep', ho', r'⟩ := hm
    rw [ho] at ho'; cases ho'
    exact ⟨_, es', ep', hL, r'⟩) hok I.bare
theorem Inv.call {g' : Array GenState} {t' : Nat} {d' : Drawn} {ch : List Addr} (I : Inv X pins σ H s) (u : Un (frs X.stack) ch H H' s.heap h') (hok : HOk X.prog X.w H' h') (hg : AllBare g')
    (hch : ∀ b ∈ ch, (b ∈ X.ex ∨ X.s_0.heap.objs.size ≤ b) ∧ b ≠ X.env.locals ∧ (∀ x c, X.env.cells.lookup x = some c → c ≠ b) ∧ ∀ p ∈ X.pn ++ pins, p.1 ≠ b) :
    Inv X pins σ H' { s with heap := h', gens := g', drawn := d', toks := t' } := by
  obtain ⟨m, ⟨o, es, ep, ho, r⟩, _⟩ := id I.loc
  obtain ⟨sl, hL⟩ := u.any ho I.free fun z => (hch _ z).2.1 rfl
  exact I.step (ch := ch) hch (fun b o hL hb hc e n => u.keep b o e n (fun z => (List.mem_cons.mp (I.stkSub b z)).elim hL hb) hc) (fun b o _ _ hc e n => u.any e n hc) (fun b o hc e n => u.free b o e n hc) (fun b o hc e => u.there b o e hc) u.tups u.frzs u.tbls (fun m' hm => by
    obtain ⟨o', es', ep', ho', r'⟩ := hm
    rw [ho] at ho'; cases ho'
    exact ⟨_, es', ep', hL, r'⟩) hok hg
theorem Inv.turned {t' : Nat} {it : Addr} (I : Inv X pins σ H s) (k : ∀ b o, b ≠ it → s.heap.get? b = some o → h'.get? b = some o) (hn : H it = none) (hL : it ≠ X.env.locals)
    (h1 : it ∈ X.ex ∨ X.s_0.heap.objs.size ≤ it) (h2 : ∀ x c, X.env.cells.lookup x = some c → c ≠ it) (h3 : ∀ p ∈ X.pn ++ pins, p.1 ≠ it) : Inv X pins σ H { s with heap := h', toks := t' } := by
  have nit : ∀ b u, H b = some u → b ≠ it := fun b u e z => by rw [z, hn] at e; cases e
  refine I.step (g' := s.gens) (d' := s.drawn) (ch := [it]) (fun b hb => ?_) (fun b o _ _ hc e _ => k b o (fun z => hc (by simp [z])) e) (fun b o _ _ hc e _ => ⟨o.slots, k b o (fun z => hc (by simp [z])) e⟩) (fun _ _ _ _ n => n)
    (fun b o hc e => ⟨o, k b o (fun z => hc (by simp [z])) e⟩) (fun _ _ e => e) (fun _ _ _ e => e) (fun b ps e => ⟨#[], by rw [e]; simp⟩) (fun m hm => ?_) (fun b u e => ?_) I.bare
  · have e : b = it := by simpa using hb
    subst e
    exact ⟨h1, hL, h2, h3⟩
  · obtain ⟨o, es, ep, ho, r⟩ := hm
    exact ⟨o, es, ep, k _ o (Ne.symm hL) ho, r⟩
  · refine (I.hok b u e).stay (fun c v hc q => k c v ?_ q) (fun _ q => q) fun _ _ q => q
    rcases hc with z | z
    · rw [z]; exact nit b u e
    · exact nit c _ z
theorem Inv.tok (I : Inv X pins σ H s) (t : Nat) : Inv X pins σ H { s with toks := t } := I.un (h' := s.heap) (t' := t) Un.refl I.hok
theorem Inv.kept {t' : Nat} (I : Inv X pins σ H s) (k : ∀ b u, s.heap.get? b = some u → h'.get? b = some u) : Inv X pins σ H { s with heap := h', toks := t' } := I.un (Un.kept k) (I.hok.kept k)
theorem Inv.laid {a : Addr} {o : HO} {t' : Nat} (I : Inv X pins σ H s) (k : ∀ b u, s.heap.get? b = some u → h'.get? b = some u) (hp : s.heap.objs.size ≤ a) (new : ObjOk X.prog X.w (upd H a o) h' a o) :
    Inv X pins σ (upd H a o) { s with heap := h', toks := t' } := I.un (Un.laid k hp (I.hok.fresh hp)) (I.hok.laid k hp new)
theorem Inv.write {x e : Addr} {o : HO} {t' : Nat} (I : Inv X pins σ H s) (mu : Mut (H x)) (he : e = x ∨ H e = some (.own x)) (k : ∀ b u, b ≠ e → s.heap.get? b = some u → h'.get? b = some u) (heo : ∃ u, h'.get? e = some u)
    (new : ObjOk X.prog X.w (upd H x o) h' x o) : Inv X pins σ (upd H x o) { s with heap := h', toks := t' } := I.un (Un.write mu he k heo) (I.hok.write mu he k heo new)
theorem Inv.weak {σ' : List (Option V)} (I : Inv X pins σ H s) (hl : σ'.length = σ.length) (w : ∀ (i : Nat) v, σ'[i]? = some (some v) → σ[i]? = some (some v)) : Inv X pins σ' H s :=
  ⟨I.ok, I.os, I.bare, I.base, let ⟨m, hn, hl'⟩ := I.loc; ⟨m, hn, fun i x v e1 e2 e3 => hl' i x v e1 (w i v e2) e3⟩, I.cell, I.free, I.freeC, I.pin, I.hok, hl.trans I.len⟩
theorem Inv.pins_of {pins' : List (Addr × Obj)} (I : Inv X pins σ H s) (h : ∀ p ∈ pins', s.heap.get? p.1 = some p.2 ∧ H p.1 = none ∧ p.1 ≠ X.env.locals ∧ p.1 ∉ X.fs ∧ ∀ v, p.2.data ≠ .cell v) : Inv X pins' σ H s :=
  ⟨I.ok, I.os, I.bare, I.base, I.loc, I.cell, I.free, I.freeC, fun p hp => (List.mem_append.mp hp).elim (fun z => I.pin p (List.mem_append_left _ z)) (h p), I.hok, I.len⟩
theorem nodup_ix {N : List Str} (hN : N.Nodup) {i j : Nat} {x : Str} (a : N[i]? = some x) (b : N[j]? = some x) : i = j := by
  obtain ⟨h1, e1⟩ := List.getElem?_eq_some_iff.mp a
  obtain ⟨h2, e2⟩ := List.getElem?_eq_some_iff.mp b
  exact (List.getElem_inj hN).mp (e1.trans e2.symm)
theorem store_ok2 {M : Model} {A : Around} {E : Value → Shared → Prop} {i : Nat} {x : Str} {v : V} {u : Value} {Q : Unit → Shared → Prop} (I : Inv X pins σ H s) (hN : X.N.Nodup) (hi : X.N[i]? = some x) (hx : Loc X.env.scope x) (r : RelV v u)
    (h : ∀ s', Inv X pins (σ.set i (some v)) H s' → (∃ a, Heap.SameBut a s.heap s'.heap ∧ (a = X.env.locals ∨ X.env.cells.lookup x = some a)) → Q () s') (hf : X.fn x = true ∨ X.env.scope.names.lookup x = some .local := by first | exact .inl rfl | exact .inr rfl | assumption) : wpAny M A (storeName X.env x u) Q E s := by
  obtain ⟨m, hn, hl⟩ := id I.loc
  have hcls : (X.env.scope.kind == .class || (X.env.scope.kind == .module && X.env.locals != X.env.globals)) = false := by rw [I.ok.kind]; rfl
  have hiσ : i < σ.length := by rw [I.len]; exact (List.getElem?_eq_some_iff.mp hi).1
  have cne := I.cne
  have tracked : ∀ {a : Addr} {h' : Heap}, (∃ o, s.heap.get? a = some o ∧ H a = none) → Heap.SameBut a s.heap h' → HOk X.prog X.w H h' := fun {a h'} ha hs b ob e => by
    obtain ⟨_, _, hfree⟩ := ha
    refine (I.hok b ob e).stay (fun c w' hc q => (hs.2 c ?_).trans q) (fun _ q => q) fun _ _ q => q
    rintro rfl
    rcases hc with rfl | hc
    · rw [hfree] at e; cases e
    · rw [hfree] at hc; cases hc
  rcases hx with hk | hk
  · refine wpAny_storeName_local hk hn (fun h' hn' hs => ?_) hcls
    obtain ⟨oL, _, _, hoL, _⟩ := id hn
    refine h _ ⟨I.ok, I.os, I.bare, ⟨fun b o e n hb hx => ?_, fun b o e n hb hx => ?_, I.base.free, fun b o e hx => ?_, I.base.tups, I.base.frzs, I.base.tbls⟩, ⟨_, hn', fun j y v' e1 e2 e3 => ?_⟩, fun y c e => ?_, I.free, I.freeC, fun p hp => ?_, tracked ⟨oL, hoL, I.free⟩ hs, by simpa using I.len⟩ ⟨_, hs, .inl rfl⟩
    · exact (hs.2 b (Nat.ne_of_lt (Nat.lt_of_lt_of_le (Heap.lt_size e) I.ok.above))).trans (I.base.keep b o e n hb hx)
    · obtain ⟨sl, e1⟩ := I.base.slot b o e n hb hx
      exact ⟨sl, (hs.2 b (Nat.ne_of_lt (Nat.lt_of_lt_of_le (Heap.lt_size e) I.ok.above))).trans e1⟩
    · obtain ⟨o', e1⟩ := I.base.there b o e hx
      exact ⟨o', (hs.2 b (Nat.ne_of_lt (Nat.lt_of_lt_of_le (Heap.lt_size e) I.ok.above))).trans e1⟩
    · by_cases hj : j = i
      · subst hj
        rw [hi] at e1; cases e1
        rw [List.getElem?_set_self hiσ] at e2
        cases e2
        exact ⟨u, r, .inl ⟨hk, by simp⟩⟩
      · rw [List.getElem?_set_ne (Ne.symm hj)] at e2
        obtain ⟨u', r', q⟩ := hl j y v' e1 e2 e3
        refine ⟨u', r', ?_⟩
        rcases q with ⟨k, e⟩ | ⟨k, c, e, z⟩
        · refine .inl ⟨k, ?_⟩
          have : y ≠ x := fun e => hj (nodup_ix hN e1 (e ▸ hi))
          simp [this, e]
        · exact .inr ⟨k, c, e, z.sameBut hs (cne y c e)⟩
    · obtain ⟨w', z⟩ := I.cell y c e
      exact ⟨w', z.sameBut hs (cne y c e)⟩
    · obtain ⟨e, n, ne, nf, d⟩ := I.pin p hp
      exact ⟨(hs.2 p.1 ne).trans e, n, ne, nf, d⟩
  · have hfn : X.fn x = true := by
      rcases hf with z | z
      · exact z
      · rw [z] at hk; cases hk
    obtain ⟨c, hc⟩ := I.ok.has x (.inl hk)
    obtain ⟨w', z⟩ := I.cell x c hc
    refine wpAny_storeName_cell I.ok.kind hk hc z (fun h' hc' hs => ?_)
    obtain ⟨oc, hoc, hocd⟩ := id z
    refine h { s with heap := h' } ⟨I.ok, I.os, I.bare, ⟨fun b o e n hb hx => ?_, fun b o e n hb hx => ?_, I.base.free, fun b o e hx => ?_, I.base.tups, I.base.frzs, I.base.tbls⟩, ⟨m, hn.sameBut hs (Ne.symm (cne x c hc)), fun j y v' e1 e2 e3 => ?_⟩, fun y c' e => ?_, I.free, I.freeC, fun p hp => ?_, tracked ⟨oc, hoc, I.freeC x c hc⟩ hs, by simpa using I.len⟩ ⟨c, hs, .inr hc⟩
    · exact (hs.2 b (Nat.ne_of_lt (Nat.lt_of_lt_of_le (Heap.lt_size e) (I.ok.cab x c hfn hc)))).trans (I.base.keep b o e n hb hx)
    · obtain ⟨sl, e1⟩ := I.base.slot b o e n hb hx
      exact ⟨sl, (hs.2 b (Nat.ne_of_lt (Nat.lt_of_lt_of_le (Heap.lt_size e) (I.ok.cab x c hfn hc)))).trans e1⟩
    · obtain ⟨o', e1⟩ := I.base.there b o e hx
      exact ⟨o', (hs.2 b (Nat.ne_of_lt (Nat.lt_of_lt_of_le (Heap.lt_size e) (I.ok.cab x c hfn hc)))).trans e1⟩
    · by_cases hj : j = i
      · subst hj
        rw [hi] at e1; cases e1
        rw [List.getElem?_set_self hiσ] at e2
        cases e2
        exact ⟨u, r, .inr ⟨.inl hk, c, hc, hc'⟩⟩
      · rw [List.getElem?_set_ne (Ne.symm hj)] at e2
        obtain ⟨u', r', q⟩ := hl j y v' e1 e2 e3
        refine ⟨u', r', ?_⟩
        rcases q with q | ⟨k, c', e, z'⟩
        · exact .inl q
        · refine .inr ⟨k, c', e, z'.sameBut hs ?_⟩
          rintro rfl
          exact hj (nodup_ix hN e1 (I.ok.inj _ _ _ e hc ▸ hi))
    · by_cases hcc : c' = c
      · subst hcc; exact ⟨_, hc'⟩
      · obtain ⟨w2, z2⟩ := I.cell y c' e
        exact ⟨w2, z2.sameBut hs hcc⟩
    · obtain ⟨e, n, ne, nf, d⟩ := I.pin p hp
      refine ⟨(hs.2 p.1 ?_).trans e, n, ne, nf, d⟩
      intro q
      rw [q, hoc] at e
      have q' : oc = p.2 := Option.some.inj e
      exact d w' (by rw [← q']; exact hocd)
theorem store_ok {M : Model} {A : Around} {E : Value → Shared → Prop} {i : Nat} {x : Str} {v : V} {u : Value} {Q : Unit → Shared → Prop} (I : Inv X pins σ H s) (hN : X.N.Nodup) (hi : X.N[i]? = some x) (hx : Loc X.env.scope x) (r : RelV v u)
    (h : ∀ s', Inv X pins (σ.set i (some v)) H s' → Q () s') (hf : X.fn x = true ∨ X.env.scope.names.lookup x = some .local := by first | exact .inl rfl | exact .inr rfl | assumption) : wpAny M A (storeName X.env x u) Q E s :=
  store_ok2 I hN hi hx r (fun s' I' _ => h s' I') hf
theorem Inv.call' {s' : Shared} {ch : List Addr} (I : Inv X pins σ H s) (ho : s'.os = s.os) (u : Un (frs X.stack) ch H H' s.heap s'.heap) (hok : HOk X.prog X.w H' s'.heap) (hg : AllBare s'.gens)
    (hch : ∀ b ∈ ch, (b ∈ X.ex ∨ X.s_0.heap.objs.size ≤ b) ∧ b ≠ X.env.locals ∧ (∀ x c, X.env.cells.lookup x = some c → c ≠ b) ∧ ∀ p ∈ X.pn ++ pins, p.1 ≠ b) : Inv X pins σ H' s' := by
  obtain ⟨h', g', d', t', o'⟩ := s'
  have e : o' = s.os := ho
  subst e
  exact I.call (g' := g') (t' := t') (d' := d') u hok hg hch
end
abbrev XK := Value → Option Addr → Hp → Prop
abbrev St := List (Option V)
abbrev VK := V → Hp → Prop
abbrev TE := St → Hp → VK → Prop
abbrev TT := St → Hp → (Bool → Hp → Prop) → Prop
abbrev TA := St → Hp → (List V → Hp → Prop) → Prop
structure Ends where
  nx : St → Hp → Prop
  rt : VK
  bk : St → Hp → Prop := fun _ _ => False
  ct : St → Hp → Prop := fun _ _ => False
abbrev TS := Ends → St → Hp → Prop
def EP (X : Cx) (pins : List (Addr × Obj)) (σ : St) (Q : VK) (u : Value) (s' : Shared) : Prop := ∃ v H', Inv X pins σ H' s' ∧ RelV v u ∧ Q v H'
def TP (X : Cx) (pins : List (Addr × Obj)) (σ : St) (Q : Bool → Hp → Prop) (b : Bool) (s' : Shared) : Prop := ∃ H', Inv X pins σ H' s' ∧ Q b H'
def AP (X : Cx) (pins : List (Addr × Obj)) (σ : St) (Q : List V → Hp → Prop) (us : List Value) (s' : Shared) : Prop := ∃ vs H', Inv X pins σ H' s' ∧ Vals vs us ∧ Q vs H'
def SP (X : Cx) (pins : List (Addr × Obj)) (D : Ends) (f : Flow) (s' : Shared) : Prop :=
  match f with
  | .next => ∃ σ' H', Inv X pins σ' H' s' ∧ D.nx σ' H'
  | .brk => ∃ σ' H', Inv X pins σ' H' s' ∧ D.bk σ' H'
  | .cont => ∃ σ' H', Inv X pins σ' H' s' ∧ D.ct σ' H'
  | .ret u => ∃ v σ' H', Inv X pins σ' H' s' ∧ RelV v u ∧ D.rt v H'
def PE (X : Cx) (e : Expr) (t : TE) : Prop :=
  ∀ (pins : List (Addr × Obj)) (s : Shared) (σ : St) (H : Hp) (Q : VK), Inv X pins σ H s → t σ H Q → wpAny (model X.prog X.w) X.A (eval e X.env) (EP X pins σ Q) X.xe s
def PT (X : Cx) (e : Expr) (t : TT) : Prop :=
  ∀ (pins : List (Addr × Obj)) (s : Shared) (σ : St) (H : Hp) (Q : Bool → Hp → Prop), Inv X pins σ H s → t σ H Q → wpAny (model X.prog X.w) X.A (isTrue e X.env (eval e X.env)) (TP X pins σ Q) X.xe s
def PW (X : Cx) (e : Expr) (t : TT) : Prop :=
  ∀ (whole : Sem Value) (pins : List (Addr × Obj)) (s : Shared) (σ : St) (H : Hp) (Q : Bool → Hp → Prop), Inv X pins σ H s → t σ H Q → wpAny (model X.prog X.w) X.A (isTrue e X.env whole) (TP X pins σ Q) X.xe s
theorem PW.pt {X : Cx} {e : Expr} {t : TT} (h : PW X e t) : PT X e t := h _
def PA (X : Cx) (es : List Expr) (t : TA) : Prop :=
  ∀ (pos : Pos) (pins : List (Addr × Obj)) (s : Shared) (σ : St) (H : Hp) (Q : List V → Hp → Prop), Inv X pins σ H s → t σ H Q → wpAny (model X.prog X.w) X.A (spliced (backTo pos (starEach es X.env))) (AP X pins σ Q) X.xe s
def PS (X : Cx) (st : Stmt) (t : TS) : Prop :=
  ∀ (pins : List (Addr × Obj)) (s : Shared) (σ : St) (H : Hp) (D : Ends), Inv X pins σ H s → t D σ H → wpAny (model X.prog X.w) X.A (exec st X.env) (SP X pins D) X.xe s
def PSs (X : Cx) (st : List Stmt) (t : TS) : Prop :=
  ∀ (pins : List (Addr × Obj)) (s : Shared) (σ : St) (H : Hp) (D : Ends), Inv X pins σ H s → t D σ H → wpAny (model X.prog X.w) X.A (execs st X.env) (SP X pins D) X.xe s
theorem thn {α : Type} {t : Sem α} {Q Q' : α → Shared → Prop} {M : Model} {A : Around} {E : Value → Shared → Prop} {s : Shared} (h : wpAny M A t Q E s) (hQ : ∀ a s, Q a s → Q' a s) : wpAny M A t Q' E s := wpAny_mono h hQ fun _ _ x => x
end L2
namespace L2
open PySem PySem.Spec PyProof.Rows
section
variable {X : Cx}
def tVar (i : Nat) : TE := fun σ H Q => ∃ v, σ[i]? = some (some v) ∧ Q v H
def tC (v : V) : TE := fun _ H Q => Q v H
theorem pe_var {i : Nat} {x : Str} {pos : Pos} (hN : X.N[i]? = some x) (hv : Vis X.env.scope x) (hd : (x == ("__debug__" : Str)) = false := by decide) (hcd : (x == ("__classdict__" : Str)) = false := by decide) : PE X (.Name x pos) (tVar i) := by
  intro pins s σ H Q I h
  obtain ⟨v, e, h⟩ := h
  obtain ⟨m, hn, hl⟩ := I.loc
  obtain ⟨u, r, l⟩ := hl i x v hN e hv
  have fin : EP X pins σ Q u s := ⟨v, H, I, r, h⟩
  rcases l with ⟨hk, hm⟩ | ⟨hk, c, hc, hcell⟩
  · exact wpAny_Name (wpAny_loadName_local I.ok.kind hk hn hm fin) hd
  · rcases hk with hk | hk
    · exact wpAny_Name (wpAny_loadName_cell I.ok.kind hk hc hcell fin) hd
    · exact wpAny_Name (wpAny_loadName_free I.ok.kind hk hc hcell fin hcd) hd
theorem pe_int {i j pos} : PE X (.Constant (.int i) j pos) (tC (.int i)) := fun _ _ _ H _ I h => wpAny_Constant_int ⟨.int i, H, I.tok _, ⟨_, rfl⟩, h⟩
theorem pe_bl {b j pos} : PE X (.Constant (.bool b) j pos) (tC (.bl b)) := fun _ _ _ H _ I h => Constant_bool ⟨.bl b, H, I, rfl, h⟩
theorem pe_non {j pos} : PE X (.Constant .none j pos) (tC .non) := fun _ _ _ H _ I h => Constant_none ⟨.non, H, I, rfl, h⟩
theorem pe_str {x j pos} : PE X (.Constant (.str x) j pos) (tC (.str x)) := fun _ _ _ H _ I h => Calls.Constant_str ⟨.str x, H, I.tok _, ⟨_, rfl⟩, h⟩
def Gl (X : Cx) (x : Str) : Prop := X.env.kindOf x = some .globalImplicit
theorem ld_glob {E : Value → Shared → Prop} {pins : List (Addr × Obj)} {s : Shared} {σ : St} {H : Hp} {x : Str} {u : Value} {pos : Pos} {Q : Value → Shared → Prop} (I : Inv X pins σ H s) (hg : Gl X x) (hm : X.mg x = some u) (h : Q u s)
    (hd : (x == ("__debug__" : Str)) = false := by decide) : wpAny (model X.prog X.w) X.A (eval (.Name x pos) X.env) Q E s :=
  Calls.Name_function_global I.ok.kind hg (Calls.loadGlobal_global (by rw [I.ok.glob]; exact I.mod.glob.keeps I.bk) hm h) hd
theorem ld_blt {E : Value → Shared → Prop} {pins : List (Addr × Obj)} {s : Shared} {σ : St} {H : Hp} {x : Str} {u : Value} {pos : Pos} {Q : Value → Shared → Prop} (I : Inv X pins σ H s) (hg : Gl X x) (hm : X.mg x = none) (hv : bootBuiltins x = some u) (h : Q u s)
    (hn : x ≠ "__name__" := by decide) (hd : (x == ("__debug__" : Str)) = false := by decide) : wpAny (model X.prog X.w) X.A (eval (.Name x pos) X.env) Q E s := by
  obtain ⟨mb, h1, h2⟩ := I.mod.blt
  exact Calls.Name_function_global I.ok.kind hg (Calls.loadGlobal_builtin (by rw [I.ok.glob]; exact I.mod.glob.keeps I.bk) hm (by rw [I.ok.blt]; exact h1.keeps I.bk) ((h2 x hn).trans hv) h) hd
theorem pe_glob {x : Str} {v : V} {u : Value} {pos : Pos} (hg : Gl X x) (hm : X.mg x = some u) (r : RelV v u) (hd : (x == ("__debug__" : Str)) = false := by decide) : PE X (.Name x pos) (tC v) :=
  fun _ _ _ H _ I h => ld_glob I hg hm ⟨v, H, I, r, h⟩ hd
variable {a b : Expr} {ta tb : TE} {pos : Pos}
def PC (X : Cx) (op : CmpOp) (a b : Expr) (t : TE) : Prop :=
  ∀ (pins : List (Addr × Obj)) (s : Shared) (σ : St) (H : Hp) (Q : VK), Inv X pins σ H s → t σ H Q →
    wpAny (model X.prog X.w) X.A (eval a X.env) (fun v s₁ => wpAny (model X.prog X.w) X.A (eval b X.env) (fun u s₂ => wpAny (model X.prog X.w) X.A (compareOp op v u) (EP X pins σ Q) X.xe s₂) X.xe s₁) X.xe s
theorem nobehind (b : Expr) {op : CmpOp} (h : op ≠ .In) (h2 : op ≠ .NotIn) : behindInMarks op b = false := by
  have e1 : (op == CmpOp.In) = false := by cases op <;> first | rfl | exact absurd rfl h
  have e2 : (op == CmpOp.NotIn) = false := by cases op <;> first | rfl | exact absurd rfl h2
  cases b <;> simp [behindInMarks, e1, e2]
def tIsN (ta : TE) : TE := fun σ H Q => ta σ H fun x H1 => Q (.bl (decide (x = .non))) H1
theorem RelV.none_iff {x : V} {v : Value} (r : RelV x v) : (v == Value.none) = decide (x = .non) := by
  cases x with
  | non => cases r; rfl
  | bl _ => cases r; rfl
  | int _ => obtain ⟨t, rfl⟩ := r; rfl
  | str _ => obtain ⟨t, rfl⟩ := r; rfl
  | byt _ => obtain ⟨t, rfl⟩ := r; rfl
  | flt _ => obtain ⟨t, rfl⟩ := r; rfl
  | ref _ => cases r; rfl
  | ty _ => cases r; rfl
theorem pc_isN {j pos'} (ha : PE X a ta) : PC X .Is a (.Constant .none j pos') (tIsN ta) := by
  intro pins s σ H Q I h
  refine thn (ha pins s σ H _ I h) fun v s1 ⟨x, H1, I1, r1, q1⟩ => ?_
  exact Constant_none (is_none_gen ⟨.bl _, H1, I1, by rw [r1.none_iff]; rfl, q1⟩)
def tB (t : TE) : TT := fun σ H Q => t σ H fun x H1 => ∃ c, x = .bl c ∧ Q c H1
theorem pt_cmp {op : CmpOp} {t : TE} (h : PC X op a b t) (h1 : behindInMarks op b = false := by first | exact nobehind _ (by decide) (by decide) | rfl) : PT X (.Compare a [op] [b] pos) (tB t) := by
  intro pins s σ H Q I hw
  refine wpAny_isTrue_Compare1 (thn (h pins s σ H _ I hw) fun v s1 h1 => thn h1 fun u s2 h2 => thn h2 fun c s3 ⟨x, H1, I1, r1, q1⟩ => ?_) h1
  obtain ⟨d, rfl, q⟩ := q1
  cases r1
  exact wpAny_truthy_bool ⟨H1, I1, q⟩
theorem pt_val {e : Expr} {t : TE} (h : PE X e t) (he : ∀ whole, isTrue e X.env whole = (do let v ← whole; standAt e.pos; holding [v] (truthy v)) := by intro _; rfl) : PT X e (tB t) := by
  intro pins s σ H Q I hw
  refine isTrue_plain (thn (h pins s σ H _ I hw) fun v s1 ⟨x, H1, I1, r1, q1⟩ => ?_) (he _)
  obtain ⟨d, rfl, q⟩ := q1
  cases r1
  exact wpAny_truthy_bool ⟨H1, I1, q⟩
variable {tA tB' : TT} {rest : List Expr}
def tAnd (t u : TT) : TT := fun σ H Q => t σ H fun c H1 => if c = true then u σ H1 Q else Q false H1
def tOr (t u : TT) : TT := fun σ H Q => t σ H fun c H1 => if c = true then Q true H1 else u σ H1 Q
def tNot (t : TT) : TT := fun σ H Q => t σ H fun c H1 => Q (!c) H1
theorem pw_and1 (ha : PT X a tA) : PW X (.BoolOp .And [a] pos) tA := by
  intro wh pins s σ H Q I h
  refine isTrue_and (thn (ha pins s σ H Q I h) fun c s1 e => ?_)
  cases c with
  | true => exact isTrue_and_nil e
  | false => exact e
theorem pw_or1 (ha : PT X a tA) : PW X (.BoolOp .Or [a] pos) tA := by
  intro wh pins s σ H Q I h
  refine isTrue_or (thn (ha pins s σ H Q I h) fun c s1 e => ?_)
  cases c with
  | false => exact isTrue_or_nil e
  | true => exact e
theorem pw_and (ha : PT X a tA) (hb : PW X (.BoolOp .And (b :: rest) pos) tB') : PW X (.BoolOp .And (a :: b :: rest) pos) (tAnd tA tB') := by
  intro wh pins s σ H Q I h
  refine isTrue_and (thn (ha pins s σ H _ I h) fun c s1 ⟨H1, I1, q1⟩ => ?_)
  cases c with
  | true => exact hb wh pins s1 σ H1 Q I1 q1
  | false => exact ⟨H1, I1, q1⟩
theorem pw_or (ha : PT X a tA) (hb : PW X (.BoolOp .Or (b :: rest) pos) tB') : PW X (.BoolOp .Or (a :: b :: rest) pos) (tOr tA tB') := by
  intro wh pins s σ H Q I h
  refine isTrue_or (thn (ha pins s σ H _ I h) fun c s1 ⟨H1, I1, q1⟩ => ?_)
  cases c with
  | true => exact ⟨H1, I1, q1⟩
  | false => exact hb wh pins s1 σ H1 Q I1 q1
theorem pt_not (ha : PT X a tA) : PT X (.UnaryOp .Not a pos) (tNot tA) := by
  intro pins s σ H Q I h
  exact isTrue_not (ha pins s σ H (fun c H1 => Q (!c) H1) I h)
def tAndV (ta tb : TE) : TE := fun σ H Q => ta σ H fun x H1 => ∃ c, x = .bl c ∧ if c = true then tb σ H1 Q else Q (.bl false) H1
theorem pe_one {op} {t : TE} (h : PE X a t) : PE X (.BoolOp op [a] pos) t := fun pins s σ H Q I hw => BoolOp_one (h pins s σ H Q I hw)
theorem pe_and (ha : PE X a ta) (hb : PE X (.BoolOp .And (b :: rest) pos) tb) : PE X (.BoolOp .And (a :: b :: rest) pos) (tAndV ta tb) := by
  intro pins s σ H Q I h
  refine BoolOp_and (thn (ha pins s σ H _ I h) fun v s1 ⟨x, H1, I1, r1, q1⟩ => ?_)
  obtain ⟨c, rfl, q1⟩ := q1
  cases r1
  refine wpAny_truthy_bool ?_
  cases c with
  | true => exact hb pins s1 σ H1 Q I1 q1
  | false => exact ⟨.bl false, H1, I1, rfl, q1⟩
def tIf (t : TT) (ta tb : TE) : TE := fun σ H Q => t σ H fun c H1 => if c = true then ta σ H1 Q else tb σ H1 Q
theorem pe_ifExp {c : Expr} (hc : PT X c tA) (ha : PE X a ta) (hb : PE X b tb) : PE X (.IfExp c a b pos) (tIf tA ta tb) := by
  intro pins s σ H Q I h
  refine wpAny_IfExp (thn (hc pins s σ H _ I h) fun d s1 ⟨H1, I1, q1⟩ => ?_)
  cases d with
  | true => exact ha pins s1 σ H1 Q I1 q1
  | false => exact hb pins s1 σ H1 Q I1 q1
end
end L2
namespace L2
open PySem PySem.Spec PyProof.Rows
def SqL (K : PySem.W.Frag) (H : Hp) (a : Addr) (xs : List V) : Prop :=
  Rd H a (.lst xs) ∨
    ∃ (o : Obj) (its : Array Value) (n : Nat), K.lookup a = some o ∧ o.cls = .type "list" ∧ o.dict = none ∧ o.data = .seq its n ∧ its.size ≤ sizeLine ∧ Vals xs its.toList
def SqT (K : PySem.W.Frag) (H : Hp) (a : Addr) (xs : List V) : Prop :=
  Rd H a (.tup xs) ∨
    ∃ (o : Obj) (its : Array Value) (n : Nat), K.lookup a = some o ∧ o.cls = .type "tuple" ∧ o.data = .seq its n ∧ its.size ≤ sizeLine ∧ Vals xs its.toList
def absV : Value → Option V
  | .none => some .non
  | .bool b => some (.bl b)
  | .int i _ => some (.int i)
  | .str x _ => some (.str x)
  | .bytes b _ => some (.byt b)
  | .float b _ => some (.flt b)
  | .ref a => some (.ref a)
  | .type n => some (.ty n)
  | _ => none
theorem RelV.abs {x : V} {u : Value} (r : RelV x u) : absV u = some x := by
  cases x with
  | non => cases r; rfl
  | bl _ => cases r; rfl
  | int _ => obtain ⟨t, rfl⟩ := r; rfl
  | str _ => obtain ⟨t, rfl⟩ := r; rfl
  | byt _ => obtain ⟨t, rfl⟩ := r; rfl
  | flt _ => obtain ⟨t, rfl⟩ := r; rfl
  | ref _ => cases r; rfl
  | ty _ => cases r; rfl
theorem RelV.inj {x y : V} {u : Value} (r : RelV x u) (q : RelV y u) : x = y := Option.some.inj (r.abs.symm.trans q.abs)
theorem Vals.inj : ∀ {xs ys : List V} {us : List Value}, Vals xs us → Vals ys us → xs = ys
  | _, _, _, .nil, .nil => rfl
  | _, _, _, .cons r t, .cons r' t' => by rw [r.inj r', Vals.inj t t']
section
variable {X : Cx} {pins : List (Addr × Obj)} {σ : St} {H : Hp} {s : Shared} {a : Addr} {xs ys : List V}
theorem SqL.of {K : PySem.W.Frag} (h : H a = some (.lst xs)) : SqL K H a xs := .inl (.inl h)
theorem SqT.of {K : PySem.W.Frag} (h : H a = some (.tup xs)) : SqT K H a xs := .inl (.inl h)
theorem Inv.list (I : Inv X pins σ H s) (h : SqL X.K H a xs) : ∃ its : List Value, Vals xs its ∧ PlainL s.heap a its.toArray ∧ xs.length ≤ sizeLine := by
  rcases h with h | ⟨o, its, n, hk, hc, hd, hs, hz, r⟩
  · obtain ⟨z, its, n, r, e⟩ := h.ok I.hok
    exact ⟨its, r, ⟨_, n, e, rfl, rfl, rfl⟩, z⟩
  · refine ⟨its.toList, r, ⟨o, n, I.kIn a o hk, hc, hd, by simpa using hs⟩, ?_⟩
    have e := r.length
    simp only [Array.length_toList] at e
    omega
theorem Inv.tuple (I : Inv X pins σ H s) (h : SqT X.K H a xs) : ∃ its : List Value, Vals xs its ∧ IsTup s.heap a its.toArray ∧ xs.length ≤ sizeLine := by
  rcases h with h | ⟨o, its, n, hk, hc, hs, hz, r⟩
  · obtain ⟨z, its, r, p⟩ := h.ok I.hok
    exact ⟨its, r, p, z⟩
  · refine ⟨its.toList, r, ⟨o, I.kIn a o hk, hc, n, by simpa using hs⟩, ?_⟩
    have e := r.length
    simp only [Array.length_toList] at e
    omega
theorem Inv.list_inj (I : Inv X pins σ H s) (h : SqL X.K H a xs) (h' : SqL X.K H a ys) : xs = ys := by
  obtain ⟨its, r, ⟨o, n, e, _, _, d⟩, _⟩ := I.list h
  obtain ⟨its', r', ⟨o', n', e', _, _, d'⟩, _⟩ := I.list h'
  rw [e] at e'; cases e'
  rw [d] at d'
  injection d' with d1 _
  have : its = its' := by simpa using congrArg Array.toList d1
  subst this
  exact r.inj r'
theorem Inv.tuple_inj (I : Inv X pins σ H s) (h : SqT X.K H a xs) (h' : SqT X.K H a ys) : xs = ys := by
  obtain ⟨its, r, ⟨o, e, _, n, d⟩, _⟩ := I.tuple h
  obtain ⟨its', r', ⟨o', e', _, n', d'⟩, _⟩ := I.tuple h'
  rw [e] at e'; cases e'
  rw [d] at d'
  injection d' with d1 _
  have : its = its' := by simpa using congrArg Array.toList d1
  subst this
  exact r.inj r'
end
abbrev Cx.wish (X : Cx) (E : Value → Shared → Prop) : Cx := { X with xe := E }
abbrev Cx.nox (X : Cx) : Cx := X.wish fun _ _ => False
theorem Cx.Ok.wish {X : Cx} (ok : X.Ok) (E : Value → Shared → Prop) : (X.wish E).Ok :=
  ⟨ok.mod, ok.kind, ok.glob, ok.blt, ok.above, ok.inj, ok.has, ok.cab, ok.hd, ok.frames, ok.stk, ok.exf, ok.bs, ok.bsz, ok.noex, ok.exfs, ok.funs, ok.frf⟩
theorem Cx.Ok.unwish {X : Cx} {E : Value → Shared → Prop} (ok : (X.wish E).Ok) : X.Ok :=
  ⟨ok.mod, ok.kind, ok.glob, ok.blt, ok.above, ok.inj, ok.has, ok.cab, ok.hd, ok.frames, ok.stk, ok.exf, ok.bs, ok.bsz, ok.noex, ok.exfs, ok.funs, ok.frf⟩
section
variable {X : Cx} {pins : List (Addr × Obj)} {σ : St} {H : Hp} {s : Shared} {E : Value → Shared → Prop}
theorem Inv.wish (I : Inv X pins σ H s) (E : Value → Shared → Prop) : Inv (X.wish E) pins σ H s := ⟨I.ok.wish E, I.os, I.bare, I.base, I.loc, I.cell, I.free, I.freeC, I.pin, I.hok, I.len⟩
theorem Inv.unwish (I : Inv (X.wish E) pins σ H s) : Inv X pins σ H s := ⟨I.ok.unwish, I.os, I.bare, I.base, I.loc, I.cell, I.free, I.freeC, I.pin, I.hok, I.len⟩
theorem SP.unwish {D : Ends} {f : Flow} {s' : Shared} (h : SP (X.wish E) pins D f s') : SP X pins D f s' := by
  cases f with
  | next => obtain ⟨σ', H', I, q⟩ := h; exact ⟨σ', H', I.unwish, q⟩
  | brk => obtain ⟨σ', H', I, q⟩ := h; exact ⟨σ', H', I.unwish, q⟩
  | cont => obtain ⟨σ', H', I, q⟩ := h; exact ⟨σ', H', I.unwish, q⟩
  | ret u => obtain ⟨v, σ', H', I, r, q⟩ := h; exact ⟨v, σ', H', I.unwish, r, q⟩
theorem PSs.nox {st : List Stmt} {t : TS} (h : PSs X.nox st t) : PSs X st t := fun pins s σ H D I hw =>
  wpAny_mono (h pins s σ H D (I.wish _) hw) (fun _ _ q => q.unwish) fun _ _ z => False.elim z
end
section
variable {X : Cx} {st : Stmt} {rest : List Stmt} {t u : TS} {e : Expr} {te : TE} {pos : Pos}
def tNext : TS := fun D σ H => D.nx σ H
def tSeq (t u : TS) : TS := fun D σ H => t { D with nx := u D } σ H
theorem pss_nil : PSs X [] tNext := fun _ _ σ H _ I h => wpAny_execs_nil ⟨σ, H, I, h⟩
theorem pss_cons (h1 : PS X st t) (h2 : PSs X rest u) : PSs X (st :: rest) (tSeq t u) := by
  intro pins s σ H D I h
  refine wpAny_execs_cons (thn (h1 pins s σ H { D with nx := u D } I h) fun f s1 q => ?_)
  cases f with
  | next =>
    obtain ⟨σ', H', I', q⟩ := q
    exact h2 pins s1 σ' H' D I' q
  | ret v => exact q
  | brk => exact q
  | cont => exact q
theorem pss_one (h1 : PS X st t) : PSs X [st] t := by
  intro pins s σ H D I h
  refine wpAny_execs_cons (thn (h1 pins s σ H D I h) fun f s1 q => ?_)
  cases f with
  | next => exact wpAny_execs_nil q
  | ret v => exact q
  | brk => exact q
  | cont => exact q
def tCont : TS := fun D σ H => D.ct σ H
theorem ps_continue : PS X (.Continue pos) tCont := fun _ _ σ H _ I h => wpAny_Continue ⟨σ, H, I, h⟩
theorem Inv.quiet {pins : List (Addr × Obj)} {σ : St} {H : Hp} {s : Shared} (I : Inv X pins σ H s) : interactive X.env = false := by simp [interactive, I.ok.kind]
def tDrop (te : TE) : TS := fun D σ H => te σ H fun _ H1 => D.nx σ H1
theorem ps_expr (he : PE X e te) (hs : swapsWith e none pos.line X.env = pure false := by rfl) : PS X (.Expr e pos) (tDrop te) := by
  intro pins s σ H D I h
  exact wpAny_Expr_any (thn (he pins s σ H _ I h) fun v s1 ⟨x, H1, I1, r1, q1⟩ => ⟨σ, H1, I1, q1⟩) I.quiet hs
def tRet (te : TE) : TS := fun D σ H => te σ H D.rt
theorem ps_ret (he : PE X e te) : PS X (.Return (some e) pos) (tRet te) := by
  intro pins s σ H D I h
  exact wpAny_Return_some (thn (he pins s σ H _ I h) fun v s1 ⟨x, H1, I1, r1, q1⟩ => ⟨x, σ, H1, I1, r1, q1⟩)
def tIfS (c : TT) (t u : TS) : TS := fun D σ H => c σ H fun b H1 => if b = true then t D σ H1 else u D σ H1
theorem ps_if {c : Expr} {a b : List Stmt} {tc : TT} (hc : PT X c tc) (ha : PSs X a t) (hb : PSs X b u) : PS X (.If c a b pos) (tIfS tc t u) := by
  intro pins s σ H D I h
  refine wpAny_If (thn (hc pins s σ H _ I h) fun d s1 ⟨H1, I1, q1⟩ => ?_)
  cases d with
  | true => exact ha pins s1 σ H1 D I1 q1
  | false => exact hb pins s1 σ H1 D I1 q1
end
abbrev TG := V → St → Hp → (St → Hp → Prop) → Prop
abbrev TGs := List V → St → Hp → (St → Hp → Prop) → Prop
def PG (X : Cx) (target : Expr) (t : TG) : Prop :=
  ∀ (pins : List (Addr × Obj)) (s : Shared) (σ : St) (H : Hp) (v : V) (u : Value) (Q : St → Hp → Prop), Inv X pins σ H s → RelV v u → t v σ H Q →
    wpAny (model X.prog X.w) X.A (assign target X.env u) (fun _ s' => ∃ σ' H', Inv X pins σ' H' s' ∧ Q σ' H') X.xe s
def PGs (X : Cx) (ts : List Expr) (t : TGs) : Prop :=
  ∀ (pins : List (Addr × Obj)) (s : Shared) (σ : St) (H : Hp) (vs : List V) (us : List Value) (Q : St → Hp → Prop), Inv X pins σ H s → Vals vs us → t vs σ H Q →
    wpAny (model X.prog X.w) X.A (assignInOrder ((assignEach ts X.env).map (·.2)) us) (fun _ s' => ∃ σ' H', Inv X pins σ' H' s' ∧ Q σ' H') X.xe s
abbrev TSet := V → V → V → Hp → (Hp → Prop) → Prop
def PSet (X : Cx) (t : TSet) : Prop :=
  ∀ (pins : List (Addr × Obj)) (s : Shared) (σ : St) (H : Hp) (o i v : V) (ov iv u : Value) (Q : Hp → Prop), Inv X pins σ H s → RelV o ov → RelV i iv → RelV v u → t o i v H Q →
    wpAny (model X.prog X.w) X.A (setItem ov iv u) (fun _ s' => ∃ H', Inv X pins σ H' s' ∧ Q H') X.xe s
abbrev TIp := V → V → Hp → VK → Prop
def PIp (X : Cx) (op : Operator) (t : TIp) : Prop :=
  ∀ (pins : List (Addr × Obj)) (s : Shared) (σ : St) (H : Hp) (x y : V) (v u : Value) (Q : VK), Inv X pins σ H s → RelV x v → RelV y u → t x y H Q →
    wpAny (model X.prog X.w) X.A (inplaceOp op v u) (EP X pins σ Q) X.xe s
section
variable {X : Cx} {pos : Pos}
def gName (i : Nat) : TG := fun v σ H Q => Q (σ.set i (some v)) H
theorem pg_name {i : Nat} {x : Str} (hN : X.N.Nodup) (hi : X.N[i]? = some x) (hx : Loc X.env.scope x) (hf : X.fn x = true ∨ X.env.scope.names.lookup x = some .local := by first | exact .inl rfl | exact .inr rfl | assumption) : PG X (.Name x pos) (gName i) := by
  intro pins s σ H v u Q I r h
  exact wpAny_assign_Name (store_ok I hN hi hx r (fun s' I' => ⟨_, H, I', h⟩) hf)
def gNil : TGs := fun vs σ H Q => vs = [] ∧ Q σ H
def gCons (t : TG) (u : TGs) : TGs := fun vs σ H Q => ∃ v r, vs = v :: r ∧ t v σ H fun σ' H' => u r σ' H' Q
theorem pgs_nil : PGs X [] gNil := by
  intro pins s σ H vs us Q I r h
  obtain ⟨e, h⟩ := h
  subst e
  cases r
  exact assignInOrder_nil ⟨σ, H, I, h⟩
theorem pgs_cons {e : Expr} {es : List Expr} {t : TG} {u : TGs} (h1 : PG X e t) (h2 : PGs X es u)
    (hs : (assignEach (e :: es) X.env).map (·.2) = assign e X.env :: (assignEach es X.env).map (·.2) := by rfl) : PGs X (e :: es) (gCons t u) := by
  intro pins s σ H vs us Q I r h
  obtain ⟨v, vr, e1, h⟩ := h
  subst e1
  cases r with
  | cons r rr =>
    rw [hs]
    refine assignInOrder_cons (thn (h1 pins s σ H _ _ _ I r h) fun _ s1 ⟨σ1, H1, I1, q1⟩ => ?_)
    exact h2 pins s1 σ1 H1 _ _ Q I1 rr q1
def gTup (K : PySem.W.Frag) (n : Nat) (t : TGs) : TG := fun v σ H Q => ∃ a xs, v = .ref a ∧ SqT K H a xs ∧ xs.length = n ∧ t xs σ H Q
theorem pg_tup {es : List Expr} {k : Nat} {t : TGs} {n : Nat} (hc : X.calm = true) (h : PGs X es t)
    (hn : (assignEach es X.env).length = n := by rfl) (hst : (assignEach es X.env).findIdx? (·.1) = none := by rfl) : PG X (.Tuple es k pos) (gTup X.K n t) := by
  intro pins s σ H v u Q I r hw
  obtain ⟨a, xs, e1, hq, hl, hw⟩ := hw
  subst e1
  cases r
  obtain ⟨its, rv, ht, hz⟩ := I.tuple hq
  refine assign_Tuple_tuple (I.ok.hd hc) ht (by simp [hn, ← hl, rv.length]) hst fun h' hx => ?_
  have I1 : Inv X pins σ H { s with heap := h' } := I.kept (t' := s.toks) fun b o e => hx b o (Nat.ne_of_lt (Heap.lt_size e)) e
  exact h pins _ σ H xs _ Q I1 (by simpa using rv) hw
def gSub (to ti : TE) (t : TSet) : TG := fun v σ H Q => to σ H fun o H1 => ti σ H1 fun i H2 => t o i v H2 fun H3 => Q σ H3
theorem pg_sub {o i : Expr} {to ti : TE} {t : TSet} (ho : PE X o to) (hi : PE X i ti) (hs : PSet X t)
    (ha : ∀ v, assign (.Subscript o i pos) X.env v = (do
      let ov ← holding [v] (eval o X.env)
      let iv ← holding [v, ov] (eval i X.env)
      standAt pos
      holding [v, ov, iv] (setItem ov iv v)
      release [v, ov, iv] []) := by intro _; rfl) : PG X (.Subscript o i pos) (gSub to ti t) := by
  intro pins s σ H v u Q I r h
  rw [ha]
  refine wpAny_bind (wpAny_holding (thn (ho pins s σ H _ I h) fun ov s1 ⟨x, H1, I1, r1, q1⟩ => ?_))
  refine wpAny_bind (wpAny_holding (thn (hi pins s1 σ H1 _ I1 q1) fun iv s2 ⟨y, H2, I2, r2, q2⟩ => ?_))
  refine wpAny_bind (wpAny_standAt (wpAny_bind (wpAny_holding (thn (hs pins s2 σ H2 x y v ov iv u _ I2 r1 r2 r q2) fun _ s3 ⟨H3, I3, q3⟩ => ?_))))
  exact wpAny_release ⟨σ, H3, I3, q3⟩
def tAsg (te : TE) (g : TG) : TS := fun D σ H => te σ H fun x H1 => g x σ H1 D.nx
theorem ps_asg {tg e : Expr} {te : TE} {g : TG} (he : PE X e te) (hg : PG X tg g) (hs : swapsWithSole [tg] e pos.line X.env = pure false := by rfl) (hw : swappedStores [tg] e X.env = pure none := by rfl)
    (h1 : (assignEach [tg] X.env).map (·.2) = [assign tg X.env] := by rfl) : PS X (.Assign [tg] e pos) (tAsg te g) := by
  intro pins s σ H D I h
  refine wpAny_Assign_stores (thn (he pins s σ H _ I h) fun v s1 ⟨x, H1, I1, r1, q1⟩ => ?_) hs hw
  rw [h1]
  exact thn (hg pins s1 σ H1 x v _ I1 r1 q1) fun _ s2 q => q
theorem ps_set {i : Nat} {x : Str} {e : Expr} {te : TE} {pos' : Pos} (hN : X.N.Nodup) (hi : X.N[i]? = some x) (hx : Loc X.env.scope x) (he : PE X e te) (hs : swapsWith e (some (.Name x pos')) pos.line X.env = pure false := by rfl) (hf : X.fn x = true ∨ X.env.scope.names.lookup x = some .local := by first | exact .inl rfl | exact .inr rfl | assumption) :
    PS X (.Assign [.Name x pos'] e pos) (tAsg te (gName i)) := by
  intro pins s σ H D I h
  refine wpAny_Assign_Name (thn (he pins s σ H _ I h) fun v s1 ⟨y, H1, I1, r1, q1⟩ => ?_) hs
  exact store_ok I1 hN hi hx r1 (fun s2 I2 => ⟨_, H1, I2, q1⟩) hf
def tAug (i : Nat) (te : TE) (ti : TIp) : TS := fun D σ H => ∃ x, σ[i]? = some (some x) ∧ te σ H fun y H1 => ti x y H1 fun z H2 => D.nx (σ.set i (some z)) H2
theorem ps_aug {i : Nat} {x : Str} {e : Expr} {te : TE} {op : Operator} {ti : TIp} {pos' : Pos} (hN : X.N.Nodup) (hi : X.N[i]? = some x) (hx : Loc X.env.scope x) (he : PE X e te) (ho : PIp X op ti) (hf : X.fn x = true ∨ X.env.scope.names.lookup x = some .local := by first | exact .inl rfl | exact .inr rfl | assumption) :
    PS X (.AugAssign (.Name x pos') op e pos) (tAug i te ti) := by
  intro pins s σ H D I h
  obtain ⟨v, e1, h⟩ := h
  obtain ⟨m, hn, hl⟩ := I.loc
  have vis : Vis X.env.scope x := by rcases hx with k | k; exact .inl k; exact .inr (.inl k)
  obtain ⟨u, r, l⟩ := hl i x v hi e1 vis
  refine wpAny_AugAssign_Name ?_
  have go : wpAny (model X.prog X.w) X.A (eval e X.env) (fun w s₂ => wpAny (model X.prog X.w) X.A (inplaceOp op u w) (fun r s₃ => wpAny (model X.prog X.w) X.A (storeName X.env x r) (fun _ => SP X pins D .next) X.xe s₃) X.xe s₂) X.xe s := by
    refine thn (he pins s σ H _ I h) fun w s1 ⟨y, H1, I1, r1, q1⟩ => ?_
    refine thn (ho pins s1 σ H1 v y u w _ I1 r r1 q1) fun z s2 ⟨zv, H2, I2, r2, q2⟩ => ?_
    exact store_ok I2 hN hi hx r2 (fun s3 I3 => ⟨_, H2, I3, q2⟩) hf
  rcases l with ⟨hk, hm⟩ | ⟨hk, c, hc, hcell⟩
  · exact wpAny_loadName_local I.ok.kind hk hn hm go
  · rcases hk with hk | hk
    · exact wpAny_loadName_cell I.ok.kind hk hc hcell go
    · rcases hx with k | k
      · have : X.env.scope.names.lookup x = some .free := hk
        rw [k] at this; cases this
      · have : X.env.scope.names.lookup x = some .free := hk
        rw [k] at this; cases this
def tAugS (to ti te : TE) (tget : V → V → Hp → VK → Prop) (tip : TIp) (tset : TSet) : TS := fun D σ H => to σ H fun o H1 => ti σ H1 fun i H2 => tget o i H2 fun x H3 => te σ H3 fun y H4 => tip x y H4 fun z H5 => tset o i z H5 fun H6 => D.nx σ H6
def PGet (X : Cx) (t : V → V → Hp → VK → Prop) : Prop :=
  ∀ (pins : List (Addr × Obj)) (s : Shared) (σ : St) (H : Hp) (o i : V) (ov iv : Value) (Q : VK), Inv X pins σ H s → RelV o ov → RelV i iv → t o i H Q →
    wpAny (model X.prog X.w) X.A (getItem ov iv) (EP X pins σ Q) X.xe s
theorem ps_augS {o i e : Expr} {to ti te : TE} {tget : V → V → Hp → VK → Prop} {tip : TIp} {tset : TSet} {op : Operator} {tpos : Pos} (ho : PE X o to) (hi : PE X i ti) (hg : PGet X tget) (he : PE X e te) (hp : PIp X op tip) (hs : PSet X tset)
    (ha : ∀ ov iv new, augStore i ov iv new = (do holding [new, ov, iv] (setItem ov iv new); release [new, ov, iv] []; pure .next) := by intros; rfl) : PS X (.AugAssign (.Subscript o i tpos) op e pos) (tAugS to ti te tget tip tset) := by
  intro pins s σ H D I h
  refine wpAny_AugAssign_SubscriptAny (thn (ho pins s σ H _ I h) fun ov s1 ⟨x1, H1, I1, r1, q1⟩ => ?_) ha
  refine thn (hi pins s1 σ H1 _ I1 q1) fun iv s2 ⟨x2, H2, I2, r2, q2⟩ => ?_
  refine thn (hg pins s2 σ H2 x1 x2 ov iv _ I2 r1 r2 q2) fun old s3 ⟨x3, H3, I3, r3, q3⟩ => ?_
  refine thn (he pins s3 σ H3 _ I3 q3) fun v s4 ⟨x4, H4, I4, r4, q4⟩ => ?_
  refine thn (hp pins s4 σ H4 x3 x4 old v _ I4 r3 r4 q4) fun new s5 ⟨x5, H5, I5, r5, q5⟩ => ?_
  exact thn (hs pins s5 σ H5 x1 x2 x5 ov iv new _ I5 r1 r2 r5 q5) fun _ s6 ⟨H6, I6, q6⟩ => ⟨σ, H6, I6, q6⟩
def ipI (f : Int → Int → Int) : TIp := fun x y H Q => ∃ i j, x = .int i ∧ y = .int j ∧ Q (.int (f i j)) H
theorem ip_add : PIp X .Add (ipI fun i j => i + j) := by
  intro pins s σ H x y v u Q I r1 r2 h
  obtain ⟨i, j, e1, e2, q⟩ := h
  subst e1; subst e2
  obtain ⟨t, rfl⟩ := r1
  obtain ⟨t', rfl⟩ := r2
  exact iadd_int ⟨.int _, H, I.tok _, ⟨_, rfl⟩, q⟩
theorem ip_sub : PIp X .Sub (ipI fun i j => i - j) := by
  intro pins s σ H x y v u Q I r1 r2 h
  obtain ⟨i, j, e1, e2, q⟩ := h
  subst e1; subst e2
  obtain ⟨t, rfl⟩ := r1
  obtain ⟨t', rfl⟩ := r2
  exact isub_int ⟨.int _, H, I.tok _, ⟨_, rfl⟩, q⟩
end
section
variable {X : Cx} {pos : Pos}
def tWhile (c : TT) (tb : TS) : TS := fun D σ H => ∃ W : Nat → St → Hp → Prop, (∃ m, W m σ H) ∧ ∀ m σ H, W m σ H →
  c σ H fun b H1 => if b = true then ∃ N : St → Hp → Prop, (∀ σ' H', N σ' H' → ∃ m', m' < m ∧ W m' σ' H') ∧ tb { D with nx := N, ct := N, bk := D.nx } σ H1 else D.nx σ H1
theorem ps_while {c : Expr} {body : List Stmt} {tc : TT} {tb : TS} (hp : PassesOwn (model X.prog X.w) X.A X.env X.xe) (hc : PT X c tc) (hb : PSs X body tb) : PS X (.While c body [] pos) (tWhile tc tb) := by
  intro pins s σ H D I h
  obtain ⟨W, ⟨m0, w0⟩, turn⟩ := h
  refine wpAny_While (codeAny_whileLoop (fun n s' => ∃ σ' H', Inv X pins σ' H' s' ∧ W n σ' H') ?_ m0 ⟨σ, H, I, w0⟩)
  rintro n s1 ⟨σ1, H1, I1, w1⟩
  refine wpAny_passesOwn hp (thn (hc pins s1 σ1 H1 _ I1 (turn n σ1 H1 w1)) fun b s2 ⟨H2, I2, q2⟩ => ?_)
  cases b with
  | true =>
    obtain ⟨N, hN, q2⟩ := q2
    rw [if_pos rfl]
    refine wpAny_passesOwn hp (thn (hb pins s2 σ1 H2 _ I2 q2) fun f s3 q3 => ?_)
    cases f with
    | next =>
      obtain ⟨σ3, H3, I3, n3⟩ := q3
      obtain ⟨m', hm, w3⟩ := hN σ3 H3 n3
      exact ⟨m', hm, σ3, H3, I3, w3⟩
    | cont =>
      obtain ⟨σ3, H3, I3, n3⟩ := q3
      obtain ⟨m', hm, w3⟩ := hN σ3 H3 n3
      exact ⟨m', hm, σ3, H3, I3, w3⟩
    | brk => exact q3
    | ret v => exact q3
  | false =>
    rw [if_neg Bool.false_ne_true]
    exact wpAny_execs_nil ⟨σ1, H2, I2, q2⟩
end
structure It where
  go : Nat → Hp → Prop
  yld : Nat → Hp → V → Hp → Prop
  stop : Nat → Hp → Prop
def FpOk (X : Cx) (pins : List (Addr × Obj)) (H : Hp) (b : Addr) : Prop :=
  H b = none ∧ b ≠ X.env.locals ∧ b ∉ X.fs ∧ (b ∈ X.ex ∨ X.s_0.heap.objs.size ≤ b) ∧ (∀ x c, X.env.cells.lookup x = some c → c ≠ b) ∧ ∀ p ∈ X.pn ++ pins, p.1 ≠ b
theorem Inv.fpOk {X : Cx} {pins : List (Addr × Obj)} {σ : St} {H H' : Hp} {s : Shared} {b : Addr} (I : Inv X pins σ H s) (hb : s.heap.objs.size ≤ b) (hn : H' b = none) : FpOk X pins H' b := by
  refine ⟨hn, Nat.ne_of_gt (Nat.lt_of_lt_of_le I.lt hb), I.nofs hb, .inr (Nat.le_trans I.sz hb), fun x c e z => ?_, fun p hp z => ?_⟩
  · obtain ⟨v, q⟩ := I.cell x c e
    exact absurd (Nat.lt_of_lt_of_le q.lt (by rw [z]; exact hb)) (Nat.lt_irrefl _)
  · exact absurd (Nat.lt_of_lt_of_le (Heap.lt_size (I.pin p hp).1) (by rw [z]; exact hb)) (Nat.lt_irrefl _)
structure Turn (P : Program) (w : World) (K : PySem.W.Frag) (tg : Expr) (J : It) (fp : List Addr) (it : Addr) (tn : Nat → Heap → Prop) : Prop where
  mem : it ∈ fp
  obj : ∀ i h, tn i h → ∀ b ∈ fp, ∃ o, h.get? b = some o ∧ ∀ v, o.data ≠ .cell v
  keep : ∀ i h h', tn i h → (∀ b ∈ fp, ∀ o, h.get? b = some o → h'.get? b = some o) → tn i h'
  item : ∀ (X : Cx), X.prog = P → X.w = w → X.K = K → X.calm = true → ∀ (i : Nat) (pins : List (Addr × Obj)) (s : Shared) (σ : St) (H : Hp) (E : Value → Shared → Prop), Inv X pins σ H s → (∀ b ∈ fp, FpOk X pins H b) → tn i s.heap → J.go i H →
    wpAny (model P w) X.A (pyNext (.ref it)) (fun r s1 => ∃ u, r = some u ∧
      wpAny (model P w) X.A (letOwnedTupleGo tg (.ref it) u) (fun _ s2 => ∃ x H', Inv X pins σ H' s2 ∧ RelV x u ∧ J.yld i H x H' ∧ tn (i + 1) s2.heap ∧ ∀ b ∈ fp, H' b = none) E s1) E s
  done : ∀ (X : Cx), X.prog = P → X.w = w → X.K = K → X.calm = true → ∀ (i : Nat) (pins : List (Addr × Obj)) (s : Shared) (σ : St) (H : Hp) (E : Value → Shared → Prop), Inv X pins σ H s → (∀ b ∈ fp, FpOk X pins H b) → tn i s.heap → J.stop i H →
    wpAny (model P w) X.A (pyNext (.ref it)) (fun r s1 => r = none ∧ Inv X pins σ H s1) E s
  self : ∀ (A : Around) (i : Nat) (s : Shared) (Q : Value → Shared → Prop) (E : Value → Shared → Prop), tn i s.heap → Q (.ref it) s → wpAny (model P w) A (pyIter (.ref it)) Q E s
abbrev TI := St → Hp → (It → Hp → Prop) → Prop
def PIE (X : Cx) (pins : List (Addr × Obj)) (σ : St) (tg : Expr) (R : It → Hp → Prop) (itv : Value) (s2 : Shared) : Prop :=
  ∃ (it : Addr) (fp : List Addr) (tn : Nat → Heap → Prop) (J : It) (H' : Hp), itv = .ref it ∧ Inv X pins σ H' s2 ∧ Turn X.prog X.w X.K tg J fp it tn ∧ tn 0 s2.heap ∧ (∀ b ∈ fp, FpOk X pins H' b) ∧ R J H'
def PI (X : Cx) (tg iter : Expr) (wi : TI) : Prop :=
  ∀ (pins : List (Addr × Obj)) (s : Shared) (σ : St) (H : Hp) (R : It → Hp → Prop), Inv X pins σ H s → wi σ H R →
    wpAny (model X.prog X.w) X.A (eval iter X.env) (fun v s1 => wpAny (model X.prog X.w) X.A (pyIter v) (PIE X pins σ tg R) X.xe s1) X.xe s
theorem go_of {M : Model} {A : Around} {E : Value → Shared → Prop} {s : Shared} {tg : Expr} {it : Addr} {u : Value} {o : Obj} {n : String} {vs : Array Value} {Q : Unit → Shared → Prop} (ho : s.heap.get? it = some o) (hc : o.cls = .type n) (hd : o.data = .fields vs)
    (hn : ["enumerate", "zip", "dict_itemiterator", "dict_reverseitemiterator", "odict_iterator", "itertools.zip_longest", "itertools.pairwise"].contains n = false) (hQ : Q () s) : wpAny M A (letOwnedTupleGo tg (.ref it) u) Q E s := by
  unfold letOwnedTupleGo
  cases tg <;> first
    | exact wpAny_pure hQ
    | (cases u <;> first
        | exact wpAny_pure hQ
        | (refine wpAny_bind (wpAny_load ho ?_)
           rw [hc, hd]
           show wpAny M A (if (["enumerate", "zip", "dict_itemiterator", "dict_reverseitemiterator", "odict_iterator", "itertools.zip_longest", "itertools.pairwise"].contains n && vs[0]? == some (rawInt _)) = true then _ else _) Q E s
           rw [if_neg (by intro h; rw [hn, Bool.false_and] at h; cases h)]
           exact wpAny_pure hQ))
def Itl (K : PySem.W.Frag) (a : Addr) : It :=
  ⟨fun i H => ∃ xs x, SqL K H a xs ∧ xs[i]? = some x, fun i H x H' => H' = H ∧ ∀ xs, SqL K H a xs → xs[i]? = some x, fun i H => ∃ xs, SqL K H a xs ∧ xs.length ≤ i⟩
def Itt (K : PySem.W.Frag) (a : Addr) : It :=
  ⟨fun i H => ∃ xs x, SqT K H a xs ∧ xs[i]? = some x, fun i H x H' => H' = H ∧ ∀ xs, SqT K H a xs → xs[i]? = some x, fun i H => ∃ xs, SqT K H a xs ∧ xs.length ≤ i⟩
def Itr (lo : Int) (n : Nat) : It := ⟨fun i _ => i < n, fun i H x H' => H' = H ∧ x = .int (lo + i), fun i _ => n ≤ i⟩
theorem turn_list {P : Program} {w : World} {K : PySem.W.Frag} {tg : Expr} (a it : Addr) : Turn P w K tg (Itl K a) [it] it (fun i h => h.IsListIter it a i) where
  mem := by simp
  obj := fun i h st b hb => by
    have e : b = it := by simpa using hb
    subst e
    obtain ⟨o, e, c, d⟩ := st
    exact ⟨o, e, fun v z => by rw [d] at z; cases z⟩
  keep := fun i h h' st k => st.at fun o e => k it (by simp) o e
  item := by
    intro X hP hw hK hc i pins s σ H E I hf st hg
    subst hP hw hK
    obtain ⟨xs, x, hq, hx⟩ := hg
    obtain ⟨its, rv, p, hz⟩ := I.list hq
    obtain ⟨u, hu, ru⟩ := rv.get hx
    obtain ⟨f0, f1, f2, f3, f4, f5⟩ := hf it (by simp)
    refine wpAny_pyNext_list_item st p.isList (x := u) (by simpa using hu) fun h' st' sb => ?_
    have I1 : Inv X pins σ H { s with heap := h' } := I.turned (t' := s.toks) (fun b o hb e => (sb.2 b hb).trans e) f0 f1 f3 f4 f5
    obtain ⟨o, e, c, d⟩ := id st'
    exact ⟨u, rfl, go_of (s := { s with heap := h' }) e c d (by decide) ⟨x, H, I1, ru, ⟨rfl, fun ys hy => by rw [I.list_inj hy hq]; exact hx⟩, st', fun b hb => (hf b hb).1⟩⟩
  done := by
    intro X hP hw hK hc i pins s σ H E I hf st hg
    subst hP hw hK
    obtain ⟨xs, hq, hx⟩ := hg
    obtain ⟨its, rv, p, hz⟩ := I.list hq
    obtain ⟨f0, f1, f2, f3, f4, f5⟩ := hf it (by simp)
    have hl := rv.length
    exact wpAny_pyNext_list_end (I.ok.hd hc) st p.isList (by simp; omega) fun h' eb => ⟨rfl, I.turned (t' := s.toks) (fun b o hb e => eb b o hb e) f0 f1 f3 f4 f5⟩
  self := fun _ _ _ _ _ st h => wpAny_pyIter_listiter st h
theorem turn_tuple {P : Program} {w : World} {K : PySem.W.Frag} {tg : Expr} (a it : Addr) : Turn P w K tg (Itt K a) [it] it (fun i h => h.IsTupleIter it a i) where
  mem := by simp
  obj := fun i h st b hb => by
    have e : b = it := by simpa using hb
    subst e
    obtain ⟨o, e, c, d⟩ := st
    exact ⟨o, e, fun v z => by rw [d] at z; cases z⟩
  keep := fun i h h' st k => st.at fun o e => k it (by simp) o e
  item := by
    intro X hP hw hK hc i pins s σ H E I hf st hg
    subst hP hw hK
    obtain ⟨xs, x, hq, hx⟩ := hg
    obtain ⟨its, rv, p, hz⟩ := I.tuple hq
    obtain ⟨u, hu, ru⟩ := rv.get hx
    obtain ⟨f0, f1, f2, f3, f4, f5⟩ := hf it (by simp)
    refine wpAny_pyNext_tuple_item st (show s.heap.IsTuple a its.toArray from p) (x := u) (by simpa using hu) fun h' st' sb => ?_
    have I1 : Inv X pins σ H { s with heap := h' } := I.turned (t' := s.toks) (fun b o hb e => (sb.2 b hb).trans e) f0 f1 f3 f4 f5
    obtain ⟨o, e, c, d⟩ := id st'
    exact ⟨u, rfl, go_of (s := { s with heap := h' }) e c d (by decide) ⟨x, H, I1, ru, ⟨rfl, fun ys hy => by rw [I.tuple_inj hy hq]; exact hx⟩, st', fun b hb => (hf b hb).1⟩⟩
  done := by
    intro X hP hw hK hc i pins s σ H E I hf st hg
    subst hP hw hK
    obtain ⟨xs, hq, hx⟩ := hg
    obtain ⟨its, rv, p, hz⟩ := I.tuple hq
    obtain ⟨f0, f1, f2, f3, f4, f5⟩ := hf it (by simp)
    have hl := rv.length
    exact wpAny_pyNext_tuple_end (I.ok.hd hc) st (show s.heap.IsTuple a its.toArray from p) (by simp; omega) fun h' eb => ⟨rfl, I.turned (t' := s.toks) (fun b o hb e => eb b o hb e) f0 f1 f3 f4 f5⟩
  self := fun _ _ _ _ _ st h => wpAny_pyIter_tupleiter st h
theorem turn_range {P : Program} {w : World} {K : PySem.W.Frag} {tg : Expr} (it : Addr) (lo : Int) (n : Nat) : Turn P w K tg (Itr lo n) [it] it (fun i h => IsRangeIter h it (lo + (i : Nat) * 1) ((n : Int) - (i : Nat)) 1) where
  mem := by simp
  obj := fun i h st b hb => by
    have e : b = it := by simpa using hb
    subst e
    exact ⟨_, st, fun v z => by
      have z' : Data.fields _ = Data.cell v := z
      cases z'⟩
  keep := fun i h h' st k => k it (by simp) _ st
  item := by
    intro X hP hw hK hc i pins s σ H E I hf st hg
    subst hP hw hK
    obtain ⟨f0, f1, f2, f3, f4, f5⟩ := hf it (by simp)
    have W := Walks.range (prog := X.prog) (w := X.w) (I.ok.hd hc) it lo 1 n
    refine W.item i s _ _ hg st fun v h' tk hv st' kk => ?_
    obtain ⟨t, rfl⟩ := hv
    have I1 : Inv X pins σ H { s with heap := h', toks := tk } := I.turned (fun b o hb e => kk b o (by simpa using hb) e) f0 f1 f3 f4 f5
    refine ⟨_, rfl, go_of (s := { s with heap := h', toks := tk }) (n := "range_iterator") st' rfl rfl (by decide) ⟨.int (lo + i), H, I1, ⟨t, ?_⟩, ⟨rfl, rfl⟩, st', fun b hb => (hf b hb).1⟩⟩
    rw [Int.mul_one]
  done := by
    intro X hP hw hK hc i pins s σ H E I hf st hg
    subst hP hw hK
    obtain ⟨f0, f1, f2, f3, f4, f5⟩ := hf it (by simp)
    exact wpAny_pyNext_range_end (I.ok.hd hc) st (by have : n ≤ i := hg; omega) fun h' eb => ⟨rfl, I.turned (t' := s.toks) (fun b o hb e => eb b o hb e) f0 f1 f3 f4 f5⟩
  self := fun _ _ _ _ _ st h => wpAny_pyIter_rangeiter st h
end L2
namespace L2
open PySem PySem.Spec PyProof.Rows
section
variable {X : Cx} {tg : Expr}
def iList (K : PySem.W.Frag) (tl : TE) : TI := fun σ H R => tl σ H fun x H1 => ∃ a, x = .ref a ∧ (∃ xs, SqL K H1 a xs) ∧ R (Itl K a) H1
def iTup (K : PySem.W.Frag) (tl : TE) : TI := fun σ H R => tl σ H fun x H1 => ∃ a, x = .ref a ∧ (∃ xs, SqT K H1 a xs) ∧ R (Itt K a) H1
theorem pi_list {l : Expr} {tl : TE} (hl : PE X l tl) : PI X tg l (iList X.K tl) := by
  intro pins s σ H R I h
  refine thn (hl pins s σ H _ I h) fun v s1 ⟨x, H1, I1, r1, q1⟩ => ?_
  obtain ⟨a, e, ⟨xs, hq⟩, q⟩ := q1
  subst e
  cases r1
  obtain ⟨its, rv, p, hz⟩ := I1.list hq
  refine wpAny_pyIter_list p.isList ?_
  refine ⟨s1.heap.objs.size, [s1.heap.objs.size], _, _, H1, rfl, I1.kept (t' := s1.toks) fun b o e => Heap.get?_push_of_some _ e, turn_list a _, ⟨_, Heap.get?_push_size _ rfl, rfl, rfl⟩, fun b hb => ?_, q⟩
  have e : b = s1.heap.objs.size := by simpa using hb
  subst e
  exact I1.fpOk (Nat.le_refl _) (I1.hok.fresh (Nat.le_refl _))
theorem pi_tup {l : Expr} {tl : TE} (hl : PE X l tl) : PI X tg l (iTup X.K tl) := by
  intro pins s σ H R I h
  refine thn (hl pins s σ H _ I h) fun v s1 ⟨x, H1, I1, r1, q1⟩ => ?_
  obtain ⟨a, e, ⟨xs, hq⟩, q⟩ := q1
  subst e
  cases r1
  obtain ⟨its, rv, p, hz⟩ := I1.tuple hq
  refine wpAny_pyIter_tuple (show s1.heap.IsTuple a its.toArray from p) ?_
  refine ⟨s1.heap.objs.size, [s1.heap.objs.size], _, _, H1, rfl, I1.kept (t' := s1.toks) fun b o e => Heap.get?_push_of_some _ e, turn_tuple a _, ⟨_, Heap.get?_push_size _ rfl, rfl, rfl⟩, fun b hb => ?_, q⟩
  have e : b = s1.heap.objs.size := by simpa using hb
  subst e
  exact I1.fpOk (Nat.le_refl _) (I1.hok.fresh (Nat.le_refl _))
theorem range_it {pins : List (Addr × Obj)} {σ : St} {H : Hp} {s : Shared} {R : It → Hp → Prop} {E : Value → Shared → Prop} {lo hi : Int} {t u v : Tok} {tk : Nat} (I : Inv X pins σ H s) (h1 : -(2 ^ 62) ≤ lo) (h2 : lo < 2 ^ 62) (h3 : -(2 ^ 62) ≤ hi) (h4 : hi < 2 ^ 62)
    (q : R (Itr lo (hi - lo).toNat) H) : wpAny (model X.prog X.w) X.A (pyIter (.ref s.heap.objs.size)) (PIE X pins σ tg R) E { s with heap := s.heap.push { cls := .type "range", data := .fields #[.int lo t, .int hi u, .int 1 v] }, toks := tk } := by
  refine wpAny_pyIter_range (IsRange.new ..) (small_one h1 h2 h3 h4) ?_
  have I1 : Inv X pins σ H { s with heap := s.heap.push { cls := .type "range", data := .fields #[.int lo t, .int hi u, .int 1 v] }, toks := tk } := I.kept fun b o e => Heap.get?_push_of_some _ e
  refine ⟨(s.heap.push { cls := .type "range", data := .fields #[.int lo t, .int hi u, .int 1 v] }).objs.size, [(s.heap.push { cls := .type "range", data := .fields #[.int lo t, .int hi u, .int 1 v] }).objs.size], _, _, H, rfl,
    I1.kept (t' := tk) fun b o e => Heap.get?_push_of_some _ e, turn_range _ lo (hi - lo).toNat, ?_, fun b hb => ?_, q⟩
  · have e1 : lo + ((0 : Nat) : Int) * 1 = lo := by simp
    have e2 : (((hi - lo).toNat : Nat) : Int) - ((0 : Nat) : Int) = Builtin.Range.rangeSize lo hi 1 := by rw [rangeSize_one]; split <;> omega
    show IsRangeIter _ _ (lo + ((0 : Nat) : Int) * 1) ((((hi - lo).toNat : Nat) : Int) - ((0 : Nat) : Int)) 1
    rw [e1, e2]
    exact Heap.get?_push_size _ rfl
  · have e : b = (s.heap.push { cls := .type "range", data := .fields #[.int lo t, .int hi u, .int 1 v] }).objs.size := by simpa using hb
    subst e
    exact I1.fpOk (Nat.le_refl _) (I1.hok.fresh (Nat.le_refl _))
def iRng1 (ta : TA) : TI := fun σ H R => ta σ H fun vs H1 => ∃ j : Int, vs = [.int j] ∧ -(2 ^ 62) ≤ j ∧ j < 2 ^ 62 ∧ R (Itr 0 j.toNat) H1
def iRng2 (ta : TA) : TI := fun σ H R => ta σ H fun vs H1 => ∃ i j : Int, vs = [.int i, .int j] ∧ (-(2 ^ 62) ≤ i ∧ i < 2 ^ 62 ∧ -(2 ^ 62) ≤ j ∧ j < 2 ^ 62) ∧ R (Itr i (j - i).toNat) H1
theorem pi_range1 {a : Expr} {ta : TA} {p pos : Pos} (hg : Gl X "range") (hm : X.mg "range" = none) (ha : PA X [a] ta) (hs : starEach [a] X.env = [(false, eval a X.env)] := by rfl) : PI X tg (.Call (.Name "range" p) [a] [] pos) (iRng1 ta) := by
  intro pins s σ H R I h
  refine Call_ (ld_blt I hg hm boot_range (PyProof.Rows.callWith_type1 (thn (ha pos pins s σ H _ I h) fun us s1 ⟨vs, H1, I1, r1, q1⟩ => ?_) hs rfl))
  obtain ⟨j, e, q1, q2, q⟩ := q1
  subst e
  cases r1 with
  | cons r rr =>
    cases rr
    obtain ⟨t, rfl⟩ := r
    exact call_range_1 (range_it I1 (by omega) (by omega) q1 q2 (by simpa using q))
theorem pi_range2 {a b : Expr} {ta : TA} {p pos : Pos} (hg : Gl X "range") (hm : X.mg "range" = none) (ha : PA X [a, b] ta) (hs : starEach [a, b] X.env = [(false, eval a X.env), (false, eval b X.env)] := by rfl) (hs2 : starEach [b] X.env = [(false, eval b X.env)] := by rfl) :
    PI X tg (.Call (.Name "range" p) [a, b] [] pos) (iRng2 ta) := by
  intro pins s σ H R I h
  refine Call_ (ld_blt I hg hm boot_range (PyProof.Rows.callWith_type1 (thn (ha pos pins s σ H _ I h) fun us s1 ⟨vs, H1, I1, r1, q1⟩ => ?_) (by rw [hs, hs2]) (by rw [hs2]; rfl)))
  obtain ⟨i, j, e, ⟨q1, q2, q3, q4⟩, q⟩ := q1
  subst e
  cases r1 with
  | cons r rr =>
    cases rr with
    | cons r' rr =>
      cases rr
      obtain ⟨t, rfl⟩ := r
      obtain ⟨t', rfl⟩ := r'
      exact call_range_2 (range_it I1 q1 q2 q3 q4 q)
def tFor (wi : TI) (g : TG) (tb : TS) : TS := fun D σ H => wi σ H fun J H1 => ∃ W : Nat → Nat → St → Hp → Prop, (∃ m, W 0 m σ H1) ∧ ∀ i m σ H, W i m σ H →
  (J.stop i H ∧ D.nx σ H) ∨ (J.go i H ∧ ∃ N : St → Hp → Prop, (∀ σ' H', N σ' H' → ∃ m', m' < m ∧ W (i + 1) m' σ' H') ∧ ∀ x H', J.yld i H x H' → g x σ H' fun σ2 H2 => tb { D with nx := N, ct := N, bk := D.nx } σ2 H2)
def pinsAt (fp : List Addr) (h : Heap) : List (Addr × Obj) := fp.filterMap fun b => (h.get? b).map fun o => (b, o)
theorem mem_pinsAt {fp : List Addr} {h : Heap} {b : Addr} {o : Obj} (hb : b ∈ fp) (e : h.get? b = some o) : (b, o) ∈ pinsAt fp h := List.mem_filterMap.mpr ⟨b, hb, by rw [e]; rfl⟩
theorem of_pinsAt {fp : List Addr} {h : Heap} {p : Addr × Obj} (hp : p ∈ pinsAt fp h) : p.1 ∈ fp ∧ h.get? p.1 = some p.2 := by
  obtain ⟨b, hb, e⟩ := List.mem_filterMap.mp hp
  cases q : h.get? b with
  | none => rw [q] at e; cases e
  | some o =>
    rw [q] at e
    have e' : (b, o) = p := Option.some.inj e
    subst e'
    exact ⟨hb, q⟩
theorem Inv.pinned {pins : List (Addr × Obj)} {σ : St} {H : Hp} {s : Shared} {fp : List Addr} (I : Inv X pins σ H s) (hf : ∀ b ∈ fp, FpOk X pins H b) (ho : ∀ b ∈ fp, ∃ o, s.heap.get? b = some o ∧ ∀ v, o.data ≠ .cell v) : Inv X (pins ++ pinsAt fp s.heap) σ H s :=
  I.pins_of fun p hp => (List.mem_append.mp hp).elim (fun z => I.pin p (List.mem_append_right _ z)) fun z => by
    obtain ⟨hb, e⟩ := of_pinsAt z
    obtain ⟨f0, f1, f2, _⟩ := hf p.1 hb
    obtain ⟨o, e', d⟩ := ho p.1 hb
    rw [e] at e'; cases e'
    exact ⟨e, f0, f1, f2, d⟩
theorem Inv.unpinned {pins pl : List (Addr × Obj)} {σ : St} {H : Hp} {s : Shared} (I : Inv X (pins ++ pl) σ H s) : Inv X pins σ H s := I.pins_of fun p hp => I.pin p (List.mem_append_right _ (List.mem_append_left _ hp))
theorem ps_for {iter : Expr} {body : List Stmt} {wi : TI} {g : TG} {tb : TS} {pos : Pos} (hp : PassesOwn (model X.prog X.w) X.A X.env X.xe) (hc : X.calm = true) (hi : PI X tg iter wi) (hg : PG X tg g) (hb : PSs X body tb)
    (hs : ∀ x, foldedSetIterable iter X.env x = pure x := by intro _; rfl) : PS X (.For tg iter body [] pos) (tFor wi g tb) := by
  intro pins s σ H D I h
  refine wpAny_For (thn (hi pins s σ H _ I h) fun v s1 h1 => thn h1 fun itv s2 h2 => ?_) hs
  obtain ⟨it, fp, tn, J, H2, e, I2, T, st2, f2, W, ⟨m0, w0⟩, turn⟩ := h2
  subst e
  have stat : ∀ {H' : Hp}, (∀ b ∈ fp, H' b = none) → ∀ b ∈ fp, FpOk X pins H' b := fun hn b hb => ⟨hn b hb, (f2 b hb).2⟩
  refine codeAny_forLoop_any (fun n s' => ∃ i σ' H', Inv X pins σ' H' s' ∧ tn i s'.heap ∧ (∀ b ∈ fp, H' b = none) ∧ W i n σ' H') ?_ m0 ⟨0, σ, H2, I2, st2, fun b hb => (f2 b hb).1, w0⟩
  rintro n s3 ⟨i, σ3, H3, I3, st3, fr3, w3⟩
  rcases turn i n σ3 H3 w3 with ⟨stop, qn⟩ | ⟨go, N, hN, step⟩
  · refine wpAny_passesOwn hp (thn (T.done X rfl rfl rfl hc i pins s3 σ3 H3 X.xe I3 (stat fr3) st3 stop) fun r s4 ⟨hr, I4⟩ => ?_)
    subst hr
    exact wpAny_execs_nil ⟨σ3, H3, I4, qn⟩
  · refine wpAny_passesOwn hp (thn (T.item X rfl rfl rfl hc i pins s3 σ3 H3 X.xe I3 (stat fr3) st3 go) fun r s4 ⟨u, hr, h4⟩ => ?_)
    subst hr
    refine wpAny_passesOwn hp (thn h4 fun _ s5 ⟨x, H5, I5, r5, y5, st5, fr5⟩ => ?_)
    have I5' := I5.pinned (stat fr5) (T.obj _ _ st5)
    refine wpAny_passesOwn hp (thn (hg _ s5 σ3 H5 x u _ I5' r5 (step x H5 y5)) fun _ s6 ⟨σ6, H6, I6, q6⟩ => ?_)
    refine wpAny_passesOwn hp (thn (hb _ s6 σ6 H6 _ I6 q6) fun f s7 q7 => ?_)
    have again : ∀ {σ7 : St} {H7 : Hp}, Inv X (pins ++ pinsAt fp s5.heap) σ7 H7 s7 → N σ7 H7 → ∃ m, m < n ∧ ∃ i σ' H', Inv X pins σ' H' s7 ∧ tn i s7.heap ∧ (∀ b ∈ fp, H' b = none) ∧ W i m σ' H' := fun {σ7 H7} I7 n7 => by
      obtain ⟨m', hm, w7⟩ := hN σ7 H7 n7
      refine ⟨m', hm, i + 1, σ7, H7, I7.unpinned, T.keep _ _ _ st5 fun b hb o e => (I7.pin (b, o) (List.mem_append_right _ (List.mem_append_right _ (mem_pinsAt hb e)))).1, fun b hb => ?_, w7⟩
      obtain ⟨o, e, d⟩ := T.obj _ _ st5 b hb
      exact (I7.pin (b, o) (List.mem_append_right _ (List.mem_append_right _ (mem_pinsAt hb e)))).2.1
    cases f with
    | next => obtain ⟨σ7, H7, I7, n7⟩ := q7; exact again I7 n7
    | cont => obtain ⟨σ7, H7, I7, n7⟩ := q7; exact again I7 n7
    | brk => obtain ⟨σ7, H7, I7, q7⟩ := q7; exact ⟨σ7, H7, I7.unpinned, q7⟩
    | ret v => obtain ⟨x7, σ7, H7, I7, r7, q7⟩ := q7; exact ⟨x7, σ7, H7, I7.unpinned, r7, q7⟩
end
theorem for_list {K : PySem.W.Frag} {a : Addr} {xs : List V} {g : TG} {tb : TS} {D : Ends} {σ : St} {H : Hp} (Pv : Nat → St → Hp → Prop) (h0 : Pv 0 σ H) (hl : ∀ i σ H, i ≤ xs.length → Pv i σ H → SqL K H a xs)
    (hs : ∀ i x σ H, xs[i]? = some x → Pv i σ H → g x σ H fun σ2 H2 => tb { D with nx := Pv (i + 1), ct := Pv (i + 1), bk := D.nx } σ2 H2) (hd : ∀ σ H, Pv xs.length σ H → D.nx σ H) :
    ∃ W : Nat → Nat → St → Hp → Prop, (∃ m, W 0 m σ H) ∧ ∀ i m σ H, W i m σ H →
      ((Itl K a).stop i H ∧ D.nx σ H) ∨ ((Itl K a).go i H ∧ ∃ N : St → Hp → Prop, (∀ σ' H', N σ' H' → ∃ m', m' < m ∧ W (i + 1) m' σ' H') ∧ ∀ x H', (Itl K a).yld i H x H' → g x σ H' fun σ2 H2 => tb { D with nx := N, ct := N, bk := D.nx } σ2 H2) := by
  refine ⟨fun i m σ H => m = xs.length - i ∧ i ≤ xs.length ∧ Pv i σ H, ⟨xs.length, by simp, Nat.zero_le _, h0⟩, ?_⟩
  rintro i m σ H ⟨rfl, hi, p⟩
  have q := hl i σ H hi p
  by_cases hlt : i < xs.length
  · refine .inr ⟨⟨xs, xs[i], q, by simp [hlt]⟩, Pv (i + 1), fun σ' H' p' => ⟨xs.length - (i + 1), by omega, rfl, hlt, p'⟩, fun x H' y => ?_⟩
    obtain ⟨e, y⟩ := y
    subst e
    exact hs i x σ _ (y xs q) p
  · have e : i = xs.length := by omega
    subst e
    exact .inl ⟨⟨xs, q, Nat.le_refl _⟩, hd σ H p⟩
theorem for_tup {K : PySem.W.Frag} {a : Addr} {xs : List V} {g : TG} {tb : TS} {D : Ends} {σ : St} {H : Hp} (Pv : Nat → St → Hp → Prop) (h0 : Pv 0 σ H) (hl : ∀ i σ H, i ≤ xs.length → Pv i σ H → SqT K H a xs)
    (hs : ∀ i x σ H, xs[i]? = some x → Pv i σ H → g x σ H fun σ2 H2 => tb { D with nx := Pv (i + 1), ct := Pv (i + 1), bk := D.nx } σ2 H2) (hd : ∀ σ H, Pv xs.length σ H → D.nx σ H) :
    ∃ W : Nat → Nat → St → Hp → Prop, (∃ m, W 0 m σ H) ∧ ∀ i m σ H, W i m σ H →
      ((Itt K a).stop i H ∧ D.nx σ H) ∨ ((Itt K a).go i H ∧ ∃ N : St → Hp → Prop, (∀ σ' H', N σ' H' → ∃ m', m' < m ∧ W (i + 1) m' σ' H') ∧ ∀ x H', (Itt K a).yld i H x H' → g x σ H' fun σ2 H2 => tb { D with nx := N, ct := N, bk := D.nx } σ2 H2) := by
  refine ⟨fun i m σ H => m = xs.length - i ∧ i ≤ xs.length ∧ Pv i σ H, ⟨xs.length, by simp, Nat.zero_le _, h0⟩, ?_⟩
  rintro i m σ H ⟨rfl, hi, p⟩
  have q := hl i σ H hi p
  by_cases hlt : i < xs.length
  · refine .inr ⟨⟨xs, xs[i], q, by simp [hlt]⟩, Pv (i + 1), fun σ' H' p' => ⟨xs.length - (i + 1), by omega, rfl, hlt, p'⟩, fun x H' y => ?_⟩
    obtain ⟨e, y⟩ := y
    subst e
    exact hs i x σ _ (y xs q) p
  · have e : i = xs.length := by omega
    subst e
    exact .inl ⟨⟨xs, q, Nat.le_refl _⟩, hd σ H p⟩
theorem for_range {lo : Int} {n : Nat} {g : TG} {tb : TS} {D : Ends} {σ : St} {H : Hp} (Pv : Nat → St → Hp → Prop) (h0 : Pv 0 σ H)
    (hs : ∀ i σ H, i < n → Pv i σ H → g (.int (lo + i)) σ H fun σ2 H2 => tb { D with nx := Pv (i + 1), ct := Pv (i + 1), bk := D.nx } σ2 H2) (hd : ∀ σ H, Pv n σ H → D.nx σ H) :
    ∃ W : Nat → Nat → St → Hp → Prop, (∃ m, W 0 m σ H) ∧ ∀ i m σ H, W i m σ H →
      ((Itr lo n).stop i H ∧ D.nx σ H) ∨ ((Itr lo n).go i H ∧ ∃ N : St → Hp → Prop, (∀ σ' H', N σ' H' → ∃ m', m' < m ∧ W (i + 1) m' σ' H') ∧ ∀ x H', (Itr lo n).yld i H x H' → g x σ H' fun σ2 H2 => tb { D with nx := N, ct := N, bk := D.nx } σ2 H2) := by
  refine ⟨fun i m σ H => m = n - i ∧ i ≤ n ∧ Pv i σ H, ⟨n, by simp, Nat.zero_le _, h0⟩, ?_⟩
  rintro i m σ H ⟨rfl, hi, p⟩
  by_cases hlt : i < n
  · refine .inr ⟨hlt, Pv (i + 1), fun σ' H' p' => ⟨n - (i + 1), by omega, rfl, hlt, p'⟩, fun x H' y => ?_⟩
    obtain ⟨e, y⟩ := y
    subst e y
    exact hs i σ _ hlt p
  · have e : i = n := by omega
    subst e
    exact .inl ⟨Nat.le_refl _, hd σ H p⟩
theorem while_by {c : TT} {tb : TS} {D : Ends} {σ : St} {H : Hp} (Pv : St → Hp → Prop) (μ : St → Hp → Nat) (h0 : Pv σ H)
    (hs : ∀ σ H, Pv σ H → c σ H fun b H1 => if b = true then tb { D with nx := fun σ' H' => Pv σ' H' ∧ μ σ' H' < μ σ H, ct := fun σ' H' => Pv σ' H' ∧ μ σ' H' < μ σ H, bk := D.nx } σ H1 else D.nx σ H1)
    (mono : ∀ σ H Q Q', (∀ b H1, Q b H1 → Q' b H1) → c σ H Q → c σ H Q') : tWhile c tb D σ H := by
  refine ⟨fun m σ H => m = μ σ H ∧ Pv σ H, ⟨_, rfl, h0⟩, ?_⟩
  rintro m σ H ⟨rfl, p⟩
  refine mono σ H _ _ (fun b H1 q => ?_) (hs σ H p)
  cases b with
  | true => exact ⟨_, fun σ' H' ⟨p', l⟩ => ⟨_, l, rfl, p'⟩, q⟩
  | false => exact q
end L2
namespace L2
open PySem PySem.Spec PyProof.Rows
abbrev R2 := V → V → Hp → VK → Prop
def OpR (X : Cx) (f : Value → Value → Sem Value) (r : R2) : Prop :=
  ∀ (pins : List (Addr × Obj)) (s : Shared) (σ : St) (H : Hp) (x y : V) (v u : Value) (Q : VK), Inv X pins σ H s → RelV x v → RelV y u → r x y H Q →
    wpAny (model X.prog X.w) X.A (f v u) (EP X pins σ Q) X.xe s
def UnR (X : Cx) (f : Value → Sem Value) (r : V → Hp → VK → Prop) : Prop :=
  ∀ (pins : List (Addr × Obj)) (s : Shared) (σ : St) (H : Hp) (x : V) (v : Value) (Q : VK), Inv X pins σ H s → RelV x v → r x H Q →
    wpAny (model X.prog X.w) X.A (f v) (EP X pins σ Q) X.xe s
def CallR (X : Cx) (f : Value) (r : List V → Hp → VK → Prop) : Prop :=
  ∀ (pins : List (Addr × Obj)) (s : Shared) (σ : St) (H : Hp) (xs : List V) (us : List Value) (Q : VK), Inv X pins σ H s → Vals xs us → r xs H Q →
    wpAny (model X.prog X.w) X.A (call f us) (EP X pins σ Q) X.xe s
def tOp (r : R2) (ta tb : TE) : TE := fun σ H Q => ta σ H fun x H1 => tb σ H1 fun y H2 => r x y H2 Q
def tUn (r : V → Hp → VK → Prop) (ta : TE) : TE := fun σ H Q => ta σ H fun x H1 => r x H1 Q
def rI (C : Int → Int → Prop) (g : Int → Int → V) : R2 := fun x y H Q => ∃ i j, x = .int i ∧ y = .int j ∧ C i j ∧ Q (g i j) H
def rI0 (g : Int → Int → V) : R2 := fun x y H Q => ∃ i j, x = .int i ∧ y = .int j ∧ Q (g i j) H
def rU (g : Int → V) : V → Hp → VK → Prop := fun x H Q => ∃ i, x = .int i ∧ Q (g i) H
section
variable {X : Cx} {a b c : Expr} {ta tb tc : TE} {pos : Pos}
theorem binT (ha : PE X a ta) (hb : PE X b tb) {pins : List (Addr × Obj)} {s : Shared} {σ : St} {H : Hp} {R : V → V → Hp → Prop} (I : Inv X pins σ H s)
    (h : ta σ H fun x H1 => tb σ H1 fun y H2 => R x y H2) {Q : Value → Shared → Prop} {f : Value → Value → Sem Value}
    (hf : ∀ v u s2 x y H2, Inv X pins σ H2 s2 → RelV x v → RelV y u → R x y H2 → wpAny (model X.prog X.w) X.A (f v u) Q X.xe s2) :
    wpAny (model X.prog X.w) X.A (eval a X.env) (fun v s₁ => wpAny (model X.prog X.w) X.A (eval b X.env) (fun u s₂ => wpAny (model X.prog X.w) X.A (f v u) Q X.xe s₂) X.xe s₁) X.xe s := by
  refine thn (ha pins s σ H _ I h) fun v s1 ⟨x, H1, I1, r1, q1⟩ => ?_
  refine thn (hb pins s1 σ H1 _ I1 q1) fun u s2 ⟨y, H2, I2, r2, q2⟩ => ?_
  exact hf v u s2 x y H2 I2 r1 r2 q2
theorem pe_op {op : Operator} {r : R2} (ho : OpR X (binaryOp op) r) (ha : PE X a ta) (hb : PE X b tb) : PE X (.BinOp a op b pos) (tOp r ta tb) := by
  intro pins s σ H Q I h
  exact wpAny_BinOp (binT ha hb I h fun v u s2 x y H2 I2 rx ry q => ho pins s2 σ H2 x y v u Q I2 rx ry q)
theorem pe_un {op : UnaryOp} {r : V → Hp → VK → Prop} (ho : UnR X (unaryOp op) r) (ha : PE X a ta) : PE X (.UnaryOp op a pos) (tUn r ta) := by
  intro pins s σ H Q I h
  exact UnaryOp_ (thn (ha pins s σ H _ I h) fun v s1 ⟨x, H1, I1, r1, q1⟩ => ho pins s1 σ H1 x v Q I1 r1 q1)
theorem opI {f : Value → Value → Sem Value} {C : Int → Int → Prop} {g : Int → Int → Int}
    (rule : ∀ (i j : Int) (t u : Tok) (s : Shared) (Q : Value → Shared → Prop) (E : Value → Shared → Prop), C i j → Q (.int (g i j) s.toks) { s with toks := s.toks + 1 } → wpAny (model X.prog X.w) X.A (f (.int i t) (.int j u)) Q E s) :
    OpR X f (rI C fun i j => .int (g i j)) := by
  intro pins s σ H x y v u Q I rx ry h
  obtain ⟨i, j, rfl, rfl, hc, q⟩ := h
  obtain ⟨t, rfl⟩ := rx
  obtain ⟨t', rfl⟩ := ry
  exact rule i j t t' s _ _ hc ⟨.int (g i j), H, I.tok _, ⟨_, rfl⟩, q⟩
theorem opI0 {f : Value → Value → Sem Value} {g : Int → Int → Int}
    (rule : ∀ (i j : Int) (t u : Tok) (s : Shared) (Q : Value → Shared → Prop) (E : Value → Shared → Prop), Q (.int (g i j) s.toks) { s with toks := s.toks + 1 } → wpAny (model X.prog X.w) X.A (f (.int i t) (.int j u)) Q E s) :
    OpR X f (rI0 fun i j => .int (g i j)) := by
  intro pins s σ H x y v u Q I rx ry h
  obtain ⟨i, j, rfl, rfl, q⟩ := h
  obtain ⟨t, rfl⟩ := rx
  obtain ⟨t', rfl⟩ := ry
  exact rule i j t t' s _ _ ⟨.int (g i j), H, I.tok _, ⟨_, rfl⟩, q⟩
theorem opB0 {f : Value → Value → Sem Value} {g : Int → Int → Bool}
    (rule : ∀ (i j : Int) (t u : Tok) (s : Shared) (Q : Value → Shared → Prop) (E : Value → Shared → Prop), Q (.bool (g i j)) s → wpAny (model X.prog X.w) X.A (f (.int i t) (.int j u)) Q E s) :
    OpR X f (rI0 fun i j => .bl (g i j)) := by
  intro pins s σ H x y v u Q I rx ry h
  obtain ⟨i, j, rfl, rfl, q⟩ := h
  obtain ⟨t, rfl⟩ := rx
  obtain ⟨t', rfl⟩ := ry
  exact rule i j t t' s _ _ ⟨.bl (g i j), H, I, rfl, q⟩
def CDiv (i j : Int) : Prop := 0 < j ∧ j < 1073741824
def CMul (i j : Int) : Prop := (-(2 ^ 64) < i ∧ i < 2 ^ 64) ∨ (-(2 ^ 64) < j ∧ j < 2 ^ 64)
theorem CMul.ok {i j : Int} (h : CMul i j) : IntMulOk i j := by
  rcases h with ⟨h1, h2⟩ | ⟨h1, h2⟩
  · exact .of_left (intBits_le_64 h1 h2)
  · exact .of_right (intBits_le_64 h1 h2)
theorem op_add : OpR X (binaryOp .Add) (rI0 fun i j => .int (i + j)) := opI0 fun _ _ _ _ _ _ _ q => add_int q
theorem op_sub : OpR X (binaryOp .Sub) (rI0 fun i j => .int (i - j)) := opI0 fun _ _ _ _ _ _ _ q => sub_int q
theorem op_mul : OpR X (binaryOp .Mult) (rI CMul fun i j => .int (i * j)) := opI fun _ _ _ _ _ _ _ hc q => mul_int q hc.ok
theorem op_fdiv : OpR X (binaryOp .FloorDiv) (rI CDiv fun i j => .int (i / j)) := opI fun i j _ _ _ _ _ hc q => by
  have h1 : (0 : Int) < j := hc.1
  have h2 : j < 1073741824 := hc.2
  exact floordiv_int (by omega) (by rw [Int.fdiv_eq_ediv_of_nonneg i (by omega)]; exact q) (.inl (PyProof.noPylong_small (by omega)))
theorem op_mod : OpR X (binaryOp .Mod) (rI (fun _ j => 0 < j) fun i j => .int (i % j)) := opI fun i j _ _ _ _ _ hc q => by
  have h1 : (0 : Int) < j := hc
  exact mod_int' (by omega) (by rw [Int.fmod_eq_emod_of_nonneg i (by omega)]; exact q)
theorem unI {f : Value → Sem Value} {g : Int → Int}
    (rule : ∀ (i : Int) (t : Tok) (s : Shared) (Q : Value → Shared → Prop) (E : Value → Shared → Prop), Q (.int (g i) s.toks) { s with toks := s.toks + 1 } → wpAny (model X.prog X.w) X.A (f (.int i t)) Q E s) :
    UnR X f (rU fun i => .int (g i)) := by
  intro pins s σ H x v Q I rx h
  obtain ⟨i, rfl, q⟩ := h
  obtain ⟨t, rfl⟩ := rx
  exact rule i t s _ _ ⟨.int (g i), H, I.tok _, ⟨_, rfl⟩, q⟩
theorem un_neg : UnR X (unaryOp .USub) (rU fun i => .int (-i)) := unI fun _ _ _ _ _ q => neg_int q
end
def scal : V → V → Bool
  | .non, .non => true | .non, .int _ => true | .int _, .non => true | .non, .bl _ => true | .bl _, .non => true | .non, .str _ => true | .str _, .non => true
  | .int _, .int _ => true | .bl _, .bl _ => true | .str _, .str _ => true | .byt _, .byt _ => true
  | .int _, .str _ => true | .str _, .int _ => true | .bl _, .str _ => true | .str _, .bl _ => true
  | _, _ => false
def rEq : R2 := fun x y H Q => scal x y = true ∧ Q (.bl (decide (x = y))) H
def rNe : R2 := fun x y H Q => scal x y = true ∧ Q (.bl (!decide (x = y))) H
theorem dec_int {i j : Int} : decide (V.int i = V.int j) = (i == j) := by
  rw [Bool.eq_iff_iff]
  simp
theorem dec_bl {i j : Bool} : decide (V.bl i = V.bl j) = (i == j) := by
  rw [Bool.eq_iff_iff]
  simp
theorem dec_str {i j : Str} : decide (V.str i = V.str j) = (i == j) := by
  rw [Bool.eq_iff_iff]
  simp
theorem dec_byt {i j : Array UInt8} : decide (V.byt i = V.byt j) = (i.toList == j.toList) := by
  rw [Bool.eq_iff_iff]
  cases i
  cases j
  simp
section
variable {X : Cx} {a b c : Expr} {ta tb tc : TE} {pos : Pos}
theorem fin_bl {pins : List (Addr × Obj)} {σ : St} {H : Hp} {s : Shared} {Q : VK} {k k' : Bool} (I : Inv X pins σ H s) (q : Q (.bl k) H) (e : k = k') : EP X pins σ Q (.bool k') s := by
  subst e
  exact ⟨.bl k, H, I, rfl, q⟩
theorem op_eq : OpR X (compareOp .Eq) rEq := by
  intro pins s σ H x y v u Q I rx ry h
  obtain ⟨hs, q⟩ := h
  cases x with
  | non =>
    cases rx
    cases y with
    | non => cases ry; exact PySem.EqNone.eq_none_none (fin_bl I q (by simp))
    | bl j => cases ry; exact PySem.EqNone.eq_none_bool (fin_bl I q (by simp))
    | int j => obtain ⟨t', rfl⟩ := ry; exact PySem.EqNone.eq_none_int (fin_bl I q (by simp))
    | str j => obtain ⟨t', rfl⟩ := ry; exact PySem.EqNone.eq_none_str (fin_bl I q (by simp))
    | _ => exact absurd (show false = true from hs) Bool.false_ne_true
  | bl i =>
    cases rx
    cases y with
    | non => cases ry; exact PySem.EqNone.eq_bool_none (fin_bl I q (by simp))
    | bl j => cases ry; exact eq_bool (fin_bl I q dec_bl)
    | str j => obtain ⟨t', rfl⟩ := ry; exact PySem.EqMixed.eq_bool_str (fin_bl I q (by simp))
    | _ => exact absurd (show false = true from hs) Bool.false_ne_true
  | int i =>
    obtain ⟨t, rfl⟩ := rx
    cases y with
    | non => cases ry; exact PySem.EqNone.eq_int_none (fin_bl I q (by simp))
    | int j => obtain ⟨t', rfl⟩ := ry; exact eq_int (fin_bl I q dec_int)
    | str j => obtain ⟨t', rfl⟩ := ry; exact PySem.EqMixed.eq_int_str (fin_bl I q (by simp))
    | _ => exact absurd (show false = true from hs) Bool.false_ne_true
  | str i =>
    obtain ⟨t, rfl⟩ := rx
    cases y with
    | non => cases ry; exact PySem.EqNone.eq_str_none (fin_bl I q (by simp))
    | bl j => cases ry; exact PySem.EqMixed.eq_str_bool (fin_bl I q (by simp))
    | int j => obtain ⟨t', rfl⟩ := ry; exact PySem.EqMixed.eq_str_int (fin_bl I q (by simp))
    | str j => obtain ⟨t', rfl⟩ := ry; exact eq_str (fin_bl I q dec_str)
    | _ => exact absurd (show false = true from hs) Bool.false_ne_true
  | byt i =>
    obtain ⟨t, rfl⟩ := rx
    cases y with
    | byt j => obtain ⟨t', rfl⟩ := ry; exact PySem.W.eq_bytes (fin_bl I q dec_byt)
    | _ => exact absurd (show false = true from hs) Bool.false_ne_true
  | _ => cases y <;> exact absurd (show false = true from hs) Bool.false_ne_true
theorem op_ne : OpR X (compareOp .NotEq) rNe := by
  intro pins s σ H x y v u Q I rx ry h
  obtain ⟨hs, q⟩ := h
  cases x with
  | non =>
    cases rx
    cases y with
    | non => cases ry; exact PySem.EqNone.ne_none_none (fin_bl I q (by simp))
    | bl j => cases ry; exact PySem.EqNone.ne_none_bool (fin_bl I q (by simp))
    | int j => obtain ⟨t', rfl⟩ := ry; exact PySem.EqNone.ne_none_int (fin_bl I q (by simp))
    | str j => obtain ⟨t', rfl⟩ := ry; exact PySem.EqNone.ne_none_str (fin_bl I q (by simp))
    | _ => exact absurd (show false = true from hs) Bool.false_ne_true
  | bl i =>
    cases rx
    cases y with
    | non => cases ry; exact PySem.EqNone.ne_bool_none (fin_bl I q (by simp))
    | bl j => cases ry; exact ne_bool (fin_bl I q (congrArg not dec_bl))
    | str j => obtain ⟨t', rfl⟩ := ry; exact PySem.EqMixed.ne_bool_str (fin_bl I q (by simp))
    | _ => exact absurd (show false = true from hs) Bool.false_ne_true
  | int i =>
    obtain ⟨t, rfl⟩ := rx
    cases y with
    | non => cases ry; exact PySem.EqNone.ne_int_none (fin_bl I q (by simp))
    | int j => obtain ⟨t', rfl⟩ := ry; exact ne_int (fin_bl I q (congrArg not dec_int))
    | str j => obtain ⟨t', rfl⟩ := ry; exact PySem.EqMixed.ne_int_str (fin_bl I q (by simp))
    | _ => exact absurd (show false = true from hs) Bool.false_ne_true
  | str i =>
    obtain ⟨t, rfl⟩ := rx
    cases y with
    | non => cases ry; exact PySem.EqNone.ne_str_none (fin_bl I q (by simp))
    | bl j => cases ry; exact PySem.EqMixed.ne_str_bool (fin_bl I q (by simp))
    | int j => obtain ⟨t', rfl⟩ := ry; exact PySem.EqMixed.ne_str_int (fin_bl I q (by simp))
    | str j => obtain ⟨t', rfl⟩ := ry; exact ne_str (fin_bl I q (congrArg not dec_str))
    | _ => exact absurd (show false = true from hs) Bool.false_ne_true
  | byt i =>
    obtain ⟨t, rfl⟩ := rx
    cases y with
    | byt j => obtain ⟨t', rfl⟩ := ry; exact PySem.W.ne_bytes (fin_bl I q (congrArg not dec_byt))
    | _ => exact absurd (show false = true from hs) Bool.false_ne_true
  | _ => cases y <;> exact absurd (show false = true from hs) Bool.false_ne_true
theorem op_lt : OpR X (compareOp .Lt) (rI0 fun i j => .bl (decide (i < j))) := opB0 fun _ _ _ _ _ _ _ q => lt_int q
theorem op_le : OpR X (compareOp .LtE) (rI0 fun i j => .bl (decide (i ≤ j))) := opB0 fun _ _ _ _ _ _ _ q => le_int q
theorem op_gt : OpR X (compareOp .Gt) (rI0 fun i j => .bl (decide (j < i))) := opB0 fun _ _ _ _ _ _ _ q => gt_int q
theorem op_ge : OpR X (compareOp .GtE) (rI0 fun i j => .bl (decide (j ≤ i))) := opB0 fun _ _ _ _ _ _ _ q => ge_int q
theorem nomark (b : Expr) {op : CmpOp} (h : op ≠ .In := by decide) (h2 : op ≠ .NotIn := by decide) : behindInMarks op b = false := by
  have e1 : (op == CmpOp.In) = false := by cases op <;> first | rfl | exact absurd rfl h
  have e2 : (op == CmpOp.NotIn) = false := by cases op <;> first | rfl | exact absurd rfl h2
  cases b <;> simp [behindInMarks, e1, e2]
theorem pe_cmpR {op : CmpOp} {r : R2} (ho : OpR X (compareOp op) r) (ha : PE X a ta) (hb : PE X b tb) (hm : behindInMarks op b = false) : PE X (.Compare a [op] [b] pos) (tOp r ta tb) := by
  intro pins s σ H Q I h
  exact wpAny_Compare1 (binT ha hb I h fun v u s2 x y H2 I2 rx ry q => ho pins s2 σ H2 x y v u Q I2 rx ry q) hm
def tTest (t : TE) : TT := fun σ H Q => t σ H fun x H' => ∃ k, x = .bl k ∧ Q k H'
theorem pt_cmpR {op : CmpOp} {r : R2} (ho : OpR X (compareOp op) r) (ha : PE X a ta) (hb : PE X b tb) (hm : behindInMarks op b = false) : PT X (.Compare a [op] [b] pos) (tTest (tOp r ta tb)) := by
  intro pins s σ H Q I h
  refine wpAny_isTrue_Compare1 (thn (ha pins s σ H _ I h) fun v s1 ⟨x, H1, I1, r1, q1⟩ => thn (hb pins s1 σ H1 _ I1 q1) fun u s2 ⟨y, H2, I2, r2, q2⟩ =>
    thn (ho pins s2 σ H2 x y v u _ I2 r1 r2 q2) fun c s3 ⟨z, H3, I3, r3, k, e, q3⟩ => ?_) hm
  subst e
  cases r3
  exact wpAny_truthy_bool ⟨H3, I3, q3⟩
theorem line63 : (sizeLine : Nat) < 2 ^ 63 := by rw [sizeLine_eq]; decide
theorem vals1 {x : V} {us : List Value} (r : Vals [x] us) : ∃ u, us = [u] ∧ RelV x u := by
  cases r with
  | cons r1 r2 => cases r2; exact ⟨_, rfl, r1⟩
theorem call_ord : CallR X (.builtin "ord") (fun xs H Q => ∃ x, xs = [.str x] ∧ x.length = 1 ∧ Q (.int (x.cps.getD 0 0 : Nat)) H) := by
  intro pins s σ H xs us Q I r h
  obtain ⟨x, rfl, hz, q⟩ := h
  obtain ⟨u, rfl, t, rfl⟩ := vals1 r
  exact ord_of_one hz ⟨.int _, H, I.tok _, ⟨_, rfl⟩, q⟩
end
end L2
namespace L2
open PySem PySem.Spec PyProof.Rows
structure ObjM (h : Heap) (x dx C : Addr) (mA : Str → Option Value) : Prop where
  obj : h.get? x = some (PySem.W.instObj C dx)
  ns : h.Ns1 dx mA
  ne : dx ≠ x
theorem lookIn_ns {h : Heap} {dx : Addr} {mA : Str → Option Value} (n : h.Ns1 dx mA) : ∃ od, h.get? dx = some od ∧ ∀ name, PySem.W.lookIn name od = some (mA name) := by
  obtain ⟨o, es, ep, ho, hd, hk, _, hm⟩ := n
  refine ⟨o, ho, fun name => ?_⟩
  have e := hm name
  unfold nsFind findBy at e
  rw [← Array.find?_toList] at e
  unfold PySem.W.lookIn
  rw [hd]
  dsimp only
  split
  · rename_i y q
    rw [q] at e
    exact congrArg some e
  · rename_i q
    rw [q] at e
    have a : es.toList.any (·.refKey) = false := by
      rw [List.any_eq_false]
      intro y hy
      obtain ⟨z, t, hkey⟩ := hk y (Array.mem_toList_iff.mp hy)
      simp [DictEntry.refKey, hkey]
    have a' : ¬ es.toList.any (·.refKey) = true := by rw [a]; exact Bool.false_ne_true
    rw [if_neg a']
    exact congrArg some e
theorem ObjM.look {h : Heap} {x dx C : Addr} {mA : Str → Option Value} (I : ObjM h x dx C mA) : ∃ od, PySem.W.InstAt h x (PySem.W.instObj C dx) C (some od) ∧ ∀ name, PySem.W.lookIn name od = some (mA name) :=
  let ⟨od, ho, hl⟩ := lookIn_ns I.ns
  ⟨od, ⟨I.obj, rfl, rfl, ho⟩, hl⟩
section
variable {prog : Program} {w : World} {A : Around} {E : Value → Shared → Prop} {s : Shared} {K : PySem.W.Frag} {x dx C f : Addr} {mA : Str → Option Value} {name : Str} {v : Value}
theorem get_map {expr : Bool} {Q : Value → Shared → Prop} (X : K.In s.heap) (I : ObjM s.heap x dx C mA) (hg : PySem.W.plainGet K C name = true) (hh : PySem.W.hasDictIn K C = true)
    (ha : PySem.W.findIn K (.ref C) name = some none) (hv : mA name = some v) (hv' : PySem.W.handedIn v = true) (h : Q v { s with toks := s.toks + 1 }) :
    wpAny (model prog w) A (getAttr (.ref x) name expr) Q E s := by
  obtain ⟨od, J, hl⟩ := I.look
  exact PySem.W.get_value X J (PySem.W.plainGet_of hg).1 (PySem.W.findObj_own hh ha rfl (by rw [hl, hv])) hv' h
theorem get_meth {pl : Sem Bool} {Q : Value × List Value → Shared → Prop} (X : K.In s.heap) (I : ObjM s.heap x dx C mA) (hg : PySem.W.plainGet K C name = true)
    (hf : PySem.W.findIn K (.ref C) name = some (some (.ref f))) (ht : PySem.W.isFn K (.ref f) = true) (hv : mA name = none) (h : Q (.ref f, [.ref x]) s) :
    wpAny (model prog w) A (getMethod (.ref x) name pl) Q E s := by
  obtain ⟨od, J, hl⟩ := I.look
  exact PySem.W.method_fn X J (PySem.W.plainGet_of hg).1 (PySem.W.plainGet_of hg).2 hf (beq_iff_eq.mp ht) (by show (PySem.W.lookIn name od).map (·.isSome) = some false; rw [hl, hv]; rfl) h
theorem set_map {ns : List Str} {Q : Unit → Shared → Prop} (X : K.In s.heap) (I : ObjM s.heap x dx C mA)
    (hs : PySem.W.findIn K (.ref C) "__setattr__" = some (some (.builtin "object.__setattr__"))) (hp : PySem.W.plainOver K C = true) (ht : PySem.W.takerIn K C name = some none) (hh : PySem.W.hasDictIn K C = true)
    (hw : PySem.Within mA ns) (hsz : ns.length ≤ sizeLine)
    (h : ∀ h', ObjM h' x dx C (fun y => if y = name then some v else mA y) → Heap.SameBut dx s.heap h' → Q () { s with heap := h', toks := s.toks + 2 }) :
    wpAny (model prog w) A (setAttr (.ref x) name v) Q E s := by
  obtain ⟨od, J, hl⟩ := I.look
  refine PySem.W.set_plain X J hs (PySem.W.osa_open (s := { s with toks := s.toks + 1 }) (r := none) X J hp ht fun b => ?_)
  obtain ⟨cd, hc, hd'⟩ := PySem.W.any_some hh
  have hx : s.heap.get? x = some ⟨.ref C, some dx, .plain, #[]⟩ := I.obj
  refine wpAny_bind (wpAny_pure (wpAny_bind (wpAny_bind (wpAny_loadPart hx (wpAny_bind (PySem.W.Looks.here (s := { s with toks := s.toks + 1 }) (PySem.W.looks_clsIn X hc) ?_))))))
  rw [hd']
  refine wpAny_pure (a := some dx) (wpAny_bind (wpAny_pure (wpAny_bind ?_)))
  refine wpAny_nsSet1 (s := { s with toks := s.toks + 1 }) I.ns fun h' hn2 hs2 => ?_
  obtain ⟨oD, esD, epD, hoD, hdD, hcD⟩ := hn2.count (PySem.Within.cons name v hw)
  refine wpAny_bind (wpAny_lookBehind hoD (by rw [hdD]; exact pastItsLine_dict (Nat.le_trans hcD (by rw [List.length_cons]; omega))) ?_)
  exact wpAny_pure (h _ ⟨(hs2.2 _ (Ne.symm I.ne)).trans I.obj, hn2, I.ne⟩ hs2)
theorem make_map {R : Result → Shared → Prop} {vs : List Value} {kw : List (Str × Value)} (X : K.In s.heap) (hm : PySem.W.makesIn K C = true)
    (hi : PySem.W.findIn K (.ref C) "__init__" = some (some (.ref f))) (hf : PySem.W.typeIn K (.ref f) = some (.type "function"))
    (h : codeAny (model prog w) (A.under (.builtin "type.__call__" ⟨.ref C :: vs, kw⟩)) (.call (.ref f) ⟨.ref (s.heap.objs.size + 1) :: vs, kw⟩) (PySem.W.InitBack (s.heap.objs.size + 1) R)
      { s with heap := (s.heap.push PySem.W.emptyDict).push (PySem.W.instObj C s.heap.objs.size) }) :
    codeAny (model prog w) A (.call (.ref C) ⟨vs, kw⟩) R s := by
  obtain ⟨hh, g, d, t, os⟩ := s
  exact PySem.W.make_core (PySem.W.makes_of X hm) (PySem.W.looks_findIn X hi) (fun self => PySem.W.bind_fn X self hf) (.inl rfl) h
end
def putF (f : Str) (v : V) : List (Str × V) → List (Str × V)
  | [] => [(f, v)]
  | (g, x) :: r => if g = f then (g, v) :: r else (g, x) :: putF f v r
theorem lookup_putF (f g : Str) (v : V) : ∀ fs : List (Str × V), (putF f v fs).lookup g = if g = f then some v else fs.lookup g
  | [] => by
    show List.lookup g [(f, v)] = _
    by_cases h : g = f
    · have hb : (g == f) = true := beq_iff_eq.mpr h
      simp only [List.lookup, hb, if_pos h]
    · have hb : (g == f) = false := beq_eq_false_iff_ne.mpr h
      simp only [List.lookup, hb, if_neg h]
  | (k, x) :: r => by
    have ih := lookup_putF f g v r
    rw [show putF f v ((k, x) :: r) = (if k = f then (k, v) :: r else (k, x) :: putF f v r) from rfl]
    by_cases hk : k = f
    · rw [if_pos hk]
      by_cases h : g = k
      · have hb : (g == k) = true := beq_iff_eq.mpr h
        simp only [List.lookup, hb, if_pos (h.trans hk)]
      · have hb : (g == k) = false := beq_eq_false_iff_ne.mpr h
        simp only [List.lookup, hb, if_neg (fun e : g = f => h (e.trans hk.symm))]
    · rw [if_neg hk]
      by_cases h : g = k
      · have hb : (g == k) = true := beq_iff_eq.mpr h
        simp only [List.lookup, hb, if_neg (fun e : g = f => hk (h.symm.trans e))]
      · have hb : (g == k) = false := beq_eq_false_iff_ne.mpr h
        simp only [List.lookup, hb]
        exact ih
theorem keys_putF (f : Str) (v : V) : ∀ fs : List (Str × V), f ∈ (putF f v fs).map (·.1) ∧ ∀ g, g ∈ fs.map (·.1) → g ∈ (putF f v fs).map (·.1)
  | [] => ⟨by simp [putF], fun g h => by simp at h⟩
  | (k, x) :: r => by
    obtain ⟨i1, i2⟩ := keys_putF f v r
    rw [show putF f v ((k, x) :: r) = (if k = f then (k, v) :: r else (k, x) :: putF f v r) from rfl]
    by_cases hk : k = f
    · rw [if_pos hk]
      subst hk
      exact ⟨by simp, fun g h => by simpa using h⟩
    · rw [if_neg hk]
      refine ⟨?_, fun g h => ?_⟩
      · rw [List.map_cons]
        exact List.mem_cons_of_mem _ i1
      · rw [List.map_cons] at h ⊢
        rcases List.mem_cons.mp h with e | e
        · exact List.mem_cons.mpr (.inl e)
        · exact List.mem_cons_of_mem _ (i2 g e)
theorem length_putF (f : Str) (v : V) : ∀ fs : List (Str × V), (putF f v fs).length ≤ fs.length + 1
  | [] => by simp [putF]
  | (k, x) :: r => by
    have ih := length_putF f v r
    rw [show putF f v ((k, x) :: r) = (if k = f then (k, v) :: r else (k, x) :: putF f v r) from rfl]
    by_cases hk : k = f
    · rw [if_pos hk, List.length_cons, List.length_cons]; omega
    · rw [if_neg hk, List.length_cons, List.length_cons]; omega
theorem RelO.some_of {v : V} {o : Option Value} (r : RelO (some v) o) : ∃ u, o = some u ∧ RelV v u := by
  cases o with
  | none => exact (show False from r).elim
  | some u => exact ⟨u, rfl, r⟩
theorem RelO.none_of {o : Option Value} (r : RelO none o) : o = none := by
  cases o with
  | none => rfl
  | some u => exact (show False from r).elim
theorem handed_of {v : V} {u : Value} (r : RelV v u) : PySem.W.handedIn u = true := by
  cases v with
  | non => cases (show u = Value.none from r); rfl
  | bl b => cases (show u = Value.bool b from r); rfl
  | int i => obtain ⟨t, e⟩ := (show ∃ t, u = Value.int i t from r); cases e; rfl
  | str x => obtain ⟨t, e⟩ := (show ∃ t, u = Value.str x t from r); cases e; rfl
  | byt b => obtain ⟨t, e⟩ := (show ∃ t, u = Value.bytes b t from r); cases e; rfl
  | flt b => obtain ⟨t, e⟩ := (show ∃ t, u = Value.float b t from r); cases e; rfl
  | ref a => cases (show u = Value.ref a from r); rfl
  | ty n => cases (show u = Value.type n from r); rfl
section
variable {P : Program} {w : World} {H H' : Hp} {h h' : Heap} {a C dx : Addr} {fs fs' : List (Str × V)}
theorem ins_get (hok : HOk P w H h) (e : H a = some (.ins C dx fs)) : ∃ mA, ObjM h a dx C mA ∧ (∀ f, RelO (fs.lookup f) (mA f)) ∧ PySem.Within mA (fs.map (·.1)) ∧ fs.length ≤ 1000 ∧ H dx = some (.own a) := by
  obtain ⟨d, z, ne, ob, mA, n, r, q⟩ := (show ObjOk P w H h a (.ins C dx fs) from hok a _ e)
  exact ⟨mA, ⟨ob, n, ne⟩, r, q, z, d⟩
end
structure Cls (K : PySem.W.Frag) (C : Addr) : Prop where
  pg : PySem.W.plainGet K C Str.empty = true
  hd : PySem.W.hasDictIn K C = true
  po : PySem.W.plainOver K C = true
  sa : PySem.W.findIn K (.ref C) "__setattr__" = some (some (.builtin "object.__setattr__"))
theorem Cls.get {K : PySem.W.Frag} {C : Addr} (c : Cls K C) (f : Str) : PySem.W.plainGet K C f = true := c.pg
def NoAttr (K : PySem.W.Frag) (C : Addr) (f : Str) : Prop := PySem.W.findIn K (.ref C) f = some none
theorem NoAttr.taker {K : PySem.W.Frag} {C : Addr} {f : Str} (n : NoAttr K C f) : PySem.W.takerIn K C f = some none := by
  unfold PySem.W.takerIn
  rw [show PySem.W.findIn K (.ref C) f = some none from n]
  rfl
structure Meth (K : PySem.W.Frag) (C : Addr) (m : Str) (f : Addr) : Prop where
  at_ : PySem.W.findIn K (.ref C) m = some (some (.ref f))
  fn : PySem.W.isFn K (.ref f) = true
  kp : PySem.W.keepIn K (.ref f) = true
section
variable {X : Cx} {pins : List (Addr × Obj)} {σ : St} {H : Hp} {s : Shared} {a C dx : Addr} {fs : List (Str × V)} {f : Str} {v : V} {A : Around} {E : Value → Shared → Prop}
theorem getattr_ok {b : Bool} {Q : Value → Shared → Prop} (I : Inv X pins σ H s) (e : H a = some (.ins C dx fs)) (c : Cls X.K C) (n : NoAttr X.K C f) (l : fs.lookup f = some v)
    (h : ∀ u s', Inv X pins σ H s' → RelV v u → Q u s') : wpAny (model X.prog X.w) A (getAttr (.ref a) f b) Q E s := by
  obtain ⟨mA, O, r, _, _, _⟩ := ins_get I.hok e
  obtain ⟨u, hu, ru⟩ := RelO.some_of (v := v) (o := mA f) (by rw [← l]; exact r f)
  exact get_map I.kIn O (c.get f) c.hd n hu (handed_of ru) (h u _ (I.tok _) ru)
theorem getmeth_ok {m : Str} {g : Addr} {pl : Sem Bool} {Q : Value × List Value → Shared → Prop} (I : Inv X pins σ H s) (e : H a = some (.ins C dx fs)) (c : Cls X.K C) (k : Meth X.K C m g) (l : fs.lookup m = none)
    (h : Q (.ref g, [.ref a]) s) : wpAny (model X.prog X.w) A (getMethod (.ref a) m pl) Q E s := by
  obtain ⟨mA, O, r, _, _, _⟩ := ins_get I.hok e
  have hn : mA m = none := RelO.none_of (by rw [← l]; exact r m)
  exact get_meth I.kIn O (c.get m) k.at_ k.fn hn h
theorem setattr_ok {y : V} {u : Value} {Q : Unit → Shared → Prop} (I : Inv X pins σ H s) (e : H a = some (.ins C dx fs)) (c : Cls X.K C) (n : NoAttr X.K C f) (hl : fs.length < 1000) (ry : RelV y u)
    (h : ∀ s', Inv X pins σ (upd H a (.ins C dx (putF f y fs))) s' → Q () s') : wpAny (model X.prog X.w) A (setAttr (.ref a) f u) Q E s := by
  obtain ⟨mA, O, r, wi, _, ho⟩ := ins_get I.hok e
  have hz : (fs.map (·.1)).length ≤ sizeLine := by rw [List.length_map, sizeLine_eq]; omega
  refine set_map I.kIn O c.sa c.po n.taker c.hd wi hz fun h' O' sb => h _ ?_
  have hd : ∃ o, h'.get? dx = some o := let ⟨o, _, _, e', _⟩ := O'.ns; ⟨o, e'⟩
  refine I.write (x := a) (e := dx) (by rw [e]; exact True.intro) (.inr ho) (fun b q hb z => (sb.2 b hb).trans z) hd ?_
  refine ⟨by rw [upd_ne O.ne]; exact ho, ?_, O.ne, O'.obj, _, O'.ns, fun g => ?_, fun g hg => ?_⟩
  · have := length_putF f y fs; omega
  · show RelO ((putF f y fs).lookup g) (if g = f then some u else mA g)
    rw [lookup_putF]
    by_cases q : g = f
    · rw [if_pos q, if_pos q]; exact ry
    · rw [if_neg q, if_neg q]; exact r g
  · by_cases q : g = f
    · rw [q]; exact (keys_putF f y fs).1
    · refine (keys_putF f y fs).2 g (wi g fun z => hg ?_)
      show (if g = f then some u else mA g) = none
      rw [if_neg q]; exact z
theorem Inv.made (I : Inv X pins σ H s) : Inv X pins σ (upd (upd H s.heap.objs.size (.own (s.heap.objs.size + 1))) (s.heap.objs.size + 1) (.ins C s.heap.objs.size []))
    { s with heap := (s.heap.push PySem.W.emptyDict).push (PySem.W.instObj C s.heap.objs.size) } := by
  have e1 : (s.heap.push PySem.W.emptyDict).get? s.heap.objs.size = some PySem.W.emptyDict := Heap.get?_push_size s.heap rfl
  have e2 : ((s.heap.push PySem.W.emptyDict).push (PySem.W.instObj C s.heap.objs.size)).get? (s.heap.objs.size + 1) = some (PySem.W.instObj C s.heap.objs.size) := by
    have := Heap.get?_push_size (s.heap.push PySem.W.emptyDict) (o := PySem.W.instObj C s.heap.objs.size) rfl
    rwa [Heap.size_push] at this
  have e3 : (s.heap.push PySem.W.emptyDict).Ns s.heap.objs.size (fun _ => none) := ⟨PySem.W.emptyDict, #[], _, e1, rfl, (fun e he => absurd he (by simp)), fun _ => rfl⟩
  have I1 := I.laid (a := s.heap.objs.size) (o := .own (s.heap.objs.size + 1)) (h' := s.heap.push PySem.W.emptyDict) (t' := s.toks) (fun b u q => Heap.get?_push_of_some _ q) (Nat.le_refl _) ⟨_, e1⟩
  refine I1.laid (a := s.heap.objs.size + 1) (o := .ins C s.heap.objs.size []) (t' := s.toks) (fun b u q => Heap.get?_push_of_some _ q) (Nat.le_of_eq (Heap.size_push _ _)) ?_
  have ne : s.heap.objs.size ≠ s.heap.objs.size + 1 := Nat.ne_of_lt (Nat.lt_succ_self _)
  refine ⟨by rw [upd_ne ne, upd_same], Nat.zero_le _, ne, e2, fun _ => none, (Heap.Ns1.of_empty e3).at fun o q => Heap.get?_push_of_some _ q, fun _ => True.intro, fun y hy => absurd rfl hy⟩
theorem attr_of {prog : Program} {w : World} {env : Env} {e : Expr} {f : Str} {pos : Pos} {s : Shared} {Q : Value → Shared → Prop} (hb : attributeBase e f env (eval e env) = eval e env)
    (h : wpAny (model prog w) A (eval e env) (fun o s₁ => wpAny (model prog w) A (getAttr o f true) Q E s₁) E s) : wpAny (model prog w) A (eval (.Attribute e f pos) env) Q E s :=
  Attribute_any_ h (by rw [arm_eval_Attribute, hb])
end
def tFld (K : PySem.W.Frag) (ta : TE) (f : Str) : TE := fun σ H Q => ta σ H fun x H1 => ∃ a C dx fs v, x = .ref a ∧ H1 a = some (.ins C dx fs) ∧ Cls K C ∧ NoAttr K C f ∧ fs.lookup f = some v ∧ Q v H1
def sFld (K : PySem.W.Frag) (ta tv : TE) (f : Str) : TS := fun D σ H => tv σ H fun y H1 => ta σ H1 fun x H2 => ∃ a C dx fs, x = .ref a ∧ H2 a = some (.ins C dx fs) ∧ Cls K C ∧ NoAttr K C f ∧ fs.length < 1000 ∧
  D.nx σ (upd H2 a (.ins C dx (putF f y fs)))
def InOp (X : Cx) (op : Operator) (rd : V → V → Hp → VK → Prop) : Prop :=
  ∀ (pins : List (Addr × Obj)) (s : Shared) (σ : St) (H : Hp) (x y : V) (u v : Value) (Q : VK), Inv X pins σ H s → RelV x u → RelV y v → rd x y H Q → wpAny (model X.prog X.w) X.A (inplaceOp op u v) (EP X pins σ Q) X.xe s
section
variable {X : Cx} {o e value : Expr} {f : Str} {pos pos' tpos : Pos} {ta tv : TE}
theorem pe_fld (he : PE X e ta) (hb : attributeBase e f X.env (eval e X.env) = eval e X.env) : PE X (.Attribute e f pos) (tFld X.K ta f) := by
  intro pins s σ H Q I h
  refine attr_of hb (thn (he pins s σ H _ I h) fun u s1 ⟨x, H1, I1, rx, a, C, dx, fs, v, ex, ea, c, n, l, q⟩ => ?_)
  subst ex
  obtain rfl : u = Value.ref a := rx
  exact getattr_ok I1 ea c n l fun u' s2 I2 ru => ⟨v, H1, I2, ru, q⟩
theorem ps_fld (ha : PE X o ta) (hv : PE X value tv) (hs : swapsWith value (some (.Attribute o f pos')) pos.line X.env = pure false) : PS X (.Assign [.Attribute o f pos'] value pos) (sFld X.K ta tv f) := by
  intro pins s σ H D I h
  refine plainObj_wpAny_Assign_Attribute (thn (hv pins s σ H _ I h) fun u s1 ⟨y, H1, I1, ry, q⟩ => thn (ha pins s1 σ H1 _ I1 q) fun ov s2 ⟨x, H2, I2, rx, a, C, dx, fs, ex, ea, c, n, l, q2⟩ => ?_) hs
  subst ex
  obtain rfl : ov = Value.ref a := rx
  exact setattr_ok I2 ea c n l ry fun s3 I3 => ⟨σ, _, I3, q2⟩
def rAdd : V → V → Hp → VK → Prop := fun x y H Q => ∃ i j, x = .int i ∧ y = .int j ∧ Q (.int (i + j)) H
def rSub : V → V → Hp → VK → Prop := fun x y H Q => ∃ i j, x = .int i ∧ y = .int j ∧ Q (.int (i - j)) H
theorem in_add : InOp X .Add rAdd := by
  rintro pins s σ H x y u v Q I rx ry ⟨i, j, rfl, rfl, q⟩
  obtain ⟨t, rfl⟩ := (show ∃ t, u = Value.int i t from rx)
  obtain ⟨t', rfl⟩ := (show ∃ t', v = Value.int j t' from ry)
  exact PyProof.Rows.iadd_int ⟨.int (i + j), H, I.tok _, ⟨_, rfl⟩, q⟩
theorem in_sub : InOp X .Sub rSub := by
  rintro pins s σ H x y u v Q I rx ry ⟨i, j, rfl, rfl, q⟩
  obtain ⟨t, rfl⟩ := (show ∃ t, u = Value.int i t from rx)
  obtain ⟨t', rfl⟩ := (show ∃ t', v = Value.int j t' from ry)
  exact PyProof.Rows.isub_int ⟨.int (i - j), H, I.tok _, ⟨_, rfl⟩, q⟩
end
end L2
namespace L2
open PySem PySem.Spec PyProof.Rows
structure Room (k : Nat) (A : Around) : Prop where
  hd : A.handled = none
  dp : A.depth + 3 * k + 5 < recursionLimit
  un : A.units + 16 * k + 200 < cLine
theorem Room.mono {j k : Nat} {A : Around} (r : Room k A) (h : j ≤ k) : Room j A := ⟨r.hd, by have := r.dp; omega, by have := r.un; omega⟩
theorem Room.deeper {k : Nat} {A : Around} (r : Room (k + 1) A) (env : Env) : Room k (A.deeper env) :=
  ⟨r.hd, by have := r.dp; show A.depth + 1 + 3 * k + 5 < _; omega, by have := r.un; show A.units + 3 + 16 * k + 200 < _; omega⟩
theorem make_depth {A : Around} {C : Addr} {us : List Value} {kw : List (Str × Value)} : (A.under (.builtin "type.__call__" ⟨.ref C :: us, kw⟩)).depth = A.depth + 1 := by
  first | rfl | simp [Around.under, Code.weight, Code.isCreation, Code.isGuard, Code.isCaller, Code.frames, Code.isFrame, guardIds]
theorem make_units {A : Around} {C : Addr} {us : List Value} {kw : List (Str × Value)} : (A.under (.builtin "type.__call__" ⟨.ref C :: us, kw⟩)).units = A.units + 1 := by
  first | rfl | simp [Around.under, Code.cUnits, Code.frames, Code.isFrame]
theorem Room.make {k : Nat} {A : Around} (r : Room (k + 1) A) (C : Addr) (us : List Value) (kw : List (Str × Value)) : Room k (A.under (.builtin "type.__call__" ⟨.ref C :: us, kw⟩)) :=
  ⟨r.hd, by have := r.dp; rw [make_depth]; omega, by have := r.un; rw [make_units]; omega⟩
theorem Room.depth {k : Nat} {A : Around} (r : Room k A) : A.depth < recursionLimit := by have := r.dp; omega
theorem Room.units {k : Nat} {A : Around} (r : Room k A) : A.units + 64 < cLine := by have := r.un; omega
def tNil : TA := fun _ H Q => Q [] H
def tCons (ta : TE) (tr : TA) : TA := fun σ H Q => ta σ H fun x H1 => tr σ H1 fun xs H2 => Q (x :: xs) H2
section
variable {X : Cx} {e : Expr} {es : List Expr} {te : TE} {t : TA} {pos : Pos}
theorem pa_nil : PA X [] tNil := fun _ _ _ _ H Q I h => Calls.spliced_nil ⟨[], H, I, .nil, h⟩
theorem pa_cons (ha : PE X e te) (hr : PA X es t) (hs : starEach (e :: es) X.env = (false, eval e X.env) :: starEach es X.env := by rfl) : PA X (e :: es) (tCons te t) := by
  intro pos pins s σ H Q I h
  rw [hs]
  show wpAny _ _ (spliced ((false, eval e X.env) :: backTo pos (starEach es X.env))) _ _ s
  refine Calls.spliced_cons (thn (ha pins s σ H _ I h) fun u s1 ⟨x, H1, I1, r1, q1⟩ => ?_)
  exact thn (hr pos pins s1 σ H1 _ I1 q1) fun us s2 ⟨xs, H2, I2, r2, q2⟩ => ⟨x :: xs, H2, I2, .cons r1 r2, q2⟩
def tTup (t : TA) : TE := fun σ H Q => t σ H fun xs H1 => xs.length ≤ sizeLine ∧ ∀ p, H1 p = none → Q (.ref p) (upd H1 p (.tup xs))
def tLst (t : TA) : TE := fun σ H Q => t σ H fun xs H1 => xs.length ≤ sizeLine ∧ ∀ p, H1 p = none → Q (.ref p) (upd H1 p (.lst xs))
theorem pe_tup {x1} (h : PA X es t) : PE X (.Tuple es x1 pos) (tTup t) := by
  intro pins s σ H Q I hq
  refine wpAny_Tuple_spliced (thn (h pos pins s σ H _ I hq) fun us s1 ⟨xs, H1, I1, r, z, q⟩ => ⟨by rw [← r.length]; exact z, ?_⟩)
  have hf : H1 s1.heap.objs.size = none := I1.hok.fresh (Nat.le_refl _)
  refine ⟨.ref s1.heap.objs.size, upd H1 s1.heap.objs.size (.tup xs), I1.laid (t' := s1.toks) (fun b u e => Heap.get?_push_of_some _ e) (Nat.le_refl _) ?_, rfl, q _ hf⟩
  exact ⟨z, us, r, ⟨_, Heap.get?_push_size _ rfl, rfl, _, rfl⟩⟩
theorem pe_lst (h : PA X es t) : PE X (.List es pos) (tLst t) := by
  intro pins s σ H Q I hq
  refine wpAny_List_spliced (thn (h pos pins s σ H _ I hq) fun us s1 ⟨xs, H1, I1, r, z, q⟩ => ⟨by rw [← r.length]; exact z, ?_⟩)
  have hf : H1 s1.heap.objs.size = none := I1.hok.fresh (Nat.le_refl _)
  refine ⟨.ref s1.heap.objs.size, upd H1 s1.heap.objs.size (.lst xs), I1.laid (t' := s1.toks) (fun b u e => Heap.get?_push_of_some _ e) (Nat.le_refl _) ?_, rfl, q _ hf⟩
  exact ⟨z, us, 0, r, Heap.get?_push_size _ rfl⟩
end
abbrev Sp := List V → Hp → VK → XK → Prop
abbrev CXT := List Env → Hp → Shared → XK → Value → Shared → Prop
structure Env0 (P : Program) (w : World) (K : PySem.W.Frag) (mg : Str → Option Value) (base : Heap) (A : Around) (outer : List Env) (s : Shared) (H : Hp) : Prop where
  frames : A.frames = some outer
  mod : Mod K mg base
  bs : ∀ b o, base.get? b = some o → s.heap.get? b = some o ∧ H b = none
  bsz : base.objs.size ≤ s.heap.objs.size
  funs : s.heap.FunFrames base outer
  frf : ∀ b ∈ frs outer, H b = none
  hok : HOk P w H s.heap
  bare : AllBare s.gens
def CE (outer : List Env) (P : Program) (w : World) (H : Hp) (s : Shared) (Q : VK) (u : Value) (s' : Shared) : Prop :=
  ∃ v H', s'.os = s.os ∧ AllBare s'.gens ∧ Un (frs outer) [] H H' s.heap s'.heap ∧ HOk P w H' s'.heap ∧ RelV v u ∧ Q v H'
def CR (CX : CXT) (outer : List Env) (P : Program) (w : World) (H : Hp) (s : Shared) (Q : VK) (E : XK) (r : Result) (s' : Shared) : Prop :=
  match r with
  | .ok (.ret u) => CE outer P w H s Q u s'
  | .ok _ => False
  | .error e => CX outer H s E e s'
structure FnOk (P : Program) (w : World) (K : PySem.W.Frag) (mg : Str → Option Value) (base : Heap) (CX : CXT) (k : Nat) (f : Addr) (fd : FuncData) (ps : List Str) (sp : Sp) : Prop where
  len : ∀ vs H Q E, sp vs H Q E → vs.length = ps.length
  run : ∀ (A : Around) (outer : List Env) (s : Shared) (H : Hp) (args : Args) (us : List Value) (vs : List V) (Q : VK) (E : XK), Room k A → Env0 P w K mg base A outer s H → BindsTo s fd args (ps.zip us) → Vals vs us → sp vs H Q E →
    codeAny (model P w) A (.call (.ref f) args) (CR CX outer P w H s Q E) s
theorem Env0.make {P : Program} {w : World} {K : PySem.W.Frag} {mg : Str → Option Value} {base : Heap} {A : Around} {outer : List Env} {s : Shared} {H : Hp} (e : Env0 P w K mg base A outer s H) (C : Addr) (us : List Value) (kw : List (Str × Value)) :
    Env0 P w K mg base (A.under (.builtin "type.__call__" ⟨.ref C :: us, kw⟩)) outer s H := ⟨by first | exact e.frames | (simpa [Around.under, Code.envs, Code.isFrame, pushEnvs] using e.frames), e.mod, e.bs, e.bsz, e.funs, e.frf, e.hok, e.bare⟩
section
variable {X : Cx} {pins : List (Addr × Obj)} {σ : St} {H : Hp} {s s' : Shared}
theorem Inv.env0 (I : Inv X pins σ H s) : Env0 X.prog X.w X.K X.mg X.base X.A X.stack s H :=
  ⟨I.ok.frames, I.ok.mod, I.bs, Nat.le_trans I.ok.bsz I.sz, I.stack, I.stkFree, I.hok, I.bare⟩
theorem Inv.after {Q : VK} {u : Value} (I : Inv X pins σ H s) (h : CE X.stack X.prog X.w H s Q u s') : EP X pins σ Q u s' := by
  obtain ⟨v, H', os, bare, un, hok, r, q⟩ := h
  obtain ⟨hh, g, d, t, os'⟩ := s'
  obtain rfl : os' = s.os := os
  exact ⟨v, H', I.call (h' := hh) (g' := g) (d' := d) (t' := t) (ch := []) un hok bare (fun b z => absurd z (by simp)), r, q⟩
end
def tCall (sp : Sp) (dvs : List V) (E : XK) (t : TA) : TE := fun σ H Q => t σ H fun vs H1 => sp (vs ++ dvs) H1 Q E
def tMeth (C : Addr) (m : Str) (sp : Sp) (dvs : List V) (E : XK) (ta : TE) (t : TA) : TE := fun σ H Q => ta σ H fun x H1 => ∃ a dx fs, x = .ref a ∧ H1 a = some (.ins C dx fs) ∧ fs.lookup m = none ∧
  t σ H1 fun vs H2 => sp (x :: (vs ++ dvs)) H2 Q E
def tMake (C : Addr) (sp : Sp) (dvs : List V) (E : XK) (t : TA) : TE := fun σ H Q => t σ H fun vs H1 => ∀ x dx, H1 x = none → H1 dx = none → dx ≠ x →
  sp (.ref x :: (vs ++ dvs)) (upd (upd H1 dx (.own x)) x (.ins C dx [])) (fun v H2 => v = .non ∧ Q (.ref x) H2) E
def Binds (K : PySem.W.Frag) (fd : FuncData) (ps : List Str) (ds : List Value) : Prop :=
  ∀ (s : Shared) (us : List Value), K.In s.heap → (us ++ ds).length = ps.length → BindsTo s fd ⟨us, []⟩ (ps.zip (us ++ ds))
theorem Binds.all {K : PySem.W.Frag} {fd : FuncData} {ps : List Str} (h : ∀ us : List Value, us.length = ps.length → bindArgs fd ⟨us, []⟩ = pure (ps.zip us)) : Binds K fd ps [] := fun s us _ hl => by
  rw [List.append_nil] at hl ⊢
  exact .of_eq (h us hl)
def Passes (CX : CXT) (X : Cx) (E : XK) : Prop := ∀ (pins : List (Addr × Obj)) (σ : St) (H : Hp) (s : Shared) (e : Value) (s' : Shared), Inv X pins σ H s → CX X.stack H s E e s' → X.xe e s'
section
variable {X : Cx} {CX : CXT} {k : Nat} {f C : Addr} {fd : FuncData} {ps : List Str} {sp : Sp} {dvs : List V} {ds : List Value} {E : XK} {x m : Str} {p pos apos : Pos} {e o : Expr} {es : List Expr} {ta : TE} {t : TA}
theorem run_fn {pins : List (Addr × Obj)} {σ : St} {H : Hp} {s : Shared} {Q : VK} {us : List Value} {vs : List V} (F : FnOk X.prog X.w X.K X.mg X.base CX k f fd ps sp) (hr : Room k X.A) (hb : Binds X.K fd ps ds) (hd : Vals dvs ds) (hx : Passes CX X E)
    (I : Inv X pins σ H s) (r : Vals vs us) (h : sp (vs ++ dvs) H Q E) : wpAny (model X.prog X.w) X.A (call (.ref f) us) (EP X pins σ Q) X.xe s := by
  have r2 : Vals (vs ++ dvs) (us ++ ds) := r.append hd
  have hl : (us ++ ds).length = ps.length := by rw [← r2.length]; exact F.len _ _ _ _ h
  refine wpAny_call (codeAny_mono (F.run X.A X.stack s H ⟨us, []⟩ (us ++ ds) (vs ++ dvs) Q E hr I.env0 (hb s us I.kIn hl) r2 h) fun r s' hq => ?_)
  cases r with
  | error e => exact hx pins σ H s e s' I hq
  | ok fl =>
    cases fl with
    | ret u => exact I.after hq
    | next => exact False.elim hq
    | brk => exact False.elim hq
    | cont => exact False.elim hq
theorem pe_call (F : FnOk X.prog X.w X.K X.mg X.base CX k f fd ps sp) (hr : Room k X.A) (hg : Gl X x) (hm : X.mg x = some (.ref f)) (hk : PySem.W.keepIn X.K (.ref f) = true) (hb : Binds X.K fd ps ds) (hd : Vals dvs ds) (hx : Passes CX X E)
    (ha : PA X (e :: es) t) (hdb : (x == ("__debug__" : Str)) = false := by decide) (he : starEach (e :: es) X.env = (false, eval e X.env) :: starEach es X.env := by rfl) (hpl : (backTo pos (starEach es X.env)).any (·.1) = false := by rfl) :
    PE X (.Call (.Name x p) (e :: es) [] pos) (tCall sp dvs E t) := by
  intro pins s σ H Q I h
  refine wpAny_Call_Name_kw (ld_glob I hg hm ?_ hdb)
  refine PySem.W.callWith_K (h₀ := X.base) I.ok.mod.kin hk (thn (ha pos pins s σ H _ I h) fun us s1 ⟨vs, H1, I1, r, q⟩ => ⟨I1.kIn, ?_⟩) he hpl
  exact run_fn F hr hb hd hx I1 r q
theorem pe_meth {pl : Sem Bool} (he : PE X o ta) (c : Cls X.K C) (hm : Meth X.K C m f) (F : FnOk X.prog X.w X.K X.mg X.base CX k f fd ps sp) (hr : Room k X.A) (hb : Binds X.K fd ps ds) (hd : Vals dvs ds) (hx : Passes CX X E) (ha : PA X (e :: es) t)
    (hst : starEach (e :: es) X.env = (false, eval e X.env) :: starEach es X.env := by rfl) (hpl : (backTo pos (starEach es X.env)).any (·.1) = false := by rfl)
    (ht : eval (.Call (.Attribute o m apos) (e :: es) [] pos) X.env = (do
      let ov ← eval o X.env
      standAt apos.atName
      let (f, first) ← holding [ov] (getMethod ov m pl)
      callWith pos f first (backTo pos (starEach (e :: es) X.env)) (backToKw pos (keywordEach [] X.env))) := by rfl) :
    PE X (.Call (.Attribute o m apos) (e :: es) [] pos) (tMeth C m sp dvs E ta t) := by
  intro pins s σ H Q I h
  refine PySem.W.methodCall_KW (pl := pl) (thn (he pins s σ H _ I h) fun u s1 ⟨x, H1, I1, rx, a, dx, fs, ex, ea, l, q⟩ => ?_) ht
  subst ex
  obtain rfl : u = Value.ref a := rx
  refine getmeth_ok I1 ea c hm l ?_
  refine PySem.W.callWith_K (first := [.ref a]) (h₀ := X.base) I.ok.mod.kin hm.kp (thn (ha pos pins s1 σ H1 _ I1 q) fun us s2 ⟨vs, H2, I2, r, q2⟩ => ⟨I2.kIn, ?_⟩) hst hpl
  exact run_fn (us := .ref a :: us) (vs := .ref a :: vs) F hr hb hd hx I2 (.cons rfl r) q2
theorem pe_meth0 {pl : Sem Bool} (he : PE X o ta) (c : Cls X.K C) (hm : Meth X.K C m f) (F : FnOk X.prog X.w X.K X.mg X.base CX k f fd ps sp) (hr : Room k X.A) (hb : Binds X.K fd ps ds) (hd : Vals dvs ds) (hx : Passes CX X E)
    (ht : eval (.Call (.Attribute o m apos) [] [] pos) X.env = (do
      let ov ← eval o X.env
      standAt apos.atName
      let (f, first) ← holding [ov] (getMethod ov m pl)
      callWith pos f first (backTo pos (starEach [] X.env)) (backToKw pos (keywordEach [] X.env))) := by rfl) :
    PE X (.Call (.Attribute o m apos) [] [] pos) (tMeth C m sp dvs E ta tNil) := by
  intro pins s σ H Q I h
  refine PySem.W.methodCall_KW (pl := pl) (thn (he pins s σ H _ I h) fun u s1 ⟨x, H1, I1, rx, a, dx, fs, ex, ea, l, q⟩ => ?_) ht
  subst ex
  obtain rfl : u = Value.ref a := rx
  refine getmeth_ok I1 ea c hm l ?_
  exact PySem.W.callWith_K0 (first := [.ref a]) I1.kIn hm.kp (run_fn (us := [.ref a]) (vs := [.ref a]) F hr hb hd hx I1 (.cons rfl .nil) q)
structure Mk (K : PySem.W.Frag) (C f : Addr) : Prop where
  makes : PySem.W.makesIn K C = true
  init : PySem.W.findIn K (.ref C) "__init__" = some (some (.ref f))
  fn : PySem.W.isFn K (.ref f) = true
  kp : PySem.W.keepIn K (.ref C) = true
theorem run_make {pins : List (Addr × Obj)} {σ : St} {H : Hp} {s : Shared} {Q : VK} {us : List Value} {vs : List V} (M : Mk X.K C f) (F : FnOk X.prog X.w X.K X.mg X.base CX k f fd ps sp) (hr : Room (k + 1) X.A) (hb : Binds X.K fd ps ds) (hd : Vals dvs ds)
    (hx : Passes CX X E) (I : Inv X pins σ H s) (r : Vals vs us)
    (h : ∀ x dx, H x = none → H dx = none → dx ≠ x → sp (.ref x :: (vs ++ dvs)) (upd (upd H dx (.own x)) x (.ins C dx [])) (fun v H2 => v = .non ∧ Q (.ref x) H2) E) :
    wpAny (model X.prog X.w) X.A (call (.ref C) us) (EP X pins σ Q) X.xe s := by
  have hq := h (s.heap.objs.size + 1) s.heap.objs.size (I.hok.fresh (Nat.le_succ _)) (I.hok.fresh (Nat.le_refl _)) (Nat.ne_of_lt (Nat.lt_succ_self _))
  have I2 := Inv.made (C := C) I
  have r2 : Vals (V.ref (s.heap.objs.size + 1) :: (vs ++ dvs)) (Value.ref (s.heap.objs.size + 1) :: (us ++ ds)) := .cons rfl (r.append hd)
  have hl : (Value.ref (s.heap.objs.size + 1) :: us ++ ds).length = ps.length := by
    have e := r2.length
    rw [F.len _ _ _ _ hq] at e
    exact e.symm
  refine wpAny_call (make_map (f := f) I.kIn M.makes M.init (beq_iff_eq.mp M.fn) (codeAny_mono (F.run _ X.stack _ _ ⟨Value.ref (s.heap.objs.size + 1) :: us, []⟩ (Value.ref (s.heap.objs.size + 1) :: (us ++ ds)) _ _ E (hr.make C us [])
    (I2.env0.make C us []) (hb _ (Value.ref (s.heap.objs.size + 1) :: us) I2.kIn hl) r2 hq) fun r s' hq' => ?_))
  cases r with
  | error e => exact hx pins σ _ _ e s' I2 hq'
  | ok fl =>
    cases fl with
    | ret u =>
      obtain ⟨v, H', I3, rv, ev, q3⟩ := I2.after hq'
      subst ev
      exact ⟨rv, ⟨V.ref (s.heap.objs.size + 1), H', I3, rfl, q3⟩⟩
    | next => exact False.elim hq'
    | brk => exact False.elim hq'
    | cont => exact False.elim hq'
theorem pe_make (M : Mk X.K C f) (F : FnOk X.prog X.w X.K X.mg X.base CX k f fd ps sp) (hr : Room (k + 1) X.A) (hg : Gl X x) (hm : X.mg x = some (.ref C)) (hb : Binds X.K fd ps ds) (hd : Vals dvs ds) (hx : Passes CX X E)
    (ha : PA X (e :: es) t) (hdb : (x == ("__debug__" : Str)) = false := by decide) (he : starEach (e :: es) X.env = (false, eval e X.env) :: starEach es X.env := by rfl) (hpl : (backTo pos (starEach es X.env)).any (·.1) = false := by rfl) :
    PE X (.Call (.Name x p) (e :: es) [] pos) (tMake C sp dvs E t) := by
  intro pins s σ H Q I h
  refine wpAny_Call_Name_kw (ld_glob I hg hm ?_ hdb)
  refine PySem.W.callWith_K (h₀ := X.base) I.ok.mod.kin M.kp (thn (ha pos pins s σ H _ I h) fun us s1 ⟨vs, H1, I1, r, q⟩ => ⟨I1.kIn, ?_⟩) he hpl
  exact run_make M F hr hb hd hx I1 r q
end
def PK (X : Cx) (kws : List Keyword) (t : TA) : Prop :=
  ∀ (pos : Pos) (pins : List (Addr × Obj)) (s : Shared) (σ : St) (H : Hp) (Q : List V → Hp → Prop), Inv X pins σ H s → t σ H Q → wpAny (model X.prog X.w) X.A (evalAll ((backToKw pos (keywordEach kws X.env)).map (·.2))) (AP X pins σ Q) X.xe s
section
variable {X : Cx} {CX : CXT} {k : Nat} {f C : Addr} {fd : FuncData} {ps ks : List Str} {sp : Sp} {E : XK} {x m : Str} {p pos apos kpos : Pos} {e o : Expr} {es : List Expr} {kws : List Keyword} {te ta : TE} {t tk : TA} {nm : Option Str}
theorem pk_nil : PK X [] tNil := fun _ _ _ _ H Q I h => wpAny_evalAll_nil ⟨[], H, I, .nil, h⟩
theorem pk_cons (ha : PE X e te) (hr : PK X kws t) : PK X (⟨nm, e, kpos⟩ :: kws) (tCons te t) := by
  intro pos pins s σ H Q I h
  show wpAny _ _ (evalAll ((do let v ← eval e X.env; standAt pos; pure v) :: (backToKw pos (keywordEach kws X.env)).map (·.2))) _ _ s
  refine wpAny_evalAll_cons (wpAny_bind (thn (ha pins s σ H _ I h) fun u s1 ⟨x, H1, I1, r1, q1⟩ => wpAny_bind (wpAny_standAt (wpAny_pure ?_))))
  exact thn (hr pos pins s1 σ H1 _ I1 q1) fun us s2 ⟨xs, H2, I2, r2, q2⟩ => ⟨x :: xs, H2, I2, .cons r1 r2, q2⟩
variable {g : List Value → List Value → List Value} {gV : List V → List V → List V}
end
structure FnScope (N P : List Str) (sc : Scope) : Prop where
  kind : sc.kind = .function
  co : sc.isCoroutine = false
  gen : sc.isGenerator = false
  nd : N.Nodup
  pre : N.take P.length = P
  par : ∀ x ∈ P, sc.names.lookup x = some .local ∨ sc.names.lookup x = some .cell
  nofree : ∀ y ∈ sc.names, y.2 ≠ .free
theorem bindL_out {kindOf : Str → Option NameKind} {x : Str} : ∀ {binds : List (Str × Value)} {m : Str → Option Value}, (∀ v, (x, v) ∉ binds) → bindL kindOf binds m x = m x
  | [], _, _ => rfl
  | (n, v) :: r, m, h => by
    unfold bindL
    rw [bindL_out fun w hw => h w (List.mem_cons_of_mem _ hw)]
    split
    · have : x ≠ n := by rintro rfl; exact h v List.mem_cons_self
      simp [this]
    · rfl
theorem bindC_out {kindOf : Str → Option NameKind} {x : Str} : ∀ {binds : List (Str × Value)} {m : Str → Option Value}, (∀ v, (x, v) ∉ binds) → bindC kindOf binds m x = m x
  | [], _, _ => rfl
  | (n, v) :: r, m, h => by
    unfold bindC
    rw [bindC_out fun w hw => h w (List.mem_cons_of_mem _ hw)]
    split
    · rfl
    · have : x ≠ n := by rintro rfl; exact h v List.mem_cons_self
      simp [this]
theorem bindL_get {kindOf : Str → Option NameKind} {x : Str} {v : Value} : ∀ {P : List Str} {vs : List Value} {i : Nat} {m : Str → Option Value}, P.Nodup → P[i]? = some x → vs[i]? = some v → kindOf x = some .local →
    bindL kindOf (P.zip vs) m x = some v
  | [], _, _, _, _, h, _, _ => by simp at h
  | _ :: _, [], _, _, _, _, h, _ => by simp at h
  | p :: P, w :: vs, 0, m, nd, h1, h2, hk => by
    simp at h1 h2; subst h1; subst h2
    show bindL kindOf ((p, w) :: P.zip vs) m p = _
    unfold bindL
    rw [bindL_out fun v hv => (List.nodup_cons.mp nd).1 (List.of_mem_zip hv).1, if_pos hk]
    simp
  | p :: P, w :: vs, i + 1, m, nd, h1, h2, hk => by
    show bindL kindOf ((p, w) :: P.zip vs) m x = _
    unfold bindL
    exact bindL_get (i := i) (List.nodup_cons.mp nd).2 (by simpa using h1) (by simpa using h2) hk
theorem bindC_get {kindOf : Str → Option NameKind} {x : Str} {v : Value} : ∀ {P : List Str} {vs : List Value} {i : Nat} {m : Str → Option Value}, P.Nodup → P[i]? = some x → vs[i]? = some v → kindOf x ≠ some .local →
    bindC kindOf (P.zip vs) m x = some v
  | [], _, _, _, _, h, _, _ => by simp at h
  | _ :: _, [], _, _, _, _, h, _ => by simp at h
  | p :: P, w :: vs, 0, m, nd, h1, h2, hk => by
    simp at h1 h2; subst h1; subst h2
    show bindC kindOf ((p, w) :: P.zip vs) m p = _
    unfold bindC
    rw [bindC_out fun v hv => (List.nodup_cons.mp nd).1 (List.of_mem_zip hv).1, if_neg hk]
    simp
  | p :: P, w :: vs, i + 1, m, nd, h1, h2, hk => by
    show bindC kindOf ((p, w) :: P.zip vs) m x = _
    unfold bindC
    exact bindC_get (i := i) (List.nodup_cons.mp nd).2 (by simpa using h1) (by simpa using h2) hk
def start (N : List Str) (vs : List V) : St := vs.map some ++ List.replicate (N.length - vs.length) none
def cxOf (CX : CXT) (P : Program) (w : World) (K : PySem.W.Frag) (mg : Str → Option Value) (base : Heap) (N : List Str) (qual : Str) (scope : Scope) (f : Addr) (cd : Value) (A : Around) (outer : List Env) (s : Shared) (H : Hp) (E : XK) : Cx where
  prog := P
  w := w
  K := K
  mg := mg
  base := base
  A := A.deeper (envOfC qual scope s.heap.objs.size f cd)
  N := N
  s_0 := s
  H_0 := H
  env := envOfC qual scope s.heap.objs.size f cd
  outer := outer
  stack := envOfC qual scope s.heap.objs.size f cd :: outer
  ex := []
  calm := true
  fn := fun _ => true
  pn := []
  xe := fun e s' => wpAny (model P w) (A.deeper (envOfC qual scope s.heap.objs.size f cd)) (leaving (envOfC qual scope s.heap.objs.size f cd) e) (fun _ s'' => CX outer H s E e s'') (fun e' s'' => CX outer H s E e' s'') s'
theorem cell_has {sc : Scope} {n : Nat} {x : Str} (h : sc.names.lookup x = some .cell) : ∃ c, (cellsFrom n sc.names []).lookup x = some c := by
  have q := PySem.W.cellsFrom_some sc.names n [] (.inl h)
  exact Option.isSome_iff_exists.mp q
theorem inv_start {CX : CXT} {P : Program} {w : World} {K : PySem.W.Frag} {mg : Str → Option Value} {base : Heap} {N ps : List Str} {qual : Str} {scope : Scope} {f : Addr} {cd : Value} {A : Around} {outer : List Env} {s s1 : Shared} {H : Hp} {E : XK} {us : List Value} {vs : List V}
    (S : FnScope N ps scope) (hd : A.handled = none) (e0 : Env0 P w K mg base A outer s H) (hl : vs.length = ps.length) (r : Vals vs us)
    (x : InCallC s s.heap.objs.size (bindL (envOfC qual scope s.heap.objs.size f cd).kindOf (ps.zip us) fun _ => none) (cellsFrom (s.heap.objs.size + 1) scope.names []) (bindC (envOfC qual scope s.heap.objs.size f cd).kindOf (ps.zip us) fun _ => none) s1) :
    Inv (cxOf CX P w K mg base N qual scope f cd A outer s H E) [] (start N vs) H s1 := by
  have hpl : ps.length ≤ N.length := by have := congrArg List.length S.pre; rw [List.length_take] at this; omega
  obtain ⟨h1, tk, rfl, hk⟩ := x.done
  have noA : ∀ b : Addr, b ∉ (cxOf CX P w K mg base N qual scope f cd A outer s H E).ex := fun b z => absurd (show b ∈ ([] : List Addr) from z) (by simp)
  refine ⟨⟨e0.mod, S.kind, rfl, rfl, Nat.le_refl _, fun y z c h1 h2 => ?_, fun y hy => ?_, fun y c _ h => ?_, fun _ => hd, Around.frames_deeper e0.frames, .inr ⟨rfl, rfl⟩, fun b z => absurd z (noA b), e0.bs, e0.bsz, fun b _ _ => noA b, fun b z => absurd z (noA b), e0.funs, e0.frf⟩,
    rfl, e0.bare, Un.kept hk, ⟨_, x.toInCall.ns, fun i y v h1 h2 h3 => ?_⟩, fun y c h => ⟨_, x.cell y c h⟩, e0.hok.fresh (Nat.le_refl _), fun y c h => ?_, fun p hp => absurd (show p ∈ ([] : List (Addr × Obj)) from hp) (by simp), e0.hok.kept hk, ?_⟩
  · exact name_of_addr x.apart (PySem.mem_of_lookup h1) (PySem.mem_of_lookup h2)
  · have hy : scope.names.lookup y = some .cell ∨ scope.names.lookup y = some .free := hy
    rcases hy with hy | hy
    · exact cell_has hy
    · exact absurd rfl (S.nofree _ (PySem.mem_of_lookup hy))
  · exact Nat.le_of_lt (x.above y c (PySem.mem_of_lookup h))
  · have hi : i < vs.length := by
      unfold start at h2
      by_cases hi : i < vs.length
      · exact hi
      · rw [List.getElem?_append_right (by simpa using hi)] at h2
        rw [List.getElem?_replicate] at h2
        split at h2 <;> cases h2
    have ha : vs[i]? = some v := by
      unfold start at h2
      rw [List.getElem?_append_left (by simpa using hi), List.getElem?_map] at h2
      cases e : vs[i]? with
      | none => rw [e] at h2; cases h2
      | some a => rw [e] at h2; cases h2; rfl
    obtain ⟨u, hu, rv⟩ := r.get ha
    have hp : ps[i]? = some y := by
      rw [← S.pre, List.getElem?_take_of_lt (by omega)]; exact h1
    have ndP : ps.Nodup := by rw [← S.pre]; exact S.nd.sublist (List.take_sublist _ _)
    refine ⟨u, rv, ?_⟩
    rcases S.par y (List.mem_of_getElem? hp) with k | k
    · exact .inl ⟨k, bindL_get ndP hp hu k⟩
    · obtain ⟨c, e⟩ := cell_has (n := s.heap.objs.size + 1) k
      refine .inr ⟨.inl k, c, e, ?_⟩
      have q := x.cell y c e
      rw [bindC_get ndP hp hu (by show scope.names.lookup y ≠ _; rw [k]; decide)] at q
      exact q
  · exact e0.hok.fresh (Nat.le_of_lt (x.above y c (PySem.mem_of_lookup h)))
  · unfold start
    show _ = N.length
    rw [List.length_append, List.length_map, List.length_replicate]
    omega
theorem fn_of {CX : CXT} {P : Program} {w : World} {K : PySem.W.Frag} {mg : Str → Option Value} {base : Heap} {k : Nat} {f : Addr} {name qual : Str} {params : Arguments} {body : List Stmt} {scope : Scope} {dV kV doc pm cdv ct oc : Value} {an od : Option Addr}
    {osl : Array (Option Value)} {N ps : List Str} {sp : Sp} (lk : K.lookup f = some ⟨oc, od, .func (PySem.W.fnOf name qual params body scope dV kV doc pm an cdv ct), osl⟩) (hcd : PySem.W.codeIn K cdv qual = true) (S : FnScope N ps scope)
    (len : ∀ vs H Q E, sp vs H Q E → vs.length = ps.length)
    (hbody : ∀ (A : Around) (outer : List Env) (s : Shared) (H : Hp) (vs : List V) (Q : VK) (E : XK), Room k (A.deeper (envOfC qual scope s.heap.objs.size f cdv)) → sp vs H Q E →
      ∃ t, PSs (cxOf CX P w K mg base N qual scope f cdv A outer s H E) body t ∧ t { nx := fun _ H' => Q .non H', rt := Q } (start N vs) H) :
    FnOk P w K mg base CX (k + 1) f (PySem.W.fnOf name qual params body scope dV kV doc pm an cdv ct) ps sp := by
  refine ⟨len, fun A outer s H args us vs Q E hr e0 hb r hsp => ?_⟩
  have hl := len _ _ _ _ hsp
  have KX : K.In s.heap := e0.mod.kin.keeps fun b o e => (e0.bs b o e).1
  have lim : s.heap.NoLimit := e0.mod.nolimit.keeps fun b o e => (e0.bs b o e).1
  have hkind : ∀ y ∈ ps.zip us, scope.names.lookup y.1 = some .local ∨ (scope.names.lookup y.1 = some .cell ∧ ((cellsFrom (s.heap.objs.size + 1) scope.names []).lookup y.1).isSome = true) := fun ⟨n, v⟩ hy => by
    rcases S.par n (List.of_mem_zip hy).1 with q | q
    · exact .inl q
    · exact .inr ⟨q, PySem.W.cellsFrom_some _ _ _ (.inl q)⟩
  refine codeAny_call_function hr.depth (KX _ _ lk) rfl S.co S.gen rfl (PySem.W.codeRec_of KX hcd) (hb _ _ _ _ ?_)
  refine wpAny_newFunctionEnv_cells S.kind hkind fun env he s1 x => ?_
  subst he
  refine ⟨lim.keeps x.toInCall.keep, codeAny_func ?_⟩
  obtain ⟨t, ht, hq⟩ := hbody A outer s H vs Q E (hr.deeper _) hsp
  have I : Inv (cxOf CX P w K mg base N qual scope f cdv A outer s H E) [] (start N vs) H s1 := inv_start S hr.hd e0 hl r x
  refine wpAny_mono (ht [] s1 (start N vs) H _ I hq) (fun fl s' hs => ?_) fun e s' hs => hs
  have fin : ∀ {σ' : St} {H' : Hp} {v : V} {u : Value}, Inv (cxOf CX P w K mg base N qual scope f cdv A outer s H E) [] σ' H' s' → RelV v u → Q v H' → CE outer P w H s Q u s' :=
    fun {σ' H' v u} J rv q => ⟨v, H', J.os, J.bare, J.base, J.hok, rv, q⟩
  cases fl with
  | ret u =>
    obtain ⟨v, σ', H', J, rv, q⟩ := hs
    exact fin J rv q
  | next =>
    obtain ⟨σ', H', J, q⟩ := hs
    exact fin (v := V.non) (u := Value.none) J rfl q
  | brk =>
    obtain ⟨_, _, _, q⟩ := hs
    exact False.elim q
  | cont =>
    obtain ⟨_, _, _, q⟩ := hs
    exact False.elim q
end L2
namespace L2
open PySem PySem.Spec PyProof.Rows
section
variable {X : Cx} {x : Str} {p pos : Pos} {e : Expr} {es : List Expr} {t : TA} {id T : String} {r : List V → Hp → VK → Prop}
def tCB (r : List V → Hp → VK → Prop) (t : TA) : TE := fun σ H Q => t σ H fun vs H1 => r vs H1 Q
theorem pe_callB (hc : CallR X (.builtin id) r) (hg : Gl X x) (hm : X.mg x = none) (hv : bootBuiltins x = some (.builtin id)) (ha : PA X (e :: es) t) (hn : x ≠ "__name__" := by decide) (hdb : (x == ("__debug__" : Str)) = false := by decide)
    (he : starEach (e :: es) X.env = (false, eval e X.env) :: starEach es X.env := by rfl) (hpl : (backTo pos (starEach es X.env)).any (·.1) = false := by rfl) : PE X (.Call (.Name x p) (e :: es) [] pos) (tCB r t) := by
  intro pins s σ H Q I h
  refine wpAny_Call_Name_kw (ld_blt I hg hm hv ?_ hn hdb)
  exact PyProof.Rows.callWith_builtin1 (thn (ha pos pins s σ H _ I h) fun us s1 ⟨vs, H1, I1, r1, q1⟩ => hc pins s1 σ H1 vs us Q I1 r1 q1) he hpl
theorem pe_callTy (hc : CallR X (.type T) r) (hg : Gl X x) (hm : X.mg x = none) (hv : bootBuiltins x = some (.type T)) (ha : PA X (e :: es) t) (hn : x ≠ "__name__" := by decide) (hdb : (x == ("__debug__" : Str)) = false := by decide)
    (he : starEach (e :: es) X.env = (false, eval e X.env) :: starEach es X.env := by rfl) (hpl : (backTo pos (starEach es X.env)).any (·.1) = false := by rfl) : PE X (.Call (.Name x p) (e :: es) [] pos) (tCB r t) := by
  intro pins s σ H Q I h
  refine wpAny_Call_Name_kw (ld_blt I hg hm hv ?_ hn hdb)
  exact PyProof.Rows.callWith_type1 (thn (ha pos pins s σ H _ I h) fun us s1 ⟨vs, H1, I1, r1, q1⟩ => hc pins s1 σ H1 vs us Q I1 r1 q1) he hpl
end
end L2
namespace HT
open PySem PyProof.Rows
section
variable {prog : Program} {w : World} {A : Around} {E : Value → Shared → Prop} {s : Shared}
def sIx (n d : Nat) : Option Int → Nat
  | none => d
  | some v => if v < 0 then (v + (n : Int)).toNat else min v.toNat n
theorem sIx_none (n d : Nat) : sIx n d none = d := rfl
theorem sIx_nat (n d k : Nat) : sIx n d (some (k : Int)) = min k n := by
  show (if (k : Int) < 0 then ((k : Int) + (n : Int)).toNat else min (k : Int).toNat n) = min k n
  rw [if_neg (by omega), Int.toNat_natCast]
theorem sIx_le (n d : Nat) (hd : d ≤ n) (o : Option Int) : sIx n d o ≤ n := by
  cases o with
  | none => exact hd
  | some v =>
    show (if v < 0 then (v + (n : Int)).toNat else min v.toNat n) ≤ n
    by_cases hv : v < 0
    · rw [if_pos hv]; omega
    · rw [if_neg hv]; exact Nat.min_le_right _ _
end
end HT
namespace L2
open PySem PySem.Spec PyProof.Rows
abbrev TO := St → Hp → (Option Int → Hp → Prop) → Prop
def PO (X : Cx) (e : Option Expr) (t : TO) : Prop :=
  ∀ (pins : List (Addr × Obj)) (s : Shared) (σ : St) (H : Hp) (Q : Option Int → Hp → Prop), Inv X pins σ H s → t σ H Q →
    wpAny (model X.prog X.w) X.A (evalPart e X.env) (fun u s' => ∃ o H', Inv X pins σ H' s' ∧ IsPart u o ∧ Q o H') X.xe s
def tNoPart : TO := fun _ H Q => Q none H
def tPart (t : TE) : TO := fun σ H Q => t σ H fun x H1 => ∃ i, x = .int i ∧ Q (some i) H1
section
variable {X : Cx} {e : Expr} {te : TE} {lo hi : Option Expr} {tl th : TO} {pos p2 : Pos}
theorem po_none : PO X none tNoPart := by
  intro pins s σ H Q I h
  rw [evalPart_none]
  exact wpAny_pure ⟨none, H, I, .none, h⟩
theorem po_some (h : PE X e te) : PO X (some e) (tPart te) := by
  intro pins s σ H Q I hw
  rw [evalPart_some]
  refine thn (h pins s σ H _ I hw) fun u s1 ⟨x, H1, I1, r1, q1⟩ => ?_
  obtain ⟨i, rfl, q⟩ := q1
  obtain ⟨t, rfl⟩ := r1
  exact ⟨some i, H1, I1, .int i t, q⟩
def SlR (X : Cx) (r : V → Option Int → Option Int → Hp → VK → Prop) : Prop :=
  ∀ (pins : List (Addr × Obj)) (s : Shared) (σ : St) (H : Hp) (x : V) (v vl vu : Value) (lo hi : Option Int) (sl : Addr) (Q : VK), Inv X pins σ H s → RelV x v → s.heap.IsSliceOf sl vl vu .none → IsPart vl lo → IsPart vu hi → r x lo hi H Q →
    ∃ T id, typeLookup (.type T) "__getitem__" = pure (some (.builtin id)) ∧ s.TypeIs v T ∧ wpAny (model X.prog X.w) X.A (getItem v (.ref sl)) (EP X pins σ Q) X.xe s
def tSl (r : V → Option Int → Option Int → Hp → VK → Prop) (te : TE) (tl th : TO) : TE := fun σ H Q => te σ H fun x H1 => tl σ H1 fun l H2 => th σ H2 fun u H3 => r x l u H3 Q
theorem pe_slice {r : V → Option Int → Option Int → Hp → VK → Prop} (hr : SlR X r) (he : PE X e te) (hl : PO X lo tl) (hu : PO X hi th) : PE X (.Subscript e (.Slice lo hi none p2) pos) (tSl r te tl th) := by
  intro pins s σ H Q I h
  refine Subscript_ (thn (he pins s σ H _ I h) fun v s1 ⟨x, H1, I1, r1, q1⟩ => ?_)
  refine wpAny_Slice (thn (hl pins s1 σ H1 _ I1 q1) fun vl s2 ⟨l, H2, I2, pl, q2⟩ => thn (hu pins s2 σ H2 _ I2 q2) fun vu s3 ⟨u, H3, I3, pu, q3⟩ => ?_)
  rw [evalPart_none]
  refine wpAny_pure ?_
  have I4 : Inv X pins σ H3 { s3 with heap := s3.heap.push { cls := .type "slice", data := .fields #[vl, vu, .none] } } := I3.kept (t' := s3.toks) fun b ob q => Heap.get?_push_of_some _ q
  obtain ⟨T, id, hT, ht, hg⟩ := hr pins { s3 with heap := s3.heap.push { cls := .type "slice", data := .fields #[vl, vu, .none] } } σ H3 x v vl vu l u s3.heap.objs.size Q I4 r1 (Heap.IsSliceOf.new ..) pl pu q3
  show wpAny (model X.prog X.w) X.A (subscriptTail e (.Slice lo hi none p2) v (.ref s3.heap.objs.size)) (EP X pins σ Q) X.xe { s3 with heap := s3.heap.push { cls := .type "slice", data := .fields #[vl, vu, .none] } }
  exact tail_any (ops := [.ref s3.heap.objs.size, v]) ht hT hg (by with_unfolding_all rfl)
def cutV (xs : List V) (lo hi : Option Int) : List V := (xs.drop (HT.sIx xs.length 0 lo)).take (HT.sIx xs.length xs.length hi - HT.sIx xs.length 0 lo)
theorem cutV_length (xs : List V) (lo hi : Option Int) : (cutV xs lo hi).length ≤ xs.length := by
  unfold cutV
  rw [List.length_take, List.length_drop]
  omega
end
end L2
namespace L2
open PySem PySem.Spec PyProof.Rows
def ixN (n : Nat) (i : Int) : Option Nat := if 0 ≤ i then (if i < n then some i.toNat else none) else if -(n : Int) ≤ i then some (i + n).toNat else none
def atI {α : Type} (xs : List α) (i : Int) : Option α := (ixN xs.length i).bind fun j => xs[j]?
theorem ixN_seq {n : Nat} {i : Int} {j : Nat} (h : ixN n i = some j) : seqIndex? i n = some j ∧ j < n ∧ -(n : Int) ≤ i ∧ i < n := by
  unfold ixN at h
  by_cases h0 : 0 ≤ i
  · rw [if_pos h0] at h
    by_cases h1 : i < n
    · rw [if_pos h1] at h
      have e : i.toNat = j := Option.some.inj h
      exact ⟨by rw [seqIndex_of h0 h1, e], by omega, by omega, h1⟩
    · rw [if_neg h1] at h; cases h
  · rw [if_neg h0] at h
    by_cases h1 : -(n : Int) ≤ i
    · rw [if_pos h1] at h
      have e : (i + n).toNat = j := Option.some.inj h
      exact ⟨by rw [seqIndex_neg (by omega) h1, e], by omega, h1, by omega⟩
    · rw [if_neg h1] at h; cases h
theorem atI_get {α : Type} {xs : List α} {i : Int} {v : α} (h : atI xs i = some v) : ∃ j, seqIndex? i xs.length = some j ∧ xs[j]? = some v ∧ j < xs.length ∧ -(xs.length : Int) ≤ i ∧ i < xs.length := by
  unfold atI at h
  cases e : ixN xs.length i with
  | none => rw [e] at h; cases h
  | some j =>
    rw [e] at h
    obtain ⟨h1, h2, h3, h4⟩ := ixN_seq e
    exact ⟨j, h1, h, h2, h3, h4⟩
theorem atI_nat {α : Type} {xs : List α} {j : Nat} {v : α} (h : xs[j]? = some v) : atI xs (j : Int) = some v := by
  have hj : j < xs.length := (List.getElem?_eq_some_iff.mp h).1
  have e : ixN xs.length (j : Int) = some j := by
    unfold ixN
    rw [if_pos (by omega), if_pos (by omega)]; simp
  unfold atI; rw [e]; exact h
def PlainIx (b : Expr) : Prop := ∀ o i, subscripted b false o i = operate [o, i] (getItem o i)
def IxR (X : Cx) (r : R2) : Prop :=
  ∀ (value slice : Expr) (pins : List (Addr × Obj)) (s : Shared) (σ : St) (H : Hp) (x y : V) (v u : Value) (Q : VK), Inv X pins σ H s → RelV x v → RelV y u → r x y H Q →
    subscripted slice false v u = operate [v, u] (getItem v u) → wpAny (model X.prog X.w) X.A (subscriptTail value slice v u) (EP X pins σ Q) X.xe s
def MtR (X : Cx) (id : String) (r : V → List V → Hp → VK → Prop) : Prop :=
  ∀ (pins : List (Addr × Obj)) (s : Shared) (σ : St) (H : Hp) (x : V) (xs : List V) (v : Value) (us : List Value) (Q : VK), Inv X pins σ H s → RelV x v → Vals xs us → r x xs H Q →
    wpAny (model X.prog X.w) X.A (call (.builtin id) (v :: us)) (EP X pins σ Q) X.xe s
section
variable {X : Cx} {a b : Expr} {ta tb : TE} {pos : Pos}
theorem pe_ix {r : R2} (hr : IxR X r) (ha : PE X a ta) (hb : PE X b tb) (hs : PlainIx b) : PE X (.Subscript a b pos) (tOp r ta tb) := by
  intro pins s σ H Q I h
  exact Subscript_ (binT ha hb I h fun v u s2 x y H2 I2 rx ry q => hr a b pins s2 σ H2 x y v u Q I2 rx ry q (hs _ _))
def rIxL (K : PySem.W.Frag) : R2 := fun x y H Q => ∃ p xs i v, x = .ref p ∧ y = .int i ∧ SqL K H p xs ∧ atI xs i = some v ∧ Q v H
def rIxT (K : PySem.W.Frag) : R2 := fun x y H Q => ∃ p xs i v, x = .ref p ∧ y = .int i ∧ SqT K H p xs ∧ atI xs i = some v ∧ Q v H
def rIxS : R2 := fun x y H Q => ∃ z i c, x = .str z ∧ y = .int i ∧ z.length ≤ sizeLine ∧ atI z.cps.toList i = some c ∧ Q (.str ⟨#[c]⟩) H
theorem ix_list : IxR X (rIxL X.K) := by
  intro value slice pins s σ H x y v u Q I rx ry h hs
  obtain ⟨p, xs, i, z, rfl, rfl, hq, he, q⟩ := h
  cases rx
  obtain ⟨t, rfl⟩ := ry
  obtain ⟨its, r, pl, hz⟩ := I.list hq
  obtain ⟨j, h1, h2, h3, h4, h5⟩ := atI_get he
  obtain ⟨w, ew, rw'⟩ := r.get h2
  have hl := r.length
  have hn := line63
  have fin : EP X pins σ Q w s := ⟨z, H, I, rw', q⟩
  by_cases h0 : 0 ≤ i
  · have hj : i.toNat = j := by
      rw [seqIndex_of h0 h5] at h1
      exact Option.some.inj h1
    exact item_listR pl.isList h0 (by omega) (by rw [hj]; simpa using ew) fin hs
  · have hj : (i + (its.toArray.size : Int)).toNat = j := by
      rw [seqIndex_neg (by omega) h4] at h1
      rw [List.size_toArray, ← hl]
      exact Option.some.inj h1
    exact subscriptTail_builtinR (x := w) pl.isList.typeIs slot_list_getitem.lookup
      (wpAny_getItem_list_neg (Q := fun r s' => r = w ∧ EP X pins σ Q r s') pl.isList (by omega) (by rw [List.size_toArray] <;> omega) (by omega) (by rw [hj]; simpa using ew) ⟨rfl, fin⟩) hs
theorem ix_tup : IxR X (rIxT X.K) := by
  intro value slice pins s σ H x y v u Q I rx ry h hs
  obtain ⟨p, xs, i, z, rfl, rfl, hq, he, q⟩ := h
  cases rx
  obtain ⟨t, rfl⟩ := ry
  obtain ⟨its, r, pl, hz⟩ := I.tuple hq
  obtain ⟨j, h1, h2, h3, h4, h5⟩ := atI_get he
  obtain ⟨w, ew, rw'⟩ := r.get h2
  have hl := r.length
  have hn := line63
  have fin : EP X pins σ Q w s := ⟨z, H, I, rw', q⟩
  exact subscriptTail_builtinR (x := w) pl.typeIs slot_tuple_getitem.lookup
    (getItem_tuple (j := j) (Q := fun r s' => r = w ∧ EP X pins σ Q r s') pl (by omega) (by omega) (by rw [List.size_toArray, ← hl]; exact h1) (by simpa using ew) ⟨rfl, fin⟩) hs
theorem ix_str : IxR X rIxS := by
  intro value slice pins s σ H x y v u Q I rx ry h hs
  obtain ⟨z, i, c, rfl, rfl, hz, he, q⟩ := h
  obtain ⟨t, rfl⟩ := rx
  obtain ⟨t', rfl⟩ := ry
  obtain ⟨j, h1, h2, h3, h4, h5⟩ := atI_get he
  have hl : z.cps.toList.length = z.length := by simp [Str.length]
  rw [hl] at h1 h4 h5
  have hn := line63
  exact tail_any (typeIs_str s z t) slot_str_getitem.lookup (getItem_str (c := c) (by
    have e1 : decide (i < -(2 ^ 63 : Int)) = false := decide_eq_false (by omega)
    have e2 : decide (i ≥ 2 ^ 63) = false := decide_eq_false (by omega)
    rw [e1, e2, Bool.or_false]) (by rw [h1]; simpa using h2) ⟨.str ⟨#[c]⟩, H, I.tok _, ⟨_, rfl⟩, q⟩) hs
theorem mapSeq_set (its : List Value) (n j : Nat) (u : Value) : Obj.mapSeq (·.setIfInBounds j u) { cls := .type "list", data := .seq its.toArray n } = { cls := .type "list", data := .seq (its.set j u).toArray n } := by
  simp [Obj.mapSeq]
theorem Inv.lst {pins : List (Addr × Obj)} {σ : St} {H : Hp} {s : Shared} {p : Addr} {xs : List V} (I : Inv X pins σ H s) (h : H p = some (.lst xs)) :
    ∃ (its : List Value) (n : Nat), Vals xs its ∧ s.heap.get? p = some { cls := .type "list", data := .seq its.toArray n } ∧ xs.length ≤ sizeLine := by
  obtain ⟨z, its, n, r, e⟩ := I.hok p _ h
  exact ⟨its, n, r, e, z⟩
theorem Inv.lstUpd {pins : List (Addr × Obj)} {σ : St} {H : Hp} {s : Shared} {p : Addr} {xs ys : List V} {its its' : List Value} {n n' : Nat} {f : Obj → Obj} (I : Inv X pins σ H s) (h : H p = some (.lst xs))
    (ho : s.heap.get? p = some { cls := .type "list", data := .seq its.toArray n }) (hf : f { cls := .type "list", data := .seq its.toArray n } = { cls := .type "list", data := .seq its'.toArray n' }) (r : Vals ys its') (hz : ys.length ≤ sizeLine) (t : Nat) :
    Inv X pins σ (upd H p (.lst ys)) { s with heap := s.heap.update p f, toks := t } := by
  have e : (s.heap.update p f).get? p = some { cls := .type "list", data := .seq its'.toArray n' } := by
    rw [Heap.get?_update_self f ho (by rw [hf] <;> rfl), hf]
  refine I.write (x := p) (e := p) (by rw [h]; trivial) (.inl rfl) (fun b u hb q => (Heap.get?_update_other _ _ (Ne.symm hb)).trans q) ⟨_, e⟩ ?_
  exact ⟨hz, its', n', r, e⟩
def rSetL : V → V → V → Hp → (Hp → Prop) → Prop := fun o i v H Q => ∃ p xs k j, o = .ref p ∧ i = .int k ∧ H p = some (.lst xs) ∧ ixN xs.length k = some j ∧ Q (upd H p (.lst (xs.set j v)))
theorem set_list : PSet X rSetL := by
  intro pins s σ H o i v ov iv u Q I ro ri rv h
  obtain ⟨p, xs, k, j, rfl, rfl, hp, hj, q⟩ := h
  cases ro
  obtain ⟨t, rfl⟩ := ri
  obtain ⟨its, n, r, ho, hz⟩ := I.lst hp
  obtain ⟨h1, h2, h3, h4⟩ := ixN_seq hj
  have hl := r.length
  have hn := line63
  have I' : Inv X pins σ (upd H p (.lst (xs.set j v))) { s with heap := s.heap.update p (Obj.mapSeq (·.setIfInBounds j u)) } :=
    I.lstUpd hp ho (mapSeq_set its n j u) (r.set rv j) (by rw [List.length_set]; exact hz) s.toks
  by_cases h0 : 0 ≤ k
  · have hk : k.toNat = j := by
      rw [seqIndex_of h0 h4] at h1
      exact Option.some.inj h1
    exact PySem.W.ki_setAt ho h0 (by omega) (by rw [List.size_toArray, ← hl]; exact h4) (by rw [hk]; exact ⟨_, I', q⟩)
  · have hk : (k + (its.toArray.size : Int)).toNat = j := by
      rw [seqIndex_neg (by omega) h3] at h1
      rw [List.size_toArray, ← hl]
      exact Option.some.inj h1
    exact PySem.W.ki_setBack ho (by omega) (by rw [List.size_toArray, ← hl]; exact h3) (by omega) (by rw [hk]; exact ⟨_, I', q⟩)
theorem slice_bounds (lo hi : Option Int) (n : Nat) : (sliceBounds lo hi none n).1 = ((HT.sIx n 0 lo : Nat) : Int) ∧ (sliceBounds lo hi none n).2.1 = ((HT.sIx n n hi : Nat) : Int) ∧ (sliceBounds lo hi none n).2.2 = 1 := by
  refine ⟨?_, ?_, rfl⟩
  · cases lo with
    | none => simp [sliceBounds, HT.sIx]
    | some i =>
      simp only [sliceBounds, HT.sIx, Option.getD_none, show (1 : Int) > 0 by decide, if_true]
      by_cases h : i < 0
      · simp only [h, if_true] <;> omega
      · simp only [h, if_false] <;> omega
  · cases hi with
    | none => simp [sliceBounds, HT.sIx]
    | some i =>
      simp only [sliceBounds, HT.sIx, Option.getD_none, show (1 : Int) > 0 by decide, if_true]
      by_cases h : i < 0
      · simp only [h, if_true] <;> omega
      · simp only [h, if_false] <;> omega
theorem slicePick_cut (its : List Value) (lo hi : Option Int) : slicePick its.toArray lo hi none = ((its.drop (HT.sIx its.length 0 lo)).take (HT.sIx its.length its.length hi - HT.sIx its.length 0 lo)).toArray := by
  obtain ⟨h1, h2, h3⟩ := slice_bounds lo hi its.toArray.size
  unfold slicePick
  rw [h1, h2, h3]
  simp only [sliceRange_one, pick_run, List.size_toArray] <;> rfl
def rSlL (K : PySem.W.Frag) : V → Option Int → Option Int → Hp → VK → Prop := fun x lo hi H Q => ∃ a xs, x = .ref a ∧ SqL K H a xs ∧ ∀ p, H p = none → Q (.ref p) (upd H p (.lst (cutV xs lo hi)))
theorem sl_list : SlR X (rSlL X.K) := by
  intro pins s σ H x v vl vu lo hi sl Q I rx hs pl pu h
  obtain ⟨a, xs, rfl, hx, q⟩ := h
  cases rx
  obtain ⟨its, r, ht, hz⟩ := I.list hx
  have hlen := r.length
  refine ⟨"list", _, slot_list_getitem.lookup, ht.isList.typeIs, ?_⟩
  refine wpAny_getItem_list_slice ht.isList hs pl pu .none (by simp) ?_ (by rw [List.size_toArray] <;> omega)
  rw [slicePick_cut, ← hlen]
  refine ⟨.ref s.heap.objs.size, _, I.laid (t' := s.toks) (o := .lst (cutV xs lo hi)) (fun b ob q => Heap.get?_push_of_some _ q) (Nat.le_refl _) ?_, rfl, q _ (I.hok.fresh (Nat.le_refl _))⟩
  exact ⟨Nat.le_trans (cutV_length xs lo hi) hz, _, 0, (r.drop (HT.sIx xs.length 0 lo)).take (HT.sIx xs.length xs.length hi - HT.sIx xs.length 0 lo), Heap.get?_push_size _ rfl⟩
def flatV : V → Bool
  | .non => true
  | .bl _ => true
  | .int _ => true
  | .str _ => true
  | _ => false
def eqV : V → V → Bool
  | .non, .non => true
  | .bl a, .bl b => a == b
  | .bl a, .int b => (if a then 1 else 0) == b
  | .int a, .bl b => a == (if b then 1 else 0)
  | .int a, .int b => a == b
  | .str a, .str b => a == b
  | _, _ => false
theorem eqAt_V {A : Around} {s : Shared} {y x : V} {u v : Value} (ry : RelV y u) (rx : RelV x v) (fy : flatV y = true) (fx : flatV x = true) : SeqAt.EqAt A s u v (eqV y x) := by
  cases y with
  | non =>
    cases ry
    cases x with
    | non => cases rx; exact SeqAt.EqAt.same _
    | bl b => cases rx; exact SeqAt.EqAt.none_bool b
    | int b => obtain ⟨t, rfl⟩ := rx; exact SeqAt.EqAt.none_int b t
    | str b => obtain ⟨t, rfl⟩ := rx; exact SeqAt.EqAt.none_str b t
    | _ => exact absurd (show false = true from fx) Bool.false_ne_true
  | bl a =>
    cases ry
    cases x with
    | non => cases rx; exact SeqAt.EqAt.bool_none a
    | bl b => cases rx; exact SeqAt.EqAt.bool_bool a b
    | int b => obtain ⟨t, rfl⟩ := rx; exact SeqAt.EqAt.bool_int a b t
    | str b => obtain ⟨t, rfl⟩ := rx; exact SeqAt.EqAt.bool_str a b t
    | _ => exact absurd (show false = true from fx) Bool.false_ne_true
  | int a =>
    obtain ⟨t', rfl⟩ := ry
    cases x with
    | non => cases rx; exact SeqAt.EqAt.int_none a t'
    | bl b => cases rx; exact SeqAt.EqAt.int_bool a t' b
    | int b => obtain ⟨t, rfl⟩ := rx; exact SeqAt.EqAt.int_int a t' b t
    | str b => obtain ⟨t, rfl⟩ := rx; exact SeqAt.EqAt.int_str a t' b t
    | _ => exact absurd (show false = true from fx) Bool.false_ne_true
  | str a =>
    obtain ⟨t', rfl⟩ := ry
    cases x with
    | non => cases rx; exact SeqAt.EqAt.str_none a t'
    | bl b => cases rx; exact SeqAt.EqAt.str_bool a t' b
    | int b => obtain ⟨t, rfl⟩ := rx; exact SeqAt.EqAt.str_int a t' b t
    | str b => obtain ⟨t, rfl⟩ := rx; exact SeqAt.EqAt.str_str a t' b t
    | _ => exact absurd (show false = true from fx) Bool.false_ne_true
  | _ => exact absurd (show false = true from fy) Bool.false_ne_true
def eqU (x : V) (u : Value) : Bool := match u with
  | .none => eqV .non x
  | .bool b => eqV (.bl b) x
  | .int i _ => eqV (.int i) x
  | .str z _ => eqV (.str z) x
  | _ => false
theorem eqU_of {x y : V} {u : Value} (r : RelV y u) (f : flatV y = true) : eqU x u = eqV y x := by
  cases y with
  | non => cases r; rfl
  | bl b => cases r; rfl
  | int i => obtain ⟨t, rfl⟩ := r; rfl
  | str z => obtain ⟨t, rfl⟩ := r; rfl
  | _ => exact absurd (show false = true from f) Bool.false_ne_true
theorem any_eqU {x : V} : ∀ {xs : List V} {us : List Value}, Vals xs us → xs.all flatV = true → us.any (eqU x) = xs.any fun y => eqV y x
  | _, _, .nil, _ => rfl
  | y :: xs, u :: us, .cons r t, f => by
    rw [List.all_cons, Bool.and_eq_true] at f
    rw [List.any_cons, List.any_cons, eqU_of r f.1, any_eqU t f.2]
theorem mem_eqAt {A : Around} {s : Shared} {x : V} {v : Value} (rx : RelV x v) (fx : flatV x = true) : ∀ {xs : List V} {us : List Value}, Vals xs us → xs.all flatV = true → ∀ u ∈ us, SeqAt.EqAt A s u v (eqU x u)
  | _, _, .nil, _ => fun u hu => by cases hu
  | y :: xs, u :: us, .cons r t, f => fun u' hu => by
    rw [List.all_cons, Bool.and_eq_true] at f
    rcases List.mem_cons.mp hu with rfl | hu
    · rw [eqU_of r f.1]; exact eqAt_V r rx f.1 fx
    · exact mem_eqAt rx fx t f.2 u' hu
def inV (x : V) (xs : List V) : Bool := xs.any fun y => eqV y x
def rIn (K : PySem.W.Frag) (neg : Bool) : R2 := fun x y H Q => ∃ p xs, y = .ref p ∧ (SqL K H p xs ∨ SqT K H p xs) ∧ flatV x = true ∧ xs.all flatV = true ∧ Q (.bl (if neg then !inV x xs else inV x xs)) H
theorem op_in_seq : OpR X (compareOp .In) (rIn X.K false) := by
  intro pins s σ H x y v u Q I rx ry h
  obtain ⟨p, xs, rfl, hq, fx, fs, q⟩ := h
  cases ry
  rcases hq with hq | hq
  · obtain ⟨its, r, pl, hz⟩ := I.list hq
    refine SeqAt.in_listAt (eqU x) pl.isList (fun w hw => mem_eqAt rx fx r fs w (by simpa using hw)) ⟨.bl _, H, I, rfl, ?_⟩
    rw [show its.toArray.any (eqU x) = its.any (eqU x) by simp, any_eqU r fs]
    exact q
  · obtain ⟨its, r, pl, hz⟩ := I.tuple hq
    refine SeqAt.in_tupleAt (eqU x) pl (fun w hw => mem_eqAt rx fx r fs w (by simpa using hw)) ⟨.bl _, H, I, rfl, ?_⟩
    rw [show its.toArray.any (eqU x) = its.any (eqU x) by simp, any_eqU r fs]
    exact q
theorem op_notIn_seq : OpR X (compareOp .NotIn) (rIn X.K true) := by
  intro pins s σ H x y v u Q I rx ry h
  obtain ⟨p, xs, rfl, hq, fx, fs, q⟩ := h
  cases ry
  rcases hq with hq | hq
  · obtain ⟨its, r, pl, hz⟩ := I.list hq
    refine SeqAt.notIn_listAt (eqU x) pl.isList (fun w hw => mem_eqAt rx fx r fs w (by simpa using hw)) ⟨.bl _, H, I, rfl, ?_⟩
    rw [show its.toArray.any (eqU x) = its.any (eqU x) by simp, any_eqU r fs]
    exact q
  · obtain ⟨its, r, pl, hz⟩ := I.tuple hq
    refine SeqAt.notIn_tupleAt (eqU x) pl (fun w hw => mem_eqAt rx fx r fs w (by simpa using hw)) ⟨.bl _, H, I, rfl, ?_⟩
    rw [show its.toArray.any (eqU x) = its.any (eqU x) by simp, any_eqU r fs]
    exact q
theorem call_len_seq : CallR X (.builtin "len") (fun xs H Q => ∃ p ys, xs = [.ref p] ∧ (SqL X.K H p ys ∨ SqT X.K H p ys) ∧ Q (.int ys.length) H) := by
  intro pins s σ H xs us Q I r h
  obtain ⟨p, ys, rfl, hq, q⟩ := h
  obtain ⟨u, rfl, rx⟩ := vals1 r
  cases rx
  have hn := line63
  rcases hq with hq | hq
  · obtain ⟨its, r', pl, hz⟩ := I.list hq
    have hlen := r'.length
    exact Calls.call_len_list pl.isList (by simp only [List.size_toArray] <;> omega) ⟨.int ys.length, H, I.tok _, ⟨s.toks + 1, by rw [List.size_toArray, hlen]⟩, q⟩
  · obtain ⟨its, r', pl, hz⟩ := I.tuple hq
    have hlen := r'.length
    exact len_tuple pl (by simp only [List.size_toArray] <;> omega) ⟨.int ys.length, H, I.tok _, ⟨s.toks + 1, by rw [List.size_toArray, hlen]⟩, q⟩
theorem call_len_str : CallR X (.builtin "len") (fun xs H Q => ∃ z, xs = [.str z] ∧ z.length ≤ sizeLine ∧ Q (.int z.length) H) := by
  intro pins s σ H xs us Q I r h
  obtain ⟨z, rfl, hz, q⟩ := h
  obtain ⟨u, rfl, t, rfl⟩ := vals1 r
  have hn := line63
  exact len_str (by omega) ⟨.int z.length, H, I.tok _, ⟨_, rfl⟩, q⟩
theorem call_list_of : CallR X (.type "list") (fun xs H Q => ∃ p ys, xs = [.ref p] ∧ (SqL X.K H p ys ∨ SqT X.K H p ys) ∧ ∀ l, H l = none → Q (.ref l) (upd H l (.lst ys))) := by
  intro pins s σ H xs us Q I r h
  obtain ⟨p, ys, rfl, hq, q⟩ := h
  obtain ⟨u, rfl, rx⟩ := vals1 r
  cases rx
  have fin : ∀ (its : List Value), Vals ys its → ys.length ≤ sizeLine → ∀ (h' : Heap) (c' : Nat), (∀ b o', s.heap.get? b = some o' → h'.get? b = some o') →
      h'.get? s.heap.objs.size = some { cls := .type "list", dict := none, data := .seq its.toArray c', slots := #[] } → EP X pins σ Q (.ref s.heap.objs.size) { s with heap := h' } := fun its r' hz h' c' kp e =>
    ⟨.ref s.heap.objs.size, _, I.laid (t' := s.toks) kp (Nat.le_refl _) (show ObjOk X.prog X.w _ h' _ (.lst ys) from ⟨hz, its, c', r', e⟩), rfl, q _ (I.hok.fresh (Nat.le_refl _))⟩
  rcases hq with hq | hq
  · obtain ⟨its, r', pl, hz⟩ := I.list hq
    have hlen := r'.length
    obtain ⟨o, ho, hc, n, hd⟩ := pl.isList
    exact call_list_seq p (.inl rfl) ho hc hd (fun h' c' kp e => fin its r' hz h' c' kp e) (by simp only [List.size_toArray] <;> omega)
  · obtain ⟨its, r', pl, hz⟩ := I.tuple hq
    have hlen := r'.length
    obtain ⟨o, ho, hc, n, hd⟩ := pl
    exact call_list_seq p (.inr rfl) ho hc hd (fun h' c' kp e => fin its r' hz h' c' kp e) (by simp only [List.size_toArray] <;> omega)
theorem call_tuple_of : CallR X (.type "tuple") (fun xs H Q => ∃ p ys, xs = [.ref p] ∧ ((SqL X.K H p ys ∧ ∀ l, H l = none → Q (.ref l) (upd H l (.tup ys))) ∨ (SqT X.K H p ys ∧ Q (.ref p) H))) := by
  intro pins s σ H xs us Q I r h
  obtain ⟨p, ys, rfl, h⟩ := h
  obtain ⟨u, rfl, rx⟩ := vals1 r
  cases rx
  rcases h with ⟨hq, q⟩ | ⟨hq, q⟩
  · obtain ⟨its, r', pl, hz⟩ := I.list hq
    have hlen := r'.length
    refine call_tuple_list pl.isList (fun h' kp => ?_) (by simp only [List.size_toArray] <;> omega)
    have I1 : Inv X pins σ H { s with heap := h' } := I.kept (t' := s.toks) kp
    have I2 : Inv X pins σ (upd H h'.objs.size (.tup ys)) { s with heap := h'.push { cls := .type "tuple", data := .seq its.toArray } } :=
      I1.laid (t' := s.toks) (fun b o e => Heap.get?_push_of_some _ e) (Nat.le_refl _) (show ObjOk X.prog X.w _ _ _ (.tup ys) from ⟨hz, its, r', IsTup.new _ _⟩)
    exact ⟨.ref h'.objs.size, _, I2, rfl, q _ (I1.hok.fresh (Nat.le_refl _))⟩
  · obtain ⟨its, r', pl, hz⟩ := I.tuple hq
    exact call_tuple_same pl ⟨.ref p, H, I, rfl, q⟩
def tyV (K : PySem.W.Frag) (T : String) (x : V) (H : Hp) : Prop := match x with
  | .str _ => T = "str"
  | .int _ => T = "int"
  | .ref p => (T = "list" ∧ ∃ xs, SqL K H p xs) ∨ (T = "tuple" ∧ ∃ o, K.lookup p = some o ∧ o.cls = .type "tuple" ∧ o.dict = none) ∨
      (T = "dict" ∧ ((∃ kvs, H p = some (.dK kvs)) ∨ ∃ kvs, H p = some (.dT kvs))) ∨ (T = "set" ∧ ∃ S n, H p = some (.set S n))
  | _ => False
theorem tyV_is {pins : List (Addr × Obj)} {σ : St} {H : Hp} {s : Shared} {T : String} {x : V} {v : Value} (I : Inv X pins σ H s) (r : RelV x v) (ty : tyV X.K T x H) :
    s.TypeIs v T ∧ ∀ a, v = .ref a → ∃ ob, s.heap.get? a = some ob ∧ ob.dict = none := by
  cases x with
  | str z =>
    obtain ⟨t, rfl⟩ := r
    cases (show T = "str" from ty)
    exact ⟨typeIs_str s z t, fun _ e => nomatch e⟩
  | int i =>
    obtain ⟨t, rfl⟩ := r
    cases (show T = "int" from ty)
    exact ⟨typeIs_int s i t, fun _ e => nomatch e⟩
  | ref p =>
    cases r
    rcases ty with ⟨rfl, xs, hq⟩ | ⟨rfl, o, hk, hc, hd⟩ | ⟨rfl, hk⟩ | ⟨rfl, S, n, hk⟩
    · obtain ⟨its, _, pl, _⟩ := I.list hq
      refine ⟨pl.isList.typeIs, fun a e => ?_⟩
      cases e
      obtain ⟨o, n, e, c, hd, _⟩ := pl
      exact ⟨o, e, hd⟩
    · refine ⟨⟨o, I.kIn p o hk, hc⟩, fun a e => ?_⟩
      cases e
      exact ⟨o, I.kIn _ o hk, hd⟩
    · have z : ∃ o, s.heap.get? p = some o ∧ o.ExactDict := by
        rcases hk with ⟨kvs, hk⟩ | ⟨kvs, hk⟩
        · obtain ⟨_, _, _, _, o, _, _, e, ex, _⟩ := I.hok p _ hk
          exact ⟨o, e, ex⟩
        · obtain ⟨_, _, _, _, o, _, _, e, ex, _⟩ := I.hok p _ hk
          exact ⟨o, e, ex⟩
      obtain ⟨o, e, ex⟩ := z
      refine ⟨⟨o, e, ex.1⟩, fun a e2 => ?_⟩
      cases e2
      exact ⟨o, e, ex.2.1⟩
    · obtain ⟨o, _, _, _, e, ex, _⟩ := I.hok p _ hk
      refine ⟨⟨o, e, ex.1⟩, fun a e2 => ?_⟩
      cases e2
      exact ⟨o, e, ex.2.1⟩
  | _ => exact False.elim ty
def tBM0 (K : PySem.W.Frag) (T : String) (r : V → List V → Hp → VK → Prop) (to : TE) : TE := fun σ H Q => to σ H fun x H1 => tyV K T x H1 ∧ r x [] H1 Q
def tBM (K : PySem.W.Frag) (T : String) (r : V → List V → Hp → VK → Prop) (to : TE) (t : TA) : TE := fun σ H Q => to σ H fun x H1 => tyV K T x H1 ∧ t σ H1 fun xs H2 => r x xs H2 Q
variable {o e : Expr} {es : List Expr} {to : TE} {t : TA} {name : Str} {apos cpos : Pos} {T id : String} {r : V → List V → Hp → VK → Prop}
theorem pe_bm0 (pa : PlainAttrs T) (slot : Slot T name id) (hty : typeOf (.builtin id) = pure (.type "method_descriptor")) (hm : MtR X id r) (ho : PE X o to)
    (hbase : attributeBase o name X.env (eval o X.env) = eval o X.env := by rfl) (hline : (apos.endLine == cpos.line) = true := by rfl) : PE X (.Call (.Attribute o name apos) [] [] cpos) (tBM0 X.K T r to) := by
  intro pins s σ H Q I h
  refine wpAny_Call_method0_late hbase hline (thn (ho pins s σ H _ I h) fun v s1 ⟨x, H1, I1, r1, ty, q1⟩ => ?_)
  obtain ⟨h1, h2⟩ := tyV_is I1 r1 ty
  exact ⟨T, id, pa, slot, hty, h1, h2, Calls.callWith_builtin rfl (PySem.evalArgs_none (hm pins s1 σ H1 x [] v [] Q I1 r1 .nil q1))⟩
theorem pe_bm (pa : PlainAttrs T) (slot : Slot T name id) (hty : typeOf (.builtin id) = pure (.type "method_descriptor")) (hm : MtR X id r) (ho : PE X o to) (ha : PA X (e :: es) t)
    (hbase : attributeBase o name X.env (eval o X.env) = eval o X.env := by rfl)
    (hfew : ((backTo cpos (starEach (e :: es) X.env)).all (fun x => !x.1) && (backToKw cpos (keywordEach [] X.env)).all (fun x => x.1.isSome)
      && decide ((e :: es).length + ([] : List Keyword).length + (if ([] : List Keyword).isEmpty then 0 else 1) < 30)) = true := by rfl)
    (hline : (apos.endLine == cpos.line) = true := by rfl) (hs : starEach (e :: es) X.env = (false, eval e X.env) :: starEach es X.env := by rfl) (hplain : (backTo cpos (starEach es X.env)).any (·.1) = false := by rfl) :
    PE X (.Call (.Attribute o name apos) (e :: es) [] cpos) (tBM X.K T r to t) := by
  intro pins s σ H Q I h
  refine wpAny_Call_method_late hbase hfew hline rfl (thn (ho pins s σ H _ I h) fun v s1 ⟨x, H1, I1, r1, ty, q1⟩ => ?_)
  obtain ⟨h1, h2⟩ := tyV_is I1 r1 ty
  refine ⟨T, id, pa, slot, hty, h1, h2, ?_⟩
  have hA := ha cpos pins s1 σ H1 _ I1 q1
  rw [hs] at hA ⊢
  refine Calls.callWith_builtin (by show (false || (backTo cpos (starEach es X.env)).any (·.1)) = false; rw [hplain] <;> rfl) (Calls.evalArgs_plain ?_)
  exact thn hA fun us s2 ⟨vs, H2, I2, r2, q2⟩ => hm pins s2 σ H2 x vs v us Q I2 r1 r2 q2
end
end L2
namespace L2
open PySem PySem.Spec PyProof.Rows
def MtM (X : Cx) (id : String) (r : V → List V → Hp → VK → Prop) : Prop :=
  ∀ (pins : List (Addr × Obj)) (s : Shared) (σ : St) (H : Hp) (x : V) (xs : List V) (v : Value) (us : List Value) (Q : VK), Inv X pins σ H s → RelV x v → Vals xs us → r x xs H Q →
    wpAny (model X.prog X.w) X.A (call (.builtin id) (v :: us)) (EP X pins σ Q) X.xe s
theorem Vals.one : ∀ {x : V} {us : List Value}, Vals [x] us → ∃ u, us = [u] ∧ RelV x u
  | _, _, .cons r .nil => ⟨_, rfl, r⟩
theorem Vals.zero : ∀ {us : List Value}, Vals [] us → us = []
  | _, .nil => rfl
theorem Vals.dropLast {xs : List V} {us : List Value} (h : Vals xs us) : Vals xs.dropLast us.dropLast := by
  induction h with
  | nil => exact .nil
  | cons r t ih =>
    cases t with
    | nil => exact .nil
    | cons q t' => exact .cons r ih
theorem erase_last {α : Type} (l : List α) : l.eraseIdx (l.length - 1) = l.dropLast := by
  induction l with
  | nil => rfl
  | cons a r ih =>
    cases r with
    | nil => rfl
    | cons b r =>
      have e : (a :: b :: r).length - 1 = ((b :: r).length - 1) + 1 := by
        have h1 : (a :: b :: r).length = r.length + 2 := rfl
        have h2 : (b :: r).length = r.length + 1 := rfl
        omega
      rw [e, List.eraseIdx_cons_succ, ih]
      all_goals rfl
section
variable {X : Cx} {pins : List (Addr × Obj)} {σ : St} {H : Hp} {s : Shared} {l b : Addr} {xs ys zs : List V}
theorem Inv.lset {its its' : List Value} {n : Nat} {f : Array Value → Array Value} {t' : Nat} (I : Inv X pins σ H s) (hH : H l = some (.lst xs))
    (e : s.heap.get? l = some { cls := .type "list", data := .seq its.toArray n }) (hf : f its.toArray = its'.toArray) (hv : Vals ys its') (hz : ys.length ≤ sizeLine) :
    Inv X pins σ (upd H l (.lst ys)) { s with heap := s.heap.update l (Obj.mapSeq f), toks := t' } := by
  have q := PySem.IsL.update e f
  rw [hf] at q
  refine I.write (x := l) (e := l) (by rw [hH]; exact trivial) (.inl rfl) (fun b' u hb hu => (Heap.get?_update_other s.heap (Obj.mapSeq f) (Ne.symm hb)).trans hu) ⟨_, q⟩ ?_
  exact ⟨hz, its', _, hv, q⟩
theorem Inv.lnew {its : List Value} {t' : Nat} (I : Inv X pins σ H s) (hv : Vals ys its) (hz : ys.length ≤ sizeLine) :
    Inv X pins σ (upd H s.heap.objs.size (.lst ys)) { s with heap := s.heap.push { cls := .type "list", data := .seq its.toArray }, toks := t' } :=
  I.laid (fun _ _ q => Heap.get?_push_of_some _ q) (Nat.le_refl _) ⟨hz, its, 0, hv, Heap.get?_push_size _ rfl⟩
theorem Inv.fresh (I : Inv X pins σ H s) : H s.heap.objs.size = none := I.hok.fresh (Nat.le_refl _)
theorem Inv.lstM (I : Inv X pins σ H s) (hH : H l = some (.lst xs)) : xs.length ≤ sizeLine ∧ ∃ (its : List Value) (n : Nat), Vals xs its ∧ xs.length = its.length ∧ s.heap.get? l = some { cls := .type "list", data := .seq its.toArray n } := by
  obtain ⟨z, its, n, r, e⟩ := I.hok l _ hH
  exact ⟨z, its, n, r, r.length, e⟩
theorem notLongL {n : Nat} (h : n ≤ sizeLine) : Builtin.List.listTooLong n = false := by
  unfold Builtin.List.listTooLong
  exact decide_eq_false (by omega)
end
section
variable {X : Cx}
def rAppend : V → List V → Hp → VK → Prop := fun x vs H Q => ∃ l xs y, x = .ref l ∧ vs = [y] ∧ H l = some (.lst xs) ∧ xs.length < sizeLine ∧ Q .non (upd H l (.lst (xs ++ [y])))
theorem mt_append : MtM X "list.append" rAppend := by
  intro pins s σ H x vs v us Q I rx rv h
  obtain ⟨l, xs, y, rfl, rfl, hH, hz, q⟩ := h
  cases rx
  obtain ⟨u, rfl, ru⟩ := rv.one
  obtain ⟨z, its, n, r, hl, e⟩ := I.lstM hH
  refine call_meets F.slot_list_append ⟨_, e, rfl⟩ F.entry_list_append (F.args_list_append_2 _ _) (PySem.list_append l its.toArray n u (by rw [List.size_toArray]; omega)) ⟨e, ?_⟩
  refine ⟨.non, _, I.lset (its' := its ++ [u]) hH e (by simp) (r.append (.cons ru .nil)) ?_, rfl, q⟩
  rw [List.length_append, List.length_singleton]
  omega
def rExtend : V → List V → Hp → VK → Prop := fun x vs H Q => ∃ l b xs zs, x = .ref l ∧ vs = [.ref b] ∧ H l = some (.lst xs) ∧ H b = some (.lst zs) ∧ xs.length + zs.length ≤ sizeLine ∧ Q .non (upd H l (.lst (xs ++ zs)))
theorem mt_extend : MtM X "list.extend" rExtend := by
  intro pins s σ H x vs v us Q I rx rv h
  obtain ⟨l, b, xs, zs, rfl, rfl, hH, hB, hz, q⟩ := h
  cases rx
  obtain ⟨u, rfl, ru⟩ := rv.one
  cases ru
  obtain ⟨z, its, n, r, hl, e⟩ := I.lstM hH
  obtain ⟨z2, its2, n2, r2, hl2, e2⟩ := I.lstM hB
  have hsz : its.toArray.size + its2.toArray.size ≤ sizeLine := by rw [List.size_toArray, List.size_toArray]; omega
  have hlong : ¬ (!its.toArray.isEmpty && Builtin.List.listTooLong (its.toArray.size + its2.toArray.size)) = true := by
    rw [notLongL hsz, Bool.and_false]
    exact Bool.false_ne_true
  refine call_meets F.slot_list_extend ⟨_, e, rfl⟩ F.entry_list_extend (F.args_list_extend_2 _ _)
    (AutoSeq1.list_extend_list_list_0 l its.toArray n b its2.toArray n2 hlong (by rw [List.size_toArray]; omega) (by omega)) ⟨e, e2, ?_⟩
  refine ⟨.non, _, I.lset (its' := its ++ its2) hH e (by simp) (r.append r2) ?_, rfl, q⟩
  rw [List.length_append]
  omega
def rPop : V → List V → Hp → VK → Prop := fun x vs H Q => ∃ l xs y, x = .ref l ∧ vs = [] ∧ H l = some (.lst xs) ∧ xs[xs.length - 1]? = some y ∧ Q y (upd H l (.lst xs.dropLast))
theorem mt_pop : MtM X "list.pop" rPop := by
  intro pins s σ H x vs v us Q I rx rv h
  obtain ⟨l, xs, y, rfl, rfl, hH, hy, q⟩ := h
  cases rx
  have hus := rv.zero
  subst hus
  obtain ⟨z, its, n, r, hl, e⟩ := I.lstM hH
  obtain ⟨u, hu, ru⟩ := r.get hy
  have hy' : its.toArray[its.toArray.size - 1]? = some u := by
    show its.toArray[its.length - 1]? = some u
    rw [← Array.getElem?_toList, ← hl]
    exact hu
  refine call_meets F.slot_list_pop ⟨_, e, rfl⟩ F.entry_list_pop (F.args_list_pop_1 _) (MeetsSeq.list_pop_last l its.toArray n u hy' (by rw [List.size_toArray]; omega)) ⟨e, ?_⟩
  refine ⟨y, _, I.lset (its' := its.dropLast) hH e ?_ r.dropLast ?_, ru, q⟩
  · show its.toArray.eraseIdxIfInBounds (its.toArray.size - 1) = its.dropLast.toArray
    rw [List.size_toArray, List.eraseIdxIfInBounds_toArray, erase_last]
  · rw [List.length_dropLast]
    omega
def rCat : R2 := fun x y H Q => ∃ l b xs zs, x = .ref l ∧ y = .ref b ∧ H l = some (.lst xs) ∧ H b = some (.lst zs) ∧ xs.length + zs.length ≤ sizeLine ∧ ∀ p, H p = none → Q (.ref p) (upd H p (.lst (xs ++ zs)))
theorem op_cat : OpR X (binaryOp .Add) rCat := by
  intro pins s σ H x y v u Q I rx ry h
  obtain ⟨l, b, xs, zs, rfl, rfl, hH, hB, hz, q⟩ := h
  cases rx
  cases ry
  obtain ⟨z, its, n, r, hl, e⟩ := I.lstM hH
  obtain ⟨z2, its2, n2, r2, hl2, e2⟩ := I.lstM hB
  refine PySem.P.add_list e e2 ?_ (by rw [List.size_toArray, List.size_toArray]; omega)
  have ea : its.toArray ++ its2.toArray = (its ++ its2).toArray := by simp
  rw [ea]
  exact ⟨.ref _, _, I.lnew (t' := s.toks) (r.append r2) (by rw [List.length_append]; omega), rfl, q _ I.fresh⟩
end
section
variable {prog : Program} {w : World} {A : Around} {E : Value → Shared → Prop} {s : Shared}
set_option maxRecDepth 100000 in
end
end L2
namespace L2
open PySem PySem.Spec PyProof.Rows
section
variable {X : Cx}
def rIndex (K : PySem.W.Frag) : V → List V → Hp → VK → Prop := fun x xs H Q => ∃ (a : Addr) (ys : List V) (y : V) (j : Nat) (z : V), x = V.ref a ∧ xs = [y] ∧ SqL K H a ys ∧ flatV y = true ∧ ys.all flatV = true ∧ ys[j]? = some z ∧ eqV z y = true ∧
  (∀ (m : Nat) (z' : V), m < j → ys[m]? = some z' → eqV z' y = false) ∧ Q (.int (j : Nat)) H
theorem flat_at {ys : List V} (f : ys.all flatV = true) {j : Nat} {z : V} (h : ys[j]? = some z) : flatV z = true := List.all_eq_true.mp f z (List.mem_of_getElem? h)
theorem mt_index : MtR X "list.index" (rIndex X.K) := by
  intro pins s σ H x xs v us Q I rx rxs h
  obtain ⟨a, ys, y, j, z, rfl, rfl, hs, fy, fys, hz, hzj, hno, q⟩ := h
  cases rx
  cases rxs with
  | cons ry rt =>
    rename_i uy ut
    cases rt
    obtain ⟨its, rv, ⟨⟨cls, dd, data, sl⟩, n, ho, hc, hdn, hd⟩, hlen⟩ := I.list hs
    simp only at hc hd
    subst hc hd
    obtain ⟨u, hu, ru⟩ := rv.get hz
    obtain ⟨hjl, hje⟩ := List.getElem?_eq_some_iff.mp hu
    have hvl := rv.length
    have hj : j < its.toArray.size := by simpa using hjl
    have hsl := sizeLine_eq
    refine call_meets PySem.F.slot_list_index ⟨_, ho, rfl⟩ PySem.F.entry_list_index (PySem.F.args_list_index_2 _ _)
      (SeqAt.list_indexAt a its.toArray n dd sl uy (eqU y) j hj (by omega) ?_ ?_) ⟨ho, fun u' hu' => mem_eqAt ry fy rv fys u' (by simpa using hu'), ?_⟩
    · have e1 : its.toArray[j] = u := by simpa using hje
      rw [e1, eqU_of ru (flat_at fys hz)]
      exact hzj
    · intro m hm hmj
      have hml : m < its.length := by simpa using hm
      have hmy : m < ys.length := by omega
      have hy' : ys[m]? = some ys[m] := List.getElem?_eq_getElem hmy
      obtain ⟨u2, hu2, ru2⟩ := rv.get hy'
      obtain ⟨_, hme⟩ := List.getElem?_eq_some_iff.mp hu2
      have e1 : its.toArray[m] = u2 := by simpa using hme
      rw [e1, eqU_of ru2 (flat_at fys hy')]
      exact hno m _ hmj hy'
    · exact ⟨.int (j : Nat), H, I.tok _, ⟨_, rfl⟩, q⟩
end
mutual
inductive Dp (K : PySem.W.Frag) (H : Hp) : V → PyData → Prop
  | non : Dp K H .non .none
  | bl (b : Bool) : Dp K H (.bl b) (.bool b)
  | int (i : Int) : Dp K H (.int i) (.int i)
  | str (x : Str) : Dp K H (.str x) (.str x)
  | lst {a : Addr} {xs : List V} {ds : List PyData} : SqL K H a xs → DpAll K H xs ds → Dp K H (.ref a) (.list ds)
  | tup {a : Addr} {xs : List V} {ds : List PyData} : SqT K H a xs → DpAll K H xs ds → Dp K H (.ref a) (.tuple ds)
inductive DpAll (K : PySem.W.Frag) (H : Hp) : List V → List PyData → Prop
  | nil : DpAll K H [] []
  | cons {v : V} {vs : List V} {d : PyData} {ds : List PyData} : Dp K H v d → DpAll K H vs ds → DpAll K H (v :: vs) (d :: ds)
end
section
variable {X : Cx} {pins : List (Addr × Obj)} {σ : St} {H : Hp} {s : Shared}
mutual
theorem Dp.reads (I : Inv X pins σ H s) : ∀ (d : PyData) (v : V) (u : Value), Dp X.K H v d → RelV v u → ∃ as, Reads s.heap u d as
  | .none, _, _, h, r => by
    cases h
    cases r
    exact ⟨_, Reads.none⟩
  | .bool b, _, _, h, r => by
    cases h
    cases r
    exact ⟨_, Reads.bool b⟩
  | .int i, _, _, h, r => by
    cases h
    obtain ⟨t, rfl⟩ := r
    exact ⟨_, Reads.int i t⟩
  | .str x, _, _, h, r => by
    cases h
    obtain ⟨t, rfl⟩ := r
    exact ⟨_, Reads.str x t⟩
  | .list ds, _, _, h, r => by
    cases h with
    | lst hs ha =>
      cases r
      obtain ⟨its, rv, ⟨o, n, ho, hc, _, hd⟩, _⟩ := I.list hs
      obtain ⟨as, hr⟩ := Dp.readsAll I ds _ its ha rv
      exact ⟨_, Reads.list ho hc hd hr⟩
  | .tuple ds, _, _, h, r => by
    cases h with
    | tup hs ha =>
      cases r
      obtain ⟨its, rv, ⟨o, ho, hc, n, hd⟩, _⟩ := I.tuple hs
      obtain ⟨as, hr⟩ := Dp.readsAll I ds _ its ha rv
      exact ⟨_, Reads.tuple ho hc hd hr⟩
  | .dict _, _, _, h, _ => by cases h
theorem Dp.readsAll (I : Inv X pins σ H s) : ∀ (ds : List PyData) (vs : List V) (us : List Value), DpAll X.K H vs ds → Vals vs us → ∃ as, ReadsAll s.heap us ds as
  | [], _, _, h, r => by
    cases h
    cases r
    exact ⟨_, ReadsAll.nil⟩
  | d :: ds, _, _, h, r => by
    cases h with
    | cons h1 h2 =>
      cases r with
      | cons r1 r2 =>
        obtain ⟨as, q1⟩ := Dp.reads I d _ _ h1 r1
        obtain ⟨bs, q2⟩ := Dp.readsAll I ds _ _ h2 r2
        exact ⟨_, ReadsAll.cons q1 q2⟩
end
end
section
variable {X : Cx}
def rEqD (K : PySem.W.Frag) : R2 := fun x y H Q => ∃ d e, Dp K H x d ∧ Dp K H y e ∧ SeqAt.shaped d = true ∧ SeqAt.shaped e = true ∧ Q (.bl (PyData.eqv d e)) H
theorem op_eqD (hu : X.A.units + 64 < cLine) : OpR X (compareOp .Eq) (rEqD X.K) := by
  intro pins s σ H x y v u Q I rx ry h
  obtain ⟨d, e, hd, he, sd, se, q⟩ := h
  obtain ⟨as, r1⟩ := Dp.reads I d x v hd rx
  obtain ⟨bs, r2⟩ := Dp.reads I e y u he ry
  exact SeqAt.compareEq_shaped r1 r2 sd se hu ⟨.bl _, H, I, rfl, q⟩
end
end L2
namespace L2
open PySem PySem.Spec PyProof.Rows
abbrev CellAt (h : Heap) (c : Addr) (v : Option Value) : Prop := h.IsCell c v
def relS (scope sc : Scope) : Scope :=
  { scope with names := scope.names.map fun (n, k) => if (k == .free && sc.kind == .function && sc.names.lookup n == some .cell) then (n, .cell) else (n, k) }
def cloFrom (cells : List (Str × Addr)) : List (Str × NameKind) → List (Str × Addr) → List (Str × Addr)
  | [], acc => acc
  | (n, k) :: r, acc => if k == .free then cloFrom cells r ((n, (cells.lookup n).getD 0) :: acc) else cloFrom cells r acc
theorem closure_loop (env : Env) (f : Str × NameKind → List (Str × Addr) → Sem (ForInStep (List (Str × Addr))))
    (hf : ∀ n k c, f (n, k) c = if k == .free then (do let a ← cellOf env n; pure (.yield ((n, a) :: c))) else pure (.yield c)) :
    ∀ (names : List (Str × NameKind)) (acc : List (Str × Addr)), (∀ y ∈ names, y.2 = .free → ∃ c, env.cells.lookup y.1 = some c) → forIn names acc f = pure (cloFrom env.cells names acc)
  | [], acc, _ => by rw [List.forIn_nil]; rfl
  | (n, k) :: r, acc, h => by
    rw [List.forIn_cons, hf]
    have ih := fun acc => closure_loop env f hf r acc fun y hy => h y (List.mem_cons_of_mem _ hy)
    unfold cloFrom
    by_cases hk : (k == NameKind.free) = true
    · rw [if_pos hk, if_pos hk]
      obtain ⟨c, hc⟩ := h (n, k) List.mem_cons_self (by simpa using hk)
      have e : cellOf env n = pure c := by unfold cellOf; rw [hc]
      rw [e]
      have e2 : (env.cells.lookup n).getD 0 = c := by rw [hc]; rfl
      rw [e2]
      exact ih _
    · rw [if_neg hk, if_neg hk]
      exact ih _
theorem closure_ok {scope : Scope} {env : Env} (h : ∀ y ∈ scope.names, y.2 = .free → ∃ c, env.cells.lookup y.1 = some c) : closureFor scope env = pure (cloFrom env.cells scope.names []) := by
  simp only [closureFor]
  rw [closure_loop env _ (fun n k c => rfl) scope.names [] h]
  rfl
theorem mem_lookup {α : Type} : ∀ {l : List (Str × α)} {n : Str} {c : α}, (n, c) ∈ l → ∃ c', l.lookup n = some c'
  | (k, v) :: r, n, c, h => by
    rw [List.lookup_cons]
    cases hb : n == k with
    | true => exact ⟨_, rfl⟩
    | false =>
      rcases List.mem_cons.mp h with e | h
      · cases e; simp at hb
      · exact mem_lookup h
theorem cloFrom_mem {cells : List (Str × Addr)} : ∀ {names : List (Str × NameKind)} {acc : List (Str × Addr)} {n : Str} {c : Addr}, (n, c) ∈ cloFrom cells names acc → (n, c) ∈ acc ∨ ((n, .free) ∈ names ∧ c = (cells.lookup n).getD 0)
  | [], _, _, _, h => .inl h
  | (m, k) :: r, acc, n, c, h => by
    unfold cloFrom at h
    split at h
    · rename_i hk
      have hk : k = .free := by simpa using hk
      rcases cloFrom_mem h with h | ⟨h1, h2⟩
      · rcases List.mem_cons.mp h with e | h
        · cases e; exact .inr ⟨hk ▸ List.mem_cons_self, rfl⟩
        · exact .inl h
      · exact .inr ⟨List.mem_cons_of_mem _ h1, h2⟩
    · rcases cloFrom_mem h with h | ⟨h1, h2⟩
      · exact .inl h
      · exact .inr ⟨List.mem_cons_of_mem _ h1, h2⟩
theorem cloFrom_acc {cells : List (Str × Addr)} : ∀ {names : List (Str × NameKind)} {acc : List (Str × Addr)} {p : Str × Addr}, p ∈ acc → p ∈ cloFrom cells names acc
  | [], _, _, h => h
  | (m, k) :: r, acc, p, h => by
    unfold cloFrom
    split
    · exact cloFrom_acc (List.mem_cons_of_mem _ h)
    · exact cloFrom_acc h
theorem cloFrom_has {cells : List (Str × Addr)} : ∀ {names : List (Str × NameKind)} {acc : List (Str × Addr)} {n : Str}, (n, .free) ∈ names → (n, (cells.lookup n).getD 0) ∈ cloFrom cells names acc
  | (m, k) :: r, acc, n, h => by
    unfold cloFrom
    rcases List.mem_cons.mp h with e | h
    · cases e
      exact cloFrom_acc List.mem_cons_self
    · split
      · exact cloFrom_has h
      · exact cloFrom_has h
theorem cells_mem : ∀ {names : List (Str × NameKind)} {h : Heap} {acc : List (Str × Addr)} {x : Str} {c : Addr}, (x, c) ∈ cellsFrom h.objs.size names acc →
    (x, c) ∈ acc ∨ ((x, .cell) ∈ names ∧ h.objs.size ≤ c ∧ CellAt (pushCells h names) c none)
  | [], _, _, _, _, h => .inl h
  | (n, k) :: r, h, acc, x, c, hm => by
    unfold cellsFrom at hm
    unfold pushCells
    split at hm
    · rename_i hk
      rw [if_pos hk]
      have hk : k = .cell := by simpa using hk
      rw [← Heap.size_push h { cls := .type "cell", data := .cell none }] at hm
      rcases cells_mem hm with hm | ⟨h1, h2, h3⟩
      · rcases List.mem_cons.mp hm with e | hm
        · cases e
          exact .inr ⟨hk ▸ List.mem_cons_self, Nat.le_refl _, _, pushCells_keeps r _ _ _ (Heap.get?_push_size _ rfl), rfl⟩
        · exact .inl hm
      · rw [Heap.size_push] at h2
        exact .inr ⟨List.mem_cons_of_mem _ h1, Nat.le_of_succ_le h2, h3⟩
    · rename_i hk
      rw [if_neg hk]
      rcases cells_mem hm with hm | ⟨h1, h2, h3⟩
      · exact .inl hm
      · exact .inr ⟨List.mem_cons_of_mem _ h1, h2, h3⟩
theorem cells_acc : ∀ {names : List (Str × NameKind)} {n : Nat} {acc : List (Str × Addr)} {p : Str × Addr}, p ∈ acc → p ∈ cellsFrom n names acc
  | [], _, _, _, h => h
  | (m, k) :: r, n, acc, p, h => by
    unfold cellsFrom
    split
    · exact cells_acc (List.mem_cons_of_mem _ h)
    · exact cells_acc h
theorem cells_has : ∀ {names : List (Str × NameKind)} {n : Nat} {acc : List (Str × Addr)} {x : Str}, (x, .cell) ∈ names → ∃ c, (x, c) ∈ cellsFrom n names acc
  | (m, k) :: r, n, acc, x, h => by
    unfold cellsFrom
    rcases List.mem_cons.mp h with e | h
    · cases e
      exact ⟨n, cells_acc List.mem_cons_self⟩
    · split
      · exact cells_has h
      · exact cells_has h
theorem cells_inj : ∀ {names : List (Str × NameKind)} {h : Heap} {acc : List (Str × Addr)} {x y : Str} {c : Addr}, (∀ p ∈ acc, p.2 < h.objs.size) → (∀ x y c, (x, c) ∈ acc → (y, c) ∈ acc → x = y) →
    (x, c) ∈ cellsFrom h.objs.size names acc → (y, c) ∈ cellsFrom h.objs.size names acc → x = y
  | [], _, _, _, _, _, _, hi, h1, h2 => hi _ _ _ h1 h2
  | (n, k) :: r, h, acc, x, y, c, hl, hi, h1, h2 => by
    unfold cellsFrom at h1 h2
    split at h1
    · rename_i hk
      rw [if_pos hk] at h2
      rw [← Heap.size_push h { cls := .type "cell", data := .cell none }] at h1 h2
      refine cells_inj (h := h.push _) (fun p hp => ?_) (fun x y c a b => ?_) h1 h2
      · rw [Heap.size_push]
        rcases List.mem_cons.mp hp with rfl | hp
        · exact Nat.lt_succ_self _
        · exact Nat.lt_succ_of_lt (hl p hp)
      · rcases List.mem_cons.mp a with e | a <;> rcases List.mem_cons.mp b with e' | b
        · cases e; cases e'; rfl
        · cases e; exact absurd (hl _ b) (Nat.lt_irrefl _)
        · cases e'; exact absurd (hl _ a) (Nat.lt_irrefl _)
        · exact hi _ _ _ a b
    · rename_i hk
      rw [if_neg hk] at h2
      exact cells_inj hl hi h1 h2
theorem newEnv_comp {M : Model} {A : Around} {E : Value → Shared → Prop} {s : Shared} {scope : Scope} {globals : Addr} {closure : List (Str × Addr)} {qual : Str} {func : Option Addr} {code : Value} {around : Env} {builtins : Addr} {Q : Env → Shared → Prop}
    (h : Q (newEnv scope s.heap.objs.size globals (cellsFrom (s.heap.objs.size + 1) scope.names closure) qual func code (some around) builtins)
      { s with heap := pushCells (s.heap.push { cls := .type "dict", data := .dict #[] }) scope.names }) :
    wpAny M A (newFunctionEnv scope globals closure [] qual func code (some around) builtins) Q E s := by
  simp only [newFunctionEnv, Option.isSome_some, if_true]
  refine wpAny_bind (wpAny_alloc ?_)
  refine wpAny_bind (wpAny_layCells _ (fun n k c => rfl) scope.names closure _ _ ?_)
  rw [show ({ s with heap := s.heap.push { cls := .type "dict", data := .dict #[] } } : Shared).heap.objs.size = s.heap.objs.size + 1 from Heap.size_push ..]
  rw [List.forIn_nil]
  exact wpAny_bind (wpAny_pure (wpAny_pure h))
theorem lookup_relS {sc : Scope} : ∀ {names : List (Str × NameKind)} {x : Str} {k : NameKind},
    (names.map fun (n, k) => if (k == NameKind.free && sc.kind == .function && sc.names.lookup n == some .cell) then (n, NameKind.cell) else (n, k)).lookup x = some k →
    ∃ k', names.lookup x = some k' ∧ (k = k' ∨ (k' = .free ∧ k = .cell))
  | [], _, _, h => by simp at h
  | (n, k₀) :: r, x, k, h => by
    have ih := @lookup_relS sc r x k
    have h' : List.lookup x ((if (k₀ == NameKind.free && sc.kind == .function && sc.names.lookup n == some .cell) = true then (n, NameKind.cell) else (n, k₀)) :: (r.map _)) = some k := h
    cases hx : x == n with
    | true =>
      simp only [List.lookup_cons, hx]
      by_cases hc : (k₀ == NameKind.free && sc.kind == .function && sc.names.lookup n == some .cell) = true
      · rw [if_pos hc] at h'
        simp only [List.lookup_cons, hx] at h'
        cases h'
        simp only [Bool.and_eq_true, beq_iff_eq] at hc
        exact ⟨k₀, rfl, .inr ⟨hc.1.1, rfl⟩⟩
      · rw [if_neg hc] at h'
        simp only [List.lookup_cons, hx] at h'
        cases h'
        exact ⟨_, rfl, .inl rfl⟩
    | false =>
      simp only [List.lookup_cons, hx]
      by_cases hc : (k₀ == NameKind.free && sc.kind == .function && sc.names.lookup n == some .cell) = true
      · rw [if_pos hc] at h'
        simp only [List.lookup_cons, hx] at h'
        exact ih h'
      · rw [if_neg hc] at h'
        simp only [List.lookup_cons, hx] at h'
        exact ih h'
structure BlkOk (N : List Str) (sc scope : Scope) (own : List (Str × Nat)) : Prop where
  kind : scope.kind = .function
  uniq : ∀ y ∈ scope.names, scope.names.lookup y.1 = some y.2
  ix : ∀ p ∈ own, N[p.2]? = some p.1
  free : ∀ y ∈ scope.names, y.2 = .free → sc.names.lookup y.1 = some .cell ∨ sc.names.lookup y.1 = some .free
  own : ∀ y ∈ scope.names, y.2 = .local ∨ y.2 = .cell → y.1 ∈ own.map (·.1) ∨ y.1 ∉ N
def wipe (σ : St) : List Nat → St
  | [] => σ
  | v :: vs => (wipe σ vs).set v none
theorem wipe_length (σ : St) : ∀ vs : List Nat, (wipe σ vs).length = σ.length
  | [] => rfl
  | v :: vs => by unfold wipe; rw [List.length_set, wipe_length σ vs]
theorem wipe_some {σ : St} {i : Nat} {x : V} : ∀ {vs : List Nat}, (wipe σ vs)[i]? = some (some x) → σ[i]? = some (some x) ∧ i ∉ vs
  | [], h => ⟨h, by simp⟩
  | v :: vs, h => by
    unfold wipe at h
    by_cases hi : v = i
    · subst hi
      by_cases hv : v < (wipe σ vs).length
      · rw [List.getElem?_set_self hv] at h; cases h
      · rw [List.getElem?_eq_none (by simpa using hv)] at h; cases h
    · rw [List.getElem?_set_ne hi] at h
      obtain ⟨h1, h2⟩ := wipe_some h
      exact ⟨h1, by simp only [List.mem_cons, not_or]; exact ⟨fun e => hi e.symm, h2⟩⟩
abbrev Cx.blk (X : Cx) (s : Shared) (H : Hp) (scope : Scope) (cenv : Env) (fp : List Addr) : Cx := { X with s_0 := s, H_0 := H, env := cenv, outer := X.stack, ex := fp, fn := fun x => scope.names.lookup x == some .cell, pn := [], xe := fun _ _ => False }
section
variable {X : Cx} {pins : List (Addr × Obj)} {σ : St} {H : Hp} {s : Shared}
theorem block_start {scope : Scope} {own : List (Str × Nat)} {fp : List Addr} (I : Inv X pins σ H s) (ok : BlkOk X.N X.env.scope scope own) (hN : X.N.Nodup) (hfp : ∀ b ∈ fp, FpOk X pins H b ∧ b < s.heap.objs.size) :
    Inv (X.blk s H scope (compEnvC scope (cellsFrom (s.heap.objs.size + 1) scope.names (cloFrom X.env.cells scope.names [])) s.heap.objs.size X.env) fp) [] (wipe σ (own.map (·.2))) H { s with heap := pushCells (s.heap.push { cls := .type "dict", data := .dict #[] }) scope.names } := by
  have hfree : ∀ y ∈ scope.names, y.2 = .free → ∃ c, X.env.cells.lookup y.1 = some c := fun y hy e => by
    rcases ok.free y hy e with k | k
    · exact I.ok.has _ (.inl k)
    · exact I.ok.has _ (.inr k)
  generalize hcenv : compEnvC scope (cellsFrom (s.heap.objs.size + 1) scope.names (cloFrom X.env.cells scope.names [])) s.heap.objs.size X.env = cenv
  have kp : ∀ b o, s.heap.get? b = some o → (pushCells (s.heap.push { cls := .type "dict", data := .dict #[] }) scope.names).get? b = some o := fun b o e => pushCells_keeps _ _ _ _ (Heap.get?_push_of_some _ e)
  have hL : cenv.locals = s.heap.objs.size := by rw [← hcenv]; rfl
  have hcl : cenv.cells = cellsFrom (s.heap.objs.size + 1) scope.names (cloFrom X.env.cells scope.names []) := by rw [← hcenv]; rfl
  have hsc : cenv.scope = relS scope X.env.scope := by rw [← hcenv]; rfl
  rw [← Heap.size_push s.heap { cls := .type "dict", data := .dict #[] }] at hcl
  have cm : ∀ {y c}, (y, c) ∈ cloFrom X.env.cells scope.names [] → X.env.cells.lookup y = some c ∧ c < s.heap.objs.size := fun {y c} hm => by
    rcases cloFrom_mem hm with hm | ⟨h1, rfl⟩
    · cases hm
    · obtain ⟨c, hc⟩ := hfree _ h1 rfl
      rw [hc]
      obtain ⟨w, z⟩ := I.cell _ _ hc
      exact ⟨rfl, z.lt⟩
  have mem : ∀ {y c}, cenv.cells.lookup y = some c → (X.env.cells.lookup y = some c ∧ c < s.heap.objs.size) ∨ (s.heap.objs.size + 1 ≤ c ∧ CellAt (pushCells (s.heap.push { cls := .type "dict", data := .dict #[] }) scope.names) c none) := fun {y c} e => by
    rw [hcl] at e
    rcases cells_mem (PySem.mem_of_lookup e) with hm | ⟨_, h2, h3⟩
    · exact .inl (cm hm)
    · rw [Heap.size_push] at h2; exact .inr ⟨h2, h3⟩
  have look : ∀ {y}, scope.names.lookup y = some .free → ∃ c, cenv.cells.lookup y = some c ∧ X.env.cells.lookup y = some c := fun {y} hl => by
    have hy : (y, NameKind.free) ∈ scope.names := PySem.mem_of_lookup hl
    obtain ⟨c', e'⟩ := mem_lookup (cells_acc (names := scope.names) (n := (s.heap.push { cls := .type "dict", data := .dict #[] }).objs.size) (cloFrom_has (cells := X.env.cells) (acc := []) hy))
    rw [← hcl] at e'
    refine ⟨c', e', ?_⟩
    rw [hcl] at e'
    rcases cells_mem (PySem.mem_of_lookup e') with hm | ⟨h1, _, _⟩
    · exact (cm hm).1
    · have := ok.uniq _ h1
      rw [hl] at this; cases this
  have okB : (X.blk s H scope cenv fp).Ok := by
    refine ⟨I.ok.mod, by show cenv.scope.kind = _; rw [hsc]; exact ok.kind, by show cenv.globals = _; rw [← hcenv]; exact I.ok.glob, by show cenv.builtins = _; rw [← hcenv]; exact I.ok.blt, by show s.heap.objs.size ≤ cenv.locals; rw [hL]; exact Nat.le_refl _,
      fun y z c e1 e2 => ?_, fun y hy => ?_, fun y c z e => ?_, I.ok.hd, I.ok.frames, .inl rfl, fun b hb => ⟨?_, fun y c e z => ?_⟩, I.bs, Nat.le_trans I.ok.bsz I.sz, fun b o e hb => ?_, fun b hb z => ?_, I.stack, I.stkFree⟩
    · have e1 : cenv.cells.lookup y = some c := e1
      have e2 : cenv.cells.lookup z = some c := e2
      rw [hcl] at e1 e2
      refine cells_inj (fun p hp => ?_) (fun y z c a b => I.ok.inj y z c (cm a).1 (cm b).1) (PySem.mem_of_lookup e1) (PySem.mem_of_lookup e2)
      rw [Heap.size_push]
      exact Nat.lt_succ_of_lt (cm (y := p.1) (c := p.2) hp).2
    · show ∃ c, cenv.cells.lookup y = some c
      have key : ∀ k, cenv.kindOf y = some k → (k = .cell ∨ k = .free) → ∃ c, cenv.cells.lookup y = some c := fun k hk hk' => by
        unfold Env.kindOf at hk
        rw [hsc] at hk
        obtain ⟨k', e, r⟩ := lookup_relS hk
        have : k' = .cell ∨ k' = .free := by
          rcases r with rfl | ⟨rfl, _⟩
          · exact hk'
          · exact .inr rfl
        rcases this with rfl | rfl
        · obtain ⟨c, hm⟩ := cells_has (n := (s.heap.push { cls := .type "dict", data := .dict #[] }).objs.size) (acc := cloFrom X.env.cells scope.names []) (PySem.mem_of_lookup e)
          obtain ⟨c', e'⟩ := mem_lookup hm
          exact ⟨c', by rw [hcl]; exact e'⟩
        · obtain ⟨c, h1, _⟩ := look e
          exact ⟨c, h1⟩
      rcases hy with hy | hy
      · exact key _ hy (.inl rfl)
      · exact key _ hy (.inr rfl)
    · have z : (scope.names.lookup y == some NameKind.cell) = true := z
      have z : scope.names.lookup y = some .cell := by simpa using z
      have e : cenv.cells.lookup y = some c := e
      rw [hcl] at e
      rcases cells_mem (PySem.mem_of_lookup e) with hm | ⟨_, h2, _⟩
      · rcases cloFrom_mem hm with hm | ⟨h1, _⟩
        · cases hm
        · have q := ok.uniq _ h1
          rw [z] at q; cases q
      · rw [Heap.size_push] at h2
        exact Nat.le_of_succ_le h2
    · show b ≠ cenv.locals
      rw [hL]; exact Nat.ne_of_lt (hfp b hb).2
    · have e : cenv.cells.lookup y = some c := e
      rcases mem e with ⟨h1, _⟩ | ⟨h1, _⟩
      · exact (hfp b hb).1.2.2.2.2.1 y c h1 z
      · have h2 : s.heap.objs.size + 1 ≤ b := by rw [← z]; exact h1
        exact absurd (Nat.lt_of_lt_of_le (hfp b hb).2 (Nat.le_of_succ_le h2)) (Nat.lt_irrefl _)
    · rcases (hfp b hb).1.2.2.2.1 with z | z
      · exact I.ok.noex b o e z
      · exact absurd (Nat.lt_of_lt_of_le (Heap.lt_size e) (Nat.le_trans I.ok.bsz z)) (Nat.lt_irrefl _)
    · rcases List.mem_cons.mp (I.stkSub b z) with z | z
      · exact (hfp b hb).1.2.1 z
      · exact (hfp b hb).1.2.2.1 z
  refine ⟨okB, rfl, I.bare, Un.kept kp, ⟨fun _ => none, ?_, fun i y av e1 e2 e3 => ?_⟩, fun y c e => ?_, ?_, fun y c e => ?_, fun p hp => ?_, I.hok.kept kp, by rw [wipe_length]; exact I.len⟩
  · show Heap.Ns _ cenv.locals _
    rw [hL]
    exact Heap.Ns.keeps (Heap.Ns.new ..) fun b o e => pushCells_keeps _ _ _ _ e
  · obtain ⟨e2, hne⟩ := wipe_some e2
    have hfr : scope.names.lookup y = some .free ∧ (cenv.kindOf y = some .cell ∨ cenv.kindOf y = some .free) := by
      have key : ∀ k, cenv.scope.names.lookup y = some k → k = .local ∨ k = .cell ∨ k = .free → scope.names.lookup y = some .free ∧ (cenv.kindOf y = some .cell ∨ cenv.kindOf y = some .free) := fun k hk hk' => by
        have hk0 := hk
        rw [hsc] at hk
        obtain ⟨k', e, r⟩ := lookup_relS hk
        have no : ¬ (k' = .local ∨ k' = .cell) := fun hh => by
          rcases ok.own _ (PySem.mem_of_lookup e) hh with e' | e'
          · obtain ⟨p, hp, hpy⟩ := List.mem_map.mp e'
            have e3 := ok.ix p hp
            have : p.1 = y := hpy
            rw [this] at e3
            exact hne (List.mem_map.mpr ⟨p, hp, nodup_ix hN e3 e1⟩)
          · exact e' (List.mem_of_getElem? e1)
        rcases r with rfl | ⟨rfl, rfl⟩
        · rcases hk' with rfl | rfl | rfl
          · exact absurd (.inl rfl) no
          · exact absurd (.inr rfl) no
          · exact ⟨e, .inr hk0⟩
        · exact ⟨e, .inl hk0⟩
      have e3 : Vis cenv.scope y := e3
      rcases e3 with e3 | e3 | e3
      · exact key _ e3 (.inl rfl)
      · exact key _ e3 (.inr (.inl rfl))
      · exact key _ e3 (.inr (.inr rfl))
    obtain ⟨m, hn, hl⟩ := I.loc
    have hvis : Vis X.env.scope y := (ok.free _ (PySem.mem_of_lookup hfr.1) rfl).elim (fun k => .inr (.inl k)) (fun k => .inr (.inr k))
    obtain ⟨w, r, q⟩ := hl i y av e1 e2 hvis
    refine ⟨w, r, .inr ⟨hfr.2, ?_⟩⟩
    obtain ⟨c, h1, h2⟩ := look hfr.1
    rcases q with ⟨k, _⟩ | ⟨_, c', e', z⟩
    · have k : X.env.scope.names.lookup y = some .local := k
      rcases ok.free _ (PySem.mem_of_lookup hfr.1) rfl with k' | k' <;> rw [show X.env.scope.names.lookup y = _ from k'] at k <;> cases k
    · rw [h2] at e'; cases e'
      exact ⟨c, h1, z.keeps kp⟩
  · have e : cenv.cells.lookup y = some c := e
    rcases mem e with ⟨h1, _⟩ | ⟨_, z⟩
    · obtain ⟨w, z⟩ := I.cell y c h1
      exact ⟨w, z.keeps kp⟩
    · exact ⟨_, z⟩
  · show H cenv.locals = none
    rw [hL]; exact I.hok.fresh (Nat.le_refl _)
  · have e : cenv.cells.lookup y = some c := e
    rcases mem e with ⟨h1, _⟩ | ⟨h1, _⟩
    · exact I.freeC y c h1
    · exact I.hok.fresh (Nat.le_of_succ_le h1)
  · exact absurd (show p ∈ ([] : List (Addr × Obj)) ++ [] from hp) (by simp)
theorem app_ok {E : Value → Shared → Prop} {D : Addr} {xs : List V} {y : V} {v : Value} {Q : Value → Shared → Prop} (I : Inv X pins σ H s) (hD : H D = some (.lst xs)) (hz : xs.length < sizeLine) (r : RelV y v)
    (h : ∀ s', Inv X pins σ (upd H D (.lst (xs ++ [y]))) s' → Q .none s') : wpAny (model X.prog X.w) X.A (call (.builtin "list.append") [.ref D, v]) Q E s := by
  obtain ⟨hz', its, n, ri, e⟩ := I.hok D _ hD
  have hl := ri.length
  refine append_at (hsz := by rw [List.size_toArray]; omega) e fun h' sb ho' => ?_
  refine h { s with heap := h' } (I.write (t' := s.toks) (by rw [hD]; trivial) (.inl rfl) (fun b u hb q => (sb.2 b hb).trans q) ⟨_, ho'⟩ ⟨by rw [List.length_append]; exact hz, its ++ [v], n + 1, ri.append (.cons r .nil), ?_⟩)
  rw [ho']
  simp
def PTs (X : Cx) (ifs : List Expr) (t : TT) : Prop :=
  ∀ (pins : List (Addr × Obj)) (s : Shared) (σ : St) (H : Hp) (Q : Bool → Hp → Prop), Inv X pins σ H s → t σ H Q →
    wpAny (model X.prog X.w) X.A (forIn ifs true fun c r => if r = true then do let ok ← isTrue c X.env (eval c X.env); pure (ForInStep.yield ok) else pure (ForInStep.yield r)) (TP X pins σ Q) X.xe s
def tYes : TT := fun _ H Q => Q true H
theorem pts_nil : PTs X [] tYes := fun _ _ _ H _ I h => wpAny_tests_nil ⟨H, I, h⟩
theorem pts_one {c : Expr} {t : TT} (h : PT X c t) : PTs X [c] t := fun pins s σ H Q I hw => wpAny_tests_one (h pins s σ H Q I hw)
end
theorem thnF {α : Type} {t : Sem α} {Q Q' : α → Shared → Prop} {M : Model} {A : Around} {E : Value → Shared → Prop} {s : Shared} (h : wpAny M A t Q (fun _ _ => False) s) (hQ : ∀ a s, Q a s → Q' a s) : wpAny M A t Q' E s := wpAny_mono h hQ fun _ _ z => False.elim z
theorem compLoop_any {prog : Program} {w : World} {A : Around} {R : Result → Shared → Prop} {s : Shared} {elt target iter : Expr} {ifs : List Expr} {scope : Scope} {pos : Pos} {it acc : Value} {env : Env} (I : Nat → Shared → Prop)
    (turn : ∀ n s, I n s → wpAny (model prog w) A (pyNext it) (fun r s₁ => match r with
      | none => R (.ok .next) s₁
      | some v => wpAny (model prog w) A (letOwnedTupleGo target it v) (fun _ s₁' => wpAny (model prog w) A (assign target env v) (fun _ s₂ =>
          wpAny (model prog w) A (forIn ifs true fun c r => if r = true then do let ok ← isTrue c env (eval c env); pure (ForInStep.yield ok) else pure (ForInStep.yield r)) (fun ok s₃ =>
            if ok = true then wpAny (model prog w) A (eval elt env) (fun x s₄ =>
              wpAny (model prog w) A (call (.builtin "list.append") [acc, x]) (fun _ s₅ => ∃ m, m < n ∧ I m s₅) (notedBy (model prog w) A env fun e s' => R (.error e) s') s₄) (notedBy (model prog w) A env fun e s' => R (.error e) s') s₃
            else ∃ m, m < n ∧ I m s₃) (notedBy (model prog w) A env fun e s' => R (.error e) s') s₂) (notedBy (model prog w) A env fun e s' => R (.error e) s') s₁') (notedBy (model prog w) A env fun e s' => R (.error e) s') s₁) (notedBy (model prog w) A env fun e s' => R (.error e) s') s)
    (n : Nat) (h : I n s) :
    codeAny (model prog w) A (.compLoop (.ListComp elt [⟨target, iter, ifs, 0⟩] scope pos) 0 it acc env) R s := by
  refine codeAny_loop rfl I (fun n s hI => ?_) n h
  show wpAny _ A ((compTurn (.ListComp elt [⟨target, iter, ifs, 0⟩] scope pos) 0 it acc env).onRaise (fun x => do noteFrame x env; theTreesLotGoes x)) _ _ s
  refine wpAny_noted ?_
  rw [compTurn_list]
  refine wpAny_bind (wpAny_standAt (wpAny_bind (wpAny_mono (turn n s hI) (fun r s₁ h₁ => ?_) fun _ _ h' => h')))
  cases r with
  | none => exact wpAny_pure h₁
  | some v =>
    refine wpAny_bind (wpAny_mono h₁ (fun _ s₁' h₁' => ?_) fun _ _ h' => h')
    refine wpAny_bind (wpAny_mono h₁' (fun _ s₂ h₂ => wpAny_bind (wpAny_mono h₂ (fun ok s₃ h₃ => ?_) fun _ _ h' => h')) fun _ _ h' => h')
    cases ok with
    | false => exact wpAny_pure ⟨rfl, h₃⟩
    | true =>
      exact wpAny_bind (wpAny_bind (wpAny_mono h₃ (fun x s₄ h₄ => wpAny_bind (wpAny_mono h₄ (fun _ s₅ h₅ => wpAny_pure (wpAny_pure ⟨rfl, h₅⟩)) fun _ _ h' => h')) fun _ _ h' => h'))
section
variable {X : Cx}
def tLc (wi : TI) (g : TG) (tt : TT) (te : TE) (vs : List Nat) : TE := fun σ H Q => wi σ H fun J H1 => ∀ D, H1 D = none → ∃ W : Nat → Nat → Hp → Prop, (∃ m, W 0 m (upd H1 D (.lst []))) ∧ ∀ i m H, W i m H →
  (J.stop i H ∧ Q (.ref D) H) ∨ (J.go i H ∧ ∃ Nx : Hp → Prop, (∀ H', Nx H' → ∃ m', m' < m ∧ W (i + 1) m' H') ∧ ∀ x H', J.yld i H x H' → g x (wipe σ vs) H' fun σ2 H2 => wipe σ2 vs = wipe σ vs ∧ tt σ2 H2 fun b H3 =>
    if b = true then te σ2 H3 fun y H4 => ∃ acc, H4 D = some (.lst acc) ∧ acc.length < sizeLine ∧ Nx (upd H4 D (.lst (acc ++ [y]))) else Nx H3)
theorem lc_core {pins : List (Addr × Obj)} {s : Shared} {σ : St} {H : Hp} {Q : VK} {elt tg iter : Expr} {ifs : List Expr} {scope : Scope} {own : List (Str × Nat)} {pos pos' : Pos} {wi : TI} {g : TG} {tt : TT} {te : TE} {use : Option (Value → Sem Unit)} {Qf : Value → Shared → Prop}
    (hc : X.calm = true) (hN : X.N.Nodup) (I : Inv X pins σ H s) (hi : PI X tg iter wi) (ok : BlkOk X.N X.env.scope scope own)
    (hg : ∀ (s : Shared) (H : Hp) (C : Addr) (cl : List (Str × Addr)) (fp : List Addr), PG (X.blk s H scope (compEnvC scope cl C X.env) fp) tg g) (ht : ∀ (s : Shared) (H : Hp) (C : Addr) (cl : List (Str × Addr)) (fp : List Addr), PTs (X.blk s H scope (compEnvC scope cl C X.env) fp) ifs tt)
    (he : ∀ (s : Shared) (H : Hp) (C : Addr) (cl : List (Str × Addr)) (fp : List Addr), PE (X.blk s H scope (compEnvC scope cl C X.env) fp) elt te) (hs : ∀ x, foldedSetIterable iter X.env x = pure x)
    (h : tLc wi g tt te (own.map (·.2)) σ H Q)
    (hRR : ∀ D C s' m H', Inv X pins σ H' s' → Q (.ref D) H' → s'.heap.Ns C m → FpOk X pins H' C → compPost (model X.prog X.w) X.A X.xe use Qf (.ref D) C (.ok .next) s') :
    wpAny (model X.prog X.w) X.A (comprehension (.ListComp elt [⟨tg, iter, ifs, 0⟩] scope pos) scope X.env pos' (newList []) false (eval iter X.env) use) Qf X.xe s := by
  have hfree : ∀ y ∈ scope.names, y.2 = .free → ∃ c, X.env.cells.lookup y.1 = some c := fun y hy e => by
    rcases ok.free y hy e with k | k
    · exact I.ok.has _ (.inl k)
    · exact I.ok.has _ (.inr k)
  refine wpAny_comprehension_free (use := use) rfl hs (closure_ok hfree) ok.kind (fun y hy e => by rw [ok.uniq y hy, e])
    (thn (hi pins s σ H _ I h) fun xv s1 hx => thn hx fun itv s2 h2 => ?_)
  obtain ⟨it, fp, tn, J, H2, e, I2, T, st2, f2, q⟩ := h2
  subst e
  refine wpAny_newObj_type (newEnv_comp ?_) (by show 0 ≤ sizeLine; decide)
  generalize hD : s2.heap.objs.size = D
  have hDn : H2 D = none := I2.hok.fresh (Nat.le_of_eq hD)
  obtain ⟨W, ⟨m0, w0⟩, turn⟩ := q D hDn
  generalize hs3 : ({ s2 with heap := s2.heap.push { cls := .type "list", data := .seq ([] : List Value).toArray } } : Shared) = s3
  have I3 : Inv X pins σ (upd H2 D (.lst [])) s3 := by
    rw [← hs3]
    refine I2.laid (t' := s2.toks) (fun b o e => Heap.get?_push_of_some _ e) (Nat.le_of_eq hD) ⟨Nat.zero_le _, [], 0, .nil, ?_⟩
    rw [← hD]
    exact Heap.get?_push_size _ rfl
  have h3 : s3.heap = s2.heap.push { cls := .type "list", data := .seq ([] : List Value).toArray } := by rw [← hs3]
  have sz : ∀ b ∈ fp, b < s2.heap.objs.size := fun b hb => by
    obtain ⟨o, e, _⟩ := T.obj _ _ st2 b hb
    exact Heap.lt_size e
  have f3 : ∀ b ∈ fp, FpOk X pins (upd H2 D (.lst [])) b ∧ b < s3.heap.objs.size := fun b hb => by
    have hlt := sz b hb
    refine ⟨⟨?_, (f2 b hb).2⟩, by rw [h3, Heap.size_push]; exact Nat.lt_succ_of_lt hlt⟩
    rw [upd_ne (by rw [← hD]; exact Nat.ne_of_lt hlt)]
    exact (f2 b hb).1
  have st3 : tn 0 s3.heap := T.keep _ _ _ st2 fun b _ o e => by rw [h3]; exact Heap.get?_push_of_some _ e
  have I4 := block_start I3 ok hN f3
  have pg := hg s3 (upd H2 D (.lst [])) s3.heap.objs.size (cellsFrom (s3.heap.objs.size + 1) scope.names (cloFrom X.env.cells scope.names [])) fp
  have pt := ht s3 (upd H2 D (.lst [])) s3.heap.objs.size (cellsFrom (s3.heap.objs.size + 1) scope.names (cloFrom X.env.cells scope.names [])) fp
  have pe := he s3 (upd H2 D (.lst [])) s3.heap.objs.size (cellsFrom (s3.heap.objs.size + 1) scope.names (cloFrom X.env.cells scope.names [])) fp
  show codeAny _ _ (.compStart (.ListComp elt [⟨tg, iter, ifs, 0⟩] scope pos) 0 (.ref it) (.ref D) (compEnvC scope (cellsFrom (s3.heap.objs.size + 1) scope.names (cloFrom X.env.cells scope.names [])) s3.heap.objs.size X.env)) (compPost (model X.prog X.w) X.A X.xe use Qf (.ref D) s3.heap.objs.size) { s3 with heap := pushCells (s3.heap.push { cls := .type "dict", data := .dict #[] }) scope.names }
  have nfp : ∀ b ∈ fp, (upd H2 D (.lst [])) b = none := fun b hb => (f3 b hb).1.1
  generalize hce : compEnvC scope (cellsFrom (s3.heap.objs.size + 1) scope.names (cloFrom X.env.cells scope.names [])) s3.heap.objs.size X.env = ce at I4 pg pt pe ⊢
  have cL : ce.locals = s3.heap.objs.size := by subst hce; rfl
  generalize hH3 : upd H2 D (.lst []) = H3 at I3 I4 pg pt pe w0 nfp f3
  generalize hs4 : ({ s3 with heap := pushCells (s3.heap.push { cls := .type "dict", data := .dict #[] }) scope.names } : Shared) = s4 at I4 ⊢
  have st4 : tn 0 s4.heap := T.keep _ _ _ st3 fun b _ o e => by rw [← hs4]; exact pushCells_keeps _ _ _ _ (Heap.get?_push_of_some _ e)
  have stat : ∀ {σ' : St} {H' : Hp} {s' : Shared}, Inv (X.blk s3 H3 scope ce fp) [] σ' H' s' → (∀ b ∈ fp, H' b = none) → ∀ b ∈ fp, FpOk (X.blk s3 H3 scope ce fp) [] H' b := fun {σ' H' s'} I' hn b hb =>
    ⟨hn b hb, (I'.ok.exf b hb).1, I'.ok.exfs b hb, .inl hb, fun x c e => (I'.ok.exf b hb).2 x c e, fun p hp => absurd (show p ∈ ([] : List (Addr × Obj)) ++ [] from hp) (by simp)⟩
  have loop : codeAny (model X.prog X.w) X.A (.compLoop (.ListComp elt [⟨tg, iter, ifs, 0⟩] scope pos) 0 (.ref it) (.ref D) ce) (compPost (model X.prog X.w) X.A X.xe use Qf (.ref D) s3.heap.objs.size) s4 := by
    refine compLoop_any (fun n s' => ∃ i H', Inv (X.blk s3 H3 scope ce fp) [] (wipe σ (own.map (·.2))) H' s' ∧ tn i s'.heap ∧ (∀ b ∈ fp, H' b = none) ∧ W i n H') ?_ m0 ⟨0, H3, I4, st4, nfp, w0⟩
    rintro n s5 ⟨i, H5, I5, st5, n5, w5⟩
    rcases turn i n H5 w5 with ⟨stop, qq⟩ | ⟨go, Nx, hNx, step⟩
    · have td := T.done (X.blk s3 H3 scope ce fp) rfl rfl rfl hc i [] s5 _ H5 (fun _ _ => False) I5 (stat I5 n5) st5 stop
      refine thnF td fun r s6 ⟨hr, I6⟩ => ?_
      subst hr
      have I7 : Inv X pins σ H5 s6 := I3.call' (ch := fp) I6.os I6.base I6.hok I6.bare fun b hb => ⟨(f3 b hb).1.2.2.2.1, (f3 b hb).1.2.1, (f3 b hb).1.2.2.2.2.1, (f3 b hb).1.2.2.2.2.2⟩
      have nC : H5 s3.heap.objs.size = none := by
        have z : H5 ce.locals = none := I6.free
        rw [cL] at z
        exact z
      obtain ⟨m, hn, _⟩ := I6.loc
      have hn : s6.heap.Ns ce.locals m := hn
      rw [cL] at hn
      exact hRR D s3.heap.objs.size s6 m H5 I7 qq hn (I3.fpOk (Nat.le_refl _) nC)
    · have ti := T.item (X.blk s3 H3 scope ce fp) rfl rfl rfl hc i [] s5 _ H5 (fun _ _ => False) I5 (stat I5 n5) st5 go
      refine thnF ti fun r s6 ⟨u, hr, h6⟩ => ?_
      subst hr
      refine thnF h6 fun _ s7 ⟨x, H7, I7, r7, y7, st7, n7⟩ => ?_
      have I7' := I7.pinned (stat I7 n7) (T.obj _ _ st7)
      refine thnF (pg _ s7 _ H7 x u _ I7' r7 (step x H7 y7)) fun _ s8 ⟨σ8, H8, I8, hw8, q8⟩ => ?_
      refine thnF (pt _ s8 σ8 H8 _ I8 q8) fun b s9 ⟨H9, I9, q9⟩ => ?_
      have fin : ∀ {s' : Shared} {H' : Hp}, Inv (X.blk s3 H3 scope ce fp) ([] ++ pinsAt fp s7.heap) σ8 H' s' → Nx H' → ∃ m, m < n ∧ ∃ i H', Inv (X.blk s3 H3 scope ce fp) [] (wipe σ (own.map (·.2))) H' s' ∧ tn i s'.heap ∧ (∀ b ∈ fp, H' b = none) ∧ W i m H' := fun {s' H'} I' nx => by
        obtain ⟨m', hm, w'⟩ := hNx H' nx
        have pin' : ∀ b ∈ fp, ∀ o, s7.heap.get? b = some o → s'.heap.get? b = some o ∧ H' b = none := fun b hb o e =>
          let z := I'.pin (b, o) (List.mem_append_right _ (List.mem_append_right _ (mem_pinsAt hb e)))
          ⟨z.1, z.2.1⟩
        have hl : (wipe σ (own.map (·.2))).length = σ8.length := by rw [← hw8, wipe_length]
        refine ⟨m', hm, i + 1, H', (I'.unpinned (pins := [])).weak hl (fun j v e => ?_), T.keep _ _ _ st7 fun b hb o e => (pin' b hb o e).1, fun b hb => ?_, w'⟩
        · rw [← hw8] at e
          exact (wipe_some e).1
        · obtain ⟨o, e, _⟩ := T.obj _ _ st7 b hb
          exact (pin' b hb o e).2
      cases b with
      | false =>
        simp only [Bool.false_eq_true, if_false] at q9 ⊢
        exact fin I9 q9
      | true =>
        simp only [if_true] at q9 ⊢
        refine thnF (pe _ s9 σ8 H9 _ I9 q9) fun z s10 ⟨yv, H10, I10, r10, acc, hD10, hz10, nx⟩ => ?_
        exact app_ok (X := X.blk s3 H3 scope ce fp) I10 hD10 hz10 r10 fun s11 I11 => fin I11 nx
  exact codeAny_compStart_list loop (T.self X.A 0 _ _ _ st4 loop)
theorem pe_lc {elt tg iter : Expr} {ifs : List Expr} {scope : Scope} {own : List (Str × Nat)} {pos : Pos} {wi : TI} {g : TG} {tt : TT} {te : TE} (hc : X.calm = true) (hN : X.N.Nodup) (hi : PI X tg iter wi) (ok : BlkOk X.N X.env.scope scope own)
    (hg : ∀ (s : Shared) (H : Hp) (C : Addr) (cl : List (Str × Addr)) (fp : List Addr), PG (X.blk s H scope (compEnvC scope cl C X.env) fp) tg g) (ht : ∀ (s : Shared) (H : Hp) (C : Addr) (cl : List (Str × Addr)) (fp : List Addr), PTs (X.blk s H scope (compEnvC scope cl C X.env) fp) ifs tt)
    (he : ∀ (s : Shared) (H : Hp) (C : Addr) (cl : List (Str × Addr)) (fp : List Addr), PE (X.blk s H scope (compEnvC scope cl C X.env) fp) elt te) (hs : ∀ x, foldedSetIterable iter X.env x = pure x := by intro _; rfl) :
    PE X (.ListComp elt [⟨tg, iter, ifs, 0⟩] scope pos) (tLc wi g tt te (own.map (·.2))) := by
  intro pins s σ H Q I h
  rw [eval_ListComp]
  refine lc_core hc hN I hi ok hg ht he hs h fun D C s' m H' I' q hn f => ⟨m, hn, fun h'' sb => ?_⟩
  obtain ⟨f0, f1, f2, f3, f4, f5⟩ := f
  exact ⟨.ref D, H', I'.turned (t' := s'.toks) (fun b o hb e => (sb.2 b hb).trans e) f0 f1 f3 f4 f5, rfl, q⟩
theorem ps_setLc {i : Nat} {y : Str} {py : Pos} {elt tg iter : Expr} {ifs : List Expr} {scope : Scope} {own : List (Str × Nat)} {pos spos : Pos} {wi : TI} {g : TG} {tt : TT} {te : TE} (hc : X.calm = true) (hN : X.N.Nodup) (hy : X.N[i]? = some y) (hyl : X.env.scope.names.lookup y = some .local)
    (hsw : swapsWith (.ListComp elt [⟨tg, iter, ifs, 0⟩] scope pos) (some (.Name y py)) spos.line X.env = pure true) (hi : PI X tg iter wi) (ok : BlkOk X.N X.env.scope scope own)
    (hg : ∀ (s : Shared) (H : Hp) (C : Addr) (cl : List (Str × Addr)) (fp : List Addr), PG (X.blk s H scope (compEnvC scope cl C X.env) fp) tg g) (ht : ∀ (s : Shared) (H : Hp) (C : Addr) (cl : List (Str × Addr)) (fp : List Addr), PTs (X.blk s H scope (compEnvC scope cl C X.env) fp) ifs tt)
    (he : ∀ (s : Shared) (H : Hp) (C : Addr) (cl : List (Str × Addr)) (fp : List Addr), PE (X.blk s H scope (compEnvC scope cl C X.env) fp) elt te) (hs : ∀ x, foldedSetIterable iter X.env x = pure x := by intro _; rfl) :
    PS X (.Assign [.Name y py] (.ListComp elt [⟨tg, iter, ifs, 0⟩] scope pos) spos) (tAsg (tLc wi g tt te (own.map (·.2))) (gName i)) := by
  intro pins s σ H D I h
  rw [exec_Assign_Name_used _ _ _ _ hsw]
  refine wpAny_bind (wpAny_standAt (wpAny_bind ?_))
  show wpAny _ X.A (do let _ ← comprehension (.ListComp elt [⟨tg, iter, ifs, 0⟩] scope pos) scope X.env (firstIterPos [⟨tg, iter, ifs, 0⟩] pos) (newList []) false (eval iter X.env) (some (assign (.Name y py) X.env))) _ _ s
  have h : tLc wi g tt te (own.map (·.2)) σ H (fun x H1 => gName i x σ H1 D.nx) := h
  refine wpAny_bind (thn (lc_core (Qf := fun _ s' => SP X pins D .next s') hc hN I hi ok hg ht he hs h fun L C s' m H' I' q hn f => ?_) fun _ s' hq => wpAny_pure (wpAny_pure hq))
  show wpAny _ _ (assign (.Name y py) X.env (.ref L)) _ _ _
  refine wpAny_assign_Name (store_ok2 (v := V.ref L) I' hN hy (.inl hyl) rfl (fun s2 I2 ⟨a, sb, ha⟩ => ?_) (.inr hyl))
  obtain ⟨f0, f1, f2, f3, f4, f5⟩ := f
  have haC : C ≠ a := by
    rcases ha with z | z
    · rw [z]; exact f1
    · exact fun e => f4 y a z e.symm
  refine ⟨m, hn.sameBut sb haC, fun h3 sb3 => ?_⟩
  exact ⟨_, H', I2.turned (t' := s2.toks) (fun b o hb e => (sb3.2 b hb).trans e) f0 f1 f3 f4 f5, q⟩
theorem sw_true {elt : Expr} {gs : List Comprehension} {scope : Scope} {pos py : Pos} {y : Str} {l : Nat} {env : Env} (hk : env.scope.kind = .function) (hy : env.scope.names.lookup y = some .local) (hl : (py.line == pos.line) = true)
    (ha : (scope.names.any fun (n, k) => n == y && (k == .local || k == .cell)) = false) : swapsWith (.ListComp elt gs scope pos) (some (.Name y py)) l env = pure true := by
  have ky : env.kindOf y = some .local := hy
  have hb : env.blockKind = .function := by unfold Env.blockKind; rw [hk]; rfl
  unfold swapsWith
  simp only [hb, ky, ha, Expr.pos, hl]
  rfl
end
theorem lc_range {lo : Int} {n : Nat} {g : TG} {tt : TT} {te : TE} {vs : List Nat} {σ : St} {H1 : Hp} {D : Addr} {Qd : Hp → Prop} (Pv : Nat → Hp → Prop) (h0 : Pv 0 (upd H1 D (.lst [])))
    (hs : ∀ i H, i < n → Pv i H → g (.int (lo + i)) (wipe σ vs) H fun σ2 H2 => wipe σ2 vs = wipe σ vs ∧ tt σ2 H2 fun b H3 =>
      if b = true then te σ2 H3 fun y H4 => ∃ acc, H4 D = some (.lst acc) ∧ acc.length < sizeLine ∧ Pv (i + 1) (upd H4 D (.lst (acc ++ [y]))) else Pv (i + 1) H3) (hd : ∀ H, Pv n H → Qd H) :
    ∃ W : Nat → Nat → Hp → Prop, (∃ m, W 0 m (upd H1 D (.lst []))) ∧ ∀ i m H, W i m H →
      ((Itr lo n).stop i H ∧ Qd H) ∨ ((Itr lo n).go i H ∧ ∃ Nx : Hp → Prop, (∀ H', Nx H' → ∃ m', m' < m ∧ W (i + 1) m' H') ∧ ∀ x H', (Itr lo n).yld i H x H' → g x (wipe σ vs) H' fun σ2 H2 => wipe σ2 vs = wipe σ vs ∧ tt σ2 H2 fun b H3 =>
        if b = true then te σ2 H3 fun y H4 => ∃ acc, H4 D = some (.lst acc) ∧ acc.length < sizeLine ∧ Nx (upd H4 D (.lst (acc ++ [y]))) else Nx H3) := by
  refine ⟨fun i m H => m = n - i ∧ i ≤ n ∧ Pv i H, ⟨n, by simp, Nat.zero_le _, h0⟩, ?_⟩
  rintro i m H ⟨rfl, hi, p⟩
  by_cases hlt : i < n
  · refine .inr ⟨hlt, Pv (i + 1), fun H' p' => ⟨n - (i + 1), by omega, rfl, hlt, p'⟩, fun x H' y => ?_⟩
    obtain ⟨e, y⟩ := y
    subst e y
    exact hs i _ hlt p
  · have e : i = n := by omega
    subst e
    exact .inl ⟨Nat.le_refl _, hd H p⟩
theorem lc_list {K : PySem.W.Frag} {a : Addr} {xs : List V} {g : TG} {tt : TT} {te : TE} {vs : List Nat} {σ : St} {H1 : Hp} {D : Addr} {Qd : Hp → Prop} (Pv : Nat → Hp → Prop) (h0 : Pv 0 (upd H1 D (.lst []))) (hl : ∀ i H, i ≤ xs.length → Pv i H → SqL K H a xs)
    (hs : ∀ i x H, xs[i]? = some x → Pv i H → g x (wipe σ vs) H fun σ2 H2 => wipe σ2 vs = wipe σ vs ∧ tt σ2 H2 fun b H3 =>
      if b = true then te σ2 H3 fun y H4 => ∃ acc, H4 D = some (.lst acc) ∧ acc.length < sizeLine ∧ Pv (i + 1) (upd H4 D (.lst (acc ++ [y]))) else Pv (i + 1) H3) (hd : ∀ H, Pv xs.length H → Qd H) :
    ∃ W : Nat → Nat → Hp → Prop, (∃ m, W 0 m (upd H1 D (.lst []))) ∧ ∀ i m H, W i m H →
      ((Itl K a).stop i H ∧ Qd H) ∨ ((Itl K a).go i H ∧ ∃ Nx : Hp → Prop, (∀ H', Nx H' → ∃ m', m' < m ∧ W (i + 1) m' H') ∧ ∀ x H', (Itl K a).yld i H x H' → g x (wipe σ vs) H' fun σ2 H2 => wipe σ2 vs = wipe σ vs ∧ tt σ2 H2 fun b H3 =>
        if b = true then te σ2 H3 fun y H4 => ∃ acc, H4 D = some (.lst acc) ∧ acc.length < sizeLine ∧ Nx (upd H4 D (.lst (acc ++ [y]))) else Nx H3) := by
  refine ⟨fun i m H => m = xs.length - i ∧ i ≤ xs.length ∧ Pv i H, ⟨xs.length, by simp, Nat.zero_le _, h0⟩, ?_⟩
  rintro i m H ⟨rfl, hi, p⟩
  have q := hl i H hi p
  by_cases hlt : i < xs.length
  · refine .inr ⟨⟨xs, xs[i], q, by simp [hlt]⟩, Pv (i + 1), fun H' p' => ⟨xs.length - (i + 1), by omega, rfl, hlt, p'⟩, fun x H' y => ?_⟩
    obtain ⟨e, y⟩ := y
    subst e
    exact hs i x _ (y xs q) p
  · have e : i = xs.length := by omega
    subst e
    exact .inl ⟨⟨xs, q, Nat.le_refl _⟩, hd H p⟩
def blkC (N : List Str) (sc scope : Scope) (own : List (Str × Nat)) : Bool :=
  (match scope.kind with | .function => true | _ => false) && (scope.names.all fun y => decide (scope.names.lookup y.1 = some y.2)) && (own.all fun p => decide (N[p.2]? = some p.1)) &&
    (scope.names.all fun y => match y.2 with
      | .free => (match sc.names.lookup y.1 with | some .cell => true | some .free => true | _ => false)
      | .local => decide (y.1 ∈ own.map (·.1)) || decide (y.1 ∉ N)
      | .cell => decide (y.1 ∈ own.map (·.1)) || decide (y.1 ∉ N)
      | _ => true)
theorem blkOk_by {N : List Str} {sc scope : Scope} {own : List (Str × Nat)} (h : blkC N sc scope own = true) : BlkOk N sc scope own := by
  unfold blkC at h
  simp only [Bool.and_eq_true, List.all_eq_true, decide_eq_true_eq] at h
  obtain ⟨⟨⟨h1, h2⟩, h3⟩, h4⟩ := h
  refine ⟨?_, h2, h3, fun y hy e => ?_, fun y hy e => ?_⟩
  · split at h1
    · assumption
    · cases h1
  · have q := h4 y hy
    simp only [e] at q
    split at q <;> first | exact .inl (by assumption) | exact .inr (by assumption) | cases q
  · have q := h4 y hy
    rcases e with e | e <;> (simp only [e, Bool.or_eq_true, decide_eq_true_eq] at q; exact q)
end L2
namespace L2
open PySem PySem.Spec PyProof.Rows
section
variable {κ : Type} [DecidableEq κ]
def valV (kvs : List (κ × V)) (k : κ) : Option V := (kvs.find? fun kv => decide (kv.1 = k)).map (·.2)
def putK (kvs : List (κ × V)) (k : κ) (v : V) : List (κ × V) :=
  if (kvs.any fun kv => decide (kv.1 = k)) = true then kvs.map (fun kv => if kv.1 = k then (kv.1, v) else kv) else kvs ++ [(k, v)]
theorem valV_pos {p : κ × V} {r : List (κ × V)} {k : κ} (e : p.1 = k) : valV (p :: r) k = some p.2 := by simp [valV, List.find?_cons, e]
theorem valV_neg {p : κ × V} {r : List (κ × V)} {k : κ} (e : ¬ p.1 = k) : valV (p :: r) k = valV r k := by simp [valV, List.find?_cons, e]
theorem valV_any (k : κ) : ∀ kvs : List (κ × V), (kvs.any fun kv => decide (kv.1 = k)) = (valV kvs k).isSome
  | [] => rfl
  | p :: r => by
    rw [List.any_cons]
    by_cases e : p.1 = k
    · simp only [valV_pos e, decide_eq_true e, Bool.true_or, Option.isSome_some]
    · rw [valV_neg e, decide_eq_false e, Bool.false_or]; exact valV_any k r
theorem length_putK (kvs : List (κ × V)) (k : κ) (v : V) : (putK kvs k v).length ≤ kvs.length + 1 := by
  unfold putK
  split
  · rw [List.length_map]; omega
  · rw [List.length_append, List.length_cons, List.length_nil]; omega
theorem putK_new {kvs : List (κ × V)} {k : κ} (v : V) (h : valV kvs k = none) : putK kvs k v = kvs ++ [(k, v)] := by
  unfold putK
  rw [valV_any, h]
  exact if_neg (by decide)
theorem RelO.isSome_eq {o : Option V} {u : Option Value} (r : RelO o u) : o.isSome = u.isSome := by
  cases o with
  | none => cases u with
    | none => rfl
    | some _ => exact (show False from r).elim
  | some _ => cases u with
    | none => exact (show False from r).elim
    | some _ => rfl
theorem KV.val {kvs : List (κ × V)} {vs : List (κ × Value)} (r : KV kvs vs) (k : κ) : RelO (valV kvs k) (valueAt vs k) := by
  unfold KV at r
  induction r with
  | nil => exact True.intro
  | @cons p q ps qs h t ih =>
    obtain ⟨h1, h2⟩ := h
    by_cases e : p.1 = k
    · have e' : q.1 = k := h1.symm.trans e
      have b : valueAt (q :: qs) k = some q.2 := by simp [valueAt, List.find?_cons, e']
      rw [valV_pos e, b]; exact h2
    · have e' : ¬ q.1 = k := fun z => e (h1.trans z)
      have b : valueAt (q :: qs) k = valueAt qs k := by simp [valueAt, List.find?_cons, e']
      rw [valV_neg e, b]; exact ih
theorem KV.any {kvs : List (κ × V)} {vs : List (κ × Value)} (r : KV kvs vs) (k : κ) : (kvs.any fun kv => decide (kv.1 = k)) = vs.any fun kv => decide (kv.1 = k) := by
  unfold KV at r
  induction r with
  | nil => rfl
  | cons h t ih => rw [List.any_cons, List.any_cons, ih, h.1]
theorem KV.repl {kvs : List (κ × V)} {vs : List (κ × Value)} (r : KV kvs vs) (k : κ) {y : V} {u : Value} (ry : RelV y u) :
    KV (kvs.map fun kv => if kv.1 = k then (kv.1, y) else kv) (vs.map fun kv => if kv.1 = k then (kv.1, u) else kv) := by
  unfold KV at r ⊢
  induction r with
  | nil => exact .nil
  | @cons p q ps qs h t ih =>
    rw [List.map_cons, List.map_cons]
    refine .cons ?_ ih
    obtain ⟨h1, h2⟩ := h
    by_cases e : p.1 = k
    · rw [if_pos e, if_pos (h1.symm.trans e)]; exact ⟨h1, ry⟩
    · rw [if_neg e, if_neg (fun z => e (h1.trans z))]; exact ⟨h1, h2⟩
theorem KV.put {kvs : List (κ × V)} {vs : List (κ × Value)} (r : KV kvs vs) (k : κ) {y : V} {u : Value} (ry : RelV y u) : KV (putK kvs k y) (stored vs k u) := by
  unfold putK stored
  rw [r.any k]
  by_cases e : (vs.any fun kv => decide (kv.1 = k)) = true
  · rw [if_pos e, if_pos e]; exact r.repl k ry
  · rw [if_neg e, if_neg e]; exact Paired.snoc r ⟨rfl, ry⟩
theorem KV.length {kvs : List (κ × V)} {vs : List (κ × Value)} (r : KV kvs vs) : kvs.length = vs.length := Paired.length r
end
theorem kV_is {P : Program} {w : World} {k : Key} {u : Value} (r : RelV (kV k) u) : (mixKind P w).is k u = true := by
  cases k with
  | inl i => obtain ⟨t, e⟩ := (show ∃ t, u = Value.int i t from r); subst e; exact mixKind_int P w i t
  | inr x => obtain ⟨t, e⟩ := (show ∃ t, u = Value.str x t from r); subst e; exact mixKind_str P w x t
theorem items_are {P : Program} {w : World} : ∀ {ks : List Key} {us : List Value}, Vals (ks.map kV) us → ItemsAre (mixKind P w) ks us
  | [], _, r => by rw [List.map_nil] at r; cases r; exact .nil
  | k :: ks, _, r => by
    rw [List.map_cons] at r
    cases r with
    | cons h t => exact .cons (kV_is h) (items_are t)
abbrev KT (H : Hp) : List (List Key × V) → List (List Key × Addr × Value) → Prop := Paired fun p q => p.1 = q.1 ∧ H q.2.1 = some (.tup (p.1.map kV)) ∧ RelV p.2 q.2.2
theorem KT.val {H : Hp} {kvs : List (List Key × V)} {xs : List (List Key × Addr × Value)} (r : KT H kvs xs) (k : List Key) : RelO (valV kvs k) ((atKey xs k).map (·.2)) := by
  induction r with
  | nil => exact True.intro
  | @cons p q ps qs h t ih =>
    obtain ⟨h1, _, h2⟩ := h
    by_cases e : p.1 = k
    · have e' : q.1 = k := h1.symm.trans e
      have b : atKey (q :: qs) k = some q.2 := by simp [atKey, List.find?_cons, e']
      rw [valV_pos e, b]; exact h2
    · have e' : ¬ q.1 = k := fun z => e (h1.trans z)
      have b : atKey (q :: qs) k = atKey qs k := by simp [atKey, List.find?_cons, e']
      rw [valV_neg e, b]; exact ih
theorem KT.repl {H : Hp} {kvs : List (List Key × V)} {xs : List (List Key × Addr × Value)} (r : KT H kvs xs) (k : List Key) {y : V} {u : Value} (ry : RelV y u) :
    KT H (kvs.map fun kv => if kv.1 = k then (kv.1, y) else kv) (xs.map (putAt k u)) := by
  induction r with
  | nil => exact .nil
  | @cons p q ps qs h t ih =>
    rw [List.map_cons, List.map_cons]
    refine .cons ?_ ih
    obtain ⟨h1, h2, h3⟩ := h
    unfold putAt
    by_cases e : p.1 = k
    · rw [if_pos e, if_pos (h1.symm.trans e)]; exact ⟨h1, h2, ry⟩
    · rw [if_neg e, if_neg (fun z => e (h1.trans z))]; exact ⟨h1, h2, h3⟩
theorem KT.put {H : Hp} {kvs : List (List Key × V)} {xs : List (List Key × Addr × Value)} (r : KT H kvs xs) (k : List Key) {b : Addr} {y : V} {u : Value} (hb : H b = some (.tup (k.map kV))) (ry : RelV y u) :
    KT H (putK kvs k y) (storedH xs k b u) := by
  have e : (kvs.any fun kv => decide (kv.1 = k)) = (atKey xs k).isSome := by
    rw [valV_any, (r.val k).isSome_eq, Option.isSome_map]
  unfold putK storedH
  rw [e]
  by_cases q : (atKey xs k).isSome = true
  · rw [if_pos q, if_pos q]; exact r.repl k ry
  · rw [if_neg q, if_neg q]; exact Paired.snoc r ⟨rfl, hb, ry⟩
theorem KT.keeps {H H' : Hp} {kvs : List (List Key × V)} {xs : List (List Key × Addr × Value)} (r : KT H kvs xs) (ht : ∀ b ys, H b = some (.tup ys) → H' b = some (.tup ys)) : KT H' kvs xs :=
  Paired.mapP r fun _ _ z => ⟨z.1, ht _ _ z.2.1, z.2.2⟩
section
variable {P : Program} {w : World} {H : Hp} {h : Heap} {a : Addr}
theorem rd_of {u : HO} (ok : HOk P w H h) (e : Rd H a u) : ObjOk P w H h a u := e.ok ok
theorem dk_rd {kvs : List (Key × V)} (ok : HOk P w H h) (e : Rd H a (.dK kvs)) : kvs.length ≤ sizeLine ∧ (a == sysModules) = false ∧ ∃ vs, KV kvs vs ∧ h.DictOf (mixKind P w) a vs :=
  show ObjOk P w H h a (.dK kvs) from rd_of ok e
theorem dk_of {kvs : List (Key × V)} (ok : HOk P w H h) (e : H a = some (.dK kvs)) : kvs.length ≤ sizeLine ∧ (a == sysModules) = false ∧ ∃ vs, KV kvs vs ∧ h.DictOf (mixKind P w) a vs := dk_rd ok (.inl e)
theorem key_of {ks : List Key} (ok : HOk P w H h) (e : H a = some (.tup (ks.map kV))) : (tupleKind (mixKind P w)).is h ks a := by
  obtain ⟨_, its, r, o, h1, h2, n, h3⟩ := (show ObjOk P w H h a (.tup (ks.map kV)) from ok a _ e)
  exact ⟨o, its.toArray, n, h1, h2, h3, by simpa using items_are r⟩
theorem dt_rd {kvs : List (List Key × V)} (ok : HOk P w H h) (e : Rd H a (.dT kvs)) : kvs.length ≤ sizeLine ∧ (a == sysModules) = false ∧
    ∃ xs, KT H kvs xs ∧ h.DictOfH (tupleKind (mixKind P w)) a xs := by
  obtain ⟨z, y, xs, r, o, es, ep, h1, h2, h3, h4, h5⟩ := (show ObjOk P w H h a (.dT kvs) from rd_of ok e)
  refine ⟨z, y, xs, r, o, es, ep, h1, h2, h3, h4, fun x hx => ?_, h5⟩
  have all : ∀ {l : List (List Key × V)} {m : List (List Key × Addr × Value)}, KT H l m → ∀ x ∈ m, (tupleKind (mixKind P w)).is h x.1 x.2.1 := by
    intro l m q
    induction q with
    | nil => intro x hx; exact nomatch hx
    | @cons p q ps qs hq t ih =>
      intro x hx
      rcases List.mem_cons.mp hx with e | hx
      · subst e
        exact key_of ok (by rw [← hq.1]; exact hq.2.1)
      · exact ih x hx
  exact all r x hx
theorem dt_of {kvs : List (List Key × V)} (ok : HOk P w H h) (e : H a = some (.dT kvs)) : kvs.length ≤ sizeLine ∧ (a == sysModules) = false ∧
    ∃ xs, KT H kvs xs ∧ h.DictOfH (tupleKind (mixKind P w)) a xs := dt_rd ok (.inl e)
end
def DGet (H : Hp) (a : Addr) (y : V) (r : Option V) : Prop :=
  (∃ kvs k, Rd H a (.dK kvs) ∧ y = kV k ∧ r = valV kvs k) ∨ ∃ kvs k b, Rd H a (.dT kvs) ∧ y = .ref b ∧ H b = some (.tup (k.map kV)) ∧ r = valV kvs k
def DPut (H : Hp) (a : Addr) (y v : V) (H' : Hp) : Prop :=
  (∃ kvs k, H a = some (.dK kvs) ∧ y = kV k ∧ kvs.length < sizeLine ∧ H' = upd H a (.dK (putK kvs k v))) ∨
  ∃ kvs k b, H a = some (.dT kvs) ∧ y = .ref b ∧ H b = some (.tup (k.map kV)) ∧ kvs.length < sizeLine ∧ H' = upd H a (.dT (putK kvs k v))
theorem DGet.k {H : Hp} {a : Addr} {kvs : List (Key × V)} {k : Key} (e : H a = some (.dK kvs)) : DGet H a (kV k) (valV kvs k) := .inl ⟨kvs, k, .inl e, rfl, rfl⟩
theorem DGet.t {H : Hp} {a b : Addr} {kvs : List (List Key × V)} {k : List Key} (e : H a = some (.dT kvs)) (eb : H b = some (.tup (k.map kV))) : DGet H a (.ref b) (valV kvs k) := .inr ⟨kvs, k, b, .inl e, rfl, eb, rfl⟩
theorem DPut.k {H : Hp} {a : Addr} {kvs : List (Key × V)} {k : Key} {v : V} (e : H a = some (.dK kvs)) (hl : kvs.length < sizeLine) : DPut H a (kV k) v (upd H a (.dK (putK kvs k v))) := .inl ⟨kvs, k, e, rfl, hl, rfl⟩
theorem DPut.t {H : Hp} {a b : Addr} {kvs : List (List Key × V)} {k : List Key} {v : V} (e : H a = some (.dT kvs)) (eb : H b = some (.tup (k.map kV))) (hl : kvs.length < sizeLine) :
    DPut H a (.ref b) v (upd H a (.dT (putK kvs k v))) := .inr ⟨kvs, k, b, e, rfl, eb, hl, rfl⟩
section
variable {X : Cx} {pins : List (Addr × Obj)} {σ : St} {H : Hp} {s : Shared} {a : Addr} {y v : V} {u r : Value} {o : Option V} {A : Around} {E : Value → Shared → Prop}
theorem Inv.big (I : Inv X pins σ H s) : sysModules < s.heap.objs.size := by
  have h : mainGlobals < s.heap.objs.size := (I.mod.glob.keeps I.bk).lt
  exact Nat.lt_trans (by decide) h
theorem d_getItem {Q : Value → Shared → Prop} (hu : A.units + 1 < cLine) (I : Inv X pins σ H s) (g : DGet H a y (some v)) (ry : RelV y u) (h : ∀ w' s', Inv X pins σ H s' → RelV v w' → Q w' s') :
    wpAny (model X.prog X.w) A (getItem (.ref a) u) Q E s := by
  rcases g with ⟨kvs, k, e, ey, l⟩ | ⟨kvs, k, b, e, ey, eb, l⟩
  · subst ey
    obtain ⟨z, hd, vs, rel, dd⟩ := dk_rd I.hok e
    obtain ⟨w', hw, rw'⟩ := RelO.some_of (v := v) (o := valueAt vs k) (by rw [l]; exact rel.val k)
    exact wpAny_getItem_of (kV_is ry) dd.mapOf hw (h w' _ (I.tok _) rw')
  · subst ey
    cases (show u = Value.ref b from ry)
    obtain ⟨z, hd, xs, rel, dd⟩ := dt_rd I.hok e
    obtain ⟨w', hw, rw'⟩ := RelO.some_of (v := v) (o := (atKey xs k).map (·.2)) (by rw [l]; exact rel.val k)
    obtain ⟨p, hp, hp2⟩ := Option.map_eq_some_iff.mp hw
    refine wpAny_getItem_heap (tupleKind_room_in1 hu) (key_of I.hok eb) dd hp ?_
    rw [hp2]
    exact h w' _ (I.tok _) rw'
theorem d_in {Q : Value → Shared → Prop} (hu : A.units + 1 < cLine) (I : Inv X pins σ H s) (g : DGet H a y o) (ry : RelV y u) (h : ∀ s', Inv X pins σ H s' → Q (.bool o.isSome) s') :
    wpAny (model X.prog X.w) A (compareOp .In u (.ref a)) Q E s := by
  rcases g with ⟨kvs, k, e, ey, l⟩ | ⟨kvs, k, b, e, ey, eb, l⟩
  · subst ey
    obtain ⟨z, hd, vs, rel, dd⟩ := dk_rd I.hok e
    refine wpAny_in_of (kV_is ry) hd dd.mapOf ?_
    rw [← (rel.val k).isSome_eq, ← l]
    exact h _ (I.tok _)
  · subst ey
    cases (show u = Value.ref b from ry)
    obtain ⟨z, hd, xs, rel, dd⟩ := dt_rd I.hok e
    refine wpAny_in_heap (tupleKind_room_in1 hu) (key_of I.hok eb) hd dd ?_
    have q := (rel.val k).isSome_eq
    rw [Option.isSome_map] at q
    rw [← q, ← l]
    exact h _ (I.tok _)
theorem d_notIn {Q : Value → Shared → Prop} (hu : A.units + 1 < cLine) (I : Inv X pins σ H s) (g : DGet H a y o) (ry : RelV y u) (h : ∀ s', Inv X pins σ H s' → Q (.bool (!o.isSome)) s') :
    wpAny (model X.prog X.w) A (compareOp .NotIn u (.ref a)) Q E s := by
  rcases g with ⟨kvs, k, e, ey, l⟩ | ⟨kvs, k, b, e, ey, eb, l⟩
  · subst ey
    obtain ⟨z, hd, vs, rel, dd⟩ := dk_rd I.hok e
    refine wpAny_notIn_of (kV_is ry) hd dd.mapOf ?_
    rw [← (rel.val k).isSome_eq, ← l]
    exact h _ (I.tok _)
  · subst ey
    cases (show u = Value.ref b from ry)
    obtain ⟨z, hd, xs, rel, dd⟩ := dt_rd I.hok e
    refine wpAny_notIn_heap (tupleKind_room_in1 hu) (key_of I.hok eb) hd dd ?_
    have q := (rel.val k).isSome_eq
    rw [Option.isSome_map] at q
    rw [← q, ← l]
    exact h _ (I.tok _)
theorem d_write {h' : Heap} {t' : Nat} {ob : HO} (I : Inv X pins σ H s) (mu : Mut (H a)) (hs : Heap.SameBut a s.heap h') (he : ∃ q, h'.get? a = some q) (new : ObjOk X.prog X.w (upd H a ob) h' a ob) :
    Inv X pins σ (upd H a ob) { s with heap := h', toks := t' } :=
  I.write (x := a) (e := a) mu (.inl rfl) (fun b q hb z => (hs.2 b hb).trans z) he new
theorem dk_new {P : Program} {w : World} {H' : Hp} {h' : Heap} {kvs : List (Key × V)} {vs : List (Key × Value)} (z : kvs.length ≤ sizeLine) (hd : (a == sysModules) = false) (rel : KV kvs vs) (dd : h'.DictOf (mixKind P w) a vs) :
    ObjOk P w H' h' a (.dK kvs) := ⟨z, hd, vs, rel, dd⟩
theorem d_setItem {H' : Hp} {Q : Unit → Shared → Prop} (hu : A.units + 1 < cLine) (I : Inv X pins σ H s) (g : DPut H a y v H') (ry : RelV y u) (rv : RelV v r) (h : ∀ s', Inv X pins σ H' s' → Q () s') :
    wpAny (model X.prog X.w) A (setItem (.ref a) u r) Q E s := by
  rcases g with ⟨kvs, k, e, ey, l, eH⟩ | ⟨kvs, k, b, e, ey, eb, l, eH⟩
  · subst ey eH
    obtain ⟨z, hd, vs, rel, dd⟩ := dk_of I.hok e
    have hz : vs.length ≤ sizeLine := by rw [← rel.length]; exact z
    have hl : (putK kvs k v).length ≤ sizeLine := by have := length_putK kvs k v; omega
    refine wpAny_setItem_pairs (hsz := hz) (kV_is ry) dd fun h' dd' hs => h _ ?_
    have he : ∃ q, h'.get? a = some q := let ⟨q, _, _, hq, _⟩ := dd'; ⟨q, hq⟩
    exact d_write I (by rw [e]; exact True.intro) hs he (dk_new hl hd (rel.put k rv) dd')
  · subst ey eH
    cases (show u = Value.ref b from ry)
    obtain ⟨z, hd, xs, rel, dd⟩ := dt_of I.hok e
    have hz : xs.length ≤ sizeLine := by rw [← Paired.length rel]; exact z
    have hl : (putK kvs k v).length ≤ sizeLine := by have := length_putK kvs k v; omega
    refine wpAny_setItem_heap (hsz := hz) (tupleKind_room_in1 hu) (key_of I.hok eb) dd fun h' dd' hs => h _ ?_
    obtain ⟨q, es, ep, hq, h2, h3, h4, _, h5⟩ := dd'
    refine d_write I (by rw [e]; exact True.intro) hs ⟨q, hq⟩ ⟨hl, hd, _, (rel.put k eb rv).keeps fun c ys ec => ?_, q, es, ep, hq, h2, h3, h4, h5⟩
    rw [upd_ne (ne_of ec e (fun z => nomatch z))]
    exact ec
end
def NoSl (i : Expr) : Prop := ∀ ov iv, subscripted i false ov iv = operate [ov, iv] (getItem ov iv)
theorem subD_of {prog : Program} {w : World} {A : Around} {E : Value → Shared → Prop} {s : Shared} {env : Env} {value slice : Expr} {pos : Pos} {T id : String} {Q : Value → Shared → Prop}
    (hl : typeLookup (.type T) "__getitem__" = pure (some (.builtin id))) (hs : NoSl slice)
    (h : wpAny (model prog w) A (eval value env) (fun o s₁ => wpAny (model prog w) A (eval slice env) (fun i s₂ => s₂.TypeIs o T ∧ wpAny (model prog w) A (getItem o i) Q E s₂) E s₁) E s) :
    wpAny (model prog w) A (eval (.Subscript value slice pos) env) Q E s := by
  refine Subscript_ (wpAny_mono h (fun o s₁ h₁ => wpAny_mono h₁ (fun i s₂ h₂ => ?_) fun _ _ x => x) fun _ _ x => x)
  obtain ⟨hT, h₂⟩ := h₂
  unfold subscriptTail
  refine wpAny_bind ?_
  rw [getitemInPython_of_ne hT.not_modules]
  refine wpAny_bind (wpAny_specialOf hT hl ?_)
  have fin : wpAny (model prog w) A (subscripted slice false o i) (fun r s₃ => wpAny (model prog w) A (letTemporaryGo value o r >>= fun _ => pure r) Q E s₃) E s₂ := by
    rw [hs o i]
    exact wpAny_operating (wpAny_mono h₂ (fun r s₃ h₃ => wpAny_bind (wpAny_letTemporaryGo (wpAny_pure h₃))) fun _ _ x => x)
  first
    | exact wpAny_pure (wpAny_bind fin)
    | exact wpAny_bind (wpAny_pure (wpAny_bind fin))
    | exact wpAny_bind fin
theorem dict_typeIs {X : Cx} {pins : List (Addr × Obj)} {σ : St} {H : Hp} {s : Shared} {a : Addr} {y : V} {o : Option V} (I : Inv X pins σ H s) (g : DGet H a y o) : s.TypeIs (.ref a) "dict" := by
  rcases g with ⟨kvs, k, e, _, _⟩ | ⟨kvs, k, b, e, _, _, _⟩
  · obtain ⟨_, _, vs, _, dd⟩ := dk_rd I.hok e
    exact dd.typeIs
  · obtain ⟨_, _, xs, _, dd⟩ := dt_rd I.hok e
    exact dd.typeIs
def tDGet (td ty : TE) : TE := fun σ H Q => td σ H fun x H1 => ty σ H1 fun y H2 => ∃ a v, x = .ref a ∧ DGet H2 a y (some v) ∧ Q v H2
def tDIn (ty td : TE) : TE := fun σ H Q => ty σ H fun y H1 => td σ H1 fun x H2 => ∃ a o, x = .ref a ∧ DGet H2 a y o ∧ Q (.bl o.isSome) H2
def tDNotIn (ty td : TE) : TE := fun σ H Q => ty σ H fun y H1 => td σ H1 fun x H2 => ∃ a o, x = .ref a ∧ DGet H2 a y o ∧ Q (.bl (!o.isSome)) H2
def sDPut (td ty tv : TE) : TS := fun D σ H => tv σ H fun v H1 => td σ H1 fun x H2 => ty σ H2 fun y H3 => ∃ a H4, x = .ref a ∧ DPut H3 a y v H4 ∧ D.nx σ H4
def sDAug (td ty tv : TE) (rd : V → V → Hp → VK → Prop) : TS := fun D σ H => td σ H fun x H1 => ty σ H1 fun y H2 => ∃ a v, x = .ref a ∧ DGet H2 a y (some v) ∧
  tv σ H2 fun y2 H3 => rd v y2 H3 fun z H4 => ∃ H5, DPut H4 a y z H5 ∧ D.nx σ H5
section
variable {X : Cx} {o i e value : Expr} {pos pos' tpos : Pos} {td ty tv : TE}
theorem pe_dget (hu : X.A.units + 1 < cLine) (ho : PE X o td) (hi : PE X i ty) (hs : NoSl i) : PE X (.Subscript o i pos) (tDGet td ty) := by
  intro pins s σ H Q I h
  refine subD_of PySem.F.slot_dict_getitem.lookup hs (thn (ho pins s σ H _ I h) fun u s1 ⟨x, H1, I1, rx, q1⟩ => thn (hi pins s1 σ H1 _ I1 q1) fun iv s2 ⟨y, H2, I2, ry, a, v, ex, g, q2⟩ => ?_)
  subst ex
  obtain rfl : u = Value.ref a := rx
  exact ⟨dict_typeIs I2 g, d_getItem hu I2 g ry fun w' s3 I3 rw' => ⟨v, H2, I3, rw', q2⟩⟩
theorem pc_din (hu : X.A.units + 1 < cLine) (hi : PE X i ty) (ho : PE X o td) : PC X .In i o (tDIn ty td) := by
  intro pins s σ H Q I h
  refine thn (hi pins s σ H _ I h) fun iv s1 ⟨y, H1, I1, ry, q1⟩ => thn (ho pins s1 σ H1 _ I1 q1) fun u s2 ⟨x, H2, I2, rx, a, ov, ex, g, q2⟩ => ?_
  subst ex
  obtain rfl : u = Value.ref a := rx
  exact d_in hu I2 g ry fun s3 I3 => ⟨.bl ov.isSome, H2, I3, rfl, q2⟩
theorem pc_dnotin (hu : X.A.units + 1 < cLine) (hi : PE X i ty) (ho : PE X o td) : PC X .NotIn i o (tDNotIn ty td) := by
  intro pins s σ H Q I h
  refine thn (hi pins s σ H _ I h) fun iv s1 ⟨y, H1, I1, ry, q1⟩ => thn (ho pins s1 σ H1 _ I1 q1) fun u s2 ⟨x, H2, I2, rx, a, ov, ex, g, q2⟩ => ?_
  subst ex
  obtain rfl : u = Value.ref a := rx
  exact d_notIn hu I2 g ry fun s3 I3 => ⟨.bl (!ov.isSome), H2, I3, rfl, q2⟩
theorem ps_dput (hu : X.A.units + 1 < cLine) (ho : PE X o td) (hi : PE X i ty) (hv : PE X value tv) (hs : swapsWith value (some (.Subscript o i pos')) pos.line X.env = pure false) :
    PS X (.Assign [.Subscript o i pos'] value pos) (sDPut td ty tv) := by
  intro pins s σ H D I h
  refine wpAny_Assign_Subscript (thn (hv pins s σ H _ I h) fun r s1 ⟨v, H1, I1, rv, q1⟩ => thn (ho pins s1 σ H1 _ I1 q1) fun u s2 ⟨x, H2, I2, rx, q2⟩ => thn (hi pins s2 σ H2 _ I2 q2) fun iv s3 ⟨y, H3, I3, ry, a, H4, ex, g, q3⟩ => ?_) hs
  subst ex
  obtain rfl : u = Value.ref a := rx
  exact d_setItem hu I3 g ry rv fun s4 I4 => ⟨σ, H4, I4, q3⟩
theorem ps_daug {op : Operator} {rd : V → V → Hp → VK → Prop} (hu : X.A.units + 1 < cLine) (ho : PE X o td) (hi : PE X i ty) (hv : PE X value tv) (hop : InOp X op rd)
    (ha : ∀ ov iv new, augStore i ov iv new = (do holding [new, ov, iv] (setItem ov iv new); release [new, ov, iv] []; pure .next)) : PS X (.AugAssign (.Subscript o i tpos) op value pos) (sDAug td ty tv rd) := by
  intro pins s σ H D I h
  refine wpAny_AugAssign_SubscriptAny (thn (ho pins s σ H _ I h) fun u s1 ⟨x, H1, I1, rx, q1⟩ => thn (hi pins s1 σ H1 _ I1 q1) fun iv s2 ⟨y, H2, I2, ry, a, v, ex, g, q2⟩ => ?_) ha
  subst ex
  obtain rfl : u = Value.ref a := rx
  refine d_getItem hu I2 g ry fun w' s3 I3 rw' => thn (hv pins s3 σ H2 _ I3 q2) fun w2 s4 ⟨y2, H3, I4, ry2, q3⟩ => thn (hop pins s4 σ H3 v y2 w' w2 _ I4 rw' ry2 q3) fun w3 s5 ⟨z, H4, I5, rz, H5, g5, q4⟩ => ?_
  exact d_setItem hu I5 g5 ry rz fun s6 I6 => ⟨σ, H5, I6, q4⟩
end
theorem dk_empty {P : Program} {w : World} {H : Hp} (h : Heap) (hb : sysModules < h.objs.size) : ObjOk P w H (h.push { cls := .type "dict", data := .dict #[] }) h.objs.size (.dK []) :=
  ⟨Nat.zero_le _, beq_eq_false_iff_ne.mpr (Ne.symm (Nat.ne_of_lt hb)), [], .nil, Heap.DictOf.new h⟩
theorem dt_empty {P : Program} {w : World} {H : Hp} (h : Heap) (hb : sysModules < h.objs.size) : ObjOk P w H (h.push { cls := .type "dict", data := .dict #[] }) h.objs.size (.dT []) :=
  ⟨Nat.zero_le _, beq_eq_false_iff_ne.mpr (Ne.symm (Nat.ne_of_lt hb)), [], .nil, _, #[], 0, Heap.get?_push_size _ rfl, ⟨rfl, rfl, rfl⟩, rfl, rfl, List.nodup_nil⟩
def tDNewK : TE := fun _ H Q => ∀ p, H p = none → Q (.ref p) (upd H p (.dK []))
section
variable {X : Cx} {pos : Pos}
theorem pe_dnewK : PE X (.Dict [] [] pos) tDNewK := fun pins s σ H Q I h =>
  wpAny_Dict_empty ⟨.ref s.heap.objs.size, _, I.laid (a := s.heap.objs.size) (o := .dK []) (t' := s.toks) (fun _ _ q => Heap.get?_push_of_some _ q) (Nat.le_refl _) (dk_empty s.heap I.big), rfl, h _ (I.hok.fresh (Nat.le_refl _))⟩
end
def tPairs : List (TE × TE) → St → Hp → (List (V × V) → Hp → Prop) → Prop
  | [], _, H, Q => Q [] H
  | (tk, tv) :: r, σ, H, Q => tk σ H fun x H1 => tv σ H1 fun y H2 => tPairs r σ H2 fun ps H3 => Q ((x, y) :: ps) H3
abbrev VV : List (V × V) → List (Value × Value) → Prop := Paired fun p q => RelV p.1 q.1 ∧ RelV p.2 q.2
def PPs (X : Cx) (pos : Pos) (keys : List (Option Expr)) (values : List Expr) (trs : List (TE × TE)) : Prop :=
  ∀ (pins : List (Addr × Obj)) (s : Shared) (σ : St) (H : Hp) (Q : List (V × V) → Hp → Prop), Inv X pins σ H s → tPairs trs σ H Q →
    wpAny (model X.prog X.w) X.A (evalPairs (pairTrees keys values X.env pos)) (fun vs s' => ∃ ps H', Inv X pins σ H' s' ∧ VV ps vs ∧ Q ps H') X.xe s
theorem pps_nil {X : Cx} {pos : Pos} : PPs X pos [] [] [] := fun pins s σ H Q I h => pairTrees_nil_walk ⟨[], H, I, .nil, h⟩
theorem pps_cons {X : Cx} {pos : Pos} {k v : Expr} {ks : List (Option Expr)} {vs : List Expr} {tk tv : TE} {trs : List (TE × TE)} (hk : PE X k tk) (hv : PE X v tv) (hr : PPs X pos ks vs trs) :
    PPs X pos (some k :: ks) (v :: vs) ((tk, tv) :: trs) := fun pins s σ H Q I h =>
  pairTrees_cons_walk (thn (hk pins s σ H _ I h) fun u s1 ⟨x, H1, I1, rx, q1⟩ => thn (hv pins s1 σ H1 _ I1 q1) fun w2 s2 ⟨y, H2, I2, ry, q2⟩ =>
    thn (hr pins s2 σ H2 _ I2 q2) fun ws s3 ⟨ps, H3, I3, rel, q3⟩ => ⟨(x, y) :: ps, H3, I3, .cons ⟨rx, ry⟩ rel, q3⟩)
def mergeK (kvs more : List (Key × V)) : List (Key × V) := more.foldl (fun acc kv => putK acc kv.1 kv.2) kvs
theorem KV.merge : ∀ {more : List (Key × V)} {rs : List (Key × Value)} {kvs : List (Key × V)} {vs : List (Key × Value)}, KV more rs → KV kvs vs → KV (mergeK kvs more) (merged vs rs) := by
  intro more rs kvs vs r
  unfold KV at r
  induction r generalizing kvs vs with
  | nil => intro q; exact q
  | @cons p q ps qs h t ih =>
    intro r0
    have e : KV (putK kvs p.1 p.2) (stored vs q.1 q.2) := by
      have := r0.put p.1 h.2
      rw [← h.1]; exact this
    exact ih e
theorem length_mergeK : ∀ (more kvs : List (Key × V)), (mergeK kvs more).length ≤ kvs.length + more.length
  | [], kvs => by show kvs.length ≤ kvs.length + 0; omega
  | p :: r, kvs => by
    have h1 := length_mergeK r (putK kvs p.1 p.2)
    have h2 := length_putK kvs p.1 p.2
    show (mergeK (putK kvs p.1 p.2) r).length ≤ _
    rw [List.length_cons]; omega
theorem carries_of {P : Program} {w : World} : ∀ {kvs : List (Key × V)} {ws : List (Value × Value)}, VV (kvs.map fun kv => (kV kv.1, kv.2)) ws → ∃ rs, Carries (mixKind P w) ws rs ∧ KV kvs rs
  | [], _, r => by rw [List.map_nil] at r; cases r; exact ⟨[], True.intro, .nil⟩
  | p :: kvs, _, r => by
    rw [List.map_cons] at r
    cases r with
    | @cons a b as bs h t =>
      obtain ⟨rs, c, q⟩ := carries_of (P := P) (w := w) t
      obtain ⟨b1, b2⟩ := b
      exact ⟨(p.1, b2) :: rs, ⟨kV_is h.1, rfl, c⟩, .cons ⟨rfl, h.2⟩ q⟩
def tDisp (trs : List (TE × TE)) : TE := fun σ H Q => ∀ p, H p = none → tPairs trs σ (upd H p (.dK [])) fun ps H2 => H2 p = some (.dK []) ∧ ∃ kvs : List (Key × V), ps = kvs.map (fun kv => (kV kv.1, kv.2)) ∧ kvs.length ≤ 15 ∧ Q (.ref p) (upd H2 p (.dK (mergeK [] kvs)))
theorem pe_disp {X : Cx} {pos : Pos} {keys : List (Option Expr)} {values : List Expr} {trs : List (TE × TE)} (h : PPs X pos keys values trs) (hall : keys.all (·.isSome) = true) (hl : keys.length = values.length) (h0 : keys ≠ [])
    (h15 : keys.length ≤ 15) : PE X (.Dict keys values pos) (tDisp trs) := by
  intro pins s σ H Q I q
  have hn := I.hok.fresh (Nat.le_refl s.heap.objs.size)
  have I1 := I.laid (a := s.heap.objs.size) (o := .dK []) (h' := s.heap.push { cls := .type "dict", data := .dict #[] }) (t' := s.toks) (fun _ _ q => Heap.get?_push_of_some _ q) (Nat.le_refl _) (dk_empty s.heap I.big)
  refine wpAny_Dict_walk (knd := mixKind X.prog X.w) hall hl h0 h15 (thn (h pins _ σ _ _ I1 (q _ hn)) fun ws s2 ⟨ps, H2, I2, rel, e, kvs, ep, lk, q2⟩ => ?_)
  subst ep
  obtain ⟨rs, c, rk⟩ := carries_of (P := X.prog) (w := X.w) rel
  obtain ⟨z, hd, vs0, r0, dd⟩ := dk_of I2.hok e
  cases r0
  refine ⟨rs, c, dd, fun h' dd' hs => ⟨.ref s.heap.objs.size, _, ?_, rfl, q2⟩⟩
  have hz : (mergeK [] kvs).length ≤ sizeLine := by
    have h1 := length_mergeK kvs []
    rw [List.length_nil] at h1
    rw [sizeLine_eq]; omega
  have he : ∃ q, h'.get? s.heap.objs.size = some q := let ⟨q, _, _, hq, _⟩ := dd'; ⟨q, hq⟩
  exact d_write I2 (by rw [e]; exact True.intro) hs he (dk_new hz hd (rk.merge .nil) dd')
structure M1 (X : Cx) (o : Expr) (m : Str) (apos : Pos) (e : Expr) (cpos : Pos) : Prop where
  base : attributeBase o m X.env (eval o X.env) = eval o X.env
  few : ((backTo cpos (starEach [e] X.env)).all (fun x => !x.1) && (backToKw cpos (keywordEach [] X.env)).all (fun x => x.1.isSome)
    && decide (([e] : List Expr).length + ([] : List Keyword).length + (if ([] : List Keyword).isEmpty then 0 else 1) < 30)) = true
  line : (apos.endLine == cpos.line) = true
  trees : backTo cpos (starEach [e] X.env) = [(false, eval e X.env)]
def IsD (H : Hp) (a : Addr) : Prop := (∃ kvs, Rd H a (.dK kvs)) ∨ ∃ kvs, Rd H a (.dT kvs)
theorem isD_at {X : Cx} {pins : List (Addr × Obj)} {σ : St} {H : Hp} {s : Shared} {a : Addr} (I : Inv X pins σ H s) (d : IsD H a) :
    s.TypeIs (.ref a) "dict" ∧ (∀ b, Value.ref a = .ref b → ∃ ob, s.heap.get? b = some ob ∧ ob.dict = none) ∧ (a == sysModules) = false := by
  rcases d with ⟨kvs, e⟩ | ⟨kvs, e⟩
  · obtain ⟨_, hd, vs, _, dd⟩ := dk_rd I.hok e
    refine ⟨dd.typeIs, fun b q => ?_, hd⟩
    cases q
    obtain ⟨ob, _, _, h1, h2, _⟩ := dd
    exact ⟨ob, h1, h2.2.1⟩
  · obtain ⟨_, hd, xs, _, dd⟩ := dt_rd I.hok e
    refine ⟨dd.typeIs, fun b q => ?_, hd⟩
    cases q
    obtain ⟨ob, _, _, h1, h2, _⟩ := dd
    exact ⟨ob, h1, h2.2.1⟩
end L2
namespace L2
open PySem PySem.Spec PyProof.Rows
section
variable {X : Cx} {pins : List (Addr × Obj)} {σ : St} {H : Hp} {s : Shared} {h' : Heap}
theorem Inv.turnedNew {t' : Nat} {ch : List Addr} {T : Addr} {ob : HO} (I : Inv X pins σ H s) (k : ∀ b o, b ∉ ch → s.heap.get? b = some o → h'.get? b = some o) (hf : ∀ b ∈ ch, FpOk X pins H b) (hT : s.heap.objs.size ≤ T)
    (new : ObjOk X.prog X.w (upd H T ob) h' T ob) : Inv X pins σ (upd H T ob) { s with heap := h', toks := t' } := by
  have hn : H T = none := I.hok.fresh hT
  have nit : ∀ b u, H b = some u → b ∉ ch := fun b u e z => by
    have q := (hf b z).1
    rw [q] at e; cases e
  refine I.step (g' := s.gens) (d' := s.drawn) (ch := ch) (fun b hb => ⟨(hf b hb).2.2.2.1, (hf b hb).2.1, (hf b hb).2.2.2.2.1, (hf b hb).2.2.2.2.2⟩) (fun b o _ _ hc e _ => k b o hc e) (fun b o _ _ hc e _ => ⟨o.slots, k b o hc e⟩)
    (fun b o _ e n => ?_) (fun b o hc e => ⟨o, k b o hc e⟩) (fun b xs e => ?_) (fun b o u e => ?_) (fun b ps e => ⟨#[], ?_⟩) (fun m hm => ?_) (fun b u e => ?_) I.bare
  · rw [upd_ne (Nat.ne_of_lt (Nat.lt_of_lt_of_le (Heap.lt_size e) hT))]; exact n
  · rw [upd_ne (ne_of_none e hn)]; exact e
  · rw [upd_ne (ne_of_none e hn)]; exact e
  · rw [upd_ne (ne_of_none e hn), e]; simp
  · obtain ⟨o, es, ep, ho, r⟩ := hm
    exact ⟨o, es, ep, k _ o (fun z => (hf _ z).2.1 rfl) ho, r⟩
  · by_cases hb : b = T
    · subst hb
      rw [upd_same] at e
      cases e
      exact new
    · rw [upd_ne hb] at e
      refine (I.hok b u e).stay (fun c v hc q => k c v ?_ q) (fun c q => by rw [upd_ne (ne_of_none q hn)]; exact q) fun c xs q => by rw [upd_ne (ne_of_none q hn)]; exact q
      rcases hc with z | z
      · rw [z]; exact nit b u e
      · exact nit c _ z
theorem Inv.lock {d : Addr} {u : HO} (I : Inv X pins σ H s) (h : H d = some u) (mu : Mut (some u)) : ∃ od, Inv X pins σ (upd H d (.frz od u)) s := by
  have x := I.hok d u h
  have ex : ∃ od, s.heap.get? d = some od := by
    cases u with
    | lst xs => obtain ⟨_, _, _, _, e⟩ := x; exact ⟨_, e⟩
    | dK kvs => obtain ⟨_, _, _, _, o, _, _, e, _⟩ := x; exact ⟨o, e⟩
    | dT kvs => obtain ⟨_, _, _, _, o, _, _, e, _⟩ := x; exact ⟨o, e⟩
    | set S n => obtain ⟨o, _, _, _, e, _⟩ := x; exact ⟨o, e⟩
    | ins C dx fs => obtain ⟨_, _, _, e, _⟩ := x; exact ⟨_, e⟩
    | ext φ => obtain ⟨_, ⟨_, e⟩, _⟩ := x; exact ⟨_, e⟩
    | _ => exact False.elim mu
  obtain ⟨od, e⟩ := ex
  have new : ObjOk X.prog X.w (upd H d (.frz od u)) s.heap d (.frz od u) := by
    refine ⟨e, x.stay (fun b v _ q => q) (fun b q => ?_) fun b xs q => ?_⟩
    · rw [upd_ne (fun z => by rw [z, h] at q; cases q; exact mu)]; exact q
    · rw [upd_ne (fun z => by rw [z, h] at q; cases q; exact mu)]; exact q
  exact ⟨od, I.write (x := d) (e := d) (t' := s.toks) (h' := s.heap) (by rw [h]; exact mu) (.inl rfl) (fun b v _ q => q) ⟨od, e⟩ new⟩
theorem Inv.nofrz {d : Addr} {u : HO} (I : Inv X pins σ H s) (h : H d = some u) (mu : Mut (some u)) : ∀ o' u', X.H_0 d ≠ some (.frz o' u') := fun o' u' e => by
  have q := I.base.frzs d o' u' e
  rw [h] at q
  cases q
  exact mu
theorem Inv.unlock {d : Addr} {od : Obj} {u : HO} (I : Inv X pins σ H s) (h : H d = some (.frz od u)) (hn : ∀ o' u', X.H_0 d ≠ some (.frz o' u')) : Inv X pins σ (upd H d u) s := by
  have neH : ∀ b o, H b = some o → (∀ o' u', o ≠ .frz o' u') → b ≠ d := fun b o e hne z => by
    rw [z, h] at e
    cases e
    exact hne _ _ rfl
  have neN : ∀ b, H b = none → b ≠ d := fun b e z => by rw [z, h] at e; cases e
  refine ⟨I.ok, I.os, I.bare, ⟨I.base.keep, I.base.slot, fun b o e n hx => ?_, I.base.there, fun b xs e => ?_, fun b o x e => ?_, fun b ps e => ?_⟩, I.loc, I.cell, ?_, fun x c e => ?_, fun p hp => ?_, fun b o e => ?_, I.len⟩
  · rw [upd_ne (neN b (I.base.free b o e n hx))]; exact I.base.free b o e n hx
  · have q := I.base.tups b xs e
    rw [upd_ne (neH b _ q (fun _ _ z => nomatch z))]; exact q
  · have q := I.base.frzs b o x e
    rw [upd_ne (fun z => by rw [z] at e; exact hn _ _ e)]; exact q
  · obtain ⟨m, q⟩ := I.base.tbls b ps e
    exact ⟨m, by rw [upd_ne (neH b _ q (fun _ _ z => nomatch z))]; exact q⟩
  · rw [upd_ne (neN _ I.free)]; exact I.free
  · rw [upd_ne (neN c (I.freeC x c e))]; exact I.freeC x c e
  · obtain ⟨e, n, r⟩ := I.pin p hp
    exact ⟨e, by rw [upd_ne (neN _ n)]; exact n, r⟩
  · by_cases hb : b = d
    · rw [hb, upd_same] at e
      cases e
      rw [hb]
      obtain ⟨_, x⟩ := I.hok d _ h
      exact x.stay (fun c v _ q => q) (fun c q => by rw [upd_ne (neH c _ q (fun _ _ z => nomatch z))]; exact q) fun c xs q => by rw [upd_ne (neH c _ q (fun _ _ z => nomatch z))]; exact q
    · rw [upd_ne hb] at e
      exact (I.hok b o e).stay (fun c v _ q => q) (fun c q => by rw [upd_ne (neH c _ q (fun _ _ z => nomatch z))]; exact q) fun c xs q => by rw [upd_ne (neH c _ q (fun _ _ z => nomatch z))]; exact q
end
def tLock (t : TS) : TS := fun D σ H => ∃ d u, H d = some u ∧ Mut (some u) ∧ ∀ od, t ⟨fun σ' H' => H' d = some (.frz od u) ∧ D.nx σ' (upd H' d u), fun v H' => H' d = some (.frz od u) ∧ D.rt v (upd H' d u), fun σ' H' => H' d = some (.frz od u) ∧ D.bk σ' (upd H' d u), fun σ' H' => H' d = some (.frz od u) ∧ D.ct σ' (upd H' d u)⟩ σ (upd H d (.frz od u))
section
variable {X : Cx}
theorem ps_lock {st : Stmt} {t : TS} (h : PS X st t) : PS X st (tLock t) := by
  intro pins s σ H D I hw
  obtain ⟨d, u, hd, mu, hw⟩ := hw
  obtain ⟨od, I1⟩ := I.lock hd mu
  refine thn (h pins s σ _ _ I1 (hw od)) fun f s1 q => ?_
  cases f with
  | next => obtain ⟨σ', H', I2, e, q⟩ := q; exact ⟨σ', _, I2.unlock e (I.nofrz hd mu), q⟩
  | brk => obtain ⟨σ', H', I2, e, q⟩ := q; exact ⟨σ', _, I2.unlock e (I.nofrz hd mu), q⟩
  | cont => obtain ⟨σ', H', I2, e, q⟩ := q; exact ⟨σ', _, I2.unlock e (I.nofrz hd mu), q⟩
  | ret v => obtain ⟨x, σ', H', I2, r, e, q⟩ := q; exact ⟨x, σ', _, I2.unlock e (I.nofrz hd mu), r, q⟩
theorem pi_one {tg : Expr} {pins : List (Addr × Obj)} {σ : St} {H : Hp} {s : Shared} {R : It → Hp → Prop} {J : It} {tn : Nat → Heap → Prop} {tk : Nat} (I : Inv X pins σ H s) (o : Obj)
    (T : Turn X.prog X.w X.K tg J [s.heap.objs.size] s.heap.objs.size tn) (st : tn 0 (s.heap.push o)) (q : R J H) : PIE X pins σ tg R (.ref s.heap.objs.size) { s with heap := s.heap.push o, toks := tk } := by
  refine ⟨s.heap.objs.size, [s.heap.objs.size], tn, J, H, rfl, I.kept fun b ob e => Heap.get?_push_of_some _ e, T, st, fun b hb => ?_, q⟩
  have e : b = s.heap.objs.size := by simpa using hb
  subst e
  exact I.fpOk (Nat.le_refl _) (I.hok.fresh (Nat.le_refl _))
end
def Its (x : Str) : It := ⟨fun i _ => i < x.cps.size, fun i H v H' => H' = H ∧ ∃ c, x.cps[i]? = some c ∧ v = .str ⟨#[c]⟩, fun i _ => x.cps.size ≤ i⟩
theorem turn_str {P : Program} {w : World} {K : PySem.W.Frag} {tg : Expr} (it : Addr) (x : Str) (t : Tok) (ty : String) (hty : ty = "str_ascii_iterator" ∨ ty = "str_iterator") :
    Turn P w K tg (Its x) [it] it (fun i h => h.IsStrIter it ty x t i) where
  mem := by simp
  obj := fun i h st b hb => by
    have e : b = it := by simpa using hb
    subst e
    obtain ⟨o, e, c, d⟩ := st
    exact ⟨o, e, fun v z => by rw [d] at z; cases z⟩
  keep := fun i h h' st k => let ⟨o, ho, r⟩ := st; ⟨o, k it (by simp) o ho, r⟩
  item := by
    intro X hP hw hK hc i pins s σ H E I hf st hg
    subst hP hw hK
    obtain ⟨f0, f1, f2, f3, f4, f5⟩ := hf it (by simp)
    have W : Walks X.prog X.w X.A it [it] [it] x.cps.size (SignAt x) (fun i h => h.IsStrIter it ty x t i) := by
      rcases hty with e | e
      · rw [e]; exact Walks.strAscii (I.ok.hd hc) it x t
      · rw [e]; exact Walks.strWide (I.ok.hd hc) it x t
    have hno : ["enumerate", "zip", "dict_itemiterator", "dict_reverseitemiterator", "odict_iterator", "itertools.zip_longest", "itertools.pairwise"].contains ty = false := by
      rcases hty with e | e
      · rw [e]; decide
      · rw [e]; decide
    refine W.item i s _ _ hg st fun v h' tk hv st' kk => ?_
    obtain ⟨c, u, hcx, rfl⟩ := hv
    have I1 : Inv X pins σ H { s with heap := h', toks := tk } := I.turned (fun b o hb e => kk b o (by simpa using hb) e) f0 f1 f3 f4 f5
    obtain ⟨oi, e, cc, dd⟩ := id st'
    exact ⟨_, rfl, go_of (s := { s with heap := h', toks := tk }) e cc dd hno ⟨.str ⟨#[c]⟩, H, I1, ⟨u, rfl⟩, ⟨rfl, c, hcx, rfl⟩, st', fun b hb => (hf b hb).1⟩⟩
  done := by
    intro X hP hw hK hc i pins s σ H E I hf st hg
    subst hP hw hK
    obtain ⟨f0, f1, f2, f3, f4, f5⟩ := hf it (by simp)
    have hx : x.cps[i]? = none := Array.getElem?_eq_none hg
    rcases hty with e | e
    · rw [e] at st
      exact wpAny_pyNext_ascii_end (I.ok.hd hc) st hx fun h' eb => ⟨rfl, I.turned (t' := s.toks) (fun b o hb e => eb b o hb e) f0 f1 f3 f4 f5⟩
    · rw [e] at st
      exact wpAny_pyNext_wide_end (I.ok.hd hc) st hx fun h' eb => ⟨rfl, I.turned (t' := s.toks) (fun b o hb e => eb b o hb e) f0 f1 f3 f4 f5⟩
  self := fun A i s Q E st h => by
    rcases hty with e | e
    · rw [e] at st; exact wpAny_pyIter_striter_ascii st h
    · rw [e] at st; exact wpAny_pyIter_striter_wide st h
def iStr (te : TE) : TI := fun σ H R => te σ H fun v H1 => ∃ x, v = .str x ∧ R (Its x) H1
theorem pi_str {X : Cx} {tg e : Expr} {te : TE} (he : PE X e te) : PI X tg e (iStr te) := by
  intro pins s σ H R I h
  refine thn (he pins s σ H _ I h) fun v s1 ⟨y, H1, I1, r1, x, ex, q⟩ => ?_
  subst ex
  obtain ⟨t, rfl⟩ := r1
  cases ha : x.cps.all (· < 128)
  · exact wpAny_pyIter_wide ha (pi_one (tk := s1.toks) I1 _ (turn_str _ x t "str_iterator" (.inr rfl)) ⟨_, Heap.get?_push_size _ rfl, rfl, rfl⟩ q)
  · exact wpAny_pyIter_ascii ha (pi_one (tk := s1.toks) I1 _ (turn_str _ x t "str_ascii_iterator" (.inl rfl)) ⟨_, Heap.get?_push_size _ rfl, rfl, rfl⟩ q)
theorem kv_get {κ : Type} {kvs : List (κ × V)} {vs : List (κ × Value)} (h : KV kvs vs) : ∀ {i : Nat} {k : κ} {v : V}, kvs[i]? = some (k, v) → ∃ u, vs[i]? = some (k, u) ∧ RelV v u := by
  unfold KV at h
  induction h with
  | nil => intro i k v e; simp at e
  | @cons a b l₁ l₂ r t ih =>
    intro i k v e
    cases i with
    | zero =>
      simp only [List.getElem?_cons_zero, Option.some.injEq] at e
      subst e
      refine ⟨b.2, ?_, r.2⟩
      simp only [List.getElem?_cons_zero]
      exact congrArg some (Prod.ext r.1.symm rfl)
    | succ j =>
      simp only [List.getElem?_cons_succ] at e ⊢
      exact ih e
theorem paired_get {α β : Type} {G : α → β → Prop} {l₁ : List α} {l₂ : List β} (h : Paired G l₁ l₂) : ∀ {i : Nat} {a : α}, l₁[i]? = some a → ∃ b, l₂[i]? = some b ∧ G a b := by
  induction h with
  | nil => intro i a e; simp at e
  | @cons a b l₁ l₂ r t ih =>
    intro i a' e
    cases i with
    | zero =>
      simp only [List.getElem?_cons_zero, Option.some.injEq] at e
      subst e
      exact ⟨b, rfl, r⟩
    | succ j =>
      simp only [List.getElem?_cons_succ] at e ⊢
      exact ih e
theorem relV_key {k : Key} {u : Value} (h : keyIs k u = true) : RelV (kV k) u := by
  rcases keyIs_shape h with ⟨i, t, rfl, rfl⟩ | ⟨x, t, rfl, rfl⟩
  · exact ⟨t, rfl⟩
  · exact ⟨t, rfl⟩
def Ite (K : PySem.W.Frag) (a : Addr) : It :=
  ⟨fun i H => ∃ (xs : List V) (x : V), SqL K H a xs ∧ xs[i]? = some x, fun i H v H' => ∃ T x, v = .ref T ∧ H T = none ∧ H' = upd H T (.tup [.int (i : Nat), x]) ∧ ∀ xs, SqL K H a xs → xs[i]? = some x, fun i H => ∃ xs : List V, SqL K H a xs ∧ xs.length ≤ i⟩
theorem turn_enum {P : Program} {w : World} {K : PySem.W.Frag} {elts : List Expr} {kk : Nat} {tpos : Pos} (a e it : Addr) :
    Turn P w K (.Tuple elts kk tpos) (Ite K a) [e, it] e (fun i h => (∃ old, IsEnum h e it ((i : Nat) : Int) old) ∧ h.IsListIter it a i ∧ e ≠ it) where
  mem := by simp
  obj := fun i h st b hb => by
    obtain ⟨⟨old, he⟩, ⟨o, ho, hc, hd⟩, _⟩ := st
    have e' : b = e ∨ b = it := by simpa using hb
    rcases e' with z | z
    · rw [z]; exact ⟨_, he, fun v q => nomatch q⟩
    · rw [z]; exact ⟨o, ho, fun v q => by rw [hd] at q; cases q⟩
  keep := fun i h h' st k => let ⟨⟨old, he⟩, hi, hne⟩ := st; ⟨⟨old, k e (by simp) _ he⟩, hi.at fun o q => k it (by simp) o q, hne⟩
  item := by
    intro X hP hw hK hc i pins s σ H E I hf st hg
    subst hP hw hK
    obtain ⟨⟨old, he⟩, hit, hne⟩ := st
    obtain ⟨xs, x, hq, hx⟩ := hg
    obtain ⟨its, rv, p, hz⟩ := I.list hq
    obtain ⟨u, hu, ru⟩ := rv.get hx
    have hel : e < s.heap.objs.size := Heap.lt_size he
    have hil : it < s.heap.objs.size := by obtain ⟨_, q, _⟩ := hit; exact Heap.lt_size q
    refine wpAny_pyNext_enum_item he hit p.isList (x := u) (by simpa using hu) hne fun h' ho hit' hT hsz hk => ?_
    refine ⟨_, rfl, wpAny_letOwnedTupleGo_enum (s := { s with heap := h', toks := s.toks + 1 }) ho fun h'' he' sb => ?_⟩
    have hT2 : h''.get? s.heap.objs.size = some { cls := .type "tuple", data := .seq #[.int i s.toks, u] } := (sb.2 _ (Nat.ne_of_gt hel)).trans hT
    have new : ObjOk X.prog X.w (upd H s.heap.objs.size (.tup [.int (i : Nat), x])) h'' s.heap.objs.size (.tup [.int (i : Nat), x]) :=
      ⟨by show 2 ≤ sizeLine; decide, [.int i s.toks, u], .cons ⟨_, rfl⟩ (.cons ru .nil), ⟨_, hT2, rfl, _, rfl⟩⟩
    have I1 : Inv X pins σ (upd H s.heap.objs.size (.tup [.int (i : Nat), x])) { s with heap := h'', toks := s.toks + 1 } :=
      I.turnedNew (ch := [e, it]) (fun b ob hb q => (sb.2 b (fun z => hb (by simp [z]))).trans (hk b ob (fun z => hb (by simp [z])) (fun z => hb (by simp [z])) q)) hf (Nat.le_refl _) new
    refine ⟨.ref s.heap.objs.size, _, I1, rfl, ⟨_, x, rfl, I.hok.fresh (Nat.le_refl _), rfl, fun ys hy => by rw [I.list_inj hy hq]; exact hx⟩, ⟨⟨u, ?_⟩, hit'.at fun o q => (sb.2 it (Ne.symm hne)).trans q, hne⟩, fun b hb => ?_⟩
    · have e1 : ((i + 1 : Nat) : Int) = (i : Int) + 1 := by omega
      rw [e1]; exact he'
    · have hb' : b < s.heap.objs.size := by
        have e' : b = e ∨ b = it := by simpa using hb
        rcases e' with z | z
        · rw [z]; exact hel
        · rw [z]; exact hil
      rw [upd_ne (Nat.ne_of_lt hb')]
      exact (hf b hb).1
  done := by
    intro X hP hw hK hc i pins s σ H E I hf st hg
    subst hP hw hK
    obtain ⟨⟨old, he⟩, hit, hne⟩ := st
    obtain ⟨xs, hq, hx⟩ := hg
    obtain ⟨its, rv, p, hz⟩ := I.list hq
    obtain ⟨f0, f1, f2, f3, f4, f5⟩ := hf it (by simp)
    have hl := rv.length
    exact wpAny_pyNext_enum_end (I.ok.hd hc) he hit p.isList (by simp; omega) fun h' eb => ⟨rfl, I.turned (t' := s.toks) (fun b o hb q => eb b o hb q) f0 f1 f3 f4 f5⟩
  self := fun A i s Q E st h => let ⟨⟨_, he⟩, _⟩ := st; wpAny_pyIter_enum he h
def iEnum (K : PySem.W.Frag) (ta : TA) : TI := fun σ H R => ta σ H fun vs H1 => ∃ a xs, vs = [.ref a] ∧ SqL K H1 a xs ∧ R (Ite K a) H1
theorem pi_enum {X : Cx} {e : Expr} {ta : TA} {p pos tpos : Pos} {elts : List Expr} {kk : Nat} (hg : Gl X "enumerate") (hm : X.mg "enumerate" = none) (ha : PA X [e] ta) (hs : starEach [e] X.env = [(false, eval e X.env)] := by rfl) :
    PI X (.Tuple elts kk tpos) (.Call (.Name "enumerate" p) [e] [] pos) (iEnum X.K ta) := by
  intro pins s σ H R I h
  refine Call_ (ld_blt I hg hm boot_enumerate (PyProof.Rows.callWith_type1 (thn (ha pos pins s σ H _ I h) fun us s1 ⟨vs, H1, I1, r1, q1⟩ => ?_) hs rfl))
  obtain ⟨a, xs, ex, hq, q⟩ := q1
  subst ex
  cases r1 with
  | cons r rr =>
    cases rr
    cases r
    obtain ⟨its, rv, p', hz⟩ := I1.list hq
    refine call_enumerate_list p'.isList fun h' he hit hsz hk => wpAny_pyIter_enum he ?_
    have I2 : Inv X pins σ H1 { s1 with heap := h' } := I1.kept (t' := s1.toks) hk
    refine ⟨s1.heap.objs.size + 1, [s1.heap.objs.size + 1, s1.heap.objs.size], _, _, H1, rfl, I2, turn_enum a (s1.heap.objs.size + 1) s1.heap.objs.size, ⟨⟨.none, he⟩, hit, Nat.succ_ne_self _⟩, fun b hb => ?_, q⟩
    have e' : b = s1.heap.objs.size + 1 ∨ b = s1.heap.objs.size := by simpa using hb
    have hle : s1.heap.objs.size ≤ b := by
      rcases e' with z | z
      · rw [z]; exact Nat.le_add_right _ _
      · rw [z]; exact Nat.le_refl _
    exact I1.fpOk hle (I1.hok.fresh hle)
end L2
section
namespace TL
open PySem PySem.Builtin PySem.Builtin.Str PySem.StrLaws
abbrev tl (x : Str) : List Nat := x.cps.toList
theorem len_tl (x : Str) : x.length = (tl x).length := by simp [tl, Str.length]
theorem tl_append (x y : Str) : tl (x ++ y) = tl x ++ tl y := by
  show (x ++ y).cps.toList = _
  rw [Str.cps_append, Array.toList_append]
def pre (S l : List Nat) : Bool := l.take S.length == S
def spl (S : List Nat) : Nat → List Nat → List Nat → List (List Nat)
  | _, acc, [] => [acc]
  | 0, acc, c :: r => if pre S (c :: r) = true then acc :: spl S (S.length - 1) [] r else spl S 0 (acc ++ [c]) r
  | k + 1, acc, _ :: r => spl S k acc r
def par (S : List Nat) : List Nat → List Nat → Option (List Nat × List Nat)
  | _, [] => none
  | acc, c :: r => if pre S (c :: r) = true then some (acc, (c :: r).drop S.length) else par S (acc ++ [c]) r
def numL (n : Nat) : List Nat := (Nat.toDigits 10 n).map Char.toNat
theorem tl_num (n : Nat) : tl (Str.ofString (toString ((n : Nat) : Int))) = numL n := PySem.W.KIN.signs_num n
end TL
end
namespace L2
open PySem PySem.Spec PyProof.Rows
theorem IsPart.raw {v : Value} {o : Option Int} (p : IsPart v o) : ∃ l : Option (Int × Tok), v = partValue l ∧ l.map (·.1) = o := by
  cases p with
  | none => exact ⟨none, rfl, rfl⟩
  | int i t => exact ⟨some (i, t), rfl, rfl⟩
def clipS (n d : Nat) : Option Int → Int
  | none => (d : Int)
  | some i => max 0 (min (if i < 0 then i + (n : Int) else i) (n : Int))
theorem clipS_eq (n d : Nat) (o : Option Int) : clipS n d o = ((HT.sIx n d o : Nat) : Int) := by
  cases o with
  | none => rfl
  | some v =>
    show max (0 : Int) (min (if v < 0 then v + (n : Int) else v) (n : Int)) = (((if v < 0 then (v + (n : Int)).toNat else min v.toNat n) : Nat) : Int)
    by_cases hv : v < 0
    · simp only [if_pos hv]
      omega
    · simp only [if_neg hv]
      omega
theorem sidx_clip (a b : Option Int) (n : Nat) : Builtin.Str.strSliceIndices a b 1 n = sliceRange (clipS n 0 a) (clipS n n b) 1 := by
  have h1 : ((1 : Int) > 0) = True := by simp
  cases a <;> cases b <;> first
    | rfl
    | (simp only [Builtin.Str.strSliceIndices, clipS, h1, if_true]; rfl)
    | simp [Builtin.Str.strSliceIndices, clipS]
theorem sidx (a b : Option Int) (n : Nat) : Builtin.Str.strSliceIndices a b 1 n = (List.range (HT.sIx n n b - HT.sIx n 0 a)).map (fun k => HT.sIx n 0 a + k) := by
  rw [sidx_clip, clipS_eq, clipS_eq]
  generalize HT.sIx n 0 a = p
  generalize HT.sIx n n b = q
  simp only [sliceRange, show ((1 : Int) > 0) = True from by simp, if_true]
  by_cases hlt : (p : Int) < q
  · have e3 : (((q : Int) - p + 1 - 1) / 1).toNat = q - p := by first | omega | (simp; done) | (simp; omega)
    simp only [hlt, if_true, e3]
    refine List.map_congr_left fun k _ => ?_
    omega
  · have : q - p = 0 := by omega
    simp [hlt, this]
def cutS (z : Str) (lo hi : Option Int) : Str :=
  ⟨((z.cps.toList.drop (HT.sIx z.length 0 lo)).take (HT.sIx z.length z.length hi - HT.sIx z.length 0 lo)).toArray⟩
theorem sliceText_cut (z : Str) (lo hi : Option Int) : PySem.StrLaws.sliceText z lo hi = cutS z lo hi := by
  have h1 : HT.sIx z.length 0 lo ≤ z.length := HT.sIx_le _ _ (Nat.zero_le _) _
  have h2 : HT.sIx z.length z.length hi ≤ z.length := HT.sIx_le _ _ (Nat.le_refl _) _
  have hp : HT.sIx z.length 0 lo ≤ max (HT.sIx z.length 0 lo) (HT.sIx z.length z.length hi) := Nat.le_max_left _ _
  have hq : max (HT.sIx z.length 0 lo) (HT.sIx z.length z.length hi) ≤ z.length := Nat.max_le.mpr ⟨h1, h2⟩
  have hd : max (HT.sIx z.length 0 lo) (HT.sIx z.length z.length hi) - HT.sIx z.length 0 lo = HT.sIx z.length z.length hi - HT.sIx z.length 0 lo := by omega
  have e : Builtin.Str.strSliceIndices lo hi 1 z.length =
      Builtin.Str.strSliceIndices (some ((HT.sIx z.length 0 lo : Nat) : Int)) (some ((max (HT.sIx z.length 0 lo) (HT.sIx z.length z.length hi) : Nat) : Int)) 1 z.length := by
    rw [PySem.StrLaws.strSliceIndices_plain hp hq, hd, sidx]
  have e2 : PySem.StrLaws.sliceText z lo hi =
      PySem.StrLaws.sliceText z (some ((HT.sIx z.length 0 lo : Nat) : Int)) (some ((max (HT.sIx z.length 0 lo) (HT.sIx z.length z.length hi) : Nat) : Int)) := by
    unfold PySem.StrLaws.sliceText
    rw [e]
  rw [e2, PySem.StrLaws.sliceText_nat z hp hq, hd]
  rfl
theorem cutS_length (z : Str) (lo hi : Option Int) : (cutS z lo hi).length ≤ z.length := by
  show (((z.cps.toList.drop (HT.sIx z.length 0 lo)).take (HT.sIx z.length z.length hi - HT.sIx z.length 0 lo)).toArray).size ≤ z.cps.size
  rw [List.size_toArray, List.length_take, List.length_drop, Array.length_toList]
  omega
def rSlS : V → Option Int → Option Int → Hp → VK → Prop := fun x lo hi H Q => ∃ z, x = .str z ∧ z.length ≤ sizeLine ∧ Q (.str (cutS z lo hi)) H
theorem sl_str {X : Cx} : SlR X rSlS := by
  intro pins s σ H x v vl vu lo hi sl Q I rx hs pl pu h
  obtain ⟨z, rfl, hz, q⟩ := h
  obtain ⟨t, rfl⟩ := rx
  obtain ⟨os, hos, hcs, hds⟩ := hs
  obtain ⟨l, rfl, rfl⟩ := IsPart.raw pl
  obtain ⟨u, rfl, rfl⟩ := IsPart.raw pu
  refine ⟨"str", _, F.slot_str_getitem.lookup, typeIs_str _ _ _, ?_⟩
  refine wpAny_getItem_str_slice (l := l) (u := u) (st := none) ⟨os, hos, hcs, hds⟩ rfl ?_
  have hl : (PySem.StrLaws.sliceText z (l.map (·.1)) (u.map (·.1))).length ≤ sizeLine := by
    rw [sliceText_cut]
    exact Nat.le_trans (cutS_length z _ _) hz
  rw [← sliceText_cut] at q
  unfold PySem.StrLaws.sliceText at q hl
  show Made.post (if ((1 : Int) == 1 && (Builtin.Str.strSliceIndices (l.map (·.1)) (u.map (·.1)) 1 z.length).length == z.length) = true then Made.val (.str z t)
    else Made.str ⟨((Builtin.Str.strSliceIndices (l.map (·.1)) (u.map (·.1)) 1 z.length).filterMap (z.cps[·]?)).toArray⟩) (EP X pins σ Q) s
  by_cases c : ((1 : Int) == 1 && (Builtin.Str.strSliceIndices (l.map (·.1)) (u.map (·.1)) 1 z.length).length == z.length) = true
  · rw [if_pos c] at q ⊢
    exact ⟨.str z, H, I, ⟨t, rfl⟩, q⟩
  · rw [if_neg c] at q hl ⊢
    exact ⟨hl, .str _, H, I.tok _, ⟨_, rfl⟩, q⟩
end L2
namespace L2
open PySem PySem.Spec PyProof.Rows
def inClass (s : Stmt) (j : Nat) : Stmt := match s with
  | .ClassDef _ _ _ body _ _ _ _ _ _ _ => body.getD j (.Pass ⟨0, 0, 0, 0⟩)
  | _ => .Pass ⟨0, 0, 0, 0⟩
def defArgs (s : Stmt) : Arguments := match s with
  | .FunctionDef _ a _ _ _ _ _ _ _ _ => a
  | _ => { posonlyargs := [], args := [], vararg := none, kwonlyargs := [], kw_defaults := [], kwarg := none, defaults := [] }
def defBody (s : Stmt) : List Stmt := match s with
  | .FunctionDef _ _ b _ _ _ _ _ _ _ => b
  | _ => []
def defScope (s : Stmt) : Scope := match s with
  | .FunctionDef _ _ _ _ _ _ sc _ _ _ => sc
  | _ => { kind := .function, names := [], isGenerator := false, isCoroutine := false }
abbrev CX0 : CXT := fun _ _ _ _ _ _ => False
abbrev E0 : XK := fun _ _ _ => False
theorem pass0 {X : Cx} : Passes CX0 X E0 := fun _ _ _ _ _ _ _ h => h.elim
structure Fun (K : PySem.W.Frag) (x qual : Str) (st : Stmt) (f : Addr) (fd : FuncData) : Prop where
  ex : ∃ (oc : Value) (od : Option Addr) (kV doc pm : Value) (an : Option Addr) (cdv ct : Value) (osl : Array (Option Value)),
    fd = PySem.W.fnOf x qual (defArgs st) (defBody st) (defScope st) .none kV doc pm an cdv ct ∧ K.lookup f = some ⟨oc, od, .func fd, osl⟩ ∧ PySem.W.codeIn K cdv qual = true
  kp : PySem.W.keepIn K (.ref f) = true
section
variable {P : Program} {w : World} {K : PySem.W.Frag} {mg : Str → Option Value} {base : Heap}
theorem Fun.ok {x qual : Str} {st : Stmt} {f : Addr} {fd : FuncData} {N ps : List Str} {k : Nat} {sp : Sp} (F : Fun K x qual st f fd) (S : FnScope N ps (defScope st)) (len : ∀ vs H Q E, sp vs H Q E → vs.length = ps.length)
    (hbody : ∀ (cdv : Value) (A : Around) (outer : List Env) (s : Shared) (H : Hp) (vs : List V) (Q : VK) (E : XK), Room k (A.deeper (envOfC qual (defScope st) s.heap.objs.size f cdv)) → sp vs H Q E →
      ∃ t, PSs (cxOf CX0 P w K mg base N qual (defScope st) f cdv A outer s H E).nox (defBody st) t ∧ t { nx := fun _ H' => Q .non H', rt := Q } (start N vs) H) : FnOk P w K mg base CX0 (k + 1) f fd ps sp := by
  obtain ⟨oc, od, kV, doc, pm, an, cdv, ct, osl, rfl, lk, hcd⟩ := F.ex
  refine fn_of lk hcd S len fun A outer s H vs Q E hr hsp => ?_
  obtain ⟨t, h, q⟩ := hbody cdv A outer s H vs Q E hr hsp
  exact ⟨t, h.nox, q⟩
theorem Fun.binds {x qual : Str} {st : Stmt} {f : Addr} {fd : FuncData} {ps : List Str} (F : Fun K x qual st f fd)
    (h : ∀ (kV doc pm : Value) (an : Option Addr) (cdv ct : Value) (us : List Value), us.length = ps.length → bindArgs (PySem.W.fnOf x qual (defArgs st) (defBody st) (defScope st) .none kV doc pm an cdv ct) ⟨us, []⟩ = pure (ps.zip us)) : Binds K fd ps [] := by
  obtain ⟨oc, od, kV, doc, pm, an, cdv, ct, osl, rfl, lk, hcd⟩ := F.ex
  exact .all (h kV doc pm an cdv ct)
theorem fun_mk {x qual : Str} {st : Stmt} {f : Addr} {oc : Value} {od an : Option Addr} {osl : Array (Option Value)} {kV doc pm cdv ct : Value} (l : K.lookup f = some ⟨oc, od, .func (PySem.W.fnOf x qual (defArgs st) (defBody st) (defScope st) .none kV doc pm an cdv ct), osl⟩)
    (c : PySem.W.codeIn K cdv qual = true) (k : PySem.W.keepIn K (.ref f) = true) : Fun K x qual st f (PySem.W.fnOf x qual (defArgs st) (defBody st) (defScope st) .none kV doc pm an cdv ct) := ⟨⟨oc, od, kV, doc, pm, an, cdv, ct, osl, rfl, l, c⟩, k⟩
end
theorem hu_of {A : Around} {k : Nat} (hr : Room k A) : A.units + 1 < cLine := Nat.lt_of_le_of_lt (Nat.add_le_add_left (by decide : 1 ≤ 64) _) hr.units
section
variable {X : Cx}
theorem pv (i : Nat) {x : Str} {pos : Pos} (hN : X.N[i]? = some x := by rfl) (hv : Vis X.env.scope x := by first | exact Or.inl rfl | exact Or.inr (Or.inl rfl) | exact Or.inr (Or.inr rfl)) (hd : (x == ("__debug__" : Str)) = false := by decide)
    (hcd : (x == ("__classdict__" : Str)) = false := by decide) : PE X (.Name x pos) (tVar i) := pe_var hN hv hd hcd
end
theorem iteF {A B : Prop} (h : B) : if false = true then A else B := by
  rw [if_neg Bool.false_ne_true]
  exact h
theorem iteT {A B : Prop} (h : A) : if true = true then A else B := by
  rw [if_pos rfl]
  exact h
theorem ite2 {c A B : Prop} [Decidable c] (h1 : c → A) (h2 : ¬ c → B) : if c then A else B := by
  by_cases h : c
  · rw [if_pos h]
    exact h1 h
  · rw [if_neg h]
    exact h2 h
theorem iteNS {c A B : Prop} [Decidable c] (hc : c) (h : B) : if (!decide c) = true then A else B := by
  rw [decide_eq_true hc]
  exact iteF h
def Same (H H' : Hp) : Prop := ∀ b o, H b = some o → H' b = some o
theorem Same.refl (H : Hp) : Same H H := fun _ _ h => h
theorem Same.trans {H H1 H2 : Hp} (a : Same H H1) (b : Same H1 H2) : Same H H2 := fun c o h => b c o (a c o h)
theorem Same.free {H H' : Hp} (e : Same H H') {l : Addr} (h : H' l = Option.none) : H l = Option.none := by
  cases q : H l with
  | none => rfl
  | some o =>
    rw [e l o q] at h
    cases h
theorem Same.seq {K : PySem.W.Frag} {H H' : Hp} {a : Addr} {xs : List V} (e : Same H H') (h : SqL K H a xs) : SqL K H' a xs := by
  rcases h with (h | ⟨o, h⟩) | h
  · exact .inl (.inl (e _ _ h))
  · exact .inl (.inr ⟨o, e _ _ h⟩)
  · exact .inr h
theorem nd_ix {α : Type} {l : List α} (hN : l.Nodup) {i j : Nat} {x : α} (a : l[i]? = some x) (b : l[j]? = some x) : i = j := by
  obtain ⟨h1, e1⟩ := List.getElem?_eq_some_iff.mp a
  obtain ⟨h2, e2⟩ := List.getElem?_eq_some_iff.mp b
  exact (List.getElem_inj hN).mp (e1.trans e2.symm)
theorem Same.made {H H1 : Hp} {x dx C : Addr} (nx : H x = Option.none) (nd : H dx = Option.none) (k : ∀ b o, (upd (upd H dx (.own x)) x (.ins C dx [])) b = some o → b ≠ x → H1 b = some o) : Same H H1 := fun b o e =>
  k b o (by rw [upd_ne (ne_of_none e nx), upd_ne (ne_of_none e nd)]; exact e) (ne_of_none e nx)
end L2
section
set_option maxHeartbeats 2000000
namespace L2
open PySem PySem.Spec PyProof.Rows
open PySem.W (WData Codec OpenSpec Well WellAll ReadsW ReadsAllW)
mutual
inductive Dw (K : PySem.W.Frag) (H : Hp) : V → WData → Prop
  | non : Dw K H .non .none
  | bl (b : Bool) : Dw K H (.bl b) (.bool b)
  | int (i : Int) : Dw K H (.int i) (.int i)
  | str (x : Str) : Dw K H (.str x) (.str x)
  | byt (b : Array UInt8) : Dw K H (.byt b) (.bytes b.toList)
  | lst {a : Addr} {xs : List V} {ds : List WData} : SqL K H a xs → DwAll K H xs ds → Dw K H (.ref a) (.list ds)
  | tup {a : Addr} {xs : List V} {ds : List WData} : SqT K H a xs → DwAll K H xs ds → Dw K H (.ref a) (.tuple ds)
inductive DwAll (K : PySem.W.Frag) (H : Hp) : List V → List WData → Prop
  | nil : DwAll K H [] []
  | cons {v : V} {vs : List V} {d : WData} {ds : List WData} : Dw K H v d → DwAll K H vs ds → DwAll K H (v :: vs) (d :: ds)
end
theorem dw_ints {K : PySem.W.Frag} {H : Hp} : ∀ ns : List Int, DwAll K H (ns.map V.int) (ns.map WData.int)
  | [] => .nil
  | n :: r => .cons (.int n) (dw_ints r)
theorem ints_dw {K : PySem.W.Frag} {H : Hp} : ∀ (ns : List Int) (xs : List V), DwAll K H xs (ns.map WData.int) → xs = ns.map V.int
  | [], xs, h => by
    cases h
    rfl
  | n :: r, xs, h => by
    cases h with
    | cons h1 h2 =>
      cases h1
      rw [ints_dw r _ h2] <;> rfl
section
variable {P : Program} {w : World} {K : PySem.W.Frag} {H : Hp} {h : Heap} {R : PySem.W.WRecords} {cl : Str → Option Addr}
theorem sqL_at {a : Addr} {xs : List V} (hok : HOk P w H h) (KX : K.In h) (q : SqL K H a xs) : ∃ (its : List Value) (o : Obj) (n : Nat), Vals xs its ∧ h.get? a = some o ∧ o.cls = .type "list" ∧ o.data = .seq its.toArray n := by
  rcases q with q | ⟨o, its, n, e, hc, _, hd, _, hv⟩
  · obtain ⟨_, its, n, hv, e⟩ := (show ObjOk P w H h a (.lst xs) from q.ok hok)
    exact ⟨its, _, n, hv, e, rfl, rfl⟩
  · exact ⟨its.toList, o, n, hv, KX _ _ e, hc, by simp [hd]⟩
theorem sqT_at {a : Addr} {xs : List V} (hok : HOk P w H h) (KX : K.In h) (q : SqT K H a xs) : ∃ (its : List Value) (o : Obj) (n : Nat), Vals xs its ∧ h.get? a = some o ∧ o.cls = .type "tuple" ∧ o.data = .seq its.toArray n := by
  rcases q with q | ⟨o, its, n, e, hc, hd, _, hv⟩
  · obtain ⟨_, its, hv, o, e, hc, n, hd⟩ := (show ObjOk P w H h a (.tup xs) from q.ok hok)
    exact ⟨its, o, n, hv, e, hc, hd⟩
  · exact ⟨its.toList, o, n, hv, KX _ _ e, hc, by simp [hd]⟩
mutual
theorem Dw.reads (hok : HOk P w H h) (KX : K.In h) : ∀ (d : WData) (v : V) (u : Value), Dw K H v d → RelV v u → ∃ as, ReadsW R cl h u d as
  | .none, _, _, x, r => by
    cases x
    cases r
    exact ⟨_, ReadsW.none⟩
  | .bool b, _, _, x, r => by
    cases x
    cases r
    exact ⟨_, ReadsW.bool b⟩
  | .int i, _, _, x, r => by
    cases x
    obtain ⟨t, rfl⟩ := r
    exact ⟨_, ReadsW.int i t⟩
  | .str s, _, _, x, r => by
    cases x
    obtain ⟨t, rfl⟩ := r
    exact ⟨_, ReadsW.str s t⟩
  | .bytes b, _, _, x, r => by
    cases x
    obtain ⟨t, rfl⟩ := r
    exact ⟨_, ReadsW.bytes _ t⟩
  | .list ds, _, _, x, r => by
    cases x with
    | lst hs ha =>
      cases r
      obtain ⟨its, o, n, rv, ho, hc, hd⟩ := sqL_at hok KX hs
      obtain ⟨as, hr⟩ := Dw.readsAll hok KX ds _ its ha rv
      exact ⟨_, ReadsW.list ho hc hd hr⟩
  | .tuple ds, _, _, x, r => by
    cases x with
    | tup hs ha =>
      cases r
      obtain ⟨its, o, n, rv, ho, hc, hd⟩ := sqT_at hok KX hs
      obtain ⟨as, hr⟩ := Dw.readsAll hok KX ds _ its ha rv
      exact ⟨_, ReadsW.tuple ho hc hd hr⟩
  | .float _, _, _, x, _ => by cases x
  | .dict _, _, _, x, _ => by cases x
  | .bytearray _, _, _, x, _ => by cases x
  | .set _, _, _, x, _ => by cases x
  | .frozenset _, _, _, x, _ => by cases x
  | .obj _ _, _, _, x, _ => by cases x
theorem Dw.readsAll (hok : HOk P w H h) (KX : K.In h) : ∀ (ds : List WData) (vs : List V) (us : List Value), DwAll K H vs ds → Vals vs us → ∃ as, ReadsAllW R cl h us ds as
  | [], _, _, x, r => by
    cases x
    cases r
    exact ⟨_, ReadsAllW.nil⟩
  | d :: ds, _, _, x, r => by
    cases x with
    | cons h1 h2 =>
      cases r with
      | cons r1 r2 =>
        obtain ⟨as, q1⟩ := Dw.reads hok KX d _ _ h1 r1
        obtain ⟨bs, q2⟩ := Dw.readsAll hok KX ds _ _ h2 r2
        exact ⟨_, ReadsAllW.cons q1 q2⟩
end
end
mutual
def plW : WData → Bool
  | .none => true
  | .bool _ => true
  | .int _ => true
  | .str _ => true
  | .bytes _ => true
  | .list xs => plWs xs
  | .tuple xs => plWs xs
  | _ => false
def plWs : List WData → Bool
  | [] => true
  | x :: r => plW x && plWs r
end
theorem plWs_map {α : Type} {f : α → WData} (h : ∀ a, plW (f a) = true) : ∀ l : List α, plWs (l.map f) = true
  | [] => rfl
  | x :: r => by
    show (plW (f x) && plWs (r.map f)) = true
    rw [h x, plWs_map h r] <;> rfl
theorem pl_enc : ∀ (c : Codec) (a : c.denote), plW (c.enc a) = true
  | .unit, _ => rfl
  | .bool, _ => rfl
  | .int _ _, _ => rfl
  | .nat _ _, _ => rfl
  | .u8, _ => rfl
  | .bytes _ _, _ => rfl
  | .text _ _ _ _, _ => rfl
  | .list _ _ c, a => plWs_map (fun x => pl_enc c x) a
  | .pair c d, a => by
    show (plW (c.enc a.1) && (plW (d.enc a.2) && true)) = true
    rw [pl_enc c a.1, pl_enc d a.2] <;> rfl
  | .triple c d e, a => by
    show (plW (c.enc a.1) && (plW (d.enc a.2.1) && (plW (e.enc a.2.2) && true))) = true
    rw [pl_enc c a.1, pl_enc d a.2.1, pl_enc e a.2.2] <;> rfl
  | .option c, none => rfl
  | .option c, some x => pl_enc c x
theorem pl_encAll : ∀ (cs : List Codec) (a : Codec.denoteAll cs), plWs (Codec.encAll cs a) = true
  | [], _ => rfl
  | c :: cs, a => by
    show (plW (c.enc a.1) && plWs (Codec.encAll cs a.2)) = true
    rw [pl_enc c a.1, pl_encAll cs a.2] <;> rfl
theorem weight_mem : ∀ {xs : List WData} {d : WData}, d ∈ xs → d.weight ≤ WData.weightAll xs
  | [], d, h => absurd h (by simp)
  | x :: r, d, h => by
    show d.weight ≤ x.weight + 1 + WData.weightAll r
    rcases List.mem_cons.mp h with e | m
    · rw [e]
      omega
    · have z := weight_mem m
      omega
def toV : Value → V
  | .none => .non
  | .bool b => .bl b
  | .int i _ => .int i
  | .str x _ => .str x
  | .bytes b _ => .byt b
  | .ref a => .ref a
  | _ => .non
def OkU (A : List Addr) : Value → Prop
  | .none => True
  | .bool _ => True
  | .int _ _ => True
  | .str _ _ => True
  | .bytes _ _ => True
  | .ref a => a ∈ A
  | _ => False
theorem OkU.mono {A B : List Addr} (h : ∀ a ∈ A, a ∈ B) : ∀ {u : Value}, OkU A u → OkU B u := fun {u} x => by
  cases u with
  | ref a => exact h a x
  | none => trivial
  | bool b => trivial
  | int i t => trivial
  | str s t => trivial
  | bytes b t => trivial
  | _ => exact False.elim x
theorem relV_toV {A : List Addr} {u : Value} (x : OkU A u) : RelV (toV u) u := by
  cases u with
  | ref a => rfl
  | none => rfl
  | bool b => rfl
  | int i t => exact ⟨t, rfl⟩
  | str s t => exact ⟨t, rfl⟩
  | bytes b t => exact ⟨t, rfl⟩
  | _ => exact False.elim x
theorem vals_toV {A : List Addr} : ∀ {vs : List Value}, (∀ u ∈ vs, OkU A u) → Vals (vs.map toV) vs
  | [], _ => .nil
  | u :: r, h => .cons (relV_toV (h u (List.mem_cons_self ..))) (vals_toV fun x hx => h x (List.mem_cons_of_mem _ hx))
def ArgOb (h : Heap) (A : List Addr) (a : Addr) : Prop := ∃ vs : List Value, vs.length ≤ sizeLine ∧ (∀ u ∈ vs, OkU A u) ∧
  (h.get? a = some { cls := .type "list", data := .seq vs.toArray } ∨ h.get? a = some { cls := .type "tuple", data := .seq vs.toArray })
theorem ArgOb.mono {h : Heap} {A B : List Addr} {a : Addr} (k : ∀ a ∈ A, a ∈ B) (x : ArgOb h A a) : ArgOb h B a := by
  obtain ⟨vs, h1, h2, h3⟩ := x
  exact ⟨vs, h1, fun u hu => (h2 u hu).mono k, h3⟩
theorem wellAll_len {P : Params} {h : Heap} : ∀ {vs : List Value} {ds : List WData}, WellAll P h vs ds → vs.length = ds.length
  | _, _, .nil => rfl
  | _, _, .cons _ b => by
    show _ + 1 = _ + 1
    rw [wellAll_len b]
theorem well_list {P : Params} {h : Heap} {v : Value} {ds : List WData} (x : Well P h v (.list ds)) : ∃ (a : Addr) (vs : List Value), v = .ref a ∧ h.get? a = some { cls := .type "list", data := .seq vs.toArray } ∧ WellAll P h vs ds := by
  cases x with
  | list ho hall => exact ⟨_, _, rfl, ho, hall⟩
theorem well_tuple {P : Params} {h : Heap} {v : Value} {ds : List WData} (x : Well P h v (.tuple ds)) : ∃ (a : Addr) (vs : List Value), v = .ref a ∧ h.get? a = some { cls := .type "tuple", data := .seq vs.toArray } ∧ WellAll P h vs ds := by
  cases x with
  | tuple ho hall => exact ⟨_, _, rfl, ho, hall⟩
theorem well_cons {P : Params} {h : Heap} {us : List Value} {d : WData} {ds : List WData} (x : WellAll P h us (d :: ds)) : ∃ (v : Value) (vs : List Value), us = v :: vs ∧ Well P h v d ∧ WellAll P h vs ds := by
  cases x with
  | cons a b => exact ⟨_, _, rfl, a, b⟩
theorem line_of {n : Nat} (h : n ≤ 1048576) : n ≤ sizeLine := Nat.le_trans h (by decide)
section
variable {P : Params} {h : Heap}
mutual
theorem area_one : ∀ (d : WData) (v : Value), Well P h v d → plW d = true → d.weight ≤ 1048576 → ∃ A : List Addr, OkU A v ∧ ∀ a ∈ A, ArgOb h A a
  | .none, _, x, _, _ => by
    cases x
    exact ⟨[], trivial, fun a m => absurd m (by simp)⟩
  | .bool b, _, x, _, _ => by
    cases x
    exact ⟨[], trivial, fun a m => absurd m (by simp)⟩
  | .int i, _, x, _, _ => by
    cases x
    exact ⟨[], trivial, fun a m => absurd m (by simp)⟩
  | .str s, _, x, _, _ => by
    cases x
    exact ⟨[], trivial, fun a m => absurd m (by simp)⟩
  | .bytes b, _, x, _, _ => by
    cases x
    exact ⟨[], trivial, fun a m => absurd m (by simp)⟩
  | .list ds, _, x, p, z => by
    obtain ⟨a, vs, rfl, ho, hall⟩ := well_list x
    have z2 : WData.weightAll ds ≤ 1048576 := z
    obtain ⟨A, h1, h2⟩ := area_all ds _ hall p fun d hd => Nat.le_trans (weight_mem hd) z2
    have k : ∀ b ∈ A, b ∈ a :: A := fun b hb => List.mem_cons_of_mem _ hb
    refine ⟨a :: A, List.mem_cons_self .., fun b hb => ?_⟩
    rcases List.mem_cons.mp hb with e | m
    · rw [e]
      exact ⟨vs, line_of (by rw [wellAll_len hall]; exact Nat.le_trans (PySem.W.length_le_weightAllW ds) z2), fun u hu => (h1 u hu).mono k, .inl ho⟩
    · exact (h2 b m).mono k
  | .tuple ds, _, x, p, z => by
    obtain ⟨a, vs, rfl, ho, hall⟩ := well_tuple x
    have z2 : WData.weightAll ds ≤ 1048576 := z
    obtain ⟨A, h1, h2⟩ := area_all ds _ hall p fun d hd => Nat.le_trans (weight_mem hd) z2
    have k : ∀ b ∈ A, b ∈ a :: A := fun b hb => List.mem_cons_of_mem _ hb
    refine ⟨a :: A, List.mem_cons_self .., fun b hb => ?_⟩
    rcases List.mem_cons.mp hb with e | m
    · rw [e]
      exact ⟨vs, line_of (by rw [wellAll_len hall]; exact Nat.le_trans (PySem.W.length_le_weightAllW ds) z2), fun u hu => (h1 u hu).mono k, .inr ho⟩
    · exact (h2 b m).mono k
  | .float _, _, _, p, _ => Bool.noConfusion (show false = true from p)
  | .dict _, _, _, p, _ => Bool.noConfusion (show false = true from p)
  | .bytearray _, _, _, p, _ => Bool.noConfusion (show false = true from p)
  | .set _, _, _, p, _ => Bool.noConfusion (show false = true from p)
  | .frozenset _, _, _, p, _ => Bool.noConfusion (show false = true from p)
  | .obj _ _, _, _, p, _ => Bool.noConfusion (show false = true from p)
theorem area_all : ∀ (ds : List WData) (vs : List Value), WellAll P h vs ds → plWs ds = true → (∀ d ∈ ds, d.weight ≤ 1048576) → ∃ A : List Addr, (∀ u ∈ vs, OkU A u) ∧ ∀ a ∈ A, ArgOb h A a
  | [], _, x, _, _ => by
    cases x
    exact ⟨[], fun u m => absurd m (by simp), fun a m => absurd m (by simp)⟩
  | d :: ds, _, x, p, z => by
    obtain ⟨v, vs, rfl, x1, x2⟩ := well_cons x
    have q : plW d = true ∧ plWs ds = true := Bool.and_eq_true_iff.mp p
    obtain ⟨A, a1, a2⟩ := area_one d v x1 q.1 (z d (List.mem_cons_self ..))
    obtain ⟨B, b1, b2⟩ := area_all ds vs x2 q.2 fun e he => z e (List.mem_cons_of_mem _ he)
    have kA : ∀ b ∈ A, b ∈ A ++ B := fun b hb => List.mem_append.mpr (.inl hb)
    have kB : ∀ b ∈ B, b ∈ A ++ B := fun b hb => List.mem_append.mpr (.inr hb)
    refine ⟨A ++ B, fun u hu => ?_, fun b hb => ?_⟩
    · rcases List.mem_cons.mp hu with e | m
      · rw [e]
        exact a1.mono kA
      · exact (b1 u m).mono kB
    · rcases List.mem_append.mp hb with m | m
      · exact (a2 b m).mono kA
      · exact (b2 b m).mono kB
end
end
def hoOf (o : Obj) : Option HO := match o.data with
  | .seq vs _ => if (o.cls == Value.type "list") = true then some (.frz o (.lst (vs.toList.map toV))) else some (.frz o (.tup (vs.toList.map toV)))
  | _ => none
def argH (K : PySem.W.Frag) (h : Heap) (A : List Addr) : Hp := fun b => if b ∈ A then (if (K.lookup b).isNone = true then (h.get? b).bind hoOf else none) else none
def OnlyF (H : Hp) : Prop := ∀ b, H b = none ∨ ∃ o u, H b = some (.frz o u)
theorem hoOf_lst (vs : List Value) : hoOf { cls := .type "list", data := .seq vs.toArray } = some (.frz { cls := .type "list", data := .seq vs.toArray } (.lst (vs.map toV))) := by
  show (if (Value.type "list" == Value.type "list") = true then some (HO.frz { cls := .type "list", data := .seq vs.toArray } (.lst (vs.toArray.toList.map toV))) else some (HO.frz { cls := .type "list", data := .seq vs.toArray } (.tup (vs.toArray.toList.map toV)))) = _
  rw [if_pos (beq_self_eq_true _)]
theorem hoOf_tup (vs : List Value) : hoOf { cls := .type "tuple", data := .seq vs.toArray } = some (.frz { cls := .type "tuple", data := .seq vs.toArray } (.tup (vs.map toV))) := by
  show (if (Value.type "tuple" == Value.type "list") = true then some (HO.frz { cls := .type "tuple", data := .seq vs.toArray } (.lst (vs.toArray.toList.map toV))) else some (HO.frz { cls := .type "tuple", data := .seq vs.toArray } (.tup (vs.toArray.toList.map toV)))) = _
  rw [if_neg (by decide)]
section
variable {P : Program} {w : World} {K : PySem.W.Frag} {h : Heap} {A : List Addr}
theorem argH_at {b : Addr} {o : Obj} (hb : b ∈ A) (hk : K.lookup b = none) (e : h.get? b = some o) : argH K h A b = hoOf o := by
  unfold argH
  rw [if_pos hb, hk, if_pos (show (none : Option Obj).isNone = true from rfl), e] <;> rfl
theorem of_argH {b : Addr} {u : HO} (q : argH K h A b = some u) : b ∈ A ∧ K.lookup b = none := by
  unfold argH at q
  by_cases hb : b ∈ A
  · rw [if_pos hb] at q
    cases hk : K.lookup b with
    | none => exact ⟨hb, rfl⟩
    | some o =>
      rw [hk, if_neg (by simp)] at q
      cases q
  · rw [if_neg hb] at q
    cases q
theorem argH_is (ar : ∀ a ∈ A, ArgOb h A a) {b : Addr} {u : HO} (q : argH K h A b = some u) : K.lookup b = none ∧ ∃ vs : List Value, vs.length ≤ sizeLine ∧ (∀ u ∈ vs, OkU A u) ∧
    ((h.get? b = some { cls := .type "list", data := .seq vs.toArray } ∧ u = .frz { cls := .type "list", data := .seq vs.toArray } (.lst (vs.map toV))) ∨
     (h.get? b = some { cls := .type "tuple", data := .seq vs.toArray } ∧ u = .frz { cls := .type "tuple", data := .seq vs.toArray } (.tup (vs.map toV)))) := by
  obtain ⟨hb, hk⟩ := of_argH q
  obtain ⟨vs, h1, h2, h3⟩ := ar b hb
  refine ⟨hk, vs, h1, h2, ?_⟩
  rcases h3 with e | e
  · rw [argH_at hb hk e, hoOf_lst] at q
    exact .inl ⟨e, (Option.some.inj q).symm⟩
  · rw [argH_at hb hk e, hoOf_tup] at q
    exact .inr ⟨e, (Option.some.inj q).symm⟩
theorem argH_only (ar : ∀ a ∈ A, ArgOb h A a) : OnlyF (argH K h A) := fun b => by
  cases q : argH K h A b with
  | none => exact .inl rfl
  | some u =>
    obtain ⟨_, vs, _, _, ⟨_, e⟩ | ⟨_, e⟩⟩ := argH_is ar q
    · exact .inr ⟨_, _, by rw [e]⟩
    · exact .inr ⟨_, _, by rw [e]⟩
theorem argH_ok (ar : ∀ a ∈ A, ArgOb h A a) : HOk P w (argH K h A) h := fun b u q => by
  obtain ⟨_, vs, h1, h2, ⟨e, rfl⟩ | ⟨e, rfl⟩⟩ := argH_is ar q
  · exact ⟨e, by rw [List.length_map]; exact h1, vs, _, vals_toV h2, e⟩
  · exact ⟨e, by rw [List.length_map]; exact h1, vs, vals_toV h2, _, e, rfl, _, rfl⟩
theorem seq_inj {c c' : Value} {vs us : List Value} (e : (some { cls := c, data := .seq vs.toArray } : Option Obj) = some { cls := c', data := .seq us.toArray }) : c = c' ∧ vs = us := by
  have e1 := Option.some.inj e
  have e2 : c = c' := congrArg Obj.cls e1
  have e3 : Data.seq vs.toArray = Data.seq us.toArray := congrArg Obj.data e1
  injection e3 with e4
  refine ⟨e2, ?_⟩
  have e5 := congrArg Array.toList e4
  simpa using e5
theorem argL (KX : K.In h) (ar : ∀ a ∈ A, ArgOb h A a) {a : Addr} {vs : List Value} (ha : a ∈ A) (e : h.get? a = some { cls := .type "list", data := .seq vs.toArray }) : (∀ u ∈ vs, OkU A u) ∧ SqL K (argH K h A) a (vs.map toV) := by
  obtain ⟨us, h1, h2, h3⟩ := ar a ha
  have hu : us = vs := by
    rcases h3 with q | q
    · rw [e] at q
      exact (seq_inj q).2.symm
    · rw [e] at q
      exact absurd (Value.type.inj (seq_inj q).1) (by decide)
  subst hu
  refine ⟨h2, ?_⟩
  cases hk : K.lookup a with
  | none => exact .inl (.inr ⟨_, by rw [argH_at ha hk e, hoOf_lst]⟩)
  | some o =>
    have e2 := KX a o hk
    rw [e] at e2
    obtain rfl := Option.some.inj e2
    exact .inr ⟨_, us.toArray, _, hk, rfl, rfl, rfl, by rw [List.size_toArray]; exact h1, by simpa using vals_toV h2⟩
theorem argT (KX : K.In h) (ar : ∀ a ∈ A, ArgOb h A a) {a : Addr} {vs : List Value} (ha : a ∈ A) (e : h.get? a = some { cls := .type "tuple", data := .seq vs.toArray }) : (∀ u ∈ vs, OkU A u) ∧ SqT K (argH K h A) a (vs.map toV) := by
  obtain ⟨us, h1, h2, h3⟩ := ar a ha
  have hu : us = vs := by
    rcases h3 with q | q
    · rw [e] at q
      exact absurd (Value.type.inj (seq_inj q).1) (by decide)
    · rw [e] at q
      exact (seq_inj q).2.symm
  subst hu
  refine ⟨h2, ?_⟩
  cases hk : K.lookup a with
  | none => exact .inl (.inr ⟨_, by rw [argH_at ha hk e, hoOf_tup]⟩)
  | some o =>
    have e2 := KX a o hk
    rw [e] at e2
    obtain rfl := Option.some.inj e2
    exact .inr ⟨_, us.toArray, _, hk, rfl, rfl, by rw [List.size_toArray]; exact h1, by simpa using vals_toV h2⟩
mutual
theorem dw_one {Pm : Params} (KX : K.In h) (ar : ∀ a ∈ A, ArgOb h A a) : ∀ (d : WData) (v : Value), Well Pm h v d → plW d = true → OkU A v → Dw K (argH K h A) (toV v) d
  | .none, _, x, _, _ => by
    cases x
    exact .non
  | .bool b, _, x, _, _ => by
    cases x
    exact .bl b
  | .int i, _, x, _, _ => by
    cases x
    exact .int i
  | .str s, _, x, _, _ => by
    cases x
    exact .str s
  | .bytes b, _, x, _, _ => by
    cases x
    have z := Dw.byt (K := K) (H := argH K h A) b.toArray
    exact z
  | .list ds, _, x, p, hu => by
    obtain ⟨a, vs, rfl, ho, hall⟩ := well_list x
    obtain ⟨h2, hs⟩ := argL KX ar hu ho
    exact .lst hs (dw_all KX ar ds _ hall p h2)
  | .tuple ds, _, x, p, hu => by
    obtain ⟨a, vs, rfl, ho, hall⟩ := well_tuple x
    obtain ⟨h2, hs⟩ := argT KX ar hu ho
    exact .tup hs (dw_all KX ar ds _ hall p h2)
  | .float _, _, _, p, _ => Bool.noConfusion (show false = true from p)
  | .dict _, _, _, p, _ => Bool.noConfusion (show false = true from p)
  | .bytearray _, _, _, p, _ => Bool.noConfusion (show false = true from p)
  | .set _, _, _, p, _ => Bool.noConfusion (show false = true from p)
  | .frozenset _, _, _, p, _ => Bool.noConfusion (show false = true from p)
  | .obj _ _, _, _, p, _ => Bool.noConfusion (show false = true from p)
theorem dw_all {Pm : Params} (KX : K.In h) (ar : ∀ a ∈ A, ArgOb h A a) : ∀ (ds : List WData) (vs : List Value), WellAll Pm h vs ds → plWs ds = true → (∀ u ∈ vs, OkU A u) → DwAll K (argH K h A) (vs.map toV) ds
  | [], _, x, _, _ => by
    cases x
    exact .nil
  | d :: ds, _, x, p, hu => by
    obtain ⟨v, vs, rfl, x1, x2⟩ := well_cons x
    have q : plW d = true ∧ plWs ds = true := Bool.and_eq_true_iff.mp p
    exact .cons (dw_one KX ar d v x1 q.1 (hu _ (List.mem_cons_self ..))) (dw_all KX ar ds vs x2 q.2 fun u m => hu u (List.mem_cons_of_mem _ m))
end
end
theorem spec_call {P : Program} {w : World} {K : PySem.W.Frag} {mg mb : Str → Option Value} {CX : CXT} {k : Nat} {fa : Addr} {fd : FuncData} {ps : List Str} {sp : Sp} {s₁ : Shared} {vals : List Value} {ds : List WData} {R : PySem.W.WRecords} {cl : Str → Option Addr} {d0 : WData}
    (KX : K.In s₁.heap) (hns : s₁.heap.Ns mainGlobals mg) (hb : s₁.heap.Ns builtinsNs mb) (hbb : ∀ x : Str, x ≠ "__name__" → mb x = bootBuiltins x) (hlim : s₁.heap.NoLimit) (hg : s₁.gens = #[])
    (hwl : WellAll w.params s₁.heap vals ds) (hpl : plWs ds = true) (hwt : ∀ d ∈ ds, d.weight ≤ 1048576) (hr : Room k callerA)
    (F : ∀ base : Heap, K.In base → base.Ns mainGlobals mg → FnOk P w K mg base CX k fa fd ps sp) (hbind : ∀ (s : Shared) (us : List Value), us.length = ps.length → BindsTo s fd ⟨us, []⟩ (ps.zip us)) (hlen : ds.length = ps.length)
    (hsp : ∀ (H : Hp) (xs : List V), OnlyF H → DwAll K H xs ds → sp xs H (fun v H' => Dw K H' v d0) fun _ _ _ => False)
    (hCX : ∀ H e s', CX [] H s₁ (fun _ _ _ => False) e s' → False) :
    codeAny (model P w) callerA (.call (.ref fa) ⟨vals, []⟩) (fun r s' => ∃ u as, r = .ok (.ret u) ∧ ReadsW R cl s'.heap u d0 as ∧ OldK s₁.heap s'.heap ∧ s'.os = s₁.os ∧ AllBare s'.gens) s₁ := by
  obtain ⟨A, ho, ar⟩ := area_all ds vals hwl hpl hwt
  have hO : OnlyF (argH K s₁.heap A) := argH_only ar
  have hok : HOk P w (argH K s₁.heap A) s₁.heap := argH_ok ar
  have hS := dw_all KX ar ds vals hwl hpl ho
  have hV := vals_toV ho
  have hK : ∀ b u, argH K s₁.heap A b = some u → K.lookup b = none := fun b u q => (argH_is ar q).1
  have noA : ∀ {b : Addr} {o : Obj} {es : Array DictEntry} {ep : Nat}, s₁.heap.get? b = some o → o.data = .dict es ep → argH K s₁.heap A b = none := fun {b o es ep} e d => by
    cases q : argH K s₁.heap A b with
    | none => rfl
    | some u =>
      obtain ⟨_, vs, _, _, ⟨e2, _⟩ | ⟨e2, _⟩⟩ := argH_is ar q
      · rw [e2] at e
        cases e
        have d' : Data.seq vs.toArray _ = Data.dict es ep := d
        cases d'
      · rw [e2] at e
        cases e
        have d' : Data.seq vs.toArray _ = Data.dict es ep := d
        cases d'
  generalize argH K s₁.heap A = H at hO hok hS hK noA
  have base_of : ∀ {b : Addr} {o : Obj}, s₁.heap.get? b = some o → H b = none → (hidT s₁.heap H).get? b = some o := fun e n => hidT_get e n
  have nsK : ∀ {b : Addr} {m : Str → Option Value}, s₁.heap.Ns b m → (hidT s₁.heap H).Ns b m := fun {b m} ⟨o, es, ep, e, d, r⟩ => ⟨o, es, ep, base_of e (noA e d), d, r⟩
  have nK : ∀ b o, K.lookup b = some o → H b = none := fun b o e => by
    cases q : H b with
    | none => rfl
    | some u =>
      rw [hK b u q] at e
      cases e
  have hKb : K.In (hidT s₁.heap H) := fun b o e => base_of (KX b o e) (nK b o e)
  have hM : Mod K mg (hidT s₁.heap H) := ⟨hKb, nsK hns, ⟨mb, nsK hb, hbb⟩, let ⟨mc, h1, h2⟩ := hlim; ⟨mc, nsK h1, h2⟩⟩
  have e0 : Env0 P w K mg (hidT s₁.heap H) callerA [] s₁ H := ⟨rfl, hM, fun b o e => of_hidT e, Nat.le_of_eq (hidT_size _ _), trivial, fun b hb => absurd (show b ∈ ([] : List Addr) from hb) (by simp), hok, .of_eq hg⟩
  have hl : vals.length = ps.length := by rw [wellAll_len hwl]; exact hlen
  refine codeAny_mono ((F _ hKb (nsK hns)).run callerA [] s₁ H ⟨vals, []⟩ vals (vals.map toV) _ _ hr e0 (hbind s₁ vals hl) hV (hsp H _ hO hS)) fun r s' x => ?_
  cases r with
  | error e => exact (hCX H e s' x).elim
  | ok fl =>
    cases fl with
    | next => exact False.elim x
    | brk => exact False.elim x
    | cont => exact False.elim x
    | ret u =>
      obtain ⟨v, H', os, bare, un, hok', r', q⟩ := x
      have kept : ∀ b o, s₁.heap.get? b = some o → s'.heap.get? b = some o := fun b o e => by
        cases q2 : H b with
        | none => exact un.keep b o e q2 (by intro z; exact absurd (show b ∈ ([] : List Addr) from z) (by simp)) (by simp)
        | some u2 =>
          rcases hO b with z | ⟨ob, u3, z⟩
          · rw [q2] at z
            cases z
          · have z2 := un.frzs b ob _ z
            obtain ⟨e1, _⟩ := hok b _ z
            obtain ⟨e2, _⟩ := hok' b _ z2
            rw [e] at e1
            cases e1
            exact e2
      have KX' : K.In s'.heap := fun b o e => kept b o (KX b o e)
      obtain ⟨as, hrd⟩ := Dw.reads (R := R) (cl := cl) hok' KX' d0 v u q r'
      exact ⟨u, as, rfl, hrd, OldK.of_keep kept, os, bare⟩
theorem layable_weight {ds : List WData} (h : WData.layableAll ds = true) : ∀ d ∈ ds, d.weight ≤ 1048576 := fun d hd =>
  (PySem.W.layableW_iff.mp (List.all_eq_true.mp h d hd)).2.2
theorem encAll_len : ∀ (cs : List Codec) (a : Codec.denoteAll cs), (Codec.encAll cs a).length = cs.length
  | [], _ => rfl
  | c :: cs, a => by
    show (Codec.encAll cs a.2).length + 1 = cs.length + 1
    rw [encAll_len cs a.2]
theorem walk_spec {r : OpenSpec} {k : Nat} {q : Program} {loose : List Str} {XP : (Str → Option Value) → Heap → Prop} {YP : World → Heap → Prop} {d : DefRec} {K : Params → PySem.W.Frag} {CX : World → CXT} {ps : List Str} {sp : World → Sp}
    (hwell : r.wellSaid = true) (hdf : d.params.defaults = []) (hlen : r.args.length = ps.length) (hr : Room k callerA)
    (hY : ∀ (w : World) (h : Heap), YP w h → (K w.params).In h)
    (F : ∀ (w : World) (mg : Str → Option Value) (fa : Addr) (h : Heap), YP w h → (K w.params).In h → h.Ns mainGlobals mg → mg d.name = some (.ref fa) →
      ∃ fd : FuncData, (∀ (s : Shared) (us : List Value), us.length = ps.length → BindsTo s fd ⟨us, []⟩ (ps.zip us)) ∧
        ∀ base : Heap, (K w.params).In base → base.Ns mainGlobals mg → FnOk r.prog w (K w.params) mg base (CX w) k fa fd ps (sp w))
    (hsp : ∀ (w : World) (H : Hp) (xs : List V) (a : Codec.denoteAll r.args), OnlyF H → Codec.withinAll r.args a = true → Codec.app r.args r.asked a = true → DwAll (K w.params) H xs (Codec.encAll r.args a) →
      sp w xs H (fun v H' => Dw (K w.params) H' v (r.ret.enc (Codec.app r.args r.f a))) fun _ _ _ => False)
    (hCX : ∀ (w : World) (H : Hp) (s : Shared) (e : Value) (s' : Shared), CX w [] H s (fun _ _ _ => False) e s' → False) :
    PySem.W.WalkOS q loose XP YP r d [] (fun f vs => PySem.call f vs) := by
  intro w s_0 s₁ mg mb G Y fa o pm cd doc dV kV ho hd hcd hD hmg hg args vals as hpre hlay hrd hwl hlo
  obtain ⟨a, e1, e2⟩ := PySem.W.os_pre_some hpre
  obtain ⟨e3, hwi⟩ := Codec.encAll_of_decAll r.args args a e1
  subst e3
  have KX := hY w _ Y
  obtain ⟨fd, hb, hF⟩ := F w mg fa _ Y KX G.T.g hmg
  refine PySem.W.enter_call (codeAny_mono (spec_call (R := []) (cl := classAt s_0.heap) (d0 := r.ret.enc (Codec.app r.args r.f a)) KX G.T.g G.T.b G.T.builtins G.T.nolimit hg hwl (pl_encAll _ _) (layable_weight hlay) hr hF hb (by rw [encAll_len]; exact hlen)
    (fun H xs hO hS => hsp w H xs a hO hwi e2 hS) fun H e s' => hCX w H s₁ e s') fun r' s' hq => ?_)
  obtain ⟨u, as', rfl, h1, h2, h3, h4⟩ := hq
  exact ⟨.inl ⟨u, _, as', rfl, fun _ => rfl, h1, (OpenSpec.post_iff hwell hwi _ _).mpr rfl, fun z => Bool.noConfusion (show false = true from z)⟩, h2, h3, h4⟩
theorem walk_specK {r : OpenSpec} {k : Nat} {q : Program} {loose : List Str} {XP : (Str → Option Value) → Heap → Prop} {YP : World → Heap → Prop} {d : DefRec} {K : Params → PySem.W.Frag} {CX : CXT} {ps : List Str} {sp : PySem.W.Frag → Sp}
    (hwell : r.wellSaid = true) (hdf : d.params.defaults = []) (hlen : r.args.length = ps.length) (hr : Room k callerA)
    (hY : ∀ (w : World) (h : Heap), YP w h → (K w.params).In h)
    (F : ∀ (w : World) (mg : Str → Option Value) (fa : Addr) (h : Heap), YP w h → (K w.params).In h → h.Ns mainGlobals mg → mg d.name = some (.ref fa) →
      ∃ fd : FuncData, (∀ (s : Shared) (us : List Value), us.length = ps.length → BindsTo s fd ⟨us, []⟩ (ps.zip us)) ∧
        ∀ base : Heap, (K w.params).In base → base.Ns mainGlobals mg → FnOk r.prog w (K w.params) mg base CX k fa fd ps (sp (K w.params)))
    (hsp : ∀ (K : PySem.W.Frag) (H : Hp) (xs : List V) (a : Codec.denoteAll r.args), OnlyF H → Codec.withinAll r.args a = true → Codec.app r.args r.asked a = true → DwAll K H xs (Codec.encAll r.args a) →
      sp K xs H (fun v H' => Dw K H' v (r.ret.enc (Codec.app r.args r.f a))) fun _ _ _ => False)
    (hCX : ∀ (H : Hp) (s : Shared) (e : Value) (s' : Shared), CX [] H s (fun _ _ _ => False) e s' → False) :
    PySem.W.WalkOS q loose XP YP r d [] (fun f vs => PySem.call f vs) :=
  walk_spec (K := K) (CX := fun _ => CX) (sp := fun w => sp (K w.params)) hwell hdf hlen hr hY F (fun w H xs a h1 h2 h3 h4 => hsp (K w.params) H xs a h1 h2 h3 h4) fun _ H s e s' => hCX H s e s'
end L2
end
end
section
set_option Elab.async false
set_option maxRecDepth 100000
set_option maxHeartbeats 2000000
namespace L2
open PySem PySem.Spec PyProof.Rows
def KI (mg : Str → Option Value) (x : Str) (v : V) : Prop := ∃ u, mg x = some u ∧ RelV v u
theorem paired_mk {α β : Type} {G : α → β → Prop} : ∀ {l : List α} {m : List β}, l.length = m.length → (∀ (i : Nat) (x : α) (u : β), l[i]? = some x → m[i]? = some u → G x u) → Paired G l m
  | [], [], _, _ => .nil
  | a :: l, b :: m, e, h => .cons (h 0 a b rfl rfl) (paired_mk (by simpa using e) fun i x u h1 h2 => h (i + 1) x u h1 h2)
  | [], _ :: _, e, _ => by simp at e
  | _ :: _, [], e, _ => by simp at e
section
variable {X : Cx}
theorem pk {x : Str} {v : V} {pos : Pos} (h : KI X.mg x v) (hg : Gl X x := by rfl) (hd : (x == ("__debug__" : Str)) = false := by decide) : PE X (.Name x pos) (tC v) := by
  obtain ⟨u, h1, h2⟩ := h
  exact pe_glob hg h1 h2 hd
theorem call_list_dict (hh : X.A.handled = none) : CallR X (.type "list") (fun xs H Q => ∃ p kvs, xs = [.ref p] ∧ H p = some (.dK kvs) ∧ ∀ l, H l = none → Q (.ref l) (upd H l (.lst (kvs.map fun kv => kV kv.1)))) := by
  intro pins s σ H xs us Q I r h
  obtain ⟨p, kvs, rfl, hp, q⟩ := h
  obtain ⟨u, rfl, rx⟩ := vals1 r
  cases rx
  obtain ⟨z, hd, vs, rel, dd⟩ := dk_of I.hok hp
  obtain ⟨ep, hat⟩ := dd.dictAt
  have hl : kvs.length = vs.length := Paired.length rel
  refine PySem.W.kdl_call (PySem.W.kdl_dict (knd := mixKind X.prog X.w) (kvs := vs) (ep := ep) hd) hh hat (by omega) fun h' tk acc' c' kp e it => ?_
  have rv : Vals (kvs.map fun kv => kV kv.1) acc'.toList := by
    refine paired_mk (by have := it.1; simp only [List.length_map, Array.length_toList]; omega) fun i x u hx hu => ?_
    obtain ⟨k, y, h1, h2⟩ := it.2 i u (by rw [← Array.getElem?_toList]; exact hu)
    rw [List.getElem?_map] at hx
    obtain ⟨⟨k', v'⟩, h3, h4⟩ := Option.map_eq_some_iff.mp hx
    obtain ⟨u', h5, _⟩ := kv_get rel h3
    rw [h1] at h5
    cases h5
    subst h4
    exact relV_key h2
  exact ⟨.ref s.heap.objs.size, _, I.laid (t' := tk) kp (Nat.le_refl _) (show ObjOk X.prog X.w _ h' _ (.lst _) from ⟨by rw [List.length_map]; exact z, acc'.toList, c', rv, e⟩), rfl, q _ (I.hok.fresh (Nat.le_refl _))⟩
def rGetL (K : PySem.W.Frag) : V → V → Hp → VK → Prop := fun x y H Q => ∃ (p : Addr) (xs : List V) (i : Nat) (v : V), x = .ref p ∧ y = .int (i : Int) ∧ SqL K H p xs ∧ xs[i]? = some v ∧ Q v H
theorem get_list : PGet X (rGetL X.K) := by
  intro pins s σ H o i ov iv Q I ro ri h
  obtain ⟨p, xs, k, v, rfl, rfl, hq, hx, q⟩ := h
  cases ro
  obtain ⟨t, rfl⟩ := ri
  obtain ⟨its, r, pl, hz⟩ := I.list hq
  obtain ⟨u, hu, ru⟩ := r.get hx
  have hl := r.length
  have hn := line63
  have hk := (List.getElem?_eq_some_iff.mp hx).1
  exact wpAny_getItem_list pl.isList (by omega) (by omega) (by simpa using hu) ⟨v, H, I, ru, q⟩
def rCount (K : PySem.W.Frag) : V → List V → Hp → VK → Prop := fun x xs H Q => ∃ (a : Addr) (ys : List V) (y : V), x = V.ref a ∧ xs = [y] ∧ SqL K H a ys ∧ flatV y = true ∧ ys.all flatV = true ∧ Q (.int ((ys.countP fun z => eqV z y : Nat) : Int)) H
theorem count_eqU {x : V} : ∀ {xs : List V} {us : List Value}, Vals xs us → xs.all flatV = true → us.countP (eqU x) = xs.countP fun y => eqV y x
  | _, _, .nil, _ => rfl
  | y :: xs, u :: us, .cons r t, f => by
    rw [List.all_cons, Bool.and_eq_true] at f
    rw [List.countP_cons, List.countP_cons, eqU_of r f.1, count_eqU t f.2]
theorem mt_countL : MtR X "list.count" (rCount X.K) := by
  intro pins s σ H x xs v us Q I rx rxs h
  obtain ⟨a, ys, y, rfl, rfl, hs, fy, fys, q⟩ := h
  cases rx
  cases rxs with
  | cons ry rt =>
    rename_i uy ut
    cases rt
    obtain ⟨its, rv, ⟨⟨cls, dd, data, sl⟩, n, ho, hc, hdn, hd⟩, hlen⟩ := I.list hs
    simp only at hc hd
    subst hc hd
    refine call_meets PySem.F.slot_list_count ⟨_, ho, rfl⟩ PySem.F.entry_list_count (PySem.F.args_list_count_2 _ _)
      (SeqAt.list_countAt a its.toArray n dd sl uy (eqU y)) ⟨ho, fun u' hu' => mem_eqAt ry fy rv fys u' (by simpa using hu'), ?_⟩
    refine ⟨.int ((ys.countP fun z => eqV z y : Nat) : Int), H, I.tok _, ⟨s.toks, ?_⟩, q⟩
    rw [show its.toArray.toList = its from rfl, count_eqU rv fys]
end
def tMid (t : TS) : TS := fun D σ H => ∃ M : L2.St → Hp → Prop, t { D with nx := M } σ H ∧ ∀ σ' H', M σ' H' → D.nx σ' H'
theorem ps_mid {X : Cx} {st : Stmt} {t : TS} (h : PS X st t) : PS X st (tMid t) := by
  intro pins s σ H D I hw
  obtain ⟨M, h1, h2⟩ := hw
  refine thn (h pins s σ H _ I h1) fun f s1 q => ?_
  cases f with
  | next => obtain ⟨σ', H', I', m⟩ := q; exact ⟨σ', H', I', h2 _ _ m⟩
  | brk => exact q
  | cont => exact q
  | ret v => exact q
section
variable (P : Program) (w : World) (K : PySem.W.Frag) (mg : Str → Option Value) (base : Heap)
def Fx (k : Nat) (x : Str) (ps : List Str) (sp : Sp) : Prop := ∃ (f : Addr) (fd : FuncData), mg x = some (.ref f) ∧ PySem.W.keepIn K (.ref f) = true ∧ Binds K fd ps [] ∧ FnOk P w K mg base CX0 k f fd ps sp
def Mx (C : Addr) (k : Nat) (x : Str) (ps : List Str) (sp : Sp) : Prop := ∃ (f : Addr) (fd : FuncData), Meth K C x f ∧ Binds K fd ps [] ∧ FnOk P w K mg base CX0 k f fd ps sp
def Nx (C : Addr) (k : Nat) (x : Str) (ps : List Str) (sp : Sp) : Prop := ∃ (f : Addr) (fd : FuncData), mg x = some (.ref C) ∧ Mk K C f ∧ Binds K fd ps [] ∧ FnOk P w K mg base CX0 k f fd ps sp
def Fd (x : Str) (st : Stmt) (ps : List Str) : Prop := ∃ (f : Addr) (fd : FuncData), mg x = some (.ref f) ∧ Fun K x x st f fd ∧ Binds K fd ps []
def Md (C : Addr) (x q : Str) (st : Stmt) (ps : List Str) : Prop := ∃ (f : Addr) (fd : FuncData), Meth K C x f ∧ Fun K x q st f fd ∧ Binds K fd ps []
def Nd (C : Addr) (x q : Str) (st : Stmt) (ps : List Str) : Prop := ∃ (f : Addr) (fd : FuncData), mg x = some (.ref C) ∧ Mk K C f ∧ Fun K "__init__" q st f fd ∧ Binds K fd ps []
end
section
variable {P : Program} {w : World} {K : PySem.W.Frag} {mg : Str → Option Value} {base : Heap}
abbrev Body (P : Program) (w : World) (K : PySem.W.Frag) (mg : Str → Option Value) (base : Heap) (k : Nat) (q : Str) (st : Stmt) (N : List Str) (sp : Sp) : Prop :=
  ∀ (f : Addr) (cdv : Value) (A : Around) (outer : List Env) (s : Shared) (H : Hp) (vs : List V) (Q : VK) (E : XK), Room k (A.deeper (envOfC q (defScope st) s.heap.objs.size f cdv)) → sp vs H Q E →
      ∃ t, PSs (cxOf CX0 P w K mg base N q (defScope st) f cdv A outer s H E).nox (defBody st) t ∧ t { nx := fun _ H' => Q .non H', rt := Q } (start N vs) H
theorem Fd.ok {x : Str} {st : Stmt} {ps N : List Str} {sp : Sp} {k : Nat} (F : Fd K mg x st ps) (S : FnScope N ps (defScope st)) (len : ∀ vs H Q E, sp vs H Q E → vs.length = ps.length) (b : Body P w K mg base k x st N sp) : Fx P w K mg base (k + 1) x ps sp := by
  obtain ⟨f, fd, h1, h2, h3⟩ := F
  exact ⟨f, fd, h1, h2.kp, h3, h2.ok S len (b f)⟩
theorem Md.ok {C : Addr} {x q : Str} {st : Stmt} {ps N : List Str} {sp : Sp} {k : Nat} (F : Md K C x q st ps) (S : FnScope N ps (defScope st)) (len : ∀ vs H Q E, sp vs H Q E → vs.length = ps.length) (b : Body P w K mg base k q st N sp) : Mx P w K mg base C (k + 1) x ps sp := by
  obtain ⟨f, fd, h1, h2, h3⟩ := F
  exact ⟨f, fd, h1, h3, h2.ok S len (b f)⟩
theorem Nd.ok {C : Addr} {x q : Str} {st : Stmt} {ps N : List Str} {sp : Sp} {k : Nat} (F : Nd K mg C x q st ps) (S : FnScope N ps (defScope st)) (len : ∀ vs H Q E, sp vs H Q E → vs.length = ps.length) (b : Body P w K mg base k q st N sp) : Nx P w K mg base C (k + 1) x ps sp := by
  obtain ⟨f, fd, h1, hm, h2, h3⟩ := F
  exact ⟨f, fd, h1, hm, h3, h2.ok S len (b f)⟩
end
section
variable {X : Cx} {x : Str} {k : Nat} {ps : List Str} {sp : Sp} {C : Addr} {e o : Expr} {es : List Expr} {t : TA} {ta : TE} {p pos apos : Pos}
theorem pcall (F : Fx X.prog X.w X.K X.mg X.base k x ps sp) (hr : Room k X.A) (ha : PA X (e :: es) t) (hg : Gl X x := by rfl) (hdb : (x == ("__debug__" : Str)) = false := by decide)
    (he : starEach (e :: es) X.env = (false, eval e X.env) :: starEach es X.env := by rfl) (hpl : (backTo pos (starEach es X.env)).any (·.1) = false := by rfl) : PE X (.Call (.Name x p) (e :: es) [] pos) (tCall sp [] E0 t) := by
  obtain ⟨f, fd, h1, h2, h3, h4⟩ := F
  exact pe_call h4 hr hg h1 h2 h3 .nil pass0 ha hdb he hpl
theorem pmake (F : Nx X.prog X.w X.K X.mg X.base C k x ps sp) (hr : Room (k + 1) X.A) (ha : PA X (e :: es) t) (hg : Gl X x := by rfl) (hdb : (x == ("__debug__" : Str)) = false := by decide)
    (he : starEach (e :: es) X.env = (false, eval e X.env) :: starEach es X.env := by rfl) (hpl : (backTo pos (starEach es X.env)).any (·.1) = false := by rfl) : PE X (.Call (.Name x p) (e :: es) [] pos) (tMake C sp [] E0 t) := by
  obtain ⟨f, fd, h1, h2, h3, h4⟩ := F
  exact pe_make h2 h4 hr hg h1 h3 .nil pass0 ha hdb he hpl
theorem pmeth {pl : Sem Bool} (ho : PE X o ta) (c : Cls X.K C) (F : Mx X.prog X.w X.K X.mg X.base C k x ps sp) (hr : Room k X.A) (ha : PA X (e :: es) t)
    (hst : starEach (e :: es) X.env = (false, eval e X.env) :: starEach es X.env := by rfl) (hpl : (backTo pos (starEach es X.env)).any (·.1) = false := by rfl)
    (ht : eval (.Call (.Attribute o x apos) (e :: es) [] pos) X.env = (do
      let ov ← eval o X.env
      standAt apos.atName
      let (f, first) ← holding [ov] (getMethod ov x pl)
      callWith pos f first (backTo pos (starEach (e :: es) X.env)) (backToKw pos (keywordEach [] X.env))) := by rfl) :
    PE X (.Call (.Attribute o x apos) (e :: es) [] pos) (tMeth C x sp [] E0 ta t) := by
  obtain ⟨f, fd, h1, h3, h4⟩ := F
  exact pe_meth ho c h1 h4 hr h3 .nil pass0 ha hst hpl ht
theorem pmeth0 (ho : PE X o ta) (c : Cls X.K C) (F : Mx X.prog X.w X.K X.mg X.base C k x ps sp) (hr : Room k X.A) {pl : Sem Bool}
    (ht : eval (.Call (.Attribute o x apos) [] [] pos) X.env = (do
      let ov ← eval o X.env
      standAt apos.atName
      let (f, first) ← holding [ov] (getMethod ov x pl)
      callWith pos f first (backTo pos (starEach [] X.env)) (backToKw pos (keywordEach [] X.env))) := by rfl) :
    PE X (.Call (.Attribute o x apos) [] [] pos) (tMeth C x sp [] E0 ta tNil) := by
  obtain ⟨f, fd, h1, h3, h4⟩ := F
  exact pe_meth0 ho c h1 h4 hr h3 .nil pass0 ht
end
theorem er_map {α β : Type} (f : α → β) : ∀ (l : List α) (j : Nat), (l.map f).eraseIdx j = (l.eraseIdx j).map f
  | [], _ => rfl
  | _ :: _, 0 => rfl
  | a :: l, j + 1 => by
    show f a :: (l.map f).eraseIdx j = f a :: (l.eraseIdx j).map f
    rw [er_map f l j]
section
variable {prog : Program} {w : World} {K : Type} [DecidableEq K] {knd : HeapKind prog w K} {A : Around} {E : Value → Shared → Prop} {s : Shared}
theorem ix_uniqH {xs : List (K × Addr × Value)} {k : K} {i j : Nat} {p q : Addr × Value} (hn : (xs.map (·.1)).Nodup) (h1 : xs[i]? = some (k, p)) (h2 : xs[j]? = some (k, q)) : i = j := by
  have e1 : (xs.map (·.1))[i]? = some k := by rw [List.getElem?_map, h1]; rfl
  have e2 : (xs.map (·.1))[j]? = some k := by rw [List.getElem?_map, h2]; rfl
  exact nd_ix hn e1 e2
theorem takeOut_heap {d a : Addr} {xs : List (K × Addr × Value)} {k : K} {j : Nat} {p : Addr × Value} {Q : Option DictEntry → Shared → Prop} (hu : knd.room A) (hkey : knd.is s.heap k a) (hm : s.heap.DictOfH knd d xs) (hj : xs[j]? = some (k, p))
    (hQ : ∀ h' (e : DictEntry), e.val = p.2 → h'.DictOfH knd d (xs.eraseIdx j) → Heap.SameBut d s.heap h' → Q (some e) { s with heap := h', toks := s.toks + knd.draws k }) (hsz : xs.length ≤ sizeLine) :
    wpAny (model prog w) A (Builtin.Dict.takeOut d (.ref a)) Q E s := by
  obtain ⟨o, es, ep, ho, hc, hd, he, his, hn⟩ := hm
  have hes : es.size ≤ sizeLine := by rw [size_of_entries he]; exact hsz
  unfold Builtin.Dict.takeOut
  try with_reducible refine wpAny_holding ?_
  refine wpAny_bind (knd.pyHash hu hkey (wpAny_bind (wpAny_dictFind_heap (s := { s with toks := s.toks + knd.draws k }) hu hkey ho hd he his hn ?_ ?_)))
  · intro hno
    exact absurd hj (hno j p)
  · intro j' p' hj'
    have ej : j' = j := ix_uniqH hn hj' hj
    subst ej
    refine wpAny_bind (wpAny_dictEntries (s := { s with toks := s.toks + knd.draws k }) ho hd ?_)
    rw [entry_at he j', hj]
    refine wpAny_bind (wpAny_updateDictKeys (hz := hes) (s := { s with toks := s.toks + knd.draws k }) ho hd (wpAny_pure (hQ _ _ rfl ⟨_, _, ep + 1, Heap.get?_update_self _ ho (Obj.isFreed_of_dict (Obj.data_mapDictKeys hd _)),
      hc.mapDictKeys _, Obj.data_mapDictKeys hd _, ?_, ?_, ?_⟩ (Heap.SameBut.update ..))))
    · obtain ⟨l⟩ := es
      simp only [List.eraseIdxIfInBounds_toArray] at he ⊢
      have he : l = xs.map (entryOfKey knd) := he
      rw [he, er_map]
    · intro x hx
      exact knd.keeps (his x (List.mem_of_mem_eraseIdx hx)) ho hd (Heap.SameBut.update ..)
    · have := hn.sublist ((List.eraseIdx_sublist xs j').map (·.1))
      exact this
theorem meetsH_dict_pop (knd : HeapKind prog w K) (d a : Addr) :
    MeetsIn prog w (Builtin.«dict.pop» ⟨[.ref d, .ref a], []⟩) (fun A R s => knd.room A.in1 ∧ ∃ k xs j p, knd.is s.heap k a ∧ s.heap.DictOfH knd d xs ∧ xs.length ≤ sizeLine ∧ xs[j]? = some (k, p) ∧
      ∀ h' tk, h'.DictOfH knd d (xs.eraseIdx j) → Heap.SameBut d s.heap h' → R (.ok (.ret p.2)) { s with heap := h', toks := tk }) :=
  .of_wp fun A R s ⟨hu, k, xs, j, p, hkey, hm, hsz, hj, h⟩ => by
    unfold Builtin.«dict.pop»
    refine wpAny_bind ?_
    unfold Builtin.Dict.keyAndDefault
    refine wpAny_bind (wpAny_notOrdered_dict hm.typeIs ?_)
    show wpAny _ _ (pure (d, Value.ref a, none)) _ _ s
    refine wpAny_pure ?_
    have hm' := hm
    obtain ⟨o, es, ep, ho, hc, hd, he, his, hn⟩ := hm'
    have hne : es.isEmpty = false := by
      have h1 := size_of_entries he
      have h2 := (List.getElem?_eq_some_iff.mp hj).1
      rw [← Bool.not_eq_true, Array.isEmpty_iff_size_eq_zero]
      omega
    refine wpAny_bind (wpAny_dictEntries ho hd (wpAny_bind (wpAny_pure ?_)))
    rw [hne]
    simp only [Bool.false_eq_true, if_false]
    refine wpAny_bind (takeOut_heap hu hkey hm hj (fun h' e ev hm' hs' => ?_) hsz)
    simp only [Option.isNone_some, Bool.false_eq_true, if_false]
    exact wpAny_bind (wpAny_letGo (wpAny_pure ⟨e.val, rfl, by rw [ev]; exact h h' _ hm' hs'⟩))
end
def tDPopT (td ty : TE) : TE := fun σ H Q => td σ H fun x H1 => ∃ a, x = .ref a ∧ IsD H1 a ∧ ty σ H1 fun y H2 => ∃ kvs k v b j, H2 a = some (.dT kvs) ∧ y = .ref b ∧ H2 b = some (.tup (k.map kV)) ∧ kvs[j]? = some (k, v) ∧ Q v (upd H2 a (.dT (kvs.eraseIdx j)))
section
variable {X : Cx} {o e : Expr} {td ty : TE} {apos cpos : Pos}
theorem pe_dpopT (hu : X.A.units + 1 < cLine) (ho : PE X o td) (he : PE X e ty) (m : M1 X o "pop" apos e cpos := by exact ⟨rfl, rfl, rfl, rfl⟩) : PE X (.Call (.Attribute o "pop" apos) [e] [] cpos) (tDPopT td ty) := by
  intro pins s σ H Q I h
  refine wpAny_Call_method m.base m.few m.line PySem.F.plainAttrs_dict PySem.F.slot_dict_pop PySem.F.type_dict_pop (thn (ho pins s σ H _ I h) fun u s1 ⟨x, H1, I1, rx, a, ex, d, q1⟩ => ?_)
  subst ex
  obtain rfl : u = Value.ref a := rx
  obtain ⟨t1, t2, _⟩ := isD_at I1 d
  refine ⟨t1, t2, ?_⟩
  rw [m.trees]
  refine Calls.callWith_builtin rfl (Calls.evalArgs_plain (Calls.spliced_cons (thn (he pins s1 σ H1 _ I1 q1) fun iv s2 ⟨y, H2, I2, ry, kvs, k, v, b, j, ea, ey, eb, ej, q2⟩ => Calls.spliced_nil ?_)))
  subst ey
  obtain rfl : iv = Value.ref b := ry
  obtain ⟨z, hd, xs, rel, dd⟩ := dt_of I2.hok ea
  have hl : kvs.length = xs.length := Paired.length rel
  obtain ⟨⟨k', p⟩, hx, hk, _, hv⟩ := paired_get rel ej
  cases hk
  refine call_meetsIn PySem.F.slot_dict_pop dd.typeIs PySem.F.entry_dict_pop (PySem.F.args_dict_pop_2 _ _) (meetsH_dict_pop (tupleKind (mixKind X.prog X.w)) a b)
    ⟨tupleKind_room_in1 hu, k, xs, j, p, key_of I2.hok eb, dd, by omega, hx, fun h' tk dd' hs => ⟨v, _, ?_, hv, q2⟩⟩
  obtain ⟨q, es, ep, hq, h2, h3, h4, _, h5⟩ := dd'
  refine d_write I2 (by rw [ea]; exact True.intro) hs ⟨q, hq⟩ ⟨?_, hd, xs.eraseIdx j, ?_, q, es, ep, hq, h2, h3, h4, h5⟩
  · exact Nat.le_trans (List.eraseIdx_sublist kvs j).length_le z
  · have er : ∀ {l : List (List Key × V)} {m : List (List Key × Addr × Value)} (j : Nat), KT H2 l m → KT H2 (l.eraseIdx j) (m.eraseIdx j) := by
      intro l m j r
      induction r generalizing j with
      | nil => exact .nil
      | cons h t ih =>
        cases j with
        | zero => exact t
        | succ j => exact .cons h (ih j)
    refine KT.keeps (er j rel) fun c ys ec => ?_
    rw [upd_ne (ne_of ec ea (fun z => nomatch z))]
    exact ec
def tDispT (tk tv : TE) : TE := fun σ H Q => ∀ p, H p = none → tk σ (upd H p (.dT [])) fun x H1 => tv σ H1 fun y H2 => ∃ b ks, H2 p = some (.dT []) ∧ x = .ref b ∧ H2 b = some (.tup (ks.map kV)) ∧ Q (.ref p) (upd H2 p (.dT [(ks, y)]))
theorem pe_dispT {k v : Expr} {tk tv : TE} {pos : Pos} (hu : X.A.units + 1 < cLine) (hk : PE X k tk) (hv : PE X v tv) : PE X (.Dict [some k] [v] pos) (tDispT tk tv) := by
  intro pins s σ H Q I q
  have hn := I.hok.fresh (Nat.le_refl s.heap.objs.size)
  have I1 := I.laid (a := s.heap.objs.size) (o := .dT []) (h' := s.heap.push { cls := .type "dict", data := .dict #[] }) (t' := s.toks) (fun _ _ q => Heap.get?_push_of_some _ q) (Nat.le_refl _) (dt_empty s.heap I.big)
  have hq := q _ hn
  rw [arm_eval_Dict, zip_pairTrees [some k] [v] X.env pos rfl rfl, dictDisplay_pairs _ (by intro z; cases z) (by show 1 < 17; decide)]
  refine wpAny_bind (wpAny_standAt (wpAny_bind ?_))
  unfold subDict
  refine wpAny_bind (wpAny_alloc ?_)
  refine wpAny_bind (wpAny_holding ?_)
  rw [if_pos (by show 1 ≤ 15; decide)]
  refine wpAny_bind (pairTrees_cons_walk (thn (hk pins _ σ _ _ I1 hq) fun u s1 ⟨x, H1, J1, rx, q1⟩ => thn (hv pins s1 σ H1 _ J1 q1) fun w2 s2 ⟨y, H2, J2, ry, b, ks, ep, ex, eb, q2⟩ => pairTrees_nil_walk ?_))
  subst ex
  obtain rfl : u = Value.ref b := rx
  refine wpAny_holding ?_
  obtain ⟨z, hd, xs, rel, dd⟩ := dt_of J2.hok ep
  cases rel
  rw [List.forIn_cons]
  refine wpAny_bind (wpAny_bind (wpAny_bind (wpAny_dictSet_heap (hsz := Nat.zero_le _) (show (tupleKind (mixKind X.prog X.w)).room X.A from Nat.lt_of_succ_lt hu) (key_of J2.hok eb) dd fun h' dd' hs => wpAny_pure ?_)))
  show wpAny _ _ (pure PUnit.unit) _ _ _
  refine wpAny_pure (wpAny_pure (wpAny_pure (wpAny_pure ⟨.ref s.heap.objs.size, _, ?_, rfl, q2⟩)))
  obtain ⟨q', es, ep', hq', h2, h3, h4, _, h5⟩ := dd'
  refine d_write J2 (by rw [ep]; exact True.intro) hs ⟨q', hq'⟩ ⟨by show 1 ≤ sizeLine; decide, hd, [(ks, b, w2)], ?_, q', es, ep', hq', h2, h3, h4, h5⟩
  refine .cons ⟨rfl, ?_, ry⟩ .nil
  rw [upd_ne (ne_of eb ep (fun z => nomatch z))]
  exact eb
end
end L2
end
section
set_option Elab.async false
set_option maxRecDepth 100000
set_option maxHeartbeats 2000000
namespace L2
open PySem PySem.Spec
open PyProof.Rows hiding St
def tJs : List TE → L2.St → Hp → Str → VK → Prop
  | [], _, H, out, Q => out.length ≤ sizeLine ∧ Q (.str out) H
  | t :: ts, σ, H, out, Q => t σ H fun v H1 => ∃ y, v = .str y ∧ (out ++ y).length ≤ sizeLine ∧ tJs ts σ H1 (out ++ y) Q
def PJ (X : Cx) (es : List Expr) (ts : List TE) : Prop := ∀ (pins : List (Addr × Obj)) (s : Shared) (σ : L2.St) (H : Hp) (out : Str) (Q : VK), Inv X pins σ H s → tJs ts σ H out Q → wpAny (model X.prog X.w) X.A (joinParts out (evalEach es X.env)) (EP X pins σ Q) X.xe s
section
variable {X : Cx} {e v1 v2 : Expr} {es : List Expr} {t : TE} {ts : List TE} {pos : Pos}
theorem pj_nil : PJ X [] [] := fun _ _ _ H out _ I h => joinParts_nil ⟨.str out, H, I.tok _, ⟨_, rfl⟩, h.2⟩ h.1
theorem pj_cons (he : PE X e t) (hr : PJ X es ts) : PJ X (e :: es) (t :: ts) := by
  intro pins s σ H out Q I h
  refine joinParts_cons (thn (he pins s σ H _ I h) fun u s1 ⟨x, H1, I1, rx, y, ey, hl, q⟩ => ?_)
  subst ey
  obtain ⟨tk, rfl⟩ := rx
  exact ⟨hl, hr pins s1 σ H1 _ Q I1 q⟩
theorem pe_js (h : PJ X (v1 :: v2 :: es) ts) : PE X (.JoinedStr (v1 :: v2 :: es) pos) (fun σ H Q => tJs ts σ H Str.empty Q) := by
  intro pins s σ H Q I q
  exact JoinedStr_many (h pins s σ H Str.empty Q I q)
def tFv (t : TE) : TE := fun σ H Q => t σ H fun v H1 => (∃ x, v = .str x ∧ x.length ≤ sizeLine ∧ Q (.str x) H1) ∨ ∃ i : Int, v = .int i ∧ i.natAbs.log2 < 1920 ∧ Q (.str (Str.ofString (toString i))) H1
theorem pe_fv (he : PE X e t) : PE X (.FormattedValue e (-1) none pos) (tFv t) := by
  intro pins s σ H Q I q
  refine FormattedValue_plain (thn (he pins s σ H _ I q) fun u s1 ⟨x, H1, I1, rx, q1⟩ => ?_)
  rcases q1 with ⟨z, ez, hl, q1⟩ | ⟨i, ei, hl, q1⟩
  · subst ez
    obtain ⟨tk, rfl⟩ := rx
    exact formatField_str (fun t' tk' => ⟨.str z, H1, I1.tok _, ⟨_, rfl⟩, q1⟩) hl
  · subst ei
    obtain ⟨tk, rfl⟩ := rx
    exact formatField_int_small hl ⟨.str _, H1, I1.tok _, ⟨_, rfl⟩, q1⟩
end
theorem lc_str {x : Str} {g : TG} {tt : TT} {te : TE} {vs : List Nat} {σ : L2.St} {H1 : Hp} {D : Addr} {Qd : Hp → Prop} (Pv : Nat → Hp → Prop) (h0 : Pv 0 (upd H1 D (.lst [])))
    (hs : ∀ i c H, x.cps[i]? = some c → Pv i H → g (.str ⟨#[c]⟩) (wipe σ vs) H fun σ2 H2 => wipe σ2 vs = wipe σ vs ∧ tt σ2 H2 fun b H3 =>
      if b = true then te σ2 H3 fun y H4 => ∃ acc, H4 D = some (.lst acc) ∧ acc.length < sizeLine ∧ Pv (i + 1) (upd H4 D (.lst (acc ++ [y]))) else Pv (i + 1) H3) (hd : ∀ H, Pv x.cps.size H → Qd H) :
    ∃ W : Nat → Nat → Hp → Prop, (∃ m, W 0 m (upd H1 D (.lst []))) ∧ ∀ i m H, W i m H →
      ((Its x).stop i H ∧ Qd H) ∨ ((Its x).go i H ∧ ∃ Nx : Hp → Prop, (∀ H', Nx H' → ∃ m', m' < m ∧ W (i + 1) m' H') ∧ ∀ y H', (Its x).yld i H y H' → g y (wipe σ vs) H' fun σ2 H2 => wipe σ2 vs = wipe σ vs ∧ tt σ2 H2 fun b H3 =>
        if b = true then te σ2 H3 fun y H4 => ∃ acc, H4 D = some (.lst acc) ∧ acc.length < sizeLine ∧ Nx (upd H4 D (.lst (acc ++ [y]))) else Nx H3) := by
  refine ⟨fun i m H => m = x.cps.size - i ∧ i ≤ x.cps.size ∧ Pv i H, ⟨x.cps.size, by simp, Nat.zero_le _, h0⟩, ?_⟩
  rintro i m H ⟨rfl, hi, p⟩
  by_cases hlt : i < x.cps.size
  · refine .inr ⟨hlt, Pv (i + 1), fun H' p' => ⟨x.cps.size - (i + 1), by omega, rfl, hlt, p'⟩, ?_⟩
    rintro y H' ⟨rfl, c, hc, rfl⟩
    exact hs i c _ hc p
  · have e : i = x.cps.size := by omega
    subst e
    exact .inl ⟨Nat.le_refl _, hd H p⟩
end L2
end
section
set_option Elab.async false
set_option maxRecDepth 100000
set_option maxHeartbeats 4000000
namespace L2
open PySem PySem.Spec
open PyProof.Rows hiding St
section
variable {prog : Program} {w : World} {A : Around} {E : Value → Shared → Prop} {s : Shared}
theorem draws_one {it l : Addr} {items : Array Value} (hh : A.handled = none) (hne : l ≠ it) :
    Draws prog w A it [it, l] (items.size + 1) (fun j x => ∃ i, j = i + 1 ∧ items[i]? = some x) (fun j h => ∃ i, j = i + 1 ∧ h.IsListIter it l i ∧ h.IsList l items) where
  live := fun i h ⟨j, _, ⟨o, ho, _⟩, _⟩ => ⟨o, ho⟩
  frame := fun i h h' ⟨j, e, h1, h2⟩ k => by
    refine ⟨j, e, h1.at fun o q => k it (by simp) o q, ?_⟩
    obtain ⟨o, ho, r⟩ := h2
    exact ⟨o, k l (by simp) o ho, r⟩
  item := fun i s Q E hi ⟨j, e, h1, h2⟩ hQ => by
    have hj : j < items.size := by omega
    refine wpAny_nextOf_list_item h1 h2 (x := items[j]) (by simp [hj]) fun h' hit hs => ?_
    have hl' : h'.IsList l items := by
      obtain ⟨o, ho, r⟩ := h2
      exact ⟨o, (hs.2 l hne).trans ho, r⟩
    exact hQ _ h' s.toks ⟨j, e, by simp [hj]⟩ ⟨j + 1, by omega, hit, hl'⟩ hs
  done := fun s Q E ⟨j, e, h1, h2⟩ hE => by
    have ej : j = items.size := by omega
    exact wpAny_nextOf_list_end hh h1 h2 (by simp [ej]) hE
theorem next_enum1 {e it l : Addr} {i : Nat} {items : Array Value} {x old : Value} {Q : Option Value → Shared → Prop} (hh : A.handled = none)
    (he : IsEnum s.heap e it ((i + 1 : Nat) : Int) old) (hit : s.heap.IsListIter it l i) (hl : s.heap.IsList l items) (hx : items[i]? = some x) (hne : e ≠ it) (hli : l ≠ it) (hle : e ≠ l)
    (hQ : ∀ h' tk, IsEnumOut h' e it (((i + 1 : Nat) : Int) + 1) x s.heap.objs.size → h'.IsListIter it l (i + 1) →
      h'.get? s.heap.objs.size = some { cls := .type "tuple", data := .seq #[.int ((i + 1 : Nat) : Int) tk, x] } →
      (∀ b o, b ≠ e → b ≠ it → s.heap.get? b = some o → h'.get? b = some o) → Q (some (.ref s.heap.objs.size)) { s with heap := h', toks := tk + 1 }) :
    wpAny (model prog w) A (pyNext (.ref e)) Q E s := by
  have hT : s.TypeIs (.ref e) "enumerate" := ⟨_, he, rfl⟩
  have hi : i < items.size := (Array.getElem?_eq_some_iff.mp hx).1
  unfold pyNext
  refine wpAny_bind (wpAny_attempt (wpAny_callSpecial?_slot (name := Str.ofString "__next__") hT F.slot_enumerate_next (wpAny_call_entry F.slot_enumerate_next hT F.entry_enumerate_next ?_ (F.args_enumerate_next_1 _))))
  refine enumerate_next_itemD (n := items.size + 1) (i := i + 1) (draws_one (show A.in1.handled = none from hh) hli) he ⟨i, rfl, hit, hl⟩ (by omega) hne (by simp [hne, hle]) fun y h' tk hP ho hst ht hz hk => wpAny_pure ?_
  obtain ⟨j, ej, hy⟩ := hP
  have : j = i := by omega
  subst this
  rw [hx] at hy
  cases hy
  obtain ⟨m, em, hm, _⟩ := hst
  have : m = j + 1 := by omega
  subst this
  exact hQ h' tk ho hm ht hk
theorem next_enum1_end {e it l : Addr} {i z : Nat} {items : Array Value} {old : Value} {Q : Option Value → Shared → Prop} (hh : A.handled = none)
    (he : IsEnum s.heap e it ((z : Nat) : Int) old) (hit : s.heap.IsListIter it l i) (hl : s.heap.IsList l items) (hx : items[i]? = none)
    (hQ : ∀ h', Heap.ExtBut it s.heap h' → Q none { s with heap := h' }) : wpAny (model prog w) A (pyNext (.ref e)) Q E s := by
  have hT : s.TypeIs (.ref e) "enumerate" := ⟨_, he, rfl⟩
  unfold pyNext
  refine wpAny_bind (wpAny_attempt (wpAny_callSpecial?_slot (name := Str.ofString "__next__") hT F.slot_enumerate_next (wpAny_call_entry F.slot_enumerate_next hT F.entry_enumerate_next ?_ (F.args_enumerate_next_1 _))))
  show wpAny _ _ (field (.ref e) 2 >>= _) _ _ _
  refine wpAny_bind (wpAny_field he rfl (x := .ref it) rfl (wpAny_bind (wpAny_nextOf_list_end hh hit hl hx fun h' x he' ⟨o, ho, hc⟩ => ?_)))
  exact wpAny_bind (wpAny_isInstance (T := "StopIteration") (b := true) ⟨o, ho, hc⟩ isSubtype_stop (wpAny_pure (hQ _ he')))
end
def Ite1 (K : PySem.W.Frag) (a : Addr) : It :=
  ⟨fun i H => ∃ (xs : List V) (x : V), SqL K H a xs ∧ xs[i]? = some x, fun i H v H' => ∃ T x, v = .ref T ∧ H T = none ∧ H' = upd H T (.tup [.int ((i + 1 : Nat) : Int), x]) ∧ ∀ xs, SqL K H a xs → xs[i]? = some x, fun i H => ∃ xs : List V, SqL K H a xs ∧ xs.length ≤ i⟩
theorem turn_enum1 {P : Program} {w : World} {K : PySem.W.Frag} {elts : List Expr} {kk : Nat} {tpos : Pos} (a e it : Addr) :
    Turn P w K (.Tuple elts kk tpos) (Ite1 K a) [e, it] e (fun i h => (∃ old, IsEnum h e it ((i + 1 : Nat) : Int) old) ∧ h.IsListIter it a i ∧ e ≠ it ∧ a ≠ it ∧ e ≠ a) where
  mem := by simp
  obj := fun i h st b hb => by
    obtain ⟨⟨old, he⟩, ⟨o, ho, hc, hd⟩, _⟩ := st
    have e' : b = e ∨ b = it := by simpa using hb
    rcases e' with rfl | rfl
    · exact ⟨_, he, fun v q => nomatch q⟩
    · exact ⟨o, ho, fun v q => by rw [hd] at q; cases q⟩
  keep := fun i h h' ⟨⟨old, he⟩, hi, n1, n2, n3⟩ k => ⟨⟨old, k e (by simp) _ he⟩, hi.at fun o q => k it (by simp) o q, n1, n2, n3⟩
  item := by
    intro X hP hw hK hc i pins s σ H E I hf st hg
    subst hP hw hK
    obtain ⟨⟨old, he⟩, hit, hne, hai, hea⟩ := st
    obtain ⟨xs, x, hq, hx⟩ := hg
    obtain ⟨its, rv, p, hz⟩ := I.list hq
    obtain ⟨u, hu, ru⟩ := rv.get hx
    have hel : e < s.heap.objs.size := Heap.lt_size he
    have hil : it < s.heap.objs.size := by obtain ⟨_, q, _⟩ := hit; exact Heap.lt_size q
    refine next_enum1 (I.ok.hd hc) he hit p.isList (x := u) (by simpa using hu) hne hai hea fun h' tk ho hit' hT hk => ?_
    refine ⟨_, rfl, wpAny_letOwnedTupleGo_enum (s := { s with heap := h', toks := tk + 1 }) ho fun h2 he' sb => ?_⟩
    have hT2 : h2.get? s.heap.objs.size = some { cls := .type "tuple", data := .seq #[.int ((i + 1 : Nat) : Int) tk, u] } := (sb.2 _ (Nat.ne_of_gt hel)).trans hT
    have new : ObjOk X.prog X.w (upd H s.heap.objs.size (.tup [.int ((i + 1 : Nat) : Int), x])) h2 s.heap.objs.size (.tup [.int ((i + 1 : Nat) : Int), x]) :=
      ⟨by show 2 ≤ sizeLine; decide, [.int ((i + 1 : Nat) : Int) tk, u], .cons ⟨_, rfl⟩ (.cons ru .nil), ⟨_, hT2, rfl, _, rfl⟩⟩
    have I1 : Inv X pins σ (upd H s.heap.objs.size (.tup [.int ((i + 1 : Nat) : Int), x])) { s with heap := h2, toks := tk + 1 } :=
      I.turnedNew (ch := [e, it]) (fun b ob hb q => (sb.2 b (fun z => hb (by simp [z]))).trans (hk b ob (fun z => hb (by simp [z])) (fun z => hb (by simp [z])) q)) hf (Nat.le_refl _) new
    refine ⟨.ref s.heap.objs.size, _, I1, rfl, ⟨_, x, rfl, I.hok.fresh (Nat.le_refl _), rfl, fun ys hy => by rw [I.list_inj hy hq]; exact hx⟩, ⟨⟨u, ?_⟩, hit'.at fun o q => (sb.2 it (Ne.symm hne)).trans q, hne, hai, hea⟩, fun b hb => ?_⟩
    · rw [show ((i + 1 + 1 : Nat) : Int) = ((i + 1 : Nat) : Int) + 1 by omega]; exact he'
    · have hb' : b < s.heap.objs.size := by
        have e' : b = e ∨ b = it := by simpa using hb
        rcases e' with z | z <;> (rw [z]; assumption)
      rw [upd_ne (Nat.ne_of_lt hb')]
      exact (hf b hb).1
  done := by
    intro X hP hw hK hc i pins s σ H E I hf st hg
    subst hP hw hK
    obtain ⟨⟨old, he⟩, hit, _⟩ := st
    obtain ⟨xs, hq, hx⟩ := hg
    obtain ⟨its, rv, p, hz⟩ := I.list hq
    obtain ⟨f0, f1, f2, f3, f4, f5⟩ := hf it (by simp)
    have hl := rv.length
    exact next_enum1_end (I.ok.hd hc) he hit p.isList (by simp; omega) fun h' eb => ⟨rfl, I.turned (t' := s.toks) (fun b o hb q => eb b o hb q) f0 f1 f3 f4 f5⟩
  self := fun A i s Q E st h => let ⟨⟨_, he⟩, _⟩ := st; wpAny_pyIter_enum he h
theorem tc_enum (a : Value) (t : Tok) : checkTypeCall "enumerate" ⟨[a], [("start", .int 1 t)]⟩ = pure () := by kernel_rfl
theorem nc_enum (a : Value) (t : Tok) : checkBuiltinCall "enumerate.__new__" ⟨[.type "enumerate", a], [("start", .int 1 t)]⟩ = pure () := by kernel_rfl
theorem oi_enum (obj a : Value) (t : Tok) : argsOk "object.__init__" ⟨[obj, a], [("start", .int 1 t)]⟩ := by
  unfold argsOk
  rw [signature?_of (id := "object.__init__") (n := ['_', '_', 't', 'i', 'n', 'i', '_', '_']) (o := ['t', 'c', 'e', 'j', 'b', 'o']) (by kernel_rfl) F.owner_object]
  kernel_rfl
open AutoSeq1 (wpAny_loadPart') in
theorem meets_enum1 (l : Addr) (items : Array Value) (n : Nat) (dct : Option Addr) (sl : Array (Option Value)) (t : Tok) :
    Meets (Builtin.«enumerate.__new__» ⟨[.type "enumerate", .ref l], [("start", .int 1 t)]⟩) (fun _ R s => s.heap.get? l = some { cls := .type "list", dict := dct, data := .seq items n, slots := sl } ∧
      R (.ok (.ret (.ref (s.heap.objs.size + 1))))
        { s with heap := (s.heap.push { cls := .type "list_iterator", data := .fields #[.ref l, .int 0 0] }).push { cls := .type "enumerate", data := .fields #[.none, .bool false, .ref s.heap.objs.size, rawInt 1, .none, .none] } }) :=
  .of_wp fun prog w A R s h => by
    obtain ⟨hp, g, d, tk, os⟩ := s
    obtain ⟨hl, h⟩ := h
    have hsub := sub_enumerate
    have hL : Heap.IsList (Shared.heap ⟨hp, g, d, tk, os⟩) l items := ⟨_, hl, rfl, n, rfl⟩
    wp_walk using wpAny_loadPart' hl
    refine wpAny_stack_any fun st => wpAny_pure ?_
    split
    · rename_i c _ _ _ _ _
      cases (c == Value.type "enumerate")
      · wp_walk using wpAny_loadPart' hl, wpAny_pyIter_list hL
        refine ⟨_, rfl, ?_⟩
        rw [Heap.size_push]
        exact h
      · wp_walk using wpAny_loadPart' hl, wpAny_pyIter_list hL
        refine ⟨_, rfl, ?_⟩
        rw [Heap.size_push]
        exact h
    · wp_walk using wpAny_loadPart' hl, wpAny_pyIter_list hL
      refine ⟨_, rfl, ?_⟩
      rw [Heap.size_push]
      exact h
theorem object_init_kw {T newId : String} {self a : Value} {kw : List (Str × Value)} (hl : typeLookup (.type T) "__init__" = pure (some (.builtin "object.__init__"))) (hm : Bind.madeBy (.type T) = pure (some newId)) (hne : (some newId != some "object.__new__") = true) :
    Meets (Builtin.«object.__init__» ⟨[self, a], kw⟩) (fun _ R s => s.TypeIs self T ∧ R (.ok (.ret .none)) s) := by
  refine Meets.of_wp fun prog w A R s hs => ?_
  obtain ⟨hT, hq⟩ := hs
  repeat (any_goals (first | assumption | wp_step))
  exact ⟨_, rfl, hq⟩
section
variable {prog : Program} {w : World} {A : Around} {E : Value → Shared → Prop} {s : Shared}
theorem callType_kw {T nI iI : String} {Bn Bi : Builtin} {args : List Value} {kw : List (Str × Value)} {S : PySem.Spec} {Q Q1 : Value → Shared → Prop} (ft : TypeCalled T nI iI) (hct : checkTypeCall T ⟨args, kw⟩ = pure ()) (hcn : checkBuiltinCall nI ⟨.type T :: args, kw⟩ = pure ())
    (eN : entryFor table nI = some Bn) (eI : entryFor table iI = some Bi) (g : Meets (Bn ⟨.type T :: args, kw⟩) S) (h : S A.in1 (wants Q1 E) s)
    (hnext : ∀ obj s1, Q1 obj s1 → s1.TypeIs obj T ∧ argsOk iI ⟨obj :: args, kw⟩ ∧ ∃ Si, Meets (Bi ⟨obj :: args, kw⟩) Si ∧ Si A.in1 (wants (fun r s2 => r = .none ∧ Q obj s2) E) s1) :
    wpAny (model prog w) A (call (.type T) args kw) Q E s := by
  obtain ⟨c, tl, hmro⟩ := ft.mro
  have hmade := ft.made
  have hsub := ft.sub
  have h1 := ft.notType
  have h2 := ft.canCreate
  refine wpAny_call (codeAny_of_tree ?_)
  show wpAny _ _ (callAny (.type T) _) _ _ _
  refine wpAny_pure ⟨Code.quiet_builtin _ (by decide +kernel), codeAny_builtin F.entry_type_call ?_⟩
  rw [Around.under_plain (weight_type_call_type T args kw) (units_type_call_type T args kw)]
  repeat (any_goals (first | assumption | wp_step))
  refine codeAny_mono (codeAny_call_builtin ft.plain eN (wpAny_of_eq hcn (g prog w A.in1 _ s h))) fun r sA hr => ?_
  cases r with
  | error e => exact hr
  | ok fl =>
    cases fl with
    | ret obj =>
      obtain ⟨hT, hok, Si, gi, hsi⟩ := hnext _ _ hr
      have hli := ft.init.lookup
      have hbi := ft.init.bind obj
      repeat (any_goals (first | assumption | wp_step))
      refine codeAny_mono (codeAny_call_builtin ft.init.plain eI (ft.init.check _ _ _ _ _ _ _ _ hT hok (gi prog w A.in1 _ sA hsi))) fun r2 sB hr2 => ?_
      cases r2 with
      | error e => exact hr2
      | ok fl2 =>
        cases fl2 with
        | ret r =>
          obtain ⟨rfl, hq⟩ := hr2
          repeat (any_goals (first | assumption | wp_step))
        | _ => exact hr2.elim
    | _ => exact hr.elim
theorem call_enum1 {l : Addr} {items : Array Value} {t : Tok} {Q : Value → Shared → Prop} (hL : s.heap.IsList l items)
    (h : ∀ h', IsEnum h' (s.heap.objs.size + 1) s.heap.objs.size 1 .none → h'.IsListIter s.heap.objs.size l 0 → (∀ b o, s.heap.get? b = some o → h'.get? b = some o) → Q (.ref (s.heap.objs.size + 1)) { s with heap := h' }) :
    wpAny (model prog w) A (call (.type "enumerate") [.ref l] [("start", .int 1 t)]) Q E s := by
  obtain ⟨⟨c, dct, dt, sl⟩, hl, hc, n, hd⟩ := hL
  replace hc : c = .type "list" := hc
  replace hd : dt = .seq items n := hd
  subst hc hd
  refine callType_kw (Q1 := fun obj s1 => s1.TypeIs obj "enumerate" ∧ Q obj s1) F.called_enumerate (tc_enum _ _) (nc_enum _ _) F.entry_enumerate_new F.entry_object_init (meets_enum1 l items n dct sl t) ⟨hl, ?_⟩
    fun obj s1 hq => ⟨hq.1, oi_enum _ _ _, _, object_init_kw F.called_enumerate.init.lookup F.called_enumerate.made (by decide), hq.1, rfl, hq.2⟩
  have hz : (s.heap.push { cls := .type "list_iterator", data := .fields #[.ref l, .int 0 0] }).objs.size = s.heap.objs.size + 1 := Heap.size_push ..
  have he : IsEnum ((s.heap.push { cls := .type "list_iterator", data := .fields #[.ref l, .int 0 0] }).push { cls := .type "enumerate", data := .fields #[.none, .bool false, .ref s.heap.objs.size, rawInt 1, .none, .none] }) (s.heap.objs.size + 1) s.heap.objs.size 1 .none := by
    have := Heap.get?_push_size (s.heap.push { cls := .type "list_iterator", data := .fields #[.ref l, .int 0 0] }) (o := { cls := .type "enumerate", data := .fields #[.none, .bool false, .ref s.heap.objs.size, rawInt 1, .none, .none] }) rfl
    rw [hz] at this
    exact this
  refine ⟨⟨_, he, rfl⟩, h _ he ⟨_, Heap.get?_push_of_some _ (Heap.get?_push_size _ rfl), rfl, rfl⟩ fun b o e => Heap.get?_push_of_some _ (Heap.get?_push_of_some _ e)⟩
end
def iEnum1 (K : PySem.W.Frag) (ta : TA) : TI := fun σ H R => ta σ H fun vs H1 => ∃ a xs, vs = [.ref a] ∧ SqL K H1 a xs ∧ R (Ite1 K a) H1
theorem pi_enum1 {X : Cx} {e : Expr} {ta : TA} {p pos tpos kpos kp2 : Pos} {j} {elts : List Expr} {kk : Nat} (hg : Gl X "enumerate") (hm : X.mg "enumerate" = none) (ha : PA X [e] ta) (hs : starEach [e] X.env = [(false, eval e X.env)] := by rfl) :
    PI X (.Tuple elts kk tpos) (.Call (.Name "enumerate" p) [e] [⟨some "start", .Constant (.int 1) j kp2, kpos⟩] pos) (iEnum1 X.K ta) := by
  intro pins s σ H R I h
  refine wpAny_Call_Name_kw (ld_blt I hg hm boot_enumerate ?_)
  unfold callWith
  refine wpAny_bind (wpAny_holding (evalArgs_kw2 (hall := rfl) (thn (ha pos pins s σ H _ I h) fun us s1 ⟨vs, H1, I1, r1, a, xs, ex, hq, q1⟩ => ?_) hs))
  subst ex
  cases r1 with
  | cons r rr =>
    cases rr
    cases r
    have hk : PK X [⟨some "start", .Constant (.int 1) j kp2, kpos⟩] (tCons (tC (.int 1)) tNil) := pk_cons pe_int pk_nil
    refine thn (hk pos pins s1 σ H1 (fun zs H2 => zs = [.int 1] ∧ H2 = H1) I1 ⟨rfl, rfl⟩) fun ws s2 ⟨zs, H2, I2, rz, e1, e2⟩ => ?_
    subst e1 e2
    cases rz with
    | cons r rr =>
      cases rr
      obtain ⟨t, rfl⟩ := r
      refine wpAny_bind (wpAny_standAt ?_)
      have hpl : ((backTo pos (starEach [e] X.env)).any (·.1) || (backToKw pos (keywordEach [⟨some "start", .Constant (.int 1) j kp2, kpos⟩] X.env)).any (·.1.isNone)) = false := by rw [hs]; rfl
      simp only [hpl]
      refine wpAny_bind (wpAny_pure ?_)
      obtain ⟨its, rv, p', hz⟩ := I2.list hq
      refine wpAny_bind (call_enum1 p'.isList fun h' he hit hk2 => wpAny_bind (wpAny_holding (wpAny_point (wpAny_pure (wpAny_pyIter_enum he ?_)))))
      have I3 : Inv X pins σ H2 { s2 with heap := h' } := I2.kept (t' := s2.toks) hk2
      have hal : a < s2.heap.objs.size := by obtain ⟨o, ho, _⟩ := p'.isList; exact Heap.lt_size ho
      refine ⟨s2.heap.objs.size + 1, [s2.heap.objs.size + 1, s2.heap.objs.size], _, _, H2, rfl, I3, turn_enum1 a (s2.heap.objs.size + 1) s2.heap.objs.size, ⟨⟨.none, he⟩, hit, Nat.succ_ne_self _, Nat.ne_of_lt hal, Nat.ne_of_gt (Nat.lt_succ_of_lt hal)⟩, fun b hb => ?_, q1⟩
      have e' : b = s2.heap.objs.size + 1 ∨ b = s2.heap.objs.size := by simpa using hb
      have hle : s2.heap.objs.size ≤ b := by
        rcases e' with z | z
        · rw [z]; exact Nat.le_add_right _ _
        · rw [z]; exact Nat.le_refl _
      exact I2.fpOk hle (I2.hok.fresh hle)
end L2
end
section
set_option Elab.async false
set_option maxRecDepth 100000
set_option maxHeartbeats 2000000
namespace L2
open PySem PySem.Spec
open PyProof.Rows hiding St
def entI (kv : Int × Int) (t : Tok × Tok) : DictEntry := ⟨kv.1, .int kv.1 t.1, .int kv.2 t.2⟩
structure KDict (K : PySem.W.Frag) (mg : Str → Option Value) (x : Str) (kvs : List (Int × Int)) : Prop where
  ex : ∃ (d : Addr) (n : Nat) (ts : List (Tok × Tok)), mg x = some (.ref d) ∧ K.lookup d = some ⟨.type "dict", none, .dict (List.zipWith entI kvs ts).toArray n, #[]⟩ ∧ ts.length = kvs.length ∧ (∀ kv ∈ kvs, hashInt kv.1 = kv.1) ∧ (kvs.map (·.1)).Nodup
theorem kd_pairs {P : Program} {w : World} : ∀ (kvs : List (Int × Int)) (ts : List (Tok × Tok)), ts.length = kvs.length → (∀ kv ∈ kvs, hashInt kv.1 = kv.1) →
    KeysOf (mixKind P w) (List.zipWith entI kvs ts).toArray ∧ Pairs (mixKind P w) (List.zipWith entI kvs ts) (List.zipWith (fun kv t => (Sum.inl kv.1, Value.int kv.2 t.2)) kvs ts)
  | [], [], _, _ => ⟨fun e he => by simp at he, .nil⟩
  | kv :: kvs, t :: ts, hl, hh => by
    obtain ⟨h1, h2⟩ := kd_pairs (P := P) (w := w) kvs ts (by simpa using hl) fun q hq => hh q (by simp [hq])
    refine ⟨fun e he => ?_, .cons (show keyIs (Sum.inl kv.1) (Value.int kv.1 t.1) = true from keyIs_int kv.1 t.1) rfl h2⟩
    have he : e ∈ entI kv t :: List.zipWith entI kvs ts := by simpa using he
    rcases List.mem_cons.mp he with rfl | he
    · exact ⟨Sum.inl kv.1, show keyIs (Sum.inl kv.1) (Value.int kv.1 t.1) = true from keyIs_int kv.1 t.1, (hh kv (by simp)).symm⟩
    · exact h1 e (by simpa using he)
  | [], _ :: _, hl, _ => by simp at hl
  | _ :: _, [], hl, _ => by simp at hl
theorem kd_keys : ∀ (kvs : List (Int × Int)) (ts : List (Tok × Tok)), ts.length = kvs.length → (List.zipWith (fun (kv : Int × Int) (t : Tok × Tok) => ((Sum.inl kv.1 : Key), Value.int kv.2 t.2)) kvs ts).map (·.1) = (kvs.map (·.1)).map Sum.inl
  | [], [], _ => rfl
  | kv :: kvs, t :: ts, hl => by
    show Sum.inl kv.1 :: List.map _ (List.zipWith _ kvs ts) = _
    rw [kd_keys kvs ts (by simpa using hl)]; rfl
  | [], _ :: _, hl => by simp at hl
  | _ :: _, [], hl => by simp at hl
theorem kd_at : ∀ (kvs : List (Int × Int)) (ts : List (Tok × Tok)) (k v : Int), ts.length = kvs.length → kvs.lookup k = some v → ∃ t, valueAt (List.zipWith (fun (kv : Int × Int) (t : Tok × Tok) => ((Sum.inl kv.1 : Key), Value.int kv.2 t.2)) kvs ts) (Sum.inl k) = some (.int v t)
  | [], [], k, v, _, h => by cases h
  | (a, b) :: kvs, t :: ts, k, v, hl, h => by
    by_cases e : k = a
    · subst e
      have : b = v := by rw [List.lookup_cons, beq_self_eq_true] at h; exact Option.some.inj h
      subst this
      exact ⟨t.2, by unfold valueAt; simp⟩
    · have h' : kvs.lookup k = some v := by rw [List.lookup_cons, show (k == a) = false from beq_eq_false_iff_ne.mpr e] at h; exact h
      obtain ⟨t', ht⟩ := kd_at kvs ts k v (by simpa using hl) h'
      refine ⟨t', ?_⟩
      rw [← ht]
      unfold valueAt
      have : ¬ (Sum.inl a : Key) = Sum.inl k := fun z => e (Sum.inl.inj z).symm
      simp [this]
  | [], _ :: _, _, _, hl, _ => by simp at hl
  | _ :: _, [], _, _, hl, _ => by simp at hl
def tKGet (kvs : List (Int × Int)) (ty : TE) : TE := fun σ H Q => ty σ H fun y H1 => ∃ k v, y = .int k ∧ kvs.lookup k = some v ∧ Q (.int v) H1
theorem pe_kget {X : Cx} {x : Str} {i : Expr} {pos p : Pos} {ty : TE} {kvs : List (Int × Int)} (hk : KDict X.K X.mg x kvs) (hi : PE X i ty) (hs : NoSl i) (hg : Gl X x := by rfl) (hd : (x == ("__debug__" : Str)) = false := by decide) : PE X (.Subscript (.Name x p) i pos) (tKGet kvs ty) := by
  obtain ⟨d, n, ts, h1, h2, h3, h4, h5⟩ := hk
  intro pins s σ H Q I h
  refine subD_of PySem.F.slot_dict_getitem.lookup hs (ld_glob I hg h1 ?_ hd)
  refine thn (hi pins s σ H _ I h) fun iv s2 ⟨y, H2, I2, ry, k, v, ey, hv, q2⟩ => ?_
  subst ey
  obtain ⟨tk, rfl⟩ := ry
  have hget := I2.kIn _ _ h2
  obtain ⟨hp1, hp2⟩ := kd_pairs (P := X.prog) (w := X.w) kvs ts h3 h4
  have dd : s2.heap.DictOf (mixKind X.prog X.w) d (List.zipWith (fun (kv : Int × Int) (t : Tok × Tok) => ((Sum.inl kv.1 : Key), Value.int kv.2 t.2)) kvs ts) :=
    ⟨_, _, n, hget, ⟨rfl, rfl, rfl⟩, rfl, hp1, by simpa using hp2, by rw [kd_keys kvs ts h3]; exact List.Pairwise.map _ (fun a b hab z => hab (Sum.inl.inj z)) h5⟩
  obtain ⟨t', ht⟩ := kd_at kvs ts k v h3 hv
  exact ⟨dd.typeIs, wpAny_getItem_of (k := Sum.inl k) (show keyIs (Sum.inl k) (Value.int k tk) = true from keyIs_int k tk) dd.mapOf ht ⟨.int v, H2, I2.tok _, ⟨t', rfl⟩, q2⟩⟩
end L2
end
section
set_option Elab.async false
set_option linter.all false
namespace GM
open Sd46
theorem mem_points {n q : Nat} : q ∈ points n ↔ q < n * n := by simp [points]
theorem points_nodup (n : Nat) : (points n).Nodup := List.nodup_range
theorem near_iff {n p q : Nat} : q ∈ near n p ↔ (n ≤ p ∧ q = p - n) ∨ (p % n ≠ 0 ∧ q = p - 1) ∨ (p % n ≠ n - 1 ∧ q = p + 1) ∨ (p + n < n * n ∧ q = p + n) := by
  unfold near
  simp only [List.mem_append]
  constructor
  · rintro (h | h | h | h)
    · split at h
      · exact .inl ⟨by assumption, by simpa using h⟩
      · simp at h
    · split at h
      · simp at h
      · exact .inr (.inl ⟨by assumption, by simpa using h⟩)
    · split at h
      · simp at h
      · exact .inr (.inr (.inl ⟨by assumption, by simpa using h⟩))
    · split at h
      · exact .inr (.inr (.inr ⟨by assumption, by simpa using h⟩))
      · simp at h
  · rintro (⟨h, e⟩ | ⟨h, e⟩ | ⟨h, e⟩ | ⟨h, e⟩)
    · exact .inl (by rw [if_pos h]; simp [e])
    · exact .inr (.inl (by rw [if_neg h]; simp [e]))
    · exact .inr (.inr (.inl (by rw [if_neg h]; simp [e])))
    · exact .inr (.inr (.inr (by rw [if_pos h]; simp [e])))
theorem cut {n p : Nat} (hp : p < n * n) : ∃ a r, p = n * a + r ∧ r < n ∧ a < n ∧ p % n = r ∧ p / n = a := by
  have hn : 0 < n := by
    rcases Nat.eq_zero_or_pos n with h | h
    · subst h; simp at hp
    · exact h
  exact ⟨p / n, p % n, (Nat.div_add_mod p n).symm, Nat.mod_lt _ hn, Nat.div_lt_of_lt_mul hp, rfl, rfl⟩
theorem near_lt {n p q : Nat} (hp : p < n * n) (h : q ∈ near n p) : q < n * n := by
  obtain ⟨a, r, e, hr, ha, em, ed⟩ := cut hp
  have h1 : n * (a + 1) ≤ n * n := Nat.mul_le_mul_left n ha
  rw [Nat.mul_add] at h1
  rcases near_iff.mp h with ⟨h, e⟩ | ⟨h, e⟩ | ⟨h, e⟩ | ⟨h, e⟩ <;> omega
theorem near_symm {n p q : Nat} (hp : p < n * n) (h : q ∈ near n p) : p ∈ near n q := by
  have hq := near_lt hp h
  obtain ⟨a, r, e, hr, ha, em, ed⟩ := cut hp
  rcases near_iff.mp h with ⟨h, e'⟩ | ⟨h, e'⟩ | ⟨h, e'⟩ | ⟨h, e'⟩ <;> apply near_iff.mpr
  · exact .inr (.inr (.inr ⟨by omega, by omega⟩))
  · refine .inr (.inr (.inl ⟨?_, by omega⟩))
    have : q = n * a + (r - 1) := by omega
    rw [this, Nat.mul_add_mod, Nat.mod_eq_of_lt (by omega)]
    omega
  · refine .inr (.inl ⟨?_, by omega⟩)
    have : q = n * a + (r + 1) := by omega
    rw [this, Nat.mul_add_mod, Nat.mod_eq_of_lt (by omega)]
    omega
  · exact .inl ⟨by omega, by omega⟩
theorem repeated_succ {α : Type} (f : α → α) : ∀ (k : Nat) (x : α), repeated f (k + 1) x = f (repeated f k x)
  | 0, x => rfl
  | k + 1, x => by
    show repeated f (k + 1) (f x) = _
    rw [repeated_succ f k (f x)]
    rfl
theorem grown_mem {n : Nat} {ok : Nat → Bool} {s : List Nat} {q : Nat} : q ∈ grown n ok s ↔ q < n * n ∧ (q ∈ s ∨ (ok q = true ∧ ∃ x ∈ near n q, x ∈ s)) := by
  unfold grown
  simp [List.mem_filter, mem_points]
theorem countP_lt {α : Type} {P Q : α → Bool} : ∀ {l : List α}, (∀ x ∈ l, P x = true → Q x = true) → (∃ x ∈ l, Q x = true ∧ P x = false) → l.countP P < l.countP Q
  | [], _, h => by
    obtain ⟨x, hx, _⟩ := h
    simp at hx
  | a :: l, hm, ⟨x, hx, hq, hp⟩ => by
    have hm' : ∀ x ∈ l, P x = true → Q x = true := fun y hy => hm y (List.mem_cons_of_mem _ hy)
    have hle := List.countP_mono_left hm'
    rw [List.countP_cons, List.countP_cons]
    rcases List.mem_cons.mp hx with e | hx'
    · subst e
      rw [hq, hp]
      simp
      omega
    · have ih := countP_lt hm' ⟨x, hx', hq, hp⟩
      have := hm a (List.mem_cons_self ..)
      cases hP : P a
      · simp; omega
      · rw [this hP]; simp; omega
inductive Rch (n : Nat) (ok : Nat → Bool) (p : Nat) : Nat → Prop where
  | base : Rch n ok p p
  | step {x q : Nat} : Rch n ok p x → q < n * n → ok q = true → x ∈ near n q → Rch n ok p q
theorem Rch.lt {n : Nat} {ok : Nat → Bool} {p q : Nat} (hp : p < n * n) (h : Rch n ok p q) : q < n * n := by
  cases h with
  | base => exact hp
  | step _ h _ _ => exact h
theorem grow_sound {n : Nat} {ok : Nat → Bool} {p : Nat} : ∀ k q, q ∈ repeated (grown n ok) k [p] → Rch n ok p q
  | 0, q, h => by
    have : q = p := by simpa [repeated] using h
    subst this
    exact .base
  | k + 1, q, h => by
    rw [repeated_succ] at h
    obtain ⟨hl, h⟩ := grown_mem.mp h
    rcases h with h | ⟨ho, x, hx, hm⟩
    · exact grow_sound k q h
    · exact .step (grow_sound k x hm) hl ho hx
theorem grow_lt {n : Nat} {ok : Nat → Bool} {p : Nat} (hp : p < n * n) (k q : Nat) (h : q ∈ repeated (grown n ok) k [p]) : q < n * n := (grow_sound k q h).lt hp
theorem grow_more {n : Nat} {ok : Nat → Bool} {p : Nat} (hp : p < n * n) (k q : Nat) (h : q ∈ repeated (grown n ok) k [p]) : q ∈ repeated (grown n ok) (k + 1) [p] := by
  rw [repeated_succ]
  exact grown_mem.mpr ⟨grow_lt hp k q h, .inl h⟩
theorem grow_or {n : Nat} {ok : Nat → Bool} {p : Nat} (hp : p < n * n) : ∀ k, (∀ q, q ∈ repeated (grown n ok) (k + 1) [p] → q ∈ repeated (grown n ok) k [p]) ∨ k + 1 ≤ (points n).countP fun q => (repeated (grown n ok) k [p]).contains q
  | 0 => by
    right
    show 1 ≤ _
    apply Nat.pos_of_ne_zero
    intro h
    rw [List.countP_eq_zero] at h
    exact h p (mem_points.mpr hp) (by simp [repeated])
  | k + 1 => by
    rcases grow_or hp k with h | h
    · left
      intro q hq
      rw [repeated_succ] at hq
      obtain ⟨hl, hq⟩ := grown_mem.mp hq
      rcases hq with hq | ⟨ho, x, hx, hm⟩
      · exact hq
      · rw [repeated_succ]
        exact grown_mem.mpr ⟨hl, .inr ⟨ho, x, hx, h x hm⟩⟩
    · by_cases hc : ∀ q, q ∈ repeated (grown n ok) (k + 1) [p] → q ∈ repeated (grown n ok) k [p]
      · left
        intro q hq
        rw [repeated_succ] at hq
        obtain ⟨hl, hq⟩ := grown_mem.mp hq
        rcases hq with hq | ⟨ho, x, hx, hm⟩
        · exact hq
        · rw [repeated_succ]
          exact grown_mem.mpr ⟨hl, .inr ⟨ho, x, hx, hc x hm⟩⟩
      · right
        have : ∃ q, q ∈ repeated (grown n ok) (k + 1) [p] ∧ ¬ q ∈ repeated (grown n ok) k [p] := by
          apply Classical.byContradiction
          intro hn
          apply hc
          intro q hq
          apply Classical.byContradiction
          intro hq'
          exact hn ⟨q, hq, hq'⟩
        obtain ⟨q, h1, h2⟩ := this
        refine Nat.lt_of_le_of_lt h (countP_lt (fun x hx hP => ?_) ⟨q, mem_points.mpr (grow_lt hp _ q h1), ?_, ?_⟩)
        · exact List.contains_iff_mem.mpr (grow_more hp k x (List.contains_iff_mem.mp hP))
        · exact List.contains_iff_mem.mpr h1
        · cases e : (repeated (grown n ok) k [p]).contains q
          · rfl
          · exact absurd (List.contains_iff_mem.mp e) h2
theorem reached_closed {n : Nat} {ok : Nat → Bool} {p : Nat} (hp : p < n * n) {q : Nat} (h : q ∈ grown n ok (reached n ok p)) : q ∈ reached n ok p := by
  rcases grow_or (ok := ok) hp (n * n) with h' | h'
  · exact h' q (by rw [repeated_succ]; exact h)
  · have := List.countP_le_length (p := fun q => (repeated (grown n ok) (n * n) [p]).contains q) (l := points n)
    have e : (points n).length = n * n := by simp [points]
    omega
theorem grow_base {n : Nat} {ok : Nat → Bool} {p : Nat} (hp : p < n * n) : ∀ k, p ∈ repeated (grown n ok) k [p]
  | 0 => by simp [repeated]
  | k + 1 => grow_more hp k p (grow_base hp k)
theorem mem_reached {n : Nat} {ok : Nat → Bool} {p q : Nat} (hp : p < n * n) : q ∈ reached n ok p ↔ Rch n ok p q := by
  constructor
  · exact grow_sound _ q
  · intro h
    induction h with
    | base => exact grow_base hp _
    | step _ hl ho hx ih => exact reached_closed hp (grown_mem.mpr ⟨hl, .inr ⟨ho, _, hx, ih⟩⟩)
theorem reached_form {n : Nat} {ok : Nat → Bool} {p : Nat} (hp : p < n * n) : reached n ok p = (points n).filter fun q => (reached n ok p).contains q := by
  obtain ⟨m, hm⟩ : ∃ m, n * n = m + 1 := ⟨n * n - 1, by omega⟩
  have e : reached n ok p = (points n).filter fun q => (repeated (grown n ok) m [p]).contains q || (ok q && (near n q).any fun x => (repeated (grown n ok) m [p]).contains x) := by
    unfold reached
    rw [hm, repeated_succ]
    rfl
  have key : ∀ (F : Nat → Bool) (l : List Nat), l = (points n).filter F → l = (points n).filter fun q => l.contains q := by
    intro F l h
    rw [h]
    apply List.filter_congr
    intro x hx
    cases hF : F x
    · cases hc : ((points n).filter F).contains x
      · rfl
      · have := (List.mem_filter.mp (List.contains_iff_mem.mp hc)).2
        rw [hF] at this; cases this
    · exact (List.contains_iff_mem.mpr (List.mem_filter.mpr ⟨hx, hF⟩)).symm
  exact key _ _ e
theorem reached_nodup {n : Nat} {ok : Nat → Bool} {p : Nat} (hp : p < n * n) : (reached n ok p).Nodup := by
  rw [reached_form hp]
  exact (points_nodup n).sublist List.filter_sublist
theorem form_ext {n : Nat} {l m : List Nat} (hl : l = (points n).filter fun q => l.contains q) (hm : m = (points n).filter fun q => m.contains q) (h : ∀ q, q ∈ l ↔ q ∈ m) : l = m := by
  rw [hl, hm]
  apply List.filter_congr
  intro x _
  cases e : l.contains x
  · cases e' : m.contains x
    · rfl
    · have := List.contains_iff_mem.mpr ((h x).mpr (List.contains_iff_mem.mp e'))
      rw [e] at this; cases this
  · exact (List.contains_iff_mem.mpr ((h x).mp (List.contains_iff_mem.mp e))).symm
theorem same_length {l m : List Nat} (hl : l.Nodup) (hm : m.Nodup) (h : ∀ q, q ∈ l ↔ q ∈ m) : l.length = m.length := ((List.perm_ext_iff_of_nodup hl hm).mpr h).length_eq
theorem Rch.ok {n : Nat} {ok : Nat → Bool} {p q : Nat} (hp : ok p = true) (h : Rch n ok p q) : ok q = true := by
  cases h with
  | base => exact hp
  | step _ _ h _ => exact h
theorem Rch.trans {n : Nat} {ok : Nat → Bool} {p q r : Nat} (h : Rch n ok p q) (h2 : Rch n ok q r) : Rch n ok p r := by
  induction h2 with
  | base => exact h
  | step _ hl ho hx ih => exact .step ih hl ho hx
theorem Rch.symm {n : Nat} {ok : Nat → Bool} {p q : Nat} (hp : p < n * n) (ho : ok p = true) (h : Rch n ok p q) : Rch n ok q p := by
  induction h with
  | base => exact .base
  | step h hl ho' hx ih =>
    have hxl := h.lt hp
    have hxo := h.ok ho
    exact Rch.trans (.step .base hxl hxo (near_symm hl hx)) ih
theorem Rch.mono {n : Nat} {ok ok' : Nat → Bool} {p q : Nat} (hk : ∀ x, x < n * n → ok x = true → Rch n ok p x → ok' x = true) (h : Rch n ok p q) : Rch n ok' p q := by
  induction h with
  | base => exact .base
  | step h hl ho hx ih => exact .step ih hl (hk _ hl ho (.step h hl ho hx)) hx
theorem reached_same {n : Nat} {ok : Nat → Bool} {p q : Nat} (hp : p < n * n) (ho : ok p = true) (h : Rch n ok p q) : reached n ok q = reached n ok p := by
  have hq := h.lt hp
  refine form_ext (reached_form hq) (reached_form hp) fun x => ?_
  rw [mem_reached hq, mem_reached hp]
  exact ⟨fun h2 => h.trans h2, fun h2 => (h.symm hp ho).trans h2⟩
theorem at_set {b : Board} {p c q : Nat} (hp : p < b.length) : at_ (b.set p c) q = if q = p then c else at_ b q := by
  unfold at_
  rw [List.getD_eq_getElem?_getD, List.getD_eq_getElem?_getD, List.getElem?_set]
  by_cases h : q = p
  · subst h
    simp [hp]
  · rw [if_neg (fun e => h e.symm), if_neg h]
theorem at_lt {b : Board} {q : Nat} (h : q < b.length) : at_ b q = b[q] := by
  unfold at_
  rw [List.getD_eq_getElem?_getD, List.getElem?_eq_getElem h]
  rfl
theorem at_ge {b : Board} {q : Nat} (h : b.length ≤ q) : at_ b q = 3 := by
  unfold at_
  rw [List.getD_eq_getElem?_getD, List.getElem?_eq_none h]
  rfl
theorem board_ext {b d : Board} (hl : b.length = d.length) (h : ∀ q, q < b.length → at_ b q = at_ d q) : b = d := by
  apply List.ext_getElem hl
  intro i h1 h2
  have := h i h1
  rw [at_lt h1, at_lt h2] at this
  exact this
theorem mem_chain {n p q : Nat} {b : Board} (hp : p < n * n) : q ∈ chain n b p ↔ Rch n (fun q => at_ b q == at_ b p) p q := mem_reached hp
theorem chain_self {n p : Nat} {b : Board} (hp : p < n * n) : p ∈ chain n b p := (mem_chain hp).mpr .base
theorem chain_lt {n p q : Nat} {b : Board} (hp : p < n * n) (h : q ∈ chain n b p) : q < n * n := ((mem_chain hp).mp h).lt hp
theorem chain_at {n p q : Nat} {b : Board} (hp : p < n * n) (h : q ∈ chain n b p) : at_ b q = at_ b p := by
  have := Rch.ok (ok := fun q => at_ b q == at_ b p) (by simp) ((mem_chain hp).mp h)
  exact eq_of_beq this
theorem chain_same {n p q : Nat} {b : Board} (hp : p < n * n) (h : q ∈ chain n b p) : chain n b q = chain n b p := by
  have e := chain_at hp h
  unfold chain
  rw [e]
  exact reached_same (ok := fun q => at_ b q == at_ b p) hp (by simp) ((mem_chain hp).mp h)
theorem chain_symm {n p q : Nat} {b : Board} (hp : p < n * n) (h : q ∈ chain n b p) : p ∈ chain n b q := by
  rw [chain_same hp h]
  exact chain_self hp
theorem chain_step {n p q r : Nat} {b : Board} (hp : p < n * n) (h : q ∈ chain n b p) (hr : r ∈ near n q) (e : at_ b r = at_ b p) : r ∈ chain n b p := by
  have hq := chain_lt hp h
  exact (mem_chain hp).mpr (.step ((mem_chain hp).mp h) (near_lt hq hr) (by simpa using e) (near_symm hq hr))
theorem chain_least {n p : Nat} {b : Board} (S : Nat → Prop) (hp : p < n * n) (h0 : S p) (h : ∀ x r, S x → x ∈ chain n b p → r ∈ near n x → at_ b r = at_ b p → S r) : ∀ q, q ∈ chain n b p → S q := by
  intro q hq
  replace hq := (mem_chain hp).mp hq
  induction hq with
  | base => exact h0
  | step hx hl ho hx' ih => exact h _ _ ih ((mem_chain hp).mpr hx) (near_symm hl hx') (by simpa using ho)
theorem chain_nodup {n p : Nat} {b : Board} (hp : p < n * n) : (chain n b p).Nodup := reached_nodup hp
theorem chain_form {n p : Nat} {b : Board} (hp : p < n * n) : chain n b p = (points n).filter fun q => (chain n b p).contains q := reached_form hp
theorem chain_congr {n p : Nat} {b d : Board} (hp : p < n * n) (h1 : ∀ q, q ∈ chain n b p → at_ d q = at_ b p) (h2 : ∀ q r, q ∈ chain n b p → r ∈ near n q → at_ d r = at_ b p → at_ b r = at_ b p) : chain n d p = chain n b p := by
  have e := h1 p (chain_self hp)
  refine form_ext (chain_form hp) (chain_form hp) fun q => ⟨fun h => ?_, fun h => ?_⟩
  · refine chain_least (fun x => x ∈ chain n b p) hp (chain_self hp) (fun x r hx _ hr hc => ?_) q h
    rw [e] at hc
    exact chain_step hp hx hr (h2 x r hx hr hc)
  · refine chain_least (fun x => x ∈ chain n d p) hp (chain_self hp) (fun x r hx hx' hr hc => ?_) q h
    refine chain_step hp hx hr ?_
    rw [e]
    exact h1 r (chain_step hp hx' hr hc)
theorem mem_libs {n l : Nat} {b : Board} {L : List Nat} : l ∈ liberties n b L ↔ l < n * n ∧ at_ b l = 0 ∧ ∃ x ∈ near n l, x ∈ L := by
  unfold liberties touches
  simp [List.mem_filter, mem_points]
theorem libs_nodup {n : Nat} {b : Board} {L : List Nat} : (liberties n b L).Nodup := (points_nodup n).sublist List.filter_sublist
theorem free_iff {n p : Nat} {b : Board} (hp : p < n * n) : free n b p = true ↔ ∃ q ∈ chain n b p, ∃ l ∈ near n q, at_ b l = 0 := by
  unfold free
  rw [bne_iff_ne]
  constructor
  · intro h
    obtain ⟨l, hl⟩ := List.exists_mem_of_ne_nil _ h
    obtain ⟨h1, h2, x, hx, hm⟩ := mem_libs.mp hl
    exact ⟨x, hm, l, near_symm h1 hx, h2⟩
  · rintro ⟨q, hq, l, hl, e⟩ h
    have hq' := chain_lt hp hq
    have : l ∈ liberties n b (chain n b p) := mem_libs.mpr ⟨near_lt hq' hl, e, q, near_symm hq' hl, hq⟩
    rw [h] at this
    simp at this
theorem free_false {n p : Nat} {b : Board} (hp : p < n * n) : free n b p = false ↔ ∀ q ∈ chain n b p, ∀ l ∈ near n q, at_ b l ≠ 0 := by
  constructor
  · intro h q hq l hl e
    rw [(free_iff hp).mpr ⟨q, hq, l, hl, e⟩] at h
    cases h
  · intro h
    cases e : free n b p
    · rfl
    · obtain ⟨q, hq, l, hl, e⟩ := (free_iff hp).mp e
      exact absurd e (h q hq l hl)
theorem free_same {n p q : Nat} {b : Board} (hp : p < n * n) (h : q ∈ chain n b p) : free n b q = free n b p := by
  unfold free
  rw [chain_same hp h]
def AllFree (n : Nat) (b : Board) : Prop := ∀ p, p < n * n → at_ b p ≠ 0 → free n b p = true
theorem cleared_length {n : Nat} {b : Board} {c : Nat} : (cleared n b c).length = n * n := by simp [cleared, points]
theorem at_cleared {n q : Nat} {b : Board} {c : Nat} (hq : q < n * n) : at_ (cleared n b c) q = if at_ b q = c ∧ free n b q = false then 0 else at_ b q := by
  rw [at_lt (by rw [cleared_length]; exact hq)]
  simp [cleared, points]
def Dead (n : Nat) (b : Board) (c q : Nat) : Prop := at_ b q = c ∧ free n b q = false
theorem dead_chain {n r q : Nat} {b : Board} {o : Nat} (hr : r < n * n) (h : Dead n b o r) (hq : q ∈ chain n b r) : Dead n b o q := ⟨(chain_at hr hq).trans h.1, (free_same hr hq).trans h.2⟩
theorem dead_near {n p c o q : Nat} {b : Board} (hl : b.length = n * n) (hp : p < n * n) (he : at_ b p = 0) (hco : c ≠ o) (ho : o ≠ 0) (hF : AllFree n b) (hq : q < n * n) (h : Dead n (b.set p c) o q) :
    ∃ r ∈ near n p, Dead n (b.set p c) o r ∧ q ∈ chain n (b.set p c) r := by
  have ha : ∀ x, at_ (b.set p c) x = if x = p then c else at_ b x := fun x => at_set (by omega)
  have hqp : q ≠ p := by
    intro e
    have := h.1
    rw [ha, if_pos e] at this
    exact hco this
  have hqo : at_ b q = o := by
    have := h.1
    rw [ha, if_neg hqp] at this
    exact this
  have hin : ∀ x, x ∈ chain n b q → x ≠ p := by
    intro x hx e
    have := chain_at hq hx
    rw [e, he, hqo] at this
    exact ho this.symm
  have hc : chain n (b.set p c) q = chain n b q := by
    apply chain_congr hq
    · intro x hx
      rw [ha, if_neg (hin x hx)]
      exact chain_at hq hx
    · intro x r hx hr e
      rw [ha] at e
      by_cases hrp : r = p
      · rw [if_pos hrp, hqo] at e
        exact absurd e hco
      · rw [if_neg hrp] at e
        exact e
  obtain ⟨x, hx, l, hl', e⟩ := (free_iff hq).mp (hF q hq (by rw [hqo]; exact ho))
  have hx' : x ∈ chain n (b.set p c) q := by rw [hc]; exact hx
  have hlp : l = p := by
    apply Classical.byContradiction
    intro hn
    have := (free_false hq).mp h.2 x hx' l hl'
    rw [ha, if_neg hn] at this
    exact this e
  subst hlp
  exact ⟨x, near_symm (chain_lt hq hx) hl', dead_chain hq h hx', chain_symm hq hx'⟩
theorem put_some {n p c : Nat} {b x : Board} (h : put n b c p = some x) : at_ b p = 0 ∧ x = cleared n (b.set p c) (other c) ∧ free n x p = true := by
  unfold put at h
  simp only at h
  split at h
  · rename_i hh
    cases h
    exact ⟨hh.1, rfl, hh.2⟩
  · cases h
theorem put_of {n p c : Nat} {b : Board} (h0 : at_ b p = 0) (h1 : free n (cleared n (b.set p c) (other c)) p = true) : put n b c p = some (cleared n (b.set p c) (other c)) := by
  unfold put
  simp only
  rw [if_pos ⟨h0, h1⟩]
theorem put_none {n p c : Nat} {b : Board} (h1 : free n (cleared n (b.set p c) (other c)) p = false) : put n b c p = none := by
  unfold put
  simp only
  rw [if_neg (by rw [h1]; simp)]
theorem put_length {n p c : Nat} {b x : Board} (h : put n b c p = some x) : x.length = n * n := by rw [(put_some h).2.1]; exact cleared_length
theorem put_allFree {n p c : Nat} {b x : Board} (hl : b.length = n * n) (hp : p < n * n) (hc : c = 1 ∨ c = 2) (hv : ∀ q, q < n * n → at_ b q ≤ 2) (hF : AllFree n b) (h : put n b c p = some x) : AllFree n x := by
  obtain ⟨he, hx, hf⟩ := put_some h
  have ha : ∀ y, at_ (b.set p c) y = if y = p then c else at_ b y := fun y => at_set (by omega)
  have hco : c ≠ other c := by unfold other; omega
  have hcl : ∀ y, y < n * n → at_ x y = if at_ (b.set p c) y = other c ∧ free n (b.set p c) y = false then 0 else at_ (b.set p c) y := fun y hy => by rw [hx]; exact at_cleared hy
  have hkc : ∀ y, y < n * n → at_ (b.set p c) y ≠ other c → at_ x y = at_ (b.set p c) y := fun y hy e => by rw [hcl y hy, if_neg (fun z => e z.1)]
  intro q hq hq0
  by_cases hqo : at_ x q = other c
  ·
    have hqd : at_ (b.set p c) q = other c ∧ free n (b.set p c) q = true := by
      rw [hcl q hq] at hq0 hqo
      split at hqo
      · exact absurd (show (0:Nat) = other c from hqo) (by unfold other; omega)
      · rename_i hn
        refine ⟨hqo, ?_⟩
        cases e : free n (b.set p c) q
        · exact absurd ⟨hqo, e⟩ hn
        · rfl
    have hch : chain n x q = chain n (b.set p c) q := by
      apply chain_congr hq
      · intro y hy
        rw [hcl y (chain_lt hq hy), if_neg, chain_at hq hy]
        rw [free_same hq hy, hqd.2]
        simp
      · intro y r hy hr e
        have hyl := chain_lt hq hy
        rw [hcl r (near_lt hyl hr)] at e
        split at e
        · rw [hqd.1] at e
          exact absurd (show (0:Nat) = other c from e) (by unfold other; omega)
        · exact e
    obtain ⟨y, hy, l, hl', e⟩ := (free_iff hq).mp hqd.2
    refine (free_iff hq).mpr ⟨y, by rw [hch]; exact hy, l, hl', ?_⟩
    have hll := near_lt (chain_lt hq hy) hl'
    rw [hcl l hll]
    split
    · rfl
    · exact e
  ·
    have hqd : at_ x q = at_ (b.set p c) q ∧ at_ (b.set p c) q ≠ 0 := by
      rw [hcl q hq] at hq0 ⊢
      split at hq0
      · exact absurd rfl hq0
      · rename_i hn
        rw [if_neg hn]
        exact ⟨rfl, hq0⟩
    by_cases hpc : p ∈ chain n x q
    · have := free_same hq hpc
      rw [← this]
      exact hf
    · have hqp : q ≠ p := fun e => hpc (by rw [e]; exact chain_self hp)
      have hqb : at_ x q = at_ b q := by rw [hqd.1, ha, if_neg hqp]
      have hqb0 : at_ b q ≠ 0 := by rw [← hqb]; exact hq0
      have hmem : ∀ y, y ∈ chain n x q → y ≠ p := fun y hy e => hpc (by rw [← e]; exact hy)
      have hxb : ∀ y, y ∈ chain n x q → at_ b y = at_ x q := by
        intro y hy
        have e1 := chain_at hq hy
        have hyl := chain_lt hq hy
        have : at_ x y = at_ (b.set p c) y := by
          rw [hcl y hyl] at e1 ⊢
          split at e1
          · exact absurd e1.symm hq0
          · rename_i hn
            rw [if_neg hn]
        rw [ha, if_neg (hmem y hy)] at this
        rw [← this]
        exact e1
      have hch : chain n b q = chain n x q := by
        apply chain_congr hq
        · exact hxb
        · intro y r hy hr e
          have hyl := chain_lt hq hy
          have hrl := near_lt hyl hr
          have hrp : r ≠ p := by
            intro z
            rw [z, he] at e
            exact hq0 e.symm
          rw [hcl r hrl, ha, if_neg hrp, e, if_neg]
          intro z
          exact hqo z.1
      obtain ⟨y, hy, l, hl', e⟩ := (free_iff hq).mp (hF q hq hqb0)
      have hy' : y ∈ chain n x q := by rw [← hch]; exact hy
      have hyl := chain_lt hq hy
      have hll := near_lt hyl hl'
      by_cases hlp : l = p
      ·
        exfalso
        have hqc : at_ x q ≠ c := by
          intro z
          apply hpc
          have hxp : at_ x p = c := by
            rw [hkc p hp (by rw [ha, if_pos rfl]; exact hco), ha, if_pos rfl]
          exact chain_step hq hy' (by rw [← hlp]; exact hl') (by rw [hxp, z])
        have h2 := hv q hq
        rw [← hqb] at h2
        unfold other at hqo
        omega
      · refine (free_iff hq).mpr ⟨y, hy', l, hl', ?_⟩
        rw [hcl l hll, ha, if_neg hlp, e]
        split <;> rfl
theorem put_le {n p c : Nat} {b x : Board} (hl : b.length = n * n) (hp : p < n * n) (hc : c = 1 ∨ c = 2) (hv : ∀ q, q < n * n → at_ b q ≤ 2) (h : put n b c p = some x) : ∀ q, q < n * n → at_ x q ≤ 2 := by
  intro q hq
  obtain ⟨he, hx, hf⟩ := put_some h
  rw [hx, at_cleared hq]
  split
  · omega
  · rw [at_set (by omega)]
    split
    · omega
    · exact hv q hq
def strip (T : List Nat) (v : Nat) (b : Board) : Board := T.foldl (fun s t => s.set t v) b
theorem strip_length (v : Nat) : ∀ (T : List Nat) (b : Board), (strip T v b).length = b.length
  | [], b => rfl
  | t :: T, b => by
    show (strip T v (b.set t v)).length = _
    rw [strip_length v T, List.length_set]
theorem at_strip {v q : Nat} : ∀ (T : List Nat) (b : Board), (∀ t ∈ T, t < b.length) → at_ (strip T v b) q = if q ∈ T then v else at_ b q
  | [], b, _ => by simp [strip]
  | t :: T, b, h => by
    show at_ (strip T v (b.set t v)) q = _
    rw [at_strip T _ (fun y hy => by rw [List.length_set]; exact h y (List.mem_cons_of_mem _ hy)), at_set (h t (List.mem_cons_self ..))]
    by_cases h1 : q ∈ T
    · simp [h1]
    · by_cases h2 : q = t
      · simp [h2]
      · simp [h1, h2]
theorem strip_snoc (T : List Nat) (v t : Nat) (b : Board) : strip (T ++ [t]) v b = (strip T v b).set t v := by
  unfold strip
  rw [List.foldl_append]
  rfl
structure Tells (n : Nat) (b : Board) (o : Nat) (T : List Nat) : Prop where
  nd : T.Nodup
  mem : ∀ q, q ∈ T ↔ q < n * n ∧ Dead n b o q
theorem strip_cleared {n o : Nat} {b : Board} {T : List Nat} (hl : b.length = n * n) (h : Tells n b o T) : strip T 0 b = cleared n b o := by
  apply board_ext (by rw [strip_length, cleared_length, hl])
  intro q hq
  rw [strip_length, hl] at hq
  rw [at_cleared hq, at_strip T b (fun t ht => by rw [hl]; exact ((h.mem t).mp ht).1)]
  by_cases hd : Dead n b o q
  · rw [if_pos ((h.mem q).mpr ⟨hq, hd⟩), if_pos (show at_ b q = o ∧ free n b q = false from hd)]
  · rw [if_neg (fun z => hd ((h.mem q).mp z).2), if_neg (show ¬ (at_ b q = o ∧ free n b q = false) from hd)]
theorem strip_back {n p c : Nat} {b : Board} {T : List Nat} (hl : b.length = n * n) (hp : p < n * n) (he : at_ b p = 0) (hc : c = 1 ∨ c = 2) (h : Tells n (b.set p c) (other c) T) :
    strip T (other c) ((cleared n (b.set p c) (other c)).set p 0) = b := by
  have hTp : p ∉ T := by
    intro z
    have := ((h.mem p).mp z).2.1
    rw [at_set (by omega), if_pos rfl] at this
    unfold other at this
    omega
  apply board_ext (by rw [strip_length, List.length_set, cleared_length, hl])
  intro q hq
  rw [strip_length, List.length_set, cleared_length] at hq
  rw [at_strip T _ (fun t ht => by rw [List.length_set, cleared_length]; exact ((h.mem t).mp ht).1), at_set (by rw [cleared_length]; exact hp)]
  by_cases hqT : q ∈ T
  · rw [if_pos hqT]
    have := ((h.mem q).mp hqT).2.1
    rw [at_set (by omega), if_neg (fun z => hTp (by rw [← z]; exact hqT))] at this
    exact this.symm
  · rw [if_neg hqT]
    by_cases hqp : q = p
    · rw [if_pos hqp, hqp, he]
    · rw [if_neg hqp, at_cleared hq, if_neg (show ¬ (at_ (b.set p c) q = other c ∧ free n (b.set p c) q = false) from fun z => hqT ((h.mem q).mpr ⟨hq, z⟩)), at_set (by omega), if_neg hqp]
def cnt (b : Board) (c : Nat) : Nat := (b.filter fun x => x == c).length
theorem cnt_set {b : Board} {p v c : Nat} (hp : p < b.length) : cnt (b.set p v) c + (if at_ b p = c then 1 else 0) = cnt b c + (if v = c then 1 else 0) := by
  unfold cnt
  rw [← List.countP_eq_length_filter, ← List.countP_eq_length_filter, List.countP_set hp, at_lt hp]
  have h1 : (if (b[p] == c) = true then 1 else 0) ≤ List.countP (fun x => x == c) b := by
    split
    · rename_i h
      exact List.countP_pos_iff.mpr ⟨b[p], List.getElem_mem hp, h⟩
    · omega
  have f1 : ((b[p] == c) = true) = (b[p] = c) := by simp
  have f2 : ((v == c) = true) = (v = c) := by simp
  simp only [f1, f2] at h1 ⊢
  omega
theorem cnt_strip {o v c : Nat} : ∀ (T : List Nat) (b : Board), T.Nodup → (∀ t ∈ T, t < b.length ∧ at_ b t = o) → cnt (strip T v b) c + (if o = c then T.length else 0) = cnt b c + (if v = c then T.length else 0)
  | [], b, _, _ => by simp [strip]
  | t :: T, b, nd, h => by
    obtain ⟨hn, nd'⟩ := List.nodup_cons.mp nd
    obtain ⟨h1, h2⟩ := h t (List.mem_cons_self ..)
    have ih := cnt_strip (o := o) (v := v) (c := c) T (b.set t v) nd' (fun y hy => by
      obtain ⟨h3, h4⟩ := h y (List.mem_cons_of_mem _ hy)
      refine ⟨by rw [List.length_set]; exact h3, ?_⟩
      rw [at_set h1, if_neg (fun e => hn (by rw [← e]; exact hy))]
      exact h4)
    have h5 := cnt_set (b := b) (p := t) (v := v) (c := c) h1
    rw [h2] at h5
    show cnt (strip T v (b.set t v)) c + _ = _
    rw [List.length_cons]
    by_cases e1 : o = c <;> by_cases e2 : v = c <;> simp [e1, e2] at ih h5 ⊢ <;> omega
def moverAt (k : Nat) : Nat := if k % 2 = 0 then 1 else 2
theorem moverAt_or (k : Nat) : moverAt k = 1 ∨ moverAt k = 2 := by unfold moverAt; split <;> simp
inductive Hist (n : Nat) : List Board → List (Option Nat) → List (List Nat) → Prop where
  | new : Hist n [blank n] [] []
  | pass {b : Board} {bs : List Board} {ts : List (Option Nat)} {Ts : List (List Nat)} : Hist n (b :: bs) ts Ts → Hist n (b :: b :: bs) (none :: ts) ([] :: Ts)
  | play {x b : Board} {bs : List Board} {p : Nat} {ts : List (Option Nat)} {T : List Nat} {Ts : List (List Nat)} : Hist n (b :: bs) ts Ts → p < n * n → put n b (moverAt ts.length) p = some x → x ∉ b :: bs → Tells n (b.set p (moverAt ts.length)) (other (moverAt ts.length)) T → Hist n (x :: b :: bs) (some p :: ts) (T :: Ts)
theorem Hist.lens {n : Nat} {bs : List Board} {ts : List (Option Nat)} {Ts : List (List Nat)} (h : Hist n bs ts Ts) : bs.length = ts.length + 1 ∧ Ts.length = ts.length := by
  induction h with
  | new => exact ⟨rfl, rfl⟩
  | pass _ ih => simp only [List.length_cons] at ih ⊢; omega
  | play _ _ _ _ _ ih => simp only [List.length_cons] at ih ⊢; omega
theorem at_blank {n q : Nat} (hq : q < n * n) : at_ (blank n) q = 0 := by
  rw [at_lt (by simp [blank]; exact hq)]
  simp [blank]
structure BoardOk (n : Nat) (b : Board) : Prop where
  len : b.length = n * n
  le : ∀ q, q < n * n → at_ b q ≤ 2
  free : AllFree n b
theorem BoardOk.blank (n : Nat) : BoardOk n (blank n) := ⟨by simp [Sd46.blank], fun q hq => by rw [at_blank hq]; omega, fun q hq h => absurd (at_blank hq) h⟩
theorem BoardOk.put {n p c : Nat} {b x : Board} (h : BoardOk n b) (hp : p < n * n) (hc : c = 1 ∨ c = 2) (e : Sd46.put n b c p = some x) : BoardOk n x := ⟨put_length e, put_le h.len hp hc h.le e, put_allFree h.len hp hc h.le h.free e⟩
theorem Hist.ok {n : Nat} {bs : List Board} {ts : List (Option Nat)} {Ts : List (List Nat)} (h : Hist n bs ts Ts) : ∀ b ∈ bs, BoardOk n b := by
  induction h with
  | new =>
    intro b hb
    rw [List.mem_singleton.mp hb]
    exact .blank n
  | pass _ ih =>
    intro d hd
    rcases List.mem_cons.mp hd with e | e
    · rw [e]; exact ih _ (List.mem_cons_self ..)
    · exact ih d e
  | play _ hp e _ _ ih =>
    intro d hd
    rcases List.mem_cons.mp hd with z | z
    · rw [z]; exact (ih _ (List.mem_cons_self ..)).put hp (moverAt_or _) e
    · exact ih d z
def puts (ts : List (Option Nat)) (c : Nat) : Nat := ((List.range ts.length).filter fun k => ((ts.reverse.getD k none).isSome && decide (k % 2 = c - 1))).length
theorem puts_cons (t : Option Nat) (ts : List (Option Nat)) (c : Nat) : puts (t :: ts) c = puts ts c + if t.isSome = true ∧ ts.length % 2 = c - 1 then 1 else 0 := by
  unfold puts
  rw [List.length_cons, List.range_succ, List.filter_append, List.length_append, List.reverse_cons]
  congr 1
  · congr 1
    apply List.filter_congr
    intro k hk
    have hk' : k < ts.reverse.length := by simpa using hk
    have e : (ts.reverse ++ [t]).getD k none = ts.reverse.getD k none := by
      rw [List.getD_eq_getElem?_getD, List.getD_eq_getElem?_getD, List.getElem?_append_left hk']
    rw [e]
  · have e : (ts.reverse ++ [t]).getD ts.length none = t := by
      rw [List.getD_eq_getElem?_getD, List.getElem?_append_right (by simp)]
      simp
    rw [List.filter_cons, List.filter_nil, e]
    by_cases h : t.isSome = true ∧ ts.length % 2 = c - 1
    · rw [if_pos h, if_pos (by rw [h.1]; simpa using h.2)]
      rfl
    · rw [if_neg h, if_neg]
      · rfl
      · intro z
        apply h
        simpa using z
def offs : List (List Nat) → Nat → Nat
  | [], _ => 0
  | T :: Ts, c => offs Ts c + if other (moverAt Ts.length) = c then T.length else 0
theorem Hist.count {n : Nat} {bs : List Board} {ts : List (Option Nat)} {Ts : List (List Nat)} (h : Hist n bs ts Ts) {c : Nat} (hc : c = 1 ∨ c = 2) : puts ts c = cnt (bs.headD []) c + offs Ts c := by
  induction h with
  | new =>
    have : cnt (blank n) c = 0 := by
      unfold cnt blank
      rw [List.length_eq_zero_iff, List.filter_eq_nil_iff]
      intro a ha
      rw [(List.mem_replicate.mp ha).2]
      simp
      omega
    show 0 = cnt (blank n) c + 0
    omega
  | pass _ ih =>
    rw [puts_cons, if_neg (by simp), ih]
    show _ = _ + (offs _ c + _)
    simp
  | @play x b bs p ts T Ts hh hp e _ hT ih =>
    have hb := hh.ok b (List.mem_cons_self ..)
    obtain ⟨he, hx, _⟩ := put_some e
    have hl := hh.lens.2
    rw [puts_cons, ih]
    show cnt b c + offs Ts c + _ = cnt x c + (offs Ts c + _)
    have hpl : p < b.length := by rw [hb.len]; exact hp
    have h1 := cnt_set (b := b) (p := p) (v := moverAt ts.length) (c := c) hpl
    have h2 := cnt_strip (o := other (moverAt ts.length)) (v := 0) (c := c) T (b.set p (moverAt ts.length)) hT.nd (fun t ht => by
      have := (hT.mem t).mp ht
      exact ⟨by rw [List.length_set, hb.len]; exact this.1, this.2.1⟩)
    rw [strip_cleared (by rw [List.length_set, hb.len]) hT, ← hx] at h2
    rw [he] at h1
    rw [hl]
    have hm : (moverAt ts.length = c) ↔ ts.length % 2 = c - 1 := by unfold moverAt; split <;> omega
    have h0 : ¬ (0 = c) := by omega
    simp only [h0, if_false] at h1 h2
    by_cases hmc : moverAt ts.length = c
    · rw [if_pos ⟨rfl, hm.mp hmc⟩]
      rw [if_pos hmc] at h1
      rw [if_neg (by rw [hmc]; unfold other; omega)] at h2 ⊢
      omega
    · rw [if_neg (fun z => hmc (hm.mpr z.2))]
      rw [if_neg hmc] at h1
      have : other (moverAt ts.length) = c := by
        have := moverAt_or ts.length
        unfold other
        omega
      rw [if_pos this] at h2 ⊢
      omega
theorem lost_eq {n : Nat} {g : Game} {Ts : List (List Nat)} (h : Hist n g.boards g.turns Ts) {c : Nat} (hc : c = 1 ∨ c = 2) : lost g c = offs Ts c := by
  have := h.count hc
  show puts g.turns c - cnt (g.boards.headD []) c = _
  omega
structure GameOk (g : Game) (Ts : List (List Nat)) : Prop where
  lo : 2 ≤ g.size
  hi : g.size ≤ 19
  most : g.turns.length ≤ 1024
  hist : Hist g.size g.boards g.turns Ts
theorem GameOk.fresh {n : Nat} (h1 : 2 ≤ n) (h2 : n ≤ 19) : GameOk (fresh n) [] := ⟨h1, h2, Nat.zero_le _, .new⟩
theorem GameOk.head {g : Game} {Ts : List (List Nat)} (h : GameOk g Ts) : ∃ bs, g.boards = g.board :: bs := by
  have := h.hist.lens.1
  unfold Game.board
  cases e : g.boards with
  | nil => rw [e] at this; simp at this
  | cons b bs => exact ⟨bs, rfl⟩
theorem GameOk.board {g : Game} {Ts : List (List Nat)} (h : GameOk g Ts) : BoardOk g.size g.board := by
  obtain ⟨bs, e⟩ := h.head
  exact h.hist.ok _ (by rw [e]; exact List.mem_cons_self ..)
theorem GameOk.pass {g g' : Game} {Ts : List (List Nat)} (h : GameOk g Ts) (e : g.turn none = .ok g') : GameOk g' ([] :: Ts) ∧ g' = { g with boards := g.board :: g.boards, turns := none :: g.turns } := by
  unfold Game.turn at e
  split at e
  · cases e
  · split at e
    · cases e
    · rename_i h1 h2
      cases e
      refine ⟨⟨h.lo, h.hi, ?_, ?_⟩, rfl⟩
      · show g.turns.length + 1 ≤ 1024
        unfold TURNS at h2
        omega
      · obtain ⟨bs, e⟩ := h.head
        show Hist g.size (g.board :: g.boards) (none :: g.turns) ([] :: Ts)
        have hh := h.hist
        rw [e] at hh ⊢
        exact .pass hh
theorem GameOk.play {g : Game} {Ts : List (List Nat)} {p : Nat} {x : Board} {T : List Nat} (h : GameOk g Ts) (h2 : g.turns.length < 1024) (hp : p < g.size * g.size) (e : Sd46.put g.size g.board g.mover p = some x) (hn : x ∉ g.boards) (hT : Tells g.size (g.board.set p g.mover) (other g.mover) T) : GameOk { g with boards := x :: g.boards, turns := some p :: g.turns } (T :: Ts) := by
  refine ⟨h.lo, h.hi, ?_, ?_⟩
  · show g.turns.length + 1 ≤ 1024
    omega
  · obtain ⟨bs, eb⟩ := h.head
    show Hist g.size (x :: g.boards) (some p :: g.turns) (T :: Ts)
    have hh := h.hist
    rw [eb] at hh hn ⊢
    exact .play hh hp e hn hT
theorem GameOk.back {g : Game} {t : Option Nat} {T : List Nat} {ts : List (Option Nat)} {Ts : List (List Nat)} (h : GameOk g (T :: Ts)) (e : g.turns = t :: ts) : GameOk g.back Ts := by
  have hm := h.most
  have hh := h.hist
  refine ⟨h.lo, h.hi, ?_, ?_⟩
  · show (g.turns.drop 1).length ≤ 1024
    rw [List.length_drop]; omega
  · show Hist g.size (g.boards.drop 1) (g.turns.drop 1) Ts
    revert hh
    generalize g.boards = B
    generalize g.turns = U
    intro hh
    cases hh with
    | pass h => exact h
    | play h _ _ _ _ => exact h
def besideM (n p : Nat) : List Nat :=
  (if 0 < p % n then [p - 1] else []) ++ ((if p % n < n - 1 then [p + 1] else []) ++ ((if n ≤ p then [p - n] else []) ++ (if p < n * (n - 1) then [p + n] else [])))
theorem mem_besideM {n p q : Nat} (hp : p < n * n) : q ∈ besideM n p ↔ q ∈ near n p := by
  have hn : 0 < n := by
    rcases Nat.eq_zero_or_pos n with h | h
    · subst h; simp at hp
    · exact h
  have hm := Nat.mod_lt p hn
  have e : n * (n - 1) + n = n * n := by
    rw [Nat.mul_sub, Nat.mul_one]
    have : n * 1 ≤ n * n := Nat.mul_le_mul_left n hn
    omega
  rw [near_iff]
  unfold besideM
  simp only [List.mem_append]
  have s : ∀ (c : Prop) [Decidable c] (a : Nat), q ∈ (if c then [a] else []) ↔ c ∧ q = a := by
    intro c _ a
    by_cases h : c
    · simp [h]
    · simp [h]
  rw [s, s, s, s]
  omega
theorem besideM_length (n p : Nat) : (besideM n p).length ≤ 4 := by
  unfold besideM
  split <;> split <;> split <;> split <;> simp
structure Search (n : Nat) (b : Board) (p : Nat) (C : List Nat) (d : Nat) : Prop where
  nd : C.Nodup
  le : d ≤ C.length
  sub : ∀ q ∈ C, q ∈ chain n b p
  at0 : p ∈ C
  seen : ∀ i q, i < d → C[i]? = some q → ∀ r ∈ near n q, at_ b r ≠ 0 ∧ (at_ b r = at_ b p → r ∈ C)
theorem Search.start {n p : Nat} {b : Board} (hp : p < n * n) : Search n b p [p] 0 := ⟨by simp, by simp, fun q h => by rw [List.mem_singleton.mp h]; exact chain_self hp, by simp, fun i q h => by omega⟩
theorem Search.length_le {n p d : Nat} {b : Board} {C : List Nat} (hp : p < n * n) (h : Search n b p C d) : C.length ≤ n * n := by
  have := h.nd.length_le_of_subset (l₂ := points n) fun q hq => mem_points.mpr (chain_lt hp (h.sub q hq))
  simpa [points] using this
structure Within (n : Nat) (b : Board) (p : Nat) (C : List Nat) (d x j : Nat) : Prop where
  s : Search n b p C d
  at_ : C[d]? = some x
  part : ∀ r ∈ (besideM n x).take j, Sd46.at_ b r ≠ 0 ∧ (Sd46.at_ b r = Sd46.at_ b p → r ∈ C)
theorem Search.within {n p d x : Nat} {b : Board} {C : List Nat} (h : Search n b p C d) (e : C[d]? = some x) : Within n b p C d x 0 := ⟨h, e, fun r hr => by simp at hr⟩
theorem take_snoc' {α : Type} {l : List α} {i : Nat} {x : α} (h : l[i]? = some x) : l.take (i + 1) = l.take i ++ [x] := by
  obtain ⟨h1, h2⟩ := List.getElem?_eq_some_iff.mp h
  rw [List.take_succ, h]
  rfl
theorem Within.skip {n p d x j r : Nat} {b : Board} {C : List Nat} (h : Within n b p C d x j) (hr : (besideM n x)[j]? = some r) (h0 : Sd46.at_ b r ≠ 0) (h1 : Sd46.at_ b r = Sd46.at_ b p → r ∈ C) : Within n b p C d x (j + 1) := by
  refine ⟨h.s, h.at_, fun q hq => ?_⟩
  rw [take_snoc' hr] at hq
  rcases List.mem_append.mp hq with z | z
  · exact h.part q z
  · rw [List.mem_singleton.mp z]
    exact ⟨h0, h1⟩
theorem Within.put {n p d x j r : Nat} {b : Board} {C : List Nat} (hp : p < n * n) (h : Within n b p C d x j) (hr : (besideM n x)[j]? = some r) (h0 : Sd46.at_ b r ≠ 0) (h1 : Sd46.at_ b r = Sd46.at_ b p) (hn : r ∉ C) : Within n b p (C ++ [r]) d x (j + 1) := by
  have hxc : x ∈ chain n b p := h.s.sub x (List.mem_of_getElem? h.at_)
  have hrn : r ∈ near n x := (mem_besideM (chain_lt hp hxc)).mp (List.mem_of_getElem? hr)
  have hd : d < C.length := (List.getElem?_eq_some_iff.mp h.at_).1
  have hs : Search n b p (C ++ [r]) d := by
    refine ⟨?_, ?_, ?_, ?_, ?_⟩
    · rw [List.nodup_append]
      exact ⟨h.s.nd, by simp, fun a ha y hy => by rw [List.mem_singleton.mp hy]; intro e; exact hn (by rw [← e]; exact ha)⟩
    · rw [List.length_append]; have := h.s.le; omega
    · intro q hq
      rcases List.mem_append.mp hq with z | z
      · exact h.s.sub q z
      · rw [List.mem_singleton.mp z]
        exact chain_step hp hxc hrn h1
    · exact List.mem_append_left _ h.s.at0
    · intro i q hi hq y hy
      rw [List.getElem?_append_left (by have := h.s.le; omega)] at hq
      obtain ⟨a1, a2⟩ := h.s.seen i q hi hq y hy
      exact ⟨a1, fun e => List.mem_append_left _ (a2 e)⟩
  refine ⟨hs, by rw [List.getElem?_append_left hd]; exact h.at_, fun q hq => ?_⟩
  rw [take_snoc' hr] at hq
  rcases List.mem_append.mp hq with z | z
  · obtain ⟨a1, a2⟩ := h.part q z
    exact ⟨a1, fun e => List.mem_append_left _ (a2 e)⟩
  · rw [List.mem_singleton.mp z]
    exact ⟨h0, fun _ => by simp⟩
theorem Within.done {n p d x : Nat} {b : Board} {C : List Nat} (hp : p < n * n) (h : Within n b p C d x (besideM n x).length) : Search n b p C (d + 1) := by
  have hxc : x ∈ chain n b p := h.s.sub x (List.mem_of_getElem? h.at_)
  have hd : d < C.length := (List.getElem?_eq_some_iff.mp h.at_).1
  refine ⟨h.s.nd, by omega, h.s.sub, h.s.at0, fun i q hi hq r hr => ?_⟩
  by_cases e : i = d
  · subst e
    rw [h.at_] at hq
    have e2 : x = q := Option.some.inj hq
    subst e2
    have := h.part r
    rw [List.take_length] at this
    exact this ((mem_besideM (chain_lt hp hxc)).mpr hr)
  · exact h.s.seen i q (by omega) hq r hr
theorem Search.all {n p : Nat} {b : Board} {C : List Nat} (hp : p < n * n) (h : Search n b p C C.length) : (∀ q, q ∈ C ↔ q ∈ chain n b p) ∧ free n b p = false := by
  have hin : ∀ q, q ∈ chain n b p → q ∈ C := by
    refine chain_least (fun q => q ∈ C) hp h.at0 (fun x r hx _ hr e => ?_)
    obtain ⟨i, hi, e2⟩ := List.getElem_of_mem hx
    exact (h.seen i x hi (by rw [List.getElem?_eq_getElem hi, e2]) r hr).2 e
  refine ⟨fun q => ⟨h.sub q, hin q⟩, (free_false hp).mpr fun q hq l hl => ?_⟩
  obtain ⟨i, hi, e2⟩ := List.getElem_of_mem (hin q hq)
  exact (h.seen i q hi (by rw [List.getElem?_eq_getElem hi, e2]) l hl).1
theorem Within.free {n p d x j r : Nat} {b : Board} {C : List Nat} (hp : p < n * n) (h : Within n b p C d x j) (hr : (besideM n x)[j]? = some r) (h0 : Sd46.at_ b r = 0) : Sd46.free n b p = true := by
  have hxc : x ∈ chain n b p := h.s.sub x (List.mem_of_getElem? h.at_)
  exact (free_iff hp).mpr ⟨x, hxc, r, (mem_besideM (chain_lt hp hxc)).mp (List.mem_of_getElem? hr), h0⟩
structure Smo (n : Nat) (b : Board) (o p j : Nat) (T : List Nat) : Prop where
  nd : T.Nodup
  mem : ∀ q, q ∈ T ↔ ∃ r ∈ (besideM n p).take j, Dead n b o r ∧ q ∈ chain n b r
theorem Smo.start {n o p : Nat} {b : Board} : Smo n b o p 0 [] := ⟨by simp, fun q => by simp⟩
theorem Smo.lt {n o p j : Nat} {b : Board} {T : List Nat} (hp : p < n * n) (h : Smo n b o p j T) : ∀ q ∈ T, q < n * n := by
  intro q hq
  obtain ⟨r, hr, _, hc⟩ := (h.mem q).mp hq
  exact chain_lt (near_lt hp ((mem_besideM hp).mp (List.mem_of_mem_take hr))) hc
theorem Smo.skip {n o p j r : Nat} {b : Board} {T : List Nat} (h : Smo n b o p j T) (hr : (besideM n p)[j]? = some r) (hd : ¬ Dead n b o r) : Smo n b o p (j + 1) T := by
  refine ⟨h.nd, fun q => ?_⟩
  rw [h.mem q, take_snoc' hr]
  constructor
  · rintro ⟨y, h1, h2⟩
    exact ⟨y, List.mem_append_left _ h1, h2⟩
  · rintro ⟨y, h1, h2⟩
    rcases List.mem_append.mp h1 with z | z
    · exact ⟨y, z, h2⟩
    · rw [List.mem_singleton.mp z] at h2
      exact absurd h2.1 hd
theorem Smo.old {n o p j r : Nat} {b : Board} {T : List Nat} (hp : p < n * n) (h : Smo n b o p j T) (hr : (besideM n p)[j]? = some r) (ht : r ∈ T) : Smo n b o p (j + 1) T := by
  refine ⟨h.nd, fun q => ?_⟩
  rw [h.mem q, take_snoc' hr]
  constructor
  · rintro ⟨y, h1, h2⟩
    exact ⟨y, List.mem_append_left _ h1, h2⟩
  · rintro ⟨y, h1, h2⟩
    rcases List.mem_append.mp h1 with z | z
    · exact ⟨y, z, h2⟩
    · rw [List.mem_singleton.mp z] at h2
      obtain ⟨y', h3, h4, h5⟩ := (h.mem r).mp ht
      have hy' : y' < n * n := near_lt hp ((mem_besideM hp).mp (List.mem_of_mem_take h3))
      rw [chain_same hy' h5] at h2
      exact ⟨y', h3, h4, h2.2⟩
theorem Smo.apart {n o p j r q : Nat} {b : Board} {T : List Nat} (hp : p < n * n) (h : Smo n b o p j T) (hr : (besideM n p)[j]? = some r) (ht : r ∉ T) (hq : q ∈ chain n b r) : q ∉ T := by
  intro hqT
  obtain ⟨y', h3, h4, h5⟩ := (h.mem q).mp hqT
  have hy' : y' < n * n := near_lt hp ((mem_besideM hp).mp (List.mem_of_mem_take h3))
  have hr' : r < n * n := near_lt hp ((mem_besideM hp).mp (List.mem_of_getElem? hr))
  refine ht ((h.mem r).mpr ⟨y', h3, h4, ?_⟩)
  rw [← chain_same hy' h5]
  exact chain_symm hr' hq
theorem Smo.add {n o p j r : Nat} {b : Board} {T L : List Nat} (hp : p < n * n) (h : Smo n b o p j T) (hr : (besideM n p)[j]? = some r) (hd : Dead n b o r) (ht : r ∉ T) (hL : L.Nodup) (hm : ∀ q, q ∈ L ↔ q ∈ chain n b r) : Smo n b o p (j + 1) (T ++ L) := by
  refine ⟨?_, fun q => ?_⟩
  · rw [List.nodup_append]
    exact ⟨h.nd, hL, fun x hx y hy e => h.apart hp hr ht ((hm y).mp hy) (by rw [← e]; exact hx)⟩
  · rw [take_snoc' hr, List.mem_append, h.mem q, hm q]
    constructor
    · rintro (⟨y, h1, h2⟩ | h2)
      · exact ⟨y, List.mem_append_left _ h1, h2⟩
      · exact ⟨r, by simp, hd, h2⟩
    · rintro ⟨y, h1, h2⟩
      rcases List.mem_append.mp h1 with z | z
      · exact .inl ⟨y, z, h2⟩
      · rw [List.mem_singleton.mp z] at h2
        exact .inr h2.2
theorem Smo.tells {n p c o : Nat} {b : Board} {T : List Nat} (hb : BoardOk n b) (hp : p < n * n) (he : at_ b p = 0) (hco : c ≠ o) (ho : o ≠ 0) (h : Smo n (b.set p c) o p (besideM n p).length T) : Tells n (b.set p c) o T := by
  refine ⟨h.nd, fun q => ?_⟩
  rw [h.mem q, List.take_length]
  constructor
  · rintro ⟨r, hr, hd, hc⟩
    have hr' := near_lt hp ((mem_besideM hp).mp hr)
    exact ⟨chain_lt hr' hc, dead_chain hr' hd hc⟩
  · rintro ⟨hq, hd⟩
    obtain ⟨r, hr, hd', hc⟩ := dead_near hb.len hp he hco ho hb.free hq hd
    exact ⟨r, (mem_besideM hp).mpr hr, hd', hc⟩
theorem eraseDups_nodup {α : Type} [BEq α] [LawfulBEq α] : ∀ (l : List α), l.eraseDups.Nodup
  | [] => by simp
  | a :: l => by
    rw [List.eraseDups_cons, List.nodup_cons]
    have : (l.filter fun b => !b == a).length < (a :: l).length := Nat.lt_succ_of_le (List.length_filter_le _ _)
    refine ⟨?_, eraseDups_nodup _⟩
    rw [List.mem_eraseDups]
    simp
termination_by l => l.length
theorem eraseDups_length {α : Type} [BEq α] [LawfulBEq α] (l : List α) : l.eraseDups.length ≤ l.length := (eraseDups_nodup l).length_le_of_subset fun x hx => List.mem_eraseDups.mp hx
theorem two_of_le {α : Type} : ∀ {l : List α}, l.Nodup → 2 ≤ l.length → ∃ a b, a ≠ b ∧ a ∈ l ∧ b ∈ l
  | [], _, h => by simp at h
  | [a], _, h => by simp at h
  | a :: b :: l, nd, _ => by
    refine ⟨a, b, ?_, by simp, by simp⟩
    intro e
    rw [e] at nd
    simp at nd
theorem le_of_two {α : Type} {l : List α} {a b : α} (h : a ≠ b) (ha : a ∈ l) (hb : b ∈ l) : 2 ≤ l.length := by
  match l, ha, hb with
  | [x], ha, hb =>
    rw [List.mem_singleton] at ha hb
    exact absurd (ha.trans hb.symm) h
  | x :: y :: l, _, _ => simp
theorem mem_chainsOf {n c : Nat} {b : Board} {x : List Nat} : x ∈ chainsOf n b c ↔ ∃ p, p < n * n ∧ at_ b p = c ∧ x = chain n b p := by
  unfold chainsOf distinct
  rw [List.mem_eraseDups]
  simp only [List.mem_map, List.mem_filter, mem_points, beq_iff_eq]
  constructor
  · rintro ⟨p, ⟨h1, h2⟩, e⟩
    exact ⟨p, h1, h2, e.symm⟩
  · rintro ⟨p, h1, h2, e⟩
    exact ⟨p, ⟨h1, h2⟩, e.symm⟩
theorem mem_piecesOf {n c : Nat} {b : Board} {x : List Nat} : x ∈ piecesOf n b c ↔ ∃ p, p < n * n ∧ at_ b p ≠ c ∧ x = reached n (fun q => at_ b q != c) p := by
  unfold piecesOf distinct
  rw [List.mem_eraseDups]
  simp only [List.mem_map, List.mem_filter, mem_points, bne_iff_ne]
  constructor
  · rintro ⟨p, ⟨h1, h2⟩, e⟩
    exact ⟨p, h1, h2, e.symm⟩
  · rintro ⟨p, h1, h2, e⟩
    exact ⟨p, ⟨h1, h2⟩, e.symm⟩
theorem touches_iff {n p : Nat} {l : List Nat} : touches n l p = true ↔ ∃ x ∈ near n p, x ∈ l := by
  unfold touches
  simp
theorem vital_iff {n : Nat} {b : Board} {x r : List Nat} : vital n b x r = true ↔ (∃ p ∈ r, at_ b p = 0) ∧ ∀ p ∈ r, at_ b p = 0 → ∃ y ∈ near n p, y ∈ x := by
  unfold vital
  rw [Bool.and_eq_true, List.any_eq_true, List.all_eq_true]
  simp only [beq_iff_eq, Bool.or_eq_true, bne_iff_ne, touches_iff]
  constructor
  · rintro ⟨h1, h2⟩
    exact ⟨h1, fun p hp e => (h2 p hp).resolve_left (fun z => z e)⟩
  · rintro ⟨h1, h2⟩
    refine ⟨h1, fun p hp => ?_⟩
    by_cases e : at_ b p = 0
    · exact .inr (h2 p hp e)
    · exact .inl e
abbrev SS := List (List Nat) × List (List Nat)
theorem sieve_fst {n c : Nat} {b : Board} {s : SS} {x : List Nat} : x ∈ (sieve n b c s).1 ↔ x ∈ s.1 ∧ 2 ≤ (s.2.filter fun r => vital n b x r).length := by
  unfold sieve
  simp [List.mem_filter]
theorem sieve_snd {n c : Nat} {b : Board} {s : SS} {r : List Nat} : r ∈ (sieve n b c s).2 ↔ r ∈ s.2 ∧ ∀ p, p < n * n → at_ b p = c → touches n r p = true → ∃ x ∈ (sieve n b c s).1, p ∈ x := by
  show r ∈ s.2.filter (fun r => (points n).all fun p => at_ b p != c || (!touches n r p || (sieve n b c s).1.any fun x => x.contains p)) ↔ _
  rw [List.mem_filter, List.all_eq_true]
  constructor
  · rintro ⟨h1, h2⟩
    refine ⟨h1, fun p hp e ht => ?_⟩
    have := h2 p (mem_points.mpr hp)
    rw [e, ht] at this
    simpa using this
  · rintro ⟨h1, h2⟩
    refine ⟨h1, fun p hp => ?_⟩
    by_cases e : at_ b p = c
    · cases ht : touches n r p
      · simp
      · obtain ⟨x, hx, hm⟩ := h2 p (mem_points.mp hp) e ht
        simp only [Bool.or_eq_true]
        exact .inr (.inr (List.any_eq_true.mpr ⟨x, hx, List.contains_iff_mem.mpr hm⟩))
    · simp [e]
def sv (n : Nat) (b : Board) (c k : Nat) : SS := repeated (sieve n b c) k (chainsOf n b c, piecesOf n b c)
theorem sv_succ {n c k : Nat} {b : Board} : sv n b c (k + 1) = sieve n b c (sv n b c k) := repeated_succ _ _ _
theorem sieve_sub1 {n c : Nat} {b : Board} {s : SS} : (sieve n b c s).1.Sublist s.1 := List.filter_sublist
theorem sieve_sub2 {n c : Nat} {b : Board} {s : SS} : (sieve n b c s).2.Sublist s.2 := List.filter_sublist
theorem sv_sub {n c : Nat} {b : Board} : ∀ k, (sv n b c k).1.Sublist (chainsOf n b c) ∧ (sv n b c k).2.Sublist (piecesOf n b c)
  | 0 => ⟨.refl _, .refl _⟩
  | k + 1 => by
    rw [sv_succ]
    exact ⟨sieve_sub1.trans (sv_sub k).1, sieve_sub2.trans (sv_sub k).2⟩
theorem sv_or {n c : Nat} {b : Board} : ∀ k, sieve n b c (sv n b c k) = sv n b c k ∨ (sv n b c k).1.length + (sv n b c k).2.length + k ≤ (chainsOf n b c).length + (piecesOf n b c).length
  | 0 => .inr (Nat.le_refl _)
  | k + 1 => by
    rcases sv_or (n := n) (c := c) (b := b) k with h | h
    · left
      rw [sv_succ, h, h]
    · by_cases h1 : (sieve n b c (sv n b c k)).1.length = (sv n b c k).1.length
      · by_cases h2 : (sieve n b c (sv n b c k)).2.length = (sv n b c k).2.length
        · left
          have e : sieve n b c (sv n b c k) = sv n b c k := Prod.ext (sieve_sub1.eq_of_length h1) (sieve_sub2.eq_of_length h2)
          rw [sv_succ, e, e]
        · right
          have l1 := (sieve_sub1 (n := n) (c := c) (b := b) (s := sv n b c k)).length_le
          have l2 := (sieve_sub2 (n := n) (c := c) (b := b) (s := sv n b c k)).length_le
          rw [sv_succ]
          omega
      · right
        have l1 := (sieve_sub1 (n := n) (c := c) (b := b) (s := sv n b c k)).length_le
        have l2 := (sieve_sub2 (n := n) (c := c) (b := b) (s := sv n b c k)).length_le
        rw [sv_succ]
        omega
theorem sv_fix {n c : Nat} {b : Board} : sieve n b c (sv n b c (2 * (n * n) + 1)) = sv n b c (2 * (n * n) + 1) := by
  rcases sv_or (n := n) (c := c) (b := b) (2 * (n * n) + 1) with h | h
  · exact h
  · exfalso
    have e : (points n).length = n * n := by simp [points]
    have l1 : (chainsOf n b c).length ≤ n * n := by
      refine Nat.le_trans (eraseDups_length _) ?_
      rw [List.length_map, ← e]
      exact List.length_filter_le _ _
    have l2 : (piecesOf n b c).length ≤ n * n := by
      refine Nat.le_trans (eraseDups_length _) ?_
      rw [List.length_map]
      have := List.length_filter_le (fun p => at_ b p != c) (points n)
      rw [e] at this
      exact this
    omega
structure Good (n : Nat) (b : Board) (c : Nat) (X R : List Nat → Prop) : Prop where
  x0 : ∀ x, X x → x ∈ chainsOf n b c
  r0 : ∀ r, R r → r ∈ piecesOf n b c
  two : ∀ x, X x → ∃ r s, r ≠ s ∧ R r ∧ R s ∧ vital n b x r = true ∧ vital n b x s = true
  all : ∀ r, R r → ∀ p, p < n * n → at_ b p = c → touches n r p = true → ∃ x, X x ∧ p ∈ x
theorem Good.stays {n c : Nat} {b : Board} {X R : List Nat → Prop} (h : Good n b c X R) : ∀ k, (∀ x, X x → x ∈ (sv n b c k).1) ∧ ∀ r, R r → r ∈ (sv n b c k).2
  | 0 => ⟨h.x0, h.r0⟩
  | k + 1 => by
    obtain ⟨h1, h2⟩ := h.stays k
    rw [sv_succ]
    have h3 : ∀ x, X x → x ∈ (sieve n b c (sv n b c k)).1 := by
      intro x hx
      obtain ⟨r, s, hn, hr, hs, vr, vs⟩ := h.two x hx
      exact sieve_fst.mpr ⟨h1 x hx, le_of_two hn (List.mem_filter.mpr ⟨h2 r hr, vr⟩) (List.mem_filter.mpr ⟨h2 s hs, vs⟩)⟩
    refine ⟨h3, fun r hr => sieve_snd.mpr ⟨h2 r hr, fun p hp e ht => ?_⟩⟩
    obtain ⟨x, hx, hm⟩ := h.all r hr p hp e ht
    exact ⟨x, h3 x hx, hm⟩
theorem living_good (n : Nat) (b : Board) (c : Nat) : Good n b c (fun x => x ∈ living n b c) (fun r => r ∈ (sv n b c (2 * (n * n) + 1)).2) := by
  have e : living n b c = (sv n b c (2 * (n * n) + 1)).1 := rfl
  obtain ⟨s1, s2⟩ := sv_sub (n := n) (c := c) (b := b) (2 * (n * n) + 1)
  have nd : (sv n b c (2 * (n * n) + 1)).2.Nodup := (eraseDups_nodup _).sublist s2
  refine ⟨fun x hx => s1.subset hx, fun r hr => s2.subset hr, fun x hx => ?_, fun r hr p hp ha ht => ?_⟩
  · rw [e, ← sv_fix] at hx
    obtain ⟨r, s, hn, hr, hs⟩ := two_of_le (nd.sublist List.filter_sublist) (sieve_fst.mp hx).2
    obtain ⟨r1, r2⟩ := List.mem_filter.mp hr
    obtain ⟨s1, s2⟩ := List.mem_filter.mp hs
    exact ⟨r, s, hn, r1, s1, r2, s2⟩
  · have hr' := hr
    rw [← sv_fix] at hr'
    obtain ⟨x, hx, hm⟩ := (sieve_snd.mp hr').2 p hp ha ht
    rw [sv_fix] at hx
    exact ⟨x, hx, hm⟩
theorem Good.living {n c : Nat} {b : Board} {X R : List Nat → Prop} (h : Good n b c X R) {x : List Nat} (hx : X x) : x ∈ Sd46.living n b c := (h.stays _).1 x hx
theorem lives_iff {n p : Nat} {b : Board} : lives n b p = true ↔ (at_ b p = 1 ∨ at_ b p = 2) ∧ ∃ x ∈ living n b (at_ b p), p ∈ x := by
  unfold lives
  rw [Bool.and_eq_true, Bool.or_eq_true, List.any_eq_true]
  simp only [beq_iff_eq, List.contains_iff_mem]
structure Flood (n : Nat) (ok : Nat → Bool) (p : Nat) (C : List Nat) (d : Nat) : Prop where
  nd : C.Nodup
  le : d ≤ C.length
  sub : ∀ q ∈ C, Rch n ok p q
  at0 : p ∈ C
  seen : ∀ i q, i < d → C[i]? = some q → ∀ r ∈ near n q, ok r = true → r ∈ C
theorem Flood.start {n p : Nat} {ok : Nat → Bool} : Flood n ok p [p] 0 := ⟨by simp, by simp, fun q h => by rw [List.mem_singleton.mp h]; exact .base, by simp, fun i q h => by omega⟩
theorem Flood.length_le {n p d : Nat} {ok : Nat → Bool} {C : List Nat} (hp : p < n * n) (h : Flood n ok p C d) : C.length ≤ n * n := by
  have := h.nd.length_le_of_subset (l₂ := points n) fun q hq => mem_points.mpr ((h.sub q hq).lt hp)
  simpa [points] using this
structure FloodIn (n : Nat) (ok : Nat → Bool) (p : Nat) (C : List Nat) (d x j : Nat) : Prop where
  s : Flood n ok p C d
  at_ : C[d]? = some x
  part : ∀ r ∈ (besideM n x).take j, ok r = true → r ∈ C
theorem Flood.within {n p d x : Nat} {ok : Nat → Bool} {C : List Nat} (h : Flood n ok p C d) (e : C[d]? = some x) : FloodIn n ok p C d x 0 := ⟨h, e, fun r hr => by simp at hr⟩
theorem FloodIn.skip {n p d x j r : Nat} {ok : Nat → Bool} {C : List Nat} (h : FloodIn n ok p C d x j) (hr : (besideM n x)[j]? = some r) (h1 : ok r = true → r ∈ C) : FloodIn n ok p C d x (j + 1) := by
  refine ⟨h.s, h.at_, fun q hq => ?_⟩
  rw [take_snoc' hr] at hq
  rcases List.mem_append.mp hq with z | z
  · exact h.part q z
  · rw [List.mem_singleton.mp z]
    exact h1
theorem FloodIn.put {n p d x j r : Nat} {ok : Nat → Bool} {C : List Nat} (hp : p < n * n) (h : FloodIn n ok p C d x j) (hr : (besideM n x)[j]? = some r) (h1 : ok r = true) (hn : r ∉ C) : FloodIn n ok p (C ++ [r]) d x (j + 1) := by
  have hxc := h.s.sub x (List.mem_of_getElem? h.at_)
  have hx := hxc.lt hp
  have hrn : r ∈ near n x := (mem_besideM hx).mp (List.mem_of_getElem? hr)
  have hd : d < C.length := (List.getElem?_eq_some_iff.mp h.at_).1
  have hs : Flood n ok p (C ++ [r]) d := by
    refine ⟨?_, ?_, ?_, ?_, ?_⟩
    · rw [List.nodup_append]
      exact ⟨h.s.nd, by simp, fun a ha y hy => by rw [List.mem_singleton.mp hy]; intro e; exact hn (by rw [← e]; exact ha)⟩
    · rw [List.length_append]; have := h.s.le; omega
    · intro q hq
      rcases List.mem_append.mp hq with z | z
      · exact h.s.sub q z
      · rw [List.mem_singleton.mp z]
        exact .step hxc (near_lt hx hrn) h1 (near_symm hx hrn)
    · exact List.mem_append_left _ h.s.at0
    · intro i q hi hq y hy hk
      rw [List.getElem?_append_left (by have := h.s.le; omega)] at hq
      exact List.mem_append_left _ (h.s.seen i q hi hq y hy hk)
  refine ⟨hs, by rw [List.getElem?_append_left hd]; exact h.at_, fun q hq hk => ?_⟩
  rw [take_snoc' hr] at hq
  rcases List.mem_append.mp hq with z | z
  · exact List.mem_append_left _ (h.part q z hk)
  · rw [List.mem_singleton.mp z]
    simp
theorem FloodIn.done {n p d x : Nat} {ok : Nat → Bool} {C : List Nat} (hp : p < n * n) (h : FloodIn n ok p C d x (besideM n x).length) : Flood n ok p C (d + 1) := by
  have hx := (h.s.sub x (List.mem_of_getElem? h.at_)).lt hp
  have hd : d < C.length := (List.getElem?_eq_some_iff.mp h.at_).1
  refine ⟨h.s.nd, by omega, h.s.sub, h.s.at0, fun i q hi hq r hr hk => ?_⟩
  by_cases e : i = d
  · subst e
    rw [h.at_] at hq
    have e2 : x = q := Option.some.inj hq
    subst e2
    have := h.part r
    rw [List.take_length] at this
    exact this ((mem_besideM hx).mpr hr) hk
  · exact h.s.seen i q (by omega) hq r hr hk
theorem Flood.all {n p : Nat} {ok : Nat → Bool} {C : List Nat} (hp : p < n * n) (h : Flood n ok p C C.length) : ∀ q, q ∈ C ↔ Rch n ok p q := by
  intro q
  refine ⟨h.sub q, fun hq => ?_⟩
  induction hq with
  | base => exact h.at0
  | step hx hl ho hx' ih =>
    obtain ⟨i, hi, e2⟩ := List.getElem_of_mem ih
    exact h.seen i _ hi (by rw [List.getElem?_eq_getElem hi, e2]) _ (near_symm hl hx') ho
theorem countP_or {α : Type} {f g : α → Bool} : ∀ {l : List α}, (∀ x ∈ l, g x = true → f x = false) → l.countP (fun x => f x || g x) = l.countP f + l.countP g
  | [], _ => rfl
  | a :: l, h => by
    have ih := countP_or (l := l) fun x hx => h x (List.mem_cons_of_mem _ hx)
    have ha := h a (List.mem_cons_self ..)
    rw [List.countP_cons, List.countP_cons, List.countP_cons, ih]
    cases hf : f a <;> cases hg : g a
    · simp
    · simp; omega
    · simp; omega
    · rw [ha hg] at hf; cases hf
theorem countP_mem {l R : List Nat} (hl : l.Nodup) (hR : R.Nodup) (hs : ∀ q ∈ R, q ∈ l) : l.countP (fun p => R.contains p) = R.length := by
  rw [List.countP_eq_length_filter]
  refine same_length (hl.sublist List.filter_sublist) hR fun q => ?_
  rw [List.mem_filter]
  simp only [List.contains_iff_mem]
  exact ⟨fun h => h.2, fun h => ⟨hs q h, h⟩⟩
theorem countP_more {l R : List Nat} {f : Nat → Bool} (hl : l.Nodup) (hR : R.Nodup) (hs : ∀ q ∈ R, q ∈ l) (hd : ∀ q ∈ R, f q = false) : l.countP (fun p => f p || R.contains p) = l.countP f + R.length := by
  rw [countP_or fun x _ hx => hd x (List.contains_iff_mem.mp hx), countP_mem hl hR hs]
theorem countP_congr' {α : Type} {f g : α → Bool} {l : List α} (h : ∀ x ∈ l, f x = g x) : l.countP f = l.countP g := by
  apply List.countP_congr
  intro x hx
  rw [h x hx]
theorem reaches_iff {n p c : Nat} {b : Board} (hp : p < n * n) : reaches n b p c = true ↔ ∃ x, Rch n (fun q => at_ b q == 0) p x ∧ ∃ y ∈ near n x, at_ b y = c := by
  unfold reaches
  rw [List.any_eq_true]
  constructor
  · rintro ⟨x, hx, h⟩
    rw [List.any_eq_true] at h
    obtain ⟨y, hy, e⟩ := h
    exact ⟨x, (mem_reached hp).mp hx, y, hy, eq_of_beq e⟩
  · rintro ⟨x, hx, y, hy, e⟩
    exact ⟨x, (mem_reached hp).mpr hx, List.any_eq_true.mpr ⟨y, hy, by simpa using e⟩⟩
theorem reaches_same {n p q c : Nat} {b : Board} (hp : p < n * n) (h0 : at_ b p = 0) (h : Rch n (fun q => at_ b q == 0) p q) : reaches n b q c = reaches n b p c := by
  have hq := h.lt hp
  unfold reaches
  rw [reached_same (ok := fun q => at_ b q == 0) hp (by simpa using h0) h]
def areaOk (n : Nat) (b : Board) (c p : Nat) : Bool := at_ b p == c || (at_ b p == 0 && (reaches n b p c && !reaches n b p (other c)))
theorem area_eq {n c : Nat} {b : Board} : area n b c = (points n).countP (areaOk n b c) := by
  unfold area
  rw [List.countP_eq_length_filter]
  rfl
abbrev CL := List (List Int)
inductive CallIs : List Int → CL → List Int → Prop where
  | begin (n : Int) (t : List Int) : CallIs (0 :: n :: t) [[0, n]] t
  | play (x y : Int) (t : List Int) : CallIs (1 :: x :: y :: t) [[1, x, y]] t
  | pass (t : List Int) : CallIs (2 :: t) [[2]] t
  | undo (t : List Int) : CallIs (3 :: t) [[3]] t
  | board (t : List Int) : CallIs (4 :: t) [[4]] t
  | group (x y : Int) (t : List Int) : CallIs (5 :: x :: y :: t) [[5, x, y]] t
  | area (t : List Int) : CallIs (6 :: t) [[6]] t
  | lives (t : List Int) : CallIs (7 :: t) [[7]] t
  | load (b t : List Int) : CallIs (8 :: (b.length : Int) :: (b ++ t)) [[8], b] t
  | save (m : Int) (t : List Int) : CallIs (9 :: m :: t) [[9, m]] t
theorem two_of {r : List Int} (h : ¬ r.length < 2) : ∃ x y t, r = x :: y :: t := by
  match r, h with
  | [], h => simp at h
  | [x], h => simp at h
  | x :: y :: t, _ => exact ⟨x, y, t, rfl⟩
theorem one_of {r : List Int} (h : ¬ r.length < 1) : ∃ x t, r = x :: t := by
  match r, h with
  | [], h => simp at h
  | x :: t, _ => exact ⟨x, t, rfl⟩
theorem call_is {l : List Int} {c : CL} {t : List Int} (h : PyFlat.call PySd46.shape l = some (c, t)) : CallIs l c t := by
  cases l with
  | nil => simp [PyFlat.call] at h
  | cons p r =>
    unfold PyFlat.call PySd46.shape at h
    by_cases h0 : p = 0
    · subst h0
      simp only [if_true, PyFlat.rows] at h
      split at h
      · cases h
      · rename_i hl
        obtain ⟨x, t', rfl⟩ := one_of hl
        simp at h
        obtain ⟨rfl, rfl⟩ := h
        exact .begin _ _
    by_cases h1 : p = 1
    · subst h1
      simp [PyFlat.rows] at h
      obtain ⟨hl, rfl, rfl⟩ := h
      obtain ⟨x, y, t', rfl⟩ := two_of (r := r) (by omega)
      exact .play _ _ _
    by_cases h2 : p = 2
    · subst h2
      simp [PyFlat.rows] at h
      obtain ⟨rfl, rfl⟩ := h
      exact .pass _
    by_cases h3 : p = 3
    · subst h3
      simp [PyFlat.rows] at h
      obtain ⟨rfl, rfl⟩ := h
      exact .undo _
    by_cases h4 : p = 4
    · subst h4
      simp [PyFlat.rows] at h
      obtain ⟨rfl, rfl⟩ := h
      exact .board _
    by_cases h5 : p = 5
    · subst h5
      simp [PyFlat.rows] at h
      obtain ⟨hl, rfl, rfl⟩ := h
      obtain ⟨x, y, t', rfl⟩ := two_of (r := r) (by omega)
      exact .group _ _ _
    by_cases h6 : p = 6
    · subst h6
      simp [PyFlat.rows] at h
      obtain ⟨rfl, rfl⟩ := h
      exact .area _
    by_cases h7 : p = 7
    · subst h7
      simp [PyFlat.rows] at h
      obtain ⟨rfl, rfl⟩ := h
      exact .lives _
    by_cases h8 : p = 8
    · subst h8
      simp [PyFlat.rows] at h
      cases r with
      | nil => simp [PyFlat.row] at h
      | cons m r =>
        unfold PyFlat.row at h
        by_cases hm : 0 ≤ m ∧ m.toNat ≤ r.length
        · simp [hm] at h
          obtain ⟨rfl, rfl⟩ := h
          have e1 : (r.take m.toNat).length = m.toNat := by rw [List.length_take]; omega
          have e2 : m = ((r.take m.toNat).length : Int) := by rw [e1]; omega
          have e3 : r = r.take m.toNat ++ r.drop m.toNat := (List.take_append_drop _ _).symm
          have := CallIs.load (r.take m.toNat) (r.drop m.toNat)
          rw [← e2, ← e3] at this
          exact this
        · simp only [hm, if_false] at h
          cases h
    by_cases h9 : p = 9
    · subst h9
      simp [PyFlat.rows] at h
      obtain ⟨hl, rfl, rfl⟩ := h
      obtain ⟨x, t', rfl⟩ := one_of (r := r) (by simp; exact hl)
      exact .save _ _
    · simp [h0, h1, h2, h3, h4, h5, h6, h7, h8, h9] at h
theorem calls_nil {f : Nat} {cs : List CL} (h : PyFlat.calls PySd46.shape f [] = some cs) : cs = [] := by
  cases f <;> simp [PyFlat.calls] at h <;> exact h.symm ▸ rfl
theorem calls_cons {f : Nat} {p : Int} {r : List Int} {cs : List CL} (h : PyFlat.calls PySd46.shape f (p :: r) = some cs) : ∃ c t cs' f', CallIs (p :: r) c t ∧ cs = c :: cs' ∧ PyFlat.calls PySd46.shape f' t = some cs' := by
  cases f with
  | zero => simp [PyFlat.calls] at h
  | succ f =>
    unfold PyFlat.calls at h
    split at h
    · cases h
    · rename_i c t e
      split at h
      · cases h
      · rename_i cs' e'
        cases h
        exact ⟨c, t, cs', f, call_is e, rfl, e'⟩
abbrev stp := Sd46Neutral.step
theorem told_cons (a : List Int) (l : CL) : PyFlat.told (a :: l) = ((a.length : Int) :: a) ++ PyFlat.told l := by
  unfold PyFlat.told
  rw [List.flatMap_cons]
theorem told_len (s : Sd46Neutral.S) : ∀ (cs : List CL) (s : Sd46Neutral.S), (PyFlat.told (PyFlat.played stp s cs)).length = Sd46Neutral.total s cs + cs.length
  | [], s => rfl
  | c :: cs, s => by
    show (PyFlat.told ((stp s c).2 :: PyFlat.played stp (stp s c).1 cs)).length = _
    rw [told_cons, List.length_append, told_len s cs]
    show (stp s c).2.length + 1 + (Sd46Neutral.total (stp s c).1 cs + cs.length) = (stp s c).2.length + Sd46Neutral.total (stp s c).1 cs + (cs.length + 1)
    omega
structure Due (due : List Int) (s : Sd46Neutral.S) (rest given : List Int) : Prop where
  ex : ∃ cs f, PyFlat.calls PySd46.shape f rest = some cs ∧ due = given ++ PyFlat.told (PyFlat.played stp s (cs.map PySd46.whole)) ∧
    (∀ c ∈ cs, Sd46Neutral.asked1 (PySd46.whole c) = true) ∧ ∀ c ∈ cs, ∀ n, c ≠ [[0, n]]
theorem Due.nil {due given : List Int} {s : Sd46Neutral.S} (h : Due due s [] given) : due = given := by
  obtain ⟨cs, f, h1, h2, _⟩ := h.ex
  have := calls_nil h1
  subst this
  rw [h2]
  show given ++ [] = given
  rw [List.append_nil]
theorem Due.cons {due given : List Int} {s : Sd46Neutral.S} {p : Int} {r : List Int} (h : Due due s (p :: r) given) : ∃ c t, CallIs (p :: r) c t ∧ Sd46Neutral.asked1 (PySd46.whole c) = true ∧ (∀ n, c ≠ [[0, n]]) ∧
    Due due (stp s (PySd46.whole c)).1 t (given ++ (((stp s (PySd46.whole c)).2.length : Int) :: (stp s (PySd46.whole c)).2)) := by
  obtain ⟨cs, f, h1, h2, h3, h4⟩ := h.ex
  obtain ⟨c, t, cs', f', e1, e2, e3⟩ := calls_cons h1
  subst e2
  refine ⟨c, t, e1, h3 c (List.mem_cons_self ..), h4 c (List.mem_cons_self ..), cs', f', e3, ?_, fun d hd => h3 d (List.mem_cons_of_mem _ hd), fun d hd => h4 d (List.mem_cons_of_mem _ hd)⟩
  rw [h2]
  show given ++ PyFlat.told ((stp s (PySd46.whole c)).2 :: PyFlat.played stp (stp s (PySd46.whole c)).1 (cs'.map PySd46.whole)) = _
  rw [told_cons, List.append_assoc]
theorem due_start {l : List Int} (h : PySd46.answers_asked l = true) : (PySd46.answers l).length < 1002000 ∧ ∃ n t, l = 0 :: n :: t ∧ -(2 ^ 31) ≤ n ∧ n < 2 ^ 31 ∧
    ((n < 2 ∨ 19 < n) → t = [] ∧ PySd46.answers l = [1, -2]) ∧ (2 ≤ n → n ≤ 19 → Due (PySd46.answers l) (some (fresh n.toNat)) t [1, 0]) := by
  unfold PySd46.answers_asked PySd46.calls at h
  cases e : PyFlat.calls PySd46.shape l.length l with
  | none => rw [e] at h; cases h
  | some cs =>
    rw [e] at h
    simp only [Bool.and_eq_true, Sd46Neutral.asked, PyFlat.atMost, decide_eq_true_eq, List.length_map] at h
    obtain ⟨h1, ⟨h2, h3⟩, h4⟩ := h
    have ea : PySd46.answers l = PyFlat.told (PyFlat.played stp Sd46Neutral.start (cs.map PySd46.whole)) := by
      unfold PySd46.answers PySd46.calls
      rw [e]
    refine ⟨?_, ?_⟩
    · rw [ea, told_len none, List.length_map]
      omega
    · cases l with
      | nil =>
        have := calls_nil e
        subst this
        cases h4
      | cons p r =>
        obtain ⟨c, t, cs', f', e1, e2, e3⟩ := calls_cons e
        subst e2
        have hall : ∀ d ∈ c :: cs', Sd46Neutral.asked1 (PySd46.whole d) = true := by
          intro d hd
          exact List.all_eq_true.mp h2 _ (List.mem_map.mpr ⟨d, hd, rfl⟩)
        have hw := hall c (List.mem_cons_self ..)
        cases e1 with
        | begin n t =>
          have hn : -(2 ^ 31) ≤ n ∧ n < 2 ^ 31 := by
            have : Sd46Neutral.whole32 n = true := hw
            unfold Sd46Neutral.whole32 at this
            simpa using this
          have h4' : ((cs'.map PySd46.whole).all (fun c => match c with
              | [[0, _]] => false
              | _ => true) && ((cs'.map PySd46.whole).isEmpty || (decide (2 ≤ n) && decide (n ≤ 19)))) = true := h4
          rw [Bool.and_eq_true] at h4'
          obtain ⟨h5, h6⟩ := h4'
          refine ⟨n, t, rfl, hn.1, hn.2, fun hb => ?_, fun ha hb => ⟨cs', f', e3, ?_, fun d hd => hall d (List.mem_cons_of_mem _ hd), fun d hd m ed => ?_⟩⟩
          · have hcs : cs' = [] := by
              cases cs' with
              | nil => rfl
              | cons d ds =>
                exfalso
                simp at h6
                omega
            subst hcs
            have ht : t = [] := by
              cases t with
              | nil => rfl
              | cons q u =>
                obtain ⟨_, _, _, _, _, z, _⟩ := calls_cons e3
                cases z
            refine ⟨ht, ?_⟩
            rw [ea]
            show PyFlat.told [(stp none [[0, n]]).2] = _
            have : stp none [[0, n]] = (none, [-2]) := by
              show ((does none (.begin_ n)).1, (does none (.begin_ n)).2.v :: Sd46Neutral.ints (does none (.begin_ n)).2.nums) = _
              have hb' : between n 2 19 = false := by
                unfold between
                rcases hb with hb | hb
                · simp; omega
                · simp; omega
              have : does none (.begin_ n) = (none, only (-2)) := by
                unfold does
                simp only [hb', if_true]
              rw [this]
              rfl
            rw [this]
            rfl
          · rw [ea]
            have : stp none [[0, n]] = (some (fresh n.toNat), [0]) := by
              show ((does none (.begin_ n)).1, (does none (.begin_ n)).2.v :: Sd46Neutral.ints (does none (.begin_ n)).2.nums) = _
              have hb' : between n 2 19 = true := by
                unfold between
                simp; omega
              have : does none (.begin_ n) = (some (fresh n.toNat), only 0) := by
                unfold does
                simp only [hb', Bool.true_eq_false, if_false]
              rw [this]
              rfl
            show PyFlat.told ((stp none [[0, n]]).2 :: PyFlat.played stp (stp none [[0, n]]).1 (cs'.map PySd46.whole)) = _
            rw [this, told_cons]
            rfl
          · subst ed
            have := List.all_eq_true.mp h5 (PySd46.whole [[0, m]]) (List.mem_map.mpr ⟨_, hd, rfl⟩)
            cases this
        | _ => exact absurd h4 (by simp [PySd46.whole])
def stem : Bytes := [40, 59, 70, 70, 91, 52, 93, 71, 77, 91, 49, 93, 83, 90, 91]
theorem stem_eq : ascii "(;FF[4]GM[1]SZ[" = stem := by decide
def digits (n : Nat) : Bytes := if n < 10 then [48 + n] else [49, 38 + n]
theorem dec_eq : ∀ n, n < 20 → dec n = digits n := by decide
theorem headOf_eq {n : Nat} (h : n < 20) : headOf n = stem ++ (digits n ++ [93]) := by
  unfold headOf
  rw [stem_eq, dec_eq n h]
theorem mem_sizes {n : Nat} : n ∈ SIZES ↔ 2 ≤ n ∧ n ≤ 19 := by
  unfold SIZES
  simp only [List.mem_map, List.mem_range]
  constructor
  · rintro ⟨k, h, e⟩
    omega
  · intro h
    exact ⟨n - 2, by omega, by omega⟩
theorem heads_apart : ∀ n, n < 20 → ∀ m, m < 20 → (stem ++ (digits n ++ [93])) <+: (stem ++ (digits m ++ [93])) → n = m := by decide
theorem head_uniq {n m : Nat} (hn : n < 20) (hm : m < 20) {s : Bytes} (h1 : headOf n <+: s) (h2 : headOf m <+: s) : n = m := by
  rw [headOf_eq hn] at h1
  rw [headOf_eq hm] at h2
  rcases Nat.le_total (stem ++ (digits n ++ [93])).length (stem ++ (digits m ++ [93])).length with h | h
  · exact heads_apart n hn m hm (List.prefix_of_prefix_length_le h1 h2 h)
  · exact (heads_apart m hm n hn (List.prefix_of_prefix_length_le h2 h1 h)).symm
theorem find_head {s : Bytes} {n : Nat} : (SIZES.find? fun n => (headOf n).isPrefixOf s) = some n ↔ (2 ≤ n ∧ n ≤ 19) ∧ headOf n <+: s := by
  constructor
  · intro h
    have h1 := List.mem_of_find?_eq_some h
    have h2 := List.find?_some h
    exact ⟨mem_sizes.mp h1, List.isPrefixOf_iff_prefix.mp h2⟩
  · rintro ⟨h1, h2⟩
    cases e : SIZES.find? fun n => (headOf n).isPrefixOf s with
    | none =>
      rw [List.find?_eq_none] at e
      exact absurd (List.isPrefixOf_iff_prefix.mpr h2) (e n (mem_sizes.mpr h1))
    | some m =>
      have h3 := mem_sizes.mp (List.mem_of_find?_eq_some e)
      have h4 := List.find?_some e
      replace h4 : headOf m <+: s := List.isPrefixOf_iff_prefix.mp h4
      rw [head_uniq (by omega) (by omega) h4 h2]
theorem find_none {s : Bytes} : (SIZES.find? fun n => (headOf n).isPrefixOf s) = none ↔ ∀ n, 2 ≤ n → n ≤ 19 → ¬ headOf n <+: s := by
  rw [List.find?_eq_none]
  constructor
  · intro h n h1 h2 h3
    exact h n (mem_sizes.mpr ⟨h1, h2⟩) (List.isPrefixOf_iff_prefix.mpr h3)
  · intro h n hn h3
    exact h n (mem_sizes.mp hn).1 (mem_sizes.mp hn).2 (List.isPrefixOf_iff_prefix.mp h3)
def colB (c : Nat) : Nat := if c = 1 then 66 else 87
inductive Reads (n : Nat) : Nat → Bytes → List (Option Nat) → Prop where
  | done {c : Nat} : Reads n c [41] []
  | pass {c : Nat} {u : Bytes} {l : List (Option Nat)} : Reads n (other c) u l → Reads n c (59 :: colB c :: 91 :: 93 :: u) (none :: l)
  | play {c x y : Nat} {u : Bytes} {l : List (Option Nat)} : 97 ≤ x → x < 97 + n → 97 ≤ y → y < 97 + n → Reads n (other c) u l → Reads n c (59 :: colB c :: 91 :: x :: y :: 93 :: u) (some ((y - 97) * n + (x - 97)) :: l)
theorem turnsRead_sound {n : Nat} : ∀ (f c : Nat) (s : Bytes) (l : List (Option Nat)), turnsRead n f c s = some l → Reads n c s l
  | 0, c, s, l, h => by simp [turnsRead] at h
  | f + 1, c, s, l, h => by
    unfold turnsRead at h
    split at h
    · cases h
      exact .done
    · rename_i k r
      by_cases hk : k = (if c = 1 then 66 else 87)
      · rw [if_neg (fun z => z hk)] at h
        have hk' : k = colB c := hk
        clear hk
        subst hk'
        split at h
        · rename_i u
          cases e : turnsRead n f (other c) u with
          | none => rw [e] at h; simp at h
          | some l' =>
            rw [e] at h
            simp at h
            subst h
            exact .pass (turnsRead_sound f _ u l' e)
        · rename_i x y u _
          split at h
          · rename_i hx
            cases e : turnsRead n f (other c) u with
            | none => rw [e] at h; simp at h
            | some l' =>
              rw [e] at h
              simp at h
              subst h
              exact .play hx.1 hx.2.1 hx.2.2.1 hx.2.2.2 (turnsRead_sound f _ u l' e)
          · cases h
        · cases h
      · rw [if_pos hk] at h
        cases h
    · cases h
theorem turnsRead_complete {n c : Nat} {s : Bytes} {l : List (Option Nat)} (h : Reads n c s l) : ∀ f, s.length ≤ f → turnsRead n f c s = some l := by
  induction h with
  | done =>
    intro f hf
    obtain ⟨f, rfl⟩ : ∃ g, f = g + 1 := ⟨f - 1, by simp at hf; omega⟩
    unfold turnsRead
    rfl
  | @pass c u l _ ih =>
    intro f hf
    obtain ⟨f, rfl⟩ : ∃ g, f = g + 1 := ⟨f - 1, by simp at hf; omega⟩
    unfold turnsRead
    simp only
    rw [if_neg (show ¬ colB c ≠ (if c = 1 then 66 else 87) from fun z => z rfl), ih f (by simp at hf; omega)]
    rfl
  | @play c x y u l h1 h2 h3 h4 _ ih =>
    intro f hf
    obtain ⟨f, rfl⟩ : ∃ g, f = g + 1 := ⟨f - 1, by simp at hf; omega⟩
    unfold turnsRead
    simp only
    rw [if_neg (show ¬ colB c ≠ (if c = 1 then 66 else 87) from fun z => z rfl)]
    split
    · rename_i u' e
      injection e with e1 e2
      omega
    · rename_i x' y' u' _ e
      injection e with e1 e2
      injection e2 with e2 e3
      injection e3 with e3 e4
      subst e1 e2 e4
      rw [if_pos ⟨h1, h2, h3, h4⟩, ih f (by simp at hf; omega)]
      rfl
    · rename_i _ hn
      exact absurd rfl (hn x y u)
theorem recordRead_some {s : Bytes} {n : Nat} {r : Bytes} {l : List (Option Nat)} (h1 : 2 ≤ n) (h2 : n ≤ 19) (e : s = headOf n ++ r) (h : Reads n 1 r l) : recordRead s = some (n, l) := by
  unfold recordRead
  have hf : (SIZES.find? fun n => (headOf n).isPrefixOf s) = some n := find_head.mpr ⟨⟨h1, h2⟩, r, e.symm⟩
  rw [hf, Option.bind_some]
  have : s.drop (headOf n).length = r := by rw [e, List.drop_left]
  rw [this, turnsRead_complete h s.length (by rw [e, List.length_append]; omega)]
  rfl
theorem recordRead_head {s : Bytes} (h : ∀ n, 2 ≤ n → n ≤ 19 → ¬ headOf n <+: s) : recordRead s = none := by
  unfold recordRead
  rw [find_none.mpr h]
  rfl
theorem recordRead_none {s : Bytes} {n : Nat} {r : Bytes} (h1 : 2 ≤ n) (h2 : n ≤ 19) (e : s = headOf n ++ r) (h : ∀ l, ¬ Reads n 1 r l) : recordRead s = none := by
  unfold recordRead
  have hf : (SIZES.find? fun n => (headOf n).isPrefixOf s) = some n := find_head.mpr ⟨⟨h1, h2⟩, r, e.symm⟩
  rw [hf, Option.bind_some]
  have : s.drop (headOf n).length = r := by rw [e, List.drop_left]
  rw [this]
  cases e : turnsRead n s.length 1 r with
  | none => rfl
  | some l => exact absurd (turnsRead_sound _ _ _ _ e) (h l)
theorem Reads.points {n c : Nat} {s : Bytes} {l : List (Option Nat)} (h : Reads n c s l) : ∀ p, some p ∈ l → p < n * n := by
  induction h with
  | done => intro p hp; simp at hp
  | pass _ ih =>
    intro p hp
    exact ih p (by simpa using hp)
  | @play c x y u l h1 h2 h3 h4 _ ih =>
    intro p hp
    rcases List.mem_cons.mp hp with e | e
    · injection e with e
      rw [e]
      have : (y - 97 + 1) * n ≤ n * n := Nat.mul_le_mul_right n (by omega)
      rw [Nat.add_mul] at this
      omega
    · exact ih p e
end GM
end
section
set_option Elab.async false
set_option maxRecDepth 100000
set_option maxHeartbeats 2000000
namespace SG
open PySem PySem.Spec L2 GM
open PyProof.Rows hiding St
def top (i : Nat) : Stmt := PySem.Challenge.pw_stonesgame_s01_answers.main.body.getD i (.Pass ⟨0, 0, 0, 0⟩)
abbrev nV (n : Nat) : V := V.int (n : Int)
theorem nV_inj {a b : Nat} (h : nV a = nV b) : a = b := Int.ofNat.inj (V.int.inj h)
theorem nV_dec {a b : Nat} : decide (nV a = nV b) = decide (a = b) := by
  by_cases h : a = b
  · subst h; simp
  · rw [decide_eq_false h, decide_eq_false fun e => h (nV_inj e)]
abbrev LN (H : Hp) (a : Addr) (l : List Nat) : Prop := H a = some (.lst (l.map nV))
theorem get_nV {l : List Nat} {i : Nat} {x : V} (h : (l.map nV)[i]? = some x) : ∃ q, l[i]? = some q ∧ x = nV q := by
  rw [List.getElem?_map] at h
  obtain ⟨q, h1, h2⟩ := Option.map_eq_some_iff.mp h
  exact ⟨q, h1, h2.symm⟩
theorem at_nV {l : List Nat} {i q : Nat} (h : l[i]? = some q) : (l.map nV)[i]? = some (nV q) := by rw [List.getElem?_map, h]; rfl
theorem atN {l : List Nat} {i q : Nat} (h : l[i]? = some q) : atI (l.map nV) (i : Int) = some (nV q) := atI_nat (at_nV h)
theorem bd_at {b : Sd46.Board} {q : Nat} (h : q < b.length) : b[q]? = some (Sd46.at_ b q) := by rw [at_lt h]; exact List.getElem?_eq_getElem h
theorem small {n : Nat} (h : n ≤ 16000000) : n < sizeLine := by rw [sizeLine_eq]; omega
theorem smallE {n : Nat} (h : n ≤ 16000000) : n ≤ sizeLine := Nat.le_of_lt (small h)
theorem ixN_nat {n k : Nat} (h : k < n) : ixN n (k : Int) = some k := by
  unfold ixN
  rw [if_pos (by omega)]
  simp [h]
theorem _root_.L2.Same.upd {H H' : Hp} {d : Addr} {o : HO} (s : Same H H') (hn : H d = none) : Same H (L2.upd H' d o) := fun b u e => by
  rw [upd_ne (ne_of_none e hn)]
  exact s b u e
theorem same_new {H : Hp} {d : Addr} {o : HO} (hn : H d = none) : Same H (L2.upd H d o) := L2.Same.upd (Same.refl _) hn
theorem upd_other {H : Hp} {a d : Addr} {o u : HO} (h : H a = some u) (hn : H d = none) : L2.upd H d o a = some u := by rw [upd_ne (ne_of_none h hn)]; exact h
theorem upd_lst {H : Hp} {a d : Addr} {o u : HO} (h : H a = some u) (hne : a ≠ d) : L2.upd H d o a = some u := by rw [upd_ne hne]; exact h
theorem for_nats {K : PySem.W.Frag} {a : Addr} {l : List Nat} {g : TG} {tb : TS} {D : Ends} {σ : St} {H : Hp} (Pv : Nat → St → Hp → Prop) (h0 : Pv 0 σ H) (hl : ∀ i σ H, Pv i σ H → LN H a l)
    (hs : ∀ i q σ H, l[i]? = some q → Pv i σ H → g (nV q) σ H fun σ2 H2 => tb { D with nx := Pv (i + 1), ct := Pv (i + 1), bk := D.nx } σ2 H2) (hd : ∀ σ H, Pv l.length σ H → D.nx σ H) :
    ∃ W : Nat → Nat → St → Hp → Prop, (∃ m, W 0 m σ H) ∧ ∀ i m σ H, W i m σ H →
      ((Itl K a).stop i H ∧ D.nx σ H) ∨ ((Itl K a).go i H ∧ ∃ N : St → Hp → Prop, (∀ σ' H', N σ' H' → ∃ m', m' < m ∧ W (i + 1) m' σ' H') ∧ ∀ x H', (Itl K a).yld i H x H' → g x σ H' fun σ2 H2 => tb { D with nx := N, ct := N, bk := D.nx } σ2 H2) :=
  for_list (xs := l.map nV) Pv h0 (fun i σ H _ p => SqL.of (hl i σ H p)) (fun i x σ H hx p => by
    obtain ⟨q, h1, rfl⟩ := get_nV hx
    exact hs i q σ H h1 p) (fun σ H p => hd σ H (by rw [List.length_map] at p; exact p))
theorem lc_nats {K : PySem.W.Frag} {a : Addr} {l : List Nat} {g : TG} {tt : TT} {te : TE} {vs : List Nat} {σ : St} {H1 : Hp} {D : Addr} {Qd : Hp → Prop} (Pv : Nat → Hp → Prop) (h0 : Pv 0 (L2.upd H1 D (.lst []))) (hl : ∀ i H, Pv i H → LN H a l)
    (hs : ∀ i q H, l[i]? = some q → Pv i H → g (nV q) (wipe σ vs) H fun σ2 H2 => wipe σ2 vs = wipe σ vs ∧ tt σ2 H2 fun b H3 =>
      if b = true then te σ2 H3 fun y H4 => ∃ acc, H4 D = some (.lst acc) ∧ acc.length < sizeLine ∧ Pv (i + 1) (L2.upd H4 D (.lst (acc ++ [y]))) else Pv (i + 1) H3) (hd : ∀ H, Pv l.length H → Qd H) :
    ∃ W : Nat → Nat → Hp → Prop, (∃ m, W 0 m (L2.upd H1 D (.lst []))) ∧ ∀ i m H, W i m H →
      ((Itl K a).stop i H ∧ Qd H) ∨ ((Itl K a).go i H ∧ ∃ Nx : Hp → Prop, (∀ H', Nx H' → ∃ m', m' < m ∧ W (i + 1) m' H') ∧ ∀ x H', (Itl K a).yld i H x H' → g x (wipe σ vs) H' fun σ2 H2 => wipe σ2 vs = wipe σ vs ∧ tt σ2 H2 fun b H3 =>
        if b = true then te σ2 H3 fun y H4 => ∃ acc, H4 D = some (.lst acc) ∧ acc.length < sizeLine ∧ Nx (L2.upd H4 D (.lst (acc ++ [y]))) else Nx H3) :=
  lc_list (xs := l.map nV) Pv h0 (fun i H _ p => SqL.of (hl i H p)) (fun i x H hx p => by
    obtain ⟨q, h1, rfl⟩ := get_nV hx
    exact hs i q H h1 p) (fun H p => hd H (by rw [List.length_map] at p; exact p))
theorem mono_lt_len {g : Int → Int → V} {K : PySem.W.Frag} {i j : Nat} : ∀ (σ : L2.St) (H : Hp) (Q Q' : Bool → Hp → Prop), (∀ b H1, Q b H1 → Q' b H1) →
    tTest (tOp (rI0 g) (tVar i) (tCB (fun xs H Q => ∃ p ys, xs = [V.ref p] ∧ (SqL K H p ys ∨ SqT K H p ys) ∧ Q (.int ys.length) H) (tCons (tVar j) tNil))) σ H Q →
    tTest (tOp (rI0 g) (tVar i) (tCB (fun xs H Q => ∃ p ys, xs = [V.ref p] ∧ (SqL K H p ys ∨ SqT K H p ys) ∧ Q (.int ys.length) H) (tCons (tVar j) tNil))) σ H Q' := by
  rintro σ H Q Q' hq ⟨v, h1, u, h2, p, ys, h3, h4, a, b, h5, h6, k, h7, h8⟩
  exact ⟨v, h1, u, h2, p, ys, h3, h4, a, b, h5, h6, k, h7, hq _ _ h8⟩
theorem for_upto {z : Int} {n : Nat} (hz : z = (n : Int)) {g : TG} {tb : TS} {D : Ends} {σ : L2.St} {H : Hp} (Pv : Nat → L2.St → Hp → Prop) (h0 : Pv 0 σ H)
    (hs : ∀ i σ H, i < n → Pv i σ H → g (nV i) σ H fun σ2 H2 => tb { D with nx := Pv (i + 1), ct := Pv (i + 1), bk := D.nx } σ2 H2) (hd : ∀ σ H, Pv n σ H → D.nx σ H) :
    ∃ W : Nat → Nat → L2.St → Hp → Prop, (∃ m, W 0 m σ H) ∧ ∀ i m σ H, W i m σ H →
      ((Itr 0 z.toNat).stop i H ∧ D.nx σ H) ∨ ((Itr 0 z.toNat).go i H ∧ ∃ N : L2.St → Hp → Prop, (∀ σ' H', N σ' H' → ∃ m', m' < m ∧ W (i + 1) m' σ' H') ∧ ∀ x H', (Itr 0 z.toNat).yld i H x H' → g x σ H' fun σ2 H2 => tb { D with nx := N, ct := N, bk := D.nx } σ2 H2) := by
  have e : z.toNat = n := by omega
  rw [e]
  refine for_range (lo := 0) (n := n) Pv h0 (fun i σ H hi p => ?_) hd
  rw [Int.zero_add]
  exact hs i σ H hi p
theorem lc_upto {z : Int} {n : Nat} (hz : z = (n : Int)) {g : TG} {tt : TT} {te : TE} {vs : List Nat} {σ : L2.St} {H1 : Hp} {D : Addr} {Qd : Hp → Prop} (Pv : Nat → Hp → Prop) (h0 : Pv 0 (L2.upd H1 D (.lst [])))
    (hs : ∀ i H, i < n → Pv i H → g (nV i) (wipe σ vs) H fun σ2 H2 => wipe σ2 vs = wipe σ vs ∧ tt σ2 H2 fun b H3 =>
      if b = true then te σ2 H3 fun y H4 => ∃ acc, H4 D = some (.lst acc) ∧ acc.length < sizeLine ∧ Pv (i + 1) (L2.upd H4 D (.lst (acc ++ [y]))) else Pv (i + 1) H3) (hd : ∀ H, Pv n H → Qd H) :
    ∃ W : Nat → Nat → Hp → Prop, (∃ m, W 0 m (L2.upd H1 D (.lst []))) ∧ ∀ i m H, W i m H →
      ((Itr 0 z.toNat).stop i H ∧ Qd H) ∨ ((Itr 0 z.toNat).go i H ∧ ∃ Nx : Hp → Prop, (∀ H', Nx H' → ∃ m', m' < m ∧ W (i + 1) m' H') ∧ ∀ x H', (Itr 0 z.toNat).yld i H x H' → g x (wipe σ vs) H' fun σ2 H2 => wipe σ2 vs = wipe σ vs ∧ tt σ2 H2 fun b H3 =>
        if b = true then te σ2 H3 fun y H4 => ∃ acc, H4 D = some (.lst acc) ∧ acc.length < sizeLine ∧ Nx (L2.upd H4 D (.lst (acc ++ [y]))) else Nx H3) := by
  have e : z.toNat = n := by omega
  rw [e]
  refine lc_range (lo := 0) (n := n) Pv h0 (fun i H hi p => ?_) hd
  rw [Int.zero_add]
  exact hs i H hi p
def mu (N i : Nat) : L2.St → Hp → Nat := fun σ _ => match σ[i]? with
  | some (some (V.int z)) => N - z.toNat
  | _ => 0
def setD (l : List Nat) : List (Key × V) := l.map fun (q : Nat) => (Sum.inl (q : Int), V.bl true)
def insD (l : List Nat) (q : Nat) : List Nat := if q ∈ l then l else l ++ [q]
theorem setD_val (l : List Nat) (q : Nat) : valV (setD l) (Sum.inl (q : Int)) = if q ∈ l then some (V.bl true) else none := by
  induction l with
  | nil => rfl
  | cons a l ih =>
    show valV ((Sum.inl (a : Int), V.bl true) :: setD l) _ = _
    by_cases h : a = q
    · subst h
      rw [valV_pos rfl]; simp
    · rw [valV_neg (by intro e; exact h (Int.ofNat.inj (Sum.inl.inj e))), ih]
      have : ¬ q = a := fun e => h e.symm
      simp [this]
theorem setD_put (l : List Nat) (q : Nat) : putK (setD l) (Sum.inl (q : Int)) (V.bl true) = setD (insD l q) := by
  unfold insD
  by_cases h : q ∈ l
  · rw [if_pos h]
    unfold putK
    rw [valV_any, setD_val, if_pos h]
    show List.map _ _ = _
    unfold setD
    rw [List.map_map]
    apply List.map_congr_left
    intro x hx
    simp
  · rw [if_neg h, putK_new _ (by rw [setD_val, if_neg h])]
    unfold setD
    rw [List.map_append]; rfl
theorem setD_keys (l : List Nat) : ((setD l).map fun kv => kV kv.1) = l.map nV := by
  unfold setD
  rw [List.map_map]; rfl
theorem setD_len (l : List Nat) : (setD l).length = l.length := by unfold setD; rw [List.length_map]
theorem insD_mem {l : List Nat} {q x : Nat} : x ∈ insD l q ↔ x ∈ l ∨ x = q := by
  unfold insD
  split
  · rename_i h
    constructor
    · exact .inl
    · rintro (h1 | rfl)
      · exact h1
      · exact h
  · simp
theorem insD_nd {l : List Nat} {q : Nat} (h : l.Nodup) : (insD l q).Nodup := by
  unfold insD
  split
  · exact h
  · rename_i hq
    rw [List.nodup_append]
    exact ⟨h, by simp, by intro a ha b hb; simp at hb; subst hb; intro e; exact hq (e ▸ ha)⟩
abbrev DS (H : Hp) (a : Addr) (l : List Nat) : Prop := H a = some (.dK (setD l))
theorem ds_get {H : Hp} {a : Addr} {l : List Nat} {q : Nat} (h : DS H a l) : DGet H a (nV q) (if q ∈ l then some (V.bl true) else none) := by
  rw [← setD_val]
  exact DGet.k (k := Sum.inl (q : Int)) h
theorem ds_put {H : Hp} {a : Addr} {l : List Nat} {q : Nat} (h : DS H a l) (hl : l.length < sizeLine) : DPut H a (nV q) (.bl true) (L2.upd H a (.dK (setD (insD l q)))) := by
  rw [← setD_put]
  exact DPut.k (k := Sum.inl (q : Int)) h (by rw [setD_len]; exact hl)
theorem short {l : List Nat} {n : Nat} (h : l.Nodup) (hm : ∀ q ∈ l, q < n) : l.length ≤ n := by
  have := h.length_le_of_subset (l₂ := List.range n) fun q hq => List.mem_range.mpr (hm q hq)
  simpa using this
theorem inV_nat {c : Nat} {l : List Nat} : inV (nV c) (l.map nV) = l.contains c := by
  unfold inV
  rw [List.any_map, List.contains_eq_any_beq]
  congr 1
  funext x
  show ((x : Int) == (c : Int)) = (c == x)
  rw [Bool.eq_iff_iff]
  simp only [beq_iff_eq]
  omega
theorem flat_nat (l : List Nat) : (l.map nV).all flatV = true := by
  rw [List.all_map, List.all_eq_true]
  intro x _; rfl
structure LL (H : Hp) (a : Addr) (ls : List (List Nat)) : Prop where
  ex : ∃ rs : List Addr, H a = some (.lst (rs.map V.ref)) ∧ rs.length = ls.length ∧ ∀ (i : Nat) (r : Addr) (l : List Nat), rs[i]? = some r → ls[i]? = some l → LN H r l
theorem LL.at {H : Hp} {a : Addr} {ls : List (List Nat)} (h : LL H a ls) {i : Nat} {l : List Nat} (e : ls[i]? = some l) : ∃ (xs : List V) (r : Addr), H a = some (.lst xs) ∧ xs.length = ls.length ∧ xs[i]? = some (V.ref r) ∧ LN H r l := by
  obtain ⟨rs, h1, h2, h3⟩ := h
  have hi : i < rs.length := by rw [h2]; exact (List.getElem?_eq_some_iff.mp e).1
  have e2 : rs[i]? = some rs[i] := List.getElem?_eq_getElem hi
  exact ⟨_, rs[i], h1, by rw [List.length_map]; exact h2, by rw [List.getElem?_map, e2]; rfl, h3 i _ l e2 e⟩
theorem LL.same {H H' : Hp} {a : Addr} {ls : List (List Nat)} (h : LL H a ls) (s : Same H H') : LL H' a ls := by
  obtain ⟨rs, h1, h2, h3⟩ := h
  exact ⟨rs, s _ _ h1, h2, fun i r l e1 e2 => s _ _ (h3 i r l e1 e2)⟩
def NewR (H0 H : Hp) (a : Addr) : Prop := ∀ rs : List Addr, H a = some (.lst (rs.map V.ref)) → ∀ r ∈ rs, H0 r = none
theorem refs_inj {rs qs : List Addr} (h : rs.map V.ref = qs.map V.ref) : rs = qs := by
  have := congrArg (List.map fun v => match v with | V.ref a => a | _ => 0) h
  rw [List.map_map, List.map_map] at this
  have e : ((fun v => match v with | V.ref a => a | _ => 0) ∘ V.ref) = (id : Addr → Addr) := rfl
  rw [e] at this
  simpa using this
theorem NewR.mk' {H0 H : Hp} {a : Addr} {rs : List Addr} (h : H a = some (.lst (rs.map V.ref))) (hn : ∀ r ∈ rs, H0 r = none) : NewR H0 H a := by
  intro qs e r hr
  rw [h] at e
  rw [← refs_inj (HO.lst.inj (Option.some.inj e))] at hr
  exact hn r hr
def SameB (a : Addr) (H H' : Hp) : Prop := ∀ b o, b ≠ a → H b = some o → H' b = some o
theorem for_LL {K : PySem.W.Frag} {a : Addr} {rs : List Addr} {ls : List (List Nat)} (hlen : rs.length = ls.length) {g : TG} {tb : TS} {D : Ends} {σ : L2.St} {H : Hp} (Pv : Nat → L2.St → Hp → Prop) (h0 : Pv 0 σ H) (hl : ∀ i σ H, Pv i σ H → H a = some (.lst (rs.map V.ref)))
    (hs : ∀ i r l σ H, rs[i]? = some r → ls[i]? = some l → Pv i σ H → g (.ref r) σ H fun σ2 H2 => tb { D with nx := Pv (i + 1), ct := Pv (i + 1), bk := D.nx } σ2 H2) (hd : ∀ σ H, Pv ls.length σ H → D.nx σ H) :
    ∃ W : Nat → Nat → L2.St → Hp → Prop, (∃ m, W 0 m σ H) ∧ ∀ i m σ H, W i m σ H →
      ((Itl K a).stop i H ∧ D.nx σ H) ∨ ((Itl K a).go i H ∧ ∃ N : L2.St → Hp → Prop, (∀ σ' H', N σ' H' → ∃ m', m' < m ∧ W (i + 1) m' σ' H') ∧ ∀ x H', (Itl K a).yld i H x H' → g x σ H' fun σ2 H2 => tb { D with nx := N, ct := N, bk := D.nx } σ2 H2) :=
  for_list (xs := rs.map V.ref) Pv h0 (fun i σ H _ p => SqL.of (hl i σ H p)) (fun i x σ H hx p => by
    rw [List.getElem?_map] at hx
    obtain ⟨r, h1, rfl⟩ := Option.map_eq_some_iff.mp hx
    have hi := (List.getElem?_eq_some_iff.mp h1).1
    exact hs i r ls[i] σ H h1 (List.getElem?_eq_getElem (by omega)) p) (fun σ H p => hd σ H (by rw [List.length_map, hlen] at p; exact p))
theorem lc_LL {K : PySem.W.Frag} {a : Addr} {rs : List Addr} {ls : List (List Nat)} (hlen : rs.length = ls.length) {g : TG} {tt : TT} {te : TE} {vs : List Nat} {σ : L2.St} {H1 : Hp} {D : Addr} {Qd : Hp → Prop} (Pv : Nat → Hp → Prop) (h0 : Pv 0 (L2.upd H1 D (.lst []))) (hl : ∀ i H, Pv i H → H a = some (.lst (rs.map V.ref)))
    (hs : ∀ i r l H, rs[i]? = some r → ls[i]? = some l → Pv i H → g (.ref r) (wipe σ vs) H fun σ2 H2 => wipe σ2 vs = wipe σ vs ∧ tt σ2 H2 fun b H3 =>
      if b = true then te σ2 H3 fun y H4 => ∃ acc, H4 D = some (.lst acc) ∧ acc.length < sizeLine ∧ Pv (i + 1) (L2.upd H4 D (.lst (acc ++ [y]))) else Pv (i + 1) H3) (hd : ∀ H, Pv ls.length H → Qd H) :
    ∃ W : Nat → Nat → Hp → Prop, (∃ m, W 0 m (L2.upd H1 D (.lst []))) ∧ ∀ i m H, W i m H →
      ((Itl K a).stop i H ∧ Qd H) ∨ ((Itl K a).go i H ∧ ∃ Nx : Hp → Prop, (∀ H', Nx H' → ∃ m', m' < m ∧ W (i + 1) m' H') ∧ ∀ x H', (Itl K a).yld i H x H' → g x (wipe σ vs) H' fun σ2 H2 => wipe σ2 vs = wipe σ vs ∧ tt σ2 H2 fun b H3 =>
        if b = true then te σ2 H3 fun y H4 => ∃ acc, H4 D = some (.lst acc) ∧ acc.length < sizeLine ∧ Nx (L2.upd H4 D (.lst (acc ++ [y]))) else Nx H3) :=
  lc_list (xs := rs.map V.ref) Pv h0 (fun i H _ p => SqL.of (hl i H p)) (fun i x H hx p => by
    rw [List.getElem?_map] at hx
    obtain ⟨r, h1, rfl⟩ := Option.map_eq_some_iff.mp hx
    have hi := (List.getElem?_eq_some_iff.mp h1).1
    exact hs i r ls[i] H h1 (List.getElem?_eq_getElem (by omega)) p) (fun H p => hd H (by rw [List.length_map, hlen] at p; exact p))
theorem for_enum {K : PySem.W.Frag} {a : Addr} {xs : List V} {g : TG} {tb : TS} {D : Ends} {σ : L2.St} {H : Hp} (Pv : Nat → L2.St → Hp → Prop) (h0 : Pv 0 σ H) (hl : ∀ i σ H, Pv i σ H → H a = some (.lst xs))
    (hs : ∀ i x T σ H, xs[i]? = some x → H T = none → Pv i σ H → g (.ref T) σ (L2.upd H T (.tup [nV i, x])) fun σ2 H2 => tb { D with nx := Pv (i + 1), ct := Pv (i + 1), bk := D.nx } σ2 H2) (hd : ∀ σ H, Pv xs.length σ H → D.nx σ H) :
    ∃ W : Nat → Nat → L2.St → Hp → Prop, (∃ m, W 0 m σ H) ∧ ∀ i m σ H, W i m σ H →
      ((Ite K a).stop i H ∧ D.nx σ H) ∨ ((Ite K a).go i H ∧ ∃ N : L2.St → Hp → Prop, (∀ σ' H', N σ' H' → ∃ m', m' < m ∧ W (i + 1) m' σ' H') ∧ ∀ x H', (Ite K a).yld i H x H' → g x σ H' fun σ2 H2 => tb { D with nx := N, ct := N, bk := D.nx } σ2 H2) := by
  refine ⟨fun i m σ H => m = xs.length - i ∧ i ≤ xs.length ∧ Pv i σ H, ⟨xs.length, by simp, Nat.zero_le _, h0⟩, ?_⟩
  rintro i m σ H ⟨rfl, hi, p⟩
  have q := hl i σ H p
  by_cases hlt : i < xs.length
  · have e : xs[i]? = some xs[i] := List.getElem?_eq_getElem hlt
    refine .inr ⟨⟨xs, xs[i], SqL.of q, e⟩, Pv (i + 1), fun σ' H' p' => ⟨xs.length - (i + 1), by omega, rfl, hlt, p'⟩, ?_⟩
    rintro v H' ⟨T, x, rfl, hT, rfl, hx⟩
    exact hs i x T σ H (hx _ (SqL.of q)) hT p
  · have e : i = xs.length := by omega
    subst e
    exact .inl ⟨⟨xs, SqL.of q, Nat.le_refl _⟩, hd σ H p⟩
theorem for_enumLL {K : PySem.W.Frag} {a : Addr} {rs : List Addr} {ls : List (List Nat)} (hlen : rs.length = ls.length) {g : TG} {tb : TS} {D : Ends} {σ : L2.St} {H : Hp} (Pv : Nat → L2.St → Hp → Prop) (h0 : Pv 0 σ H) (hl : ∀ i σ H, Pv i σ H → H a = some (.lst (rs.map V.ref)))
    (hs : ∀ i r l T σ H, rs[i]? = some r → ls[i]? = some l → H T = none → Pv i σ H → g (.ref T) σ (L2.upd H T (.tup [nV i, .ref r])) fun σ2 H2 => tb { D with nx := Pv (i + 1), ct := Pv (i + 1), bk := D.nx } σ2 H2) (hd : ∀ σ H, Pv ls.length σ H → D.nx σ H) :
    ∃ W : Nat → Nat → L2.St → Hp → Prop, (∃ m, W 0 m σ H) ∧ ∀ i m σ H, W i m σ H →
      ((Ite K a).stop i H ∧ D.nx σ H) ∨ ((Ite K a).go i H ∧ ∃ N : L2.St → Hp → Prop, (∀ σ' H', N σ' H' → ∃ m', m' < m ∧ W (i + 1) m' σ' H') ∧ ∀ x H', (Ite K a).yld i H x H' → g x σ H' fun σ2 H2 => tb { D with nx := N, ct := N, bk := D.nx } σ2 H2) :=
  for_enum (xs := rs.map V.ref) Pv h0 hl (fun i x T σ H hx hT p => by
    rw [List.getElem?_map] at hx
    obtain ⟨r, h1, rfl⟩ := Option.map_eq_some_iff.mp hx
    have hi := (List.getElem?_eq_some_iff.mp h1).1
    exact hs i r ls[i] T σ H h1 (List.getElem?_eq_getElem (by omega)) hT p) (fun σ H p => hd σ H (by rw [List.length_map, hlen] at p; exact p))
abbrev LZ (H : Hp) (a : Addr) (l : List Int) : Prop := H a = some (.lst (l.map V.int))
theorem atZ {l : List Int} {i : Nat} {q : Int} (h : l[i]? = some q) : atI (l.map V.int) (i : Int) = some (V.int q) := atI_nat (by rw [List.getElem?_map, h]; rfl)
theorem count_nat {c : Nat} (l : List Nat) : ((l.map nV).countP fun z => eqV z (nV c)) = l.countP fun x => x == c := by
  rw [List.countP_map]
  congr 1
  funext x
  show ((x : Int) == (c : Int)) = (x == c)
  rw [Bool.eq_iff_iff]
  simp only [beq_iff_eq]
  omega
structure Bes (H : Hp) (a : Addr) (n : Nat) : Prop where
  ex : ∃ rows : List Addr, H a = some (.lst (rows.map V.ref)) ∧ rows.length = n * n ∧ ∀ p r, rows[p]? = some r → LN H r (besideM n p)
theorem Bes.same {H H' : Hp} {a : Addr} {n : Nat} (h : Bes H a n) (s : Same H H') : Bes H' a n := by
  obtain ⟨rows, h1, h2, h3⟩ := h
  exact ⟨rows, s _ _ h1, h2, fun p r e => s _ _ (h3 p r e)⟩
theorem Bes.at {K : PySem.W.Frag} {H : Hp} {a : Addr} {n p : Nat} (h : Bes H a n) (hp : p < n * n) : ∃ (r : Addr) (xs : List V), SqL K H a xs ∧ atI xs (p : Int) = some (V.ref r) ∧ LN H r (besideM n p) := by
  obtain ⟨rows, h1, h2, h3⟩ := h
  have e : rows[p]? = some rows[p] := List.getElem?_eq_getElem (by omega)
  exact ⟨rows[p], _, SqL.of h1, atI_nat (by rw [List.getElem?_map, e]; rfl), h3 p _ e⟩
structure Brd (H : Hp) (a : Addr) (n : Nat) (b : Sd46.Board) : Prop where
  at_ : LN H a b
  len : b.length = n * n
theorem Brd.same {H H' : Hp} {a : Addr} {n : Nat} {b : Sd46.Board} (h : Brd H a n b) (s : Same H H') : Brd H' a n b := ⟨s _ _ h.at_, h.len⟩
theorem Brd.sq {K : PySem.W.Frag} {H : Hp} {a : Addr} {n : Nat} {b : Sd46.Board} (h : Brd H a n b) : SqL K H a (b.map nV) := SqL.of h.at_
theorem Brd.ix {H : Hp} {a : Addr} {n p : Nat} {b : Sd46.Board} (h : Brd H a n b) (hp : p < n * n) : atI (b.map nV) (p : Int) = some (nV (Sd46.at_ b p)) := atN (bd_at (by rw [h.len]; exact hp))
structure Txt (K : PySem.W.Frag) (mg : Str → Option Value) : Prop where
  EMPTY : KI mg "EMPTY" (.int 0)
  BLACK : KI mg "BLACK" (.int 1)
  WHITE : KI mg "WHITE" (.int 2)
  SMALLEST : KI mg "SMALLEST" (.int 2)
  LARGEST : KI mg "LARGEST" (.int 19)
  MOST_TURNS : KI mg "MOST_TURNS" (.int 1024)
  DONE : KI mg "DONE" (.int 0)
  NOT_ON_BOARD : KI mg "NOT_ON_BOARD" (.int (-2))
  AT_END : KI mg "AT_END" (.int (-3))
  NO_TURN_YET : KI mg "NO_TURN_YET" (.int (-3))
  TOO_MANY_TURNS : KI mg "TOO_MANY_TURNS" (.int (-4))
  NOT_EMPTY : KI mg "NOT_EMPTY" (.int (-5))
  NO_LIBERTY : KI mg "NO_LIBERTY" (.int (-6))
  BOARD_TWICE : KI mg "BOARD_TWICE" (.int (-7))
  PASSED : KI mg "PASSED" (.int (-1))
  NO_CHAIN : KI mg "NO_CHAIN" (.int (-1))
  ENOUGH : KI mg "ENOUGH" (.int 2)
  LETTERS : KI mg "LETTERS" (.str "abcdefghijklmnopqrs")
  PASS_LENGTH : KI mg "PASS_LENGTH" (.int 4)
  PLAY_LENGTH : KI mg "PLAY_LENGTH" (.int 6)
  AHEAD_OF_LETTERS : KI mg "AHEAD_OF_LETTERS" (.int 3)
  WRONG_SIZE : KI mg "WRONG_SIZE" (.int (-2))
  WRONG_LENGTH : KI mg "WRONG_LENGTH" (.int (-2))
  NO_RECORD : KI mg "NO_RECORD" (.int (-1))
  RECORD_TOO_LONG : KI mg "RECORD_TOO_LONG" (.int (-1))
  TURN_REFUSED : KI mg "TURN_REFUSED" (.int (-100))
  MOST_BYTES : KI mg "MOST_BYTES" (.int 8192)
  PLAY : KI mg "PLAY" (.int 1)
  PASS : KI mg "PASS" (.int 2)
  UNDO : KI mg "UNDO" (.int 3)
  BOARD : KI mg "BOARD" (.int 4)
  GROUP : KI mg "GROUP" (.int 5)
  AREA : KI mg "AREA" (.int 6)
  LIVES : KI mg "LIVES" (.int 7)
  LOAD : KI mg "LOAD" (.int 8)
  len : mg "len" = none
  list : mg "list" = none
  tuple : mg "tuple" = none
  range : mg "range" = none
  enumerate : mg "enumerate" = none
  ord : mg "ord" = none
def RetL (H : Hp) (Q : VK) (φ : List Nat → Prop) : Prop := ∀ (H' : Hp) (a : Addr) (l : List Nat), Same H H' → H a = none → φ l → LN H' a l → Q (.ref a) H'
section
variable {P : Program} {w : World} {K : PySem.W.Frag} {mg : Str → Option Value} {base : Heap}
abbrev s_other : Stmt := top 4
theorem sc_other : FnScope ["colour"] ["colour"] (defScope s_other) := ⟨rfl, rfl, rfl, by decide +kernel, rfl, by decide +kernel, by decide +kernel⟩
def spOther : Sp := fun vs H Q _ => ∃ c : Nat, vs = [nV c] ∧ (c = 1 ∨ c = 2) ∧ Q (nV (Sd46.other c)) H
theorem ok_other (T : Txt K mg) (F : Fd K mg "other" s_other ["colour"]) : Fx P w K mg base 1 "other" ["colour"] spOther := by
  refine F.ok sc_other (fun vs H Q E h => ?_) (fun f cdv A outer s H vs Q E hr h => ?_)
  · obtain ⟨c, rfl, _⟩ := h; rfl
  · obtain ⟨c, rfl, hc, k⟩ := h
    refine ⟨_, (pss_one (ps_ret (pe_ifExp (pt_cmpR op_eq (pv 0) (pk T.BLACK) (nomark _)) (pk T.WHITE) (pk T.BLACK)))), ?_⟩
    refine ⟨_, rfl, rfl, _, rfl, ?_⟩
    rcases hc with rfl | rfl
    · exact iteT k
    · exact iteF k
abbrev s_points_beside : Stmt := top 5
theorem sc_points_beside : FnScope ["size", "point", "x", "beside"] ["size", "point"] (defScope s_points_beside) := ⟨rfl, rfl, rfl, by decide +kernel, rfl, by decide +kernel, by decide +kernel⟩
def spBeside : Sp := fun vs H Q _ => ∃ n p : Nat, vs = [nV n, nV p] ∧ 2 ≤ n ∧ n ≤ 19 ∧ p < n * n ∧ RetL H Q fun l => l = besideM n p
theorem ok_points_beside (T : Txt K mg) (F : Fd K mg "points_beside" s_points_beside ["size", "point"]) : Fx P w K mg base 1 "points_beside" ["size", "point"] spBeside := by
  refine F.ok sc_points_beside (fun vs H Q E h => ?_) (fun f cdv A outer s H vs Q E hr h => ?_)
  · obtain ⟨n, p, rfl, _⟩ := h; rfl
  · obtain ⟨n, p, rfl, h1, h2, hp, k⟩ := h
    refine ⟨_, (pss_cons (ps_set (i := 2) sc_points_beside.nd rfl (Or.inl rfl) (pe_op op_mod (pv 1) (pv 0)))
      (pss_cons (ps_set (i := 3) sc_points_beside.nd rfl (Or.inl rfl) (pe_lst pa_nil))
      (pss_cons (ps_mid (ps_if (pt_cmpR op_gt (pv 2) pe_int (nomark _))
        (pss_one (ps_expr (pe_bm PySem.F.plainAttrs_list PySem.F.slot_list_append PySem.F.type_list_append mt_append (pv 3) (pa_cons (pe_op op_sub (pv 1) pe_int) pa_nil))))
        pss_nil))
      (pss_cons (ps_mid (ps_if (pt_cmpR op_lt (pv 2) (pe_op op_sub (pv 0) pe_int) (nomark _))
        (pss_one (ps_expr (pe_bm PySem.F.plainAttrs_list PySem.F.slot_list_append PySem.F.type_list_append mt_append (pv 3) (pa_cons (pe_op op_add (pv 1) pe_int) pa_nil))))
        pss_nil))
      (pss_cons (ps_mid (ps_if (pt_cmpR op_ge (pv 1) (pv 0) (nomark _))
        (pss_one (ps_expr (pe_bm PySem.F.plainAttrs_list PySem.F.slot_list_append PySem.F.type_list_append mt_append (pv 3) (pa_cons (pe_op op_sub (pv 1) (pv 0)) pa_nil))))
        pss_nil))
      (pss_cons (ps_mid (ps_if (pt_cmpR op_lt (pv 1) (pe_op op_mul (pv 0) (pe_op op_sub (pv 0) pe_int)) (nomark _))
        (pss_one (ps_expr (pe_bm PySem.F.plainAttrs_list PySem.F.slot_list_append PySem.F.type_list_append mt_append (pv 3) (pa_cons (pe_op op_add (pv 1) (pv 0)) pa_nil))))
        pss_nil))
      (pss_one (ps_ret (pv 3))))))))), ?_⟩
    refine ⟨_, rfl, _, rfl, _, _, rfl, rfl, (by show (0 : Int) < (n : Int); omega), Nat.zero_le _, fun a ha => ?_⟩
    have ap : ∀ {l : List Nat} {q : Nat} {v : V} {M : L2.St → Hp → Prop} {σ : L2.St}, v = nV q → l.length < 10 → M σ (L2.upd H a (.lst ((l ++ [q]).map nV))) →
        rAppend (.ref a) [v] (L2.upd H a (.lst (l.map nV))) fun _ H1 => M σ H1 := by
      rintro l q v M σ rfl hl h
      refine ⟨a, _, _, rfl, rfl, upd_same, by rw [List.length_map]; exact small (by omega), ?_⟩
      rw [upd_upd, ← List.map_singleton, ← List.map_append]
      exact h
    have hm : p % n ≤ p := Nat.mod_le _ _
    have hmc : ((p : Int) % (n : Int)) = ((p % n : Nat) : Int) := rfl
    have hmul : (n : Int) * ((n : Int) - 1) = ((n * (n - 1) : Nat) : Int) := by
      rw [Int.natCast_mul, Int.natCast_sub (by omega)]; rfl
    have cat : ∀ (l : List Nat) (c : Prop) [Decidable c] (q : Nat), (l ++ if c then [q] else []) = if c then l ++ [q] else l := by
      intro l c _ q; split <;> simp
    obtain ⟨l1, e1, g1⟩ : ∃ l : List Nat, l = (([] : List Nat) ++ if 0 < p % n then [p - 1] else []) ∧ l.length ≤ 1 := ⟨_, rfl, by rw [cat]; split <;> (try simp only [List.length_append, List.length_nil, List.length_cons]) <;> omega⟩
    refine ⟨fun σ' H' => σ' = [some (nV n), some (nV p), some (V.int ((p : Int) % (n : Int))), some (.ref a)] ∧ H' = L2.upd H a (.lst (l1.map nV)), ?_, ?_⟩
    · refine ⟨_, rfl, _, _, rfl, rfl, _, rfl, ?_⟩
      refine ite2 (fun c => ?_) (fun c => ?_)
      · have c := of_decide_eq_true c
        refine ⟨_, rfl, .inl ⟨rfl, _, SqL.of upd_same⟩, _, rfl, _, _, rfl, rfl, ap (l := ([] : List Nat)) (q := p - 1) (congrArg V.int (by omega)) (by first | omega | decide) ?_⟩
        rw [if_pos (by omega)] at e1
        exact ⟨rfl, by rw [e1]⟩
      · have c := of_decide_eq_false (Bool.not_eq_true _ ▸ c)
        rw [if_neg (by omega)] at e1
        exact ⟨rfl, by rw [e1]; simp⟩
    rintro _ _ ⟨rfl, rfl⟩
    obtain ⟨l2, e2, g2⟩ : ∃ l : List Nat, l = (l1 ++ if p % n < n - 1 then [p + 1] else []) ∧ l.length ≤ 2 := ⟨_, rfl, by rw [cat]; split <;> (try simp only [List.length_append, List.length_nil, List.length_cons]) <;> omega⟩
    refine ⟨fun σ' H' => σ' = [some (nV n), some (nV p), some (V.int ((p : Int) % (n : Int))), some (.ref a)] ∧ H' = L2.upd H a (.lst (l2.map nV)), ?_, ?_⟩
    · refine ⟨_, rfl, _, rfl, _, _, rfl, rfl, _, _, rfl, rfl, _, rfl, ?_⟩
      refine ite2 (fun c => ?_) (fun c => ?_)
      · have c := of_decide_eq_true c
        refine ⟨_, rfl, .inl ⟨rfl, _, SqL.of upd_same⟩, _, rfl, _, _, rfl, rfl, ap (l := l1) (q := p + 1) (congrArg V.int (by omega)) (by first | omega | decide) ?_⟩
        rw [if_pos (by omega)] at e2
        exact ⟨rfl, by rw [e2]⟩
      · have c := of_decide_eq_false (Bool.not_eq_true _ ▸ c)
        rw [if_neg (by omega)] at e2
        exact ⟨rfl, by rw [e2]; simp⟩
    rintro _ _ ⟨rfl, rfl⟩
    obtain ⟨l3, e3, g3⟩ : ∃ l : List Nat, l = (l2 ++ if n ≤ p then [p - n] else []) ∧ l.length ≤ 3 := ⟨_, rfl, by rw [cat]; split <;> (try simp only [List.length_append, List.length_nil, List.length_cons]) <;> omega⟩
    refine ⟨fun σ' H' => σ' = [some (nV n), some (nV p), some (V.int ((p : Int) % (n : Int))), some (.ref a)] ∧ H' = L2.upd H a (.lst (l3.map nV)), ?_, ?_⟩
    · refine ⟨_, rfl, _, rfl, _, _, rfl, rfl, _, rfl, ?_⟩
      refine ite2 (fun c => ?_) (fun c => ?_)
      · have c := of_decide_eq_true c
        refine ⟨_, rfl, .inl ⟨rfl, _, SqL.of upd_same⟩, _, rfl, _, rfl, _, _, rfl, rfl, ap (l := l2) (q := p - n) (congrArg V.int (by omega)) (by first | omega | decide) ?_⟩
        rw [if_pos (by omega)] at e3
        exact ⟨rfl, by rw [e3]⟩
      · have c := of_decide_eq_false (Bool.not_eq_true _ ▸ c)
        rw [if_neg (by omega)] at e3
        exact ⟨rfl, by rw [e3]; simp⟩
    rintro _ _ ⟨rfl, rfl⟩
    obtain ⟨l4, e4, g4⟩ : ∃ l : List Nat, l = (l3 ++ if p < n * (n - 1) then [p + n] else []) ∧ l.length ≤ 4 := ⟨_, rfl, by rw [cat]; split <;> (try simp only [List.length_append, List.length_nil, List.length_cons]) <;> omega⟩
    refine ⟨fun σ' H' => σ' = [some (nV n), some (nV p), some (V.int ((p : Int) % (n : Int))), some (.ref a)] ∧ H' = L2.upd H a (.lst (l4.map nV)), ?_, ?_⟩
    · refine ⟨_, rfl, _, rfl, _, rfl, _, _, rfl, rfl, _, _, rfl, rfl, .inl ⟨by omega, by omega⟩, _, _, rfl, rfl, _, rfl, ?_⟩
      refine ite2 (fun c => ?_) (fun c => ?_)
      · have c := of_decide_eq_true c
        refine ⟨_, rfl, .inl ⟨rfl, _, SqL.of upd_same⟩, _, rfl, _, rfl, _, _, rfl, rfl, ap (l := l3) (q := p + n) (congrArg V.int (by omega)) (by first | omega | decide) ?_⟩
        rw [if_pos (by omega)] at e4
        exact ⟨rfl, by rw [e4]⟩
      · have c := of_decide_eq_false (Bool.not_eq_true _ ▸ c)
        rw [if_neg (by omega)] at e4
        exact ⟨rfl, by rw [e4]; simp⟩
    rintro _ _ ⟨rfl, rfl⟩
    refine ⟨_, rfl, ?_⟩
    refine k _ a l4 (same_new ha) ha ?_ upd_same
    rw [e4, e3, e2, e1]
    unfold besideM
    simp only [List.nil_append, List.append_assoc]
abbrev s_smothered_chain : Stmt := top 6
theorem sc_smothered_chain : FnScope ["stones", "beside", "start", "colour", "chain", "found", "done", "point"] ["stones", "beside", "start"] (defScope s_smothered_chain) := ⟨rfl, rfl, rfl, by decide +kernel, rfl, by decide +kernel, by decide +kernel⟩
def Smothered (n : Nat) (b : Sd46.Board) (p : Nat) (l : List Nat) : Prop := (Sd46.free n b p = true ∧ l = []) ∨ (Sd46.free n b p = false ∧ l.Nodup ∧ ∀ q, q ∈ l ↔ q ∈ Sd46.chain n b p)
def spSmoth : Sp := fun vs H Q _ => ∃ (st bs : Addr) (n p : Nat) (b : Sd46.Board), vs = [.ref st, .ref bs, nV p] ∧ Brd H st n b ∧ Bes H bs n ∧ n ≤ 19 ∧ p < n * n ∧ RetL H Q (Smothered n b p)
theorem ok_smothered_chain (T : Txt K mg) (F : Fd K mg "smothered_chain" s_smothered_chain ["stones", "beside", "start"]) : Fx P w K mg base 1 "smothered_chain" ["stones", "beside", "start"] spSmoth := by
  refine F.ok sc_smothered_chain (fun vs H Q E h => ?_) (fun f cdv A outer s H vs Q E hr h => ?_)
  · obtain ⟨st, bs, n, p, b, rfl, _⟩ := h; rfl
  · obtain ⟨st, bs, n, p, b, rfl, hB, hS, h2, hp, k⟩ := h
    have hu := hu_of hr
    have hnn : n * n ≤ 361 := by have := Nat.mul_le_mul h2 h2; omega
    refine ⟨_, (pss_cons (ps_set (i := 3) sc_smothered_chain.nd rfl (Or.inl rfl) (pe_ix ix_list (pv 0) (pv 2) (fun _ _ => rfl)))
      (pss_cons (ps_set (i := 4) sc_smothered_chain.nd rfl (Or.inl rfl) (pe_lst (pa_cons (pv 2) pa_nil)))
      (pss_cons (ps_set (i := 5) sc_smothered_chain.nd rfl (Or.inl rfl) (pe_disp (pps_cons (pv 2) pe_bl pps_nil) rfl rfl (by simp) (by decide)))
      (pss_cons (ps_set (i := 6) sc_smothered_chain.nd rfl (Or.inl rfl) pe_int)
      (pss_cons (ps_while PassesOwn.never (pt_cmpR op_lt (pv 6) (pe_callB call_len_seq (by rfl) T.len PySem.boot_len (pa_cons (pv 4) pa_nil)) (nomark _))
        (pss_cons (ps_for PassesOwn.never rfl (pi_list (pe_ix ix_list (pv 1) (pe_ix ix_list (pv 4) (pv 6) (fun _ _ => rfl)) (fun _ _ => rfl))) (pg_name (i := 7) sc_smothered_chain.nd rfl (Or.inl rfl))
        (pss_cons (ps_if (pt_cmpR op_eq (pe_ix ix_list (pv 0) (pv 7) (fun _ _ => rfl)) (pk T.EMPTY) (nomark _))
        (pss_one (ps_ret (pe_lst pa_nil)))
        pss_nil)
      (pss_one (ps_if (pw_and (pt_cmpR op_eq (pe_ix ix_list (pv 0) (pv 7) (fun _ _ => rfl)) (pv 3) (nomark _)) (pw_and1 (pt_cmp (pc_dnotin hu (pv 7) (pv 5))))).pt
        (pss_cons (ps_dput hu (pv 5) (pv 7) pe_bl rfl)
      (pss_one (ps_expr (pe_bm PySem.F.plainAttrs_list PySem.F.slot_list_append PySem.F.type_list_append mt_append (pv 4) (pa_cons (pv 7) pa_nil)))))
        pss_nil))))
      (pss_one (ps_aug (i := 6) sc_smothered_chain.nd rfl (Or.inl rfl) pe_int ip_add))))
      (pss_one (ps_ret (pv 4)))))))), ?_⟩
    refine ⟨_, rfl, _, rfl, _, _, _, _, rfl, rfl, hB.sq, hB.ix hp, ?_⟩
    refine ⟨_, rfl, (by show 1 ≤ sizeLine; decide), fun c hc => ?_⟩
    intro d hd
    refine ⟨_, rfl, upd_same, [(Sum.inl (p : Int), V.bl true)], rfl, (by show 1 ≤ 15; decide), ?_⟩
    have hd' : H d = none := by
      have : d ≠ c := fun e => by rw [e, upd_same] at hd; cases hd
      rw [upd_ne this] at hd; exact hd
    have hcd : c ≠ d := fun e => by rw [← e, upd_same] at hd; cases hd
    have s1 : Same H (L2.upd (L2.upd (L2.upd H c (.lst [nV p])) d (.dK [])) d (.dK (mergeK [] [(Sum.inl (p : Int), V.bl true)]))) := ((same_new hc).upd hd').upd hd'
    refine while_by (fun σ H' => ∃ (C : List Nat) (j : Nat) (v : Option V), σ = [some (.ref st), some (.ref bs), some (nV p), some (nV (Sd46.at_ b p)), some (.ref c), some (.ref d), some (nV j), v] ∧ Same H H' ∧ LN H' c C ∧ DS H' d C ∧ Search n b p C j)
      (mu (n * n + 1) 6) ?_ ?_ mono_lt_len
    · refine ⟨[p], 0, none, rfl, s1, ?_, ?_, Search.start hp⟩
      · exact upd_lst (upd_lst upd_same hcd) hcd
      · exact upd_same
    · rintro σ H1 ⟨C, j, v, rfl, sm, hC, hD, hS1⟩
      refine ⟨_, rfl, _, rfl, c, _, rfl, .inl (SqL.of hC), _, _, rfl, rfl, _, rfl, ?_⟩
      have hCl := hS1.length_le hp
      refine ite2 (fun q => ?_) (fun q => ?_)
      · have q := of_decide_eq_true q
        rw [List.length_map] at q
        have hj : j < C.length := by omega
        have hx : C[j]? = some C[j] := List.getElem?_eq_getElem hj
        have hxn : C[j] < n * n := chain_lt hp (hS1.sub _ (List.getElem_mem hj))
        obtain ⟨r, xs, g1, g2, g3⟩ := hS.at (K := K) hxn
        refine ⟨_, rfl, _, rfl, _, rfl, c, _, _, _, rfl, rfl, SqL.of hC, atN hx, bs, xs, _, _, rfl, rfl, sm.seq g1, g2, r, rfl, ⟨_, SqL.of (sm _ _ g3)⟩, ?_⟩
        refine for_nats (l := besideM n C[j]) (fun i σ H' => ∃ (C' : List Nat) (v : Option V), σ = [some (.ref st), some (.ref bs), some (nV p), some (nV (Sd46.at_ b p)), some (.ref c), some (.ref d), some (nV j), v] ∧ Same H H' ∧ LN H' c C' ∧ DS H' d C' ∧ Within n b p C' j C[j] i)
          ⟨C, v, rfl, sm, hC, hD, hS1.within hx⟩ (fun i σ H' ⟨_, _, _, sm', _⟩ => sm' _ _ g3) ?_ ?_
        · rintro i q σ H2 hq ⟨C', v', rfl, sm', hC', hD', hW⟩
          have hqn : q < n * n := near_lt hxn ((mem_besideM hxn).mp (List.mem_of_getElem? hq))
          have hB' := hB.same sm'
          have hCl' := hW.s.length_le hp
          refine ⟨_, rfl, _, rfl, _, _, _, _, rfl, rfl, hB'.sq, hB'.ix hqn, rfl, _, rfl, ?_⟩
          rw [show (V.int 0 : V) = nV 0 from rfl, nV_dec]
          refine ite2 (fun e => ?_) (fun e => ?_)
          · refine ⟨Nat.zero_le _, fun l hl => ?_⟩
            exact k _ l [] (sm'.upd (sm'.free hl)) (sm'.free hl) (.inl ⟨hW.free hp hq (of_decide_eq_true e), rfl⟩) upd_same
          · have e := of_decide_eq_false (Bool.not_eq_true _ ▸ e)
            refine ⟨_, rfl, _, rfl, _, _, _, _, rfl, rfl, hB'.sq, hB'.ix hqn, _, rfl, rfl, _, rfl, ?_⟩
            rw [nV_dec]
            refine ite2 (fun e1 => ?_) (fun e1 => ?_)
            · have e1 := of_decide_eq_true e1
              refine ⟨_, rfl, _, rfl, d, _, rfl, ds_get hD', _, rfl, ?_⟩
              by_cases hm : q ∈ C'
              · rw [if_pos hm]
                exact iteF ⟨C', _, rfl, sm', hC', hD', hW.skip hq e (fun _ => hm)⟩
              · rw [if_neg hm]
                refine iteT ?_
                refine ⟨_, rfl, _, rfl, d, _, rfl, ds_put hD' (small (by omega)), ?_⟩
                refine ⟨_, rfl, .inl ⟨rfl, _, SqL.of (upd_lst hC' hcd)⟩, _, rfl, c, _, _, rfl, rfl, upd_lst hC' hcd, by rw [List.length_map]; exact small (by omega), ?_⟩
                have ei : insD C' q = C' ++ [q] := by unfold insD; rw [if_neg hm]
                refine ⟨C' ++ [q], _, rfl, (sm'.upd hd').upd hc, ?_, ?_, hW.put hp hq e e1 hm⟩
                · show L2.upd _ _ _ _ = _
                  rw [upd_same, List.map_append]; rfl
                · show L2.upd _ _ _ _ = _
                  rw [upd_ne hcd.symm, upd_same, ei]
            · have e1 := of_decide_eq_false (Bool.not_eq_true _ ▸ e1)
              exact iteF ⟨C', _, rfl, sm', hC', hD', hW.skip hq e (fun x => absurd x e1)⟩
        · rintro σ H2 ⟨C', v', rfl, sm', hC', hD', hW⟩
          refine ⟨_, rfl, _, _, rfl, rfl, ?_⟩
          refine ⟨⟨C', j + 1, _, rfl, sm', hC', hD', hW.done hp⟩, ?_⟩
          show n * n + 1 - ((j : Int) + 1).toNat < n * n + 1 - (j : Int).toNat
          omega
      · have q := of_decide_eq_false (Bool.not_eq_true _ ▸ q)
        rw [List.length_map] at q
        have hj : j = C.length := by have := hS1.le; omega
        subst hj
        obtain ⟨a1, a2⟩ := hS1.all hp
        exact ⟨_, rfl, k _ c C sm hc (.inr ⟨a2, hS1.nd, a1⟩) hC⟩
end
section
variable {P : Program} {w : World} {K : PySem.W.Frag} {mg : Str → Option Value} {base : Heap}
abbrev s_smothered_beside : Stmt := top 7
theorem sc_smothered_beside : FnScope ["stones", "beside", "start", "colour", "smothered", "point", "lost"] ["stones", "beside", "start", "colour"] (defScope s_smothered_beside) := ⟨rfl, rfl, rfl, by decide +kernel, rfl, by decide +kernel, by decide +kernel⟩
def spSmoB : Sp := fun vs H Q _ => ∃ (st bs : Addr) (n p o : Nat) (b : Sd46.Board), vs = [.ref st, .ref bs, nV p, nV o] ∧ Brd H st n b ∧ Bes H bs n ∧ n ≤ 19 ∧ p < n * n ∧ RetL H Q (Smo n b o p (besideM n p).length)
theorem ok_smothered_beside (T : Txt K mg) (F : Fd K mg "smothered_beside" s_smothered_beside ["stones", "beside", "start", "colour"]) (G_smothered_chain : Fx P w K mg base 1 "smothered_chain" ["stones", "beside", "start"] spSmoth) : Fx P w K mg base 2 "smothered_beside" ["stones", "beside", "start", "colour"] spSmoB := by
  refine F.ok sc_smothered_beside (fun vs H Q E h => ?_) (fun f cdv A outer s H vs Q E hr h => ?_)
  · obtain ⟨st, bs, n, p, o, b, rfl, _⟩ := h; rfl
  · obtain ⟨st, bs, n, p, o, b, rfl, hB, hS, h2, hp, k⟩ := h
    have hu := hu_of hr
    have hnn : n * n ≤ 361 := by have := Nat.mul_le_mul h2 h2; omega
    refine ⟨_, (pss_cons (ps_set (i := 4) sc_smothered_beside.nd rfl (Or.inl rfl) pe_dnewK)
      (pss_cons (ps_for PassesOwn.never rfl (pi_list (pe_ix ix_list (pv 1) (pv 2) (fun _ _ => rfl))) (pg_name (i := 5) sc_smothered_beside.nd rfl (Or.inl rfl))
        (pss_one (ps_if (pw_and (pt_cmpR op_eq (pe_ix ix_list (pv 0) (pv 5) (fun _ _ => rfl)) (pv 3) (nomark _)) (pw_and1 (pt_cmp (pc_dnotin hu (pv 5) (pv 4))))).pt
        (pss_one (ps_for PassesOwn.never rfl (pi_list (pcall G_smothered_chain (hr.mono (by decide)) (pa_cons (pv 0) (pa_cons (pv 1) (pa_cons (pv 5) pa_nil))))) (pg_name (i := 6) sc_smothered_beside.nd rfl (Or.inl rfl))
        (pss_one (ps_dput hu (pv 4) (pv 6) pe_bl rfl))))
        pss_nil)))
      (pss_one (ps_ret (pe_callTy (call_list_dict hr.hd) (by rfl) T.list boot_list (pa_cons (pv 4) pa_nil)))))), ?_⟩
    intro d hd
    obtain ⟨r, xs, g1, g2, g3⟩ := hS.at (K := K) hp
    have s1 : Same H (L2.upd H d (.dK [])) := same_new hd
    refine ⟨_, rfl, _, rfl, bs, xs, _, _, rfl, rfl, s1.seq g1, g2, r, rfl, ⟨_, SqL.of (s1 _ _ g3)⟩, ?_⟩
    refine for_nats (l := besideM n p) (fun i σ H' => ∃ (L : List Nat) (v v' : Option V), σ = [some (.ref st), some (.ref bs), some (nV p), some (nV o), some (.ref d), v, v'] ∧ Same H H' ∧ DS H' d L ∧ Smo n b o p i L)
      ⟨[], none, none, rfl, s1, upd_same, .start⟩ (fun i σ H' ⟨_, _, _, _, sm', _⟩ => sm' _ _ g3) ?_ ?_
    · rintro i q σ H2 hq ⟨L, v, v', rfl, sm, hD, hW⟩
      have hqn : q < n * n := near_lt hp ((mem_besideM hp).mp (List.mem_of_getElem? hq))
      have hB' := hB.same sm
      refine ⟨_, rfl, _, rfl, _, _, _, _, rfl, rfl, hB'.sq, hB'.ix hqn, _, rfl, rfl, _, rfl, ?_⟩
      rw [nV_dec]
      refine ite2 (fun e1 => ?_) (fun e1 => ?_)
      · have e1 := of_decide_eq_true e1
        refine ⟨_, rfl, _, rfl, d, _, rfl, ds_get hD, _, rfl, ?_⟩
        by_cases hm : q ∈ L
        · rw [if_pos hm]
          exact iteF ⟨L, _, _, rfl, sm, hD, hW.old hp hq hm⟩
        · rw [if_neg hm]
          refine iteT ?_
          refine ⟨_, rfl, _, rfl, _, rfl, st, bs, n, q, b, rfl, hB', hS.same sm, h2, hqn, fun H3 a M s3 ha hM hLN => ?_⟩
          have key : Smo n b o p (i + 1) (L ++ M) ∧ M.Nodup ∧ (∀ x ∈ M, x < n * n) ∧ ∀ x ∈ M, x ∉ L := by
            rcases hM with ⟨f1, rfl⟩ | ⟨f1, f2, f3⟩
            · refine ⟨?_, by simp, by simp, by simp⟩
              rw [List.append_nil]
              exact hW.skip hq (fun z => by rw [z.2] at f1; cases f1)
            · exact ⟨hW.add hp hq ⟨e1, f1⟩ hm f2 f3, f2, fun x hx => chain_lt hqn ((f3 x).mp hx), fun x hx => hW.apart hp hq hm ((f3 x).mp hx)⟩
          obtain ⟨kk, m1, m2, m3⟩ := key
          refine ⟨a, rfl, ⟨_, SqL.of hLN⟩, ?_⟩
          have hda : d ≠ a := ne_of_none hD ha
          have hLn := short kk.nd (kk.lt hp)
          refine for_nats (l := M) (fun i' σ H' => ∃ (v' : Option V), σ = [some (.ref st), some (.ref bs), some (nV p), some (nV o), some (.ref d), some (nV q), v'] ∧ Same H H' ∧ DS H' d (L ++ M.take i') ∧ LN H' a M)
            ⟨_, rfl, sm.trans s3, by rw [List.take_zero, List.append_nil]; exact s3 _ _ hD, hLN⟩ (fun i σ H' ⟨_, _, _, _, z⟩ => z) ?_ ?_
          · rintro i' x σ H4 hx ⟨v4, rfl, sm4, hD4, hL4⟩
            have hnot : x ∉ L ++ M.take i' := by
              intro hh
              rcases List.mem_append.mp hh with hh | hh
              · exact m3 x (List.mem_of_getElem? hx) hh
              · obtain ⟨t, ht, e⟩ := List.mem_take_iff_getElem.mp hh
                have ht' : M[t]? = some x := by rw [← e]; exact List.getElem?_eq_getElem (by omega)
                have := nd_ix m1 ht' hx
                omega
            have ei : insD (L ++ M.take i') x = L ++ M.take (i' + 1) := by
              unfold insD
              rw [if_neg hnot, take_snoc' hx, List.append_assoc]
            refine ⟨_, rfl, _, rfl, d, _, rfl, ds_put hD4 (small (by rw [List.length_append] at hLn ⊢; rw [List.length_take]; omega)), ?_⟩
            refine ⟨_, rfl, sm4.upd hd, ?_, ?_⟩
            · rw [ei]; exact upd_same
            · exact upd_lst hL4 hda.symm
          · rintro σ H4 ⟨v4, rfl, sm4, hD4, hL4⟩
            rw [List.take_length] at hD4
            exact ⟨_, _, _, rfl, sm4, hD4, kk⟩
      · have e1 := of_decide_eq_false (Bool.not_eq_true _ ▸ e1)
        exact iteF ⟨L, _, _, rfl, sm, hD, hW.skip hq (fun z => e1 z.1)⟩
    · rintro σ H2 ⟨L, v, v', rfl, sm, hD, hW⟩
      refine ⟨_, rfl, d, _, rfl, hD, fun l hl => ?_⟩
      refine k _ l L (sm.upd (sm.free hl)) (sm.free hl) hW ?_
      show L2.upd _ _ _ _ = _
      rw [upd_same, setD_keys]
end
section
variable {P : Program} {w : World} {K : PySem.W.Frag} {mg : Str → Option Value} {base : Heap}
def okc (b : Sd46.Board) (cl : List Nat) : Nat → Bool := fun q => cl.contains (Sd46.at_ b q)
abbrev s_part_at : Stmt := top 8
theorem sc_part_at : FnScope ["stones", "beside", "start", "colours", "part", "found", "done", "point"] ["stones", "beside", "start", "colours"] (defScope s_part_at) := ⟨rfl, rfl, rfl, by decide +kernel, rfl, by decide +kernel, by decide +kernel⟩
def Part (n : Nat) (ok : Nat → Bool) (p : Nat) (l : List Nat) : Prop := l.Nodup ∧ ∀ q, q ∈ l ↔ Rch n ok p q
def spPart : Sp := fun vs H Q _ => ∃ (st bs cs : Addr) (n p : Nat) (b : Sd46.Board) (cl : List Nat), vs = [.ref st, .ref bs, nV p, .ref cs] ∧ Brd H st n b ∧ Bes H bs n ∧ H cs = some (.tup (cl.map nV)) ∧ n ≤ 19 ∧ p < n * n ∧ RetL H Q (Part n (okc b cl) p)
theorem ok_part_at (T : Txt K mg) (F : Fd K mg "part_at" s_part_at ["stones", "beside", "start", "colours"]) : Fx P w K mg base 1 "part_at" ["stones", "beside", "start", "colours"] spPart := by
  refine F.ok sc_part_at (fun vs H Q E h => ?_) (fun f cdv A outer s H vs Q E hr h => ?_)
  · obtain ⟨st, bs, cs, n, p, b, cl, rfl, _⟩ := h; rfl
  · obtain ⟨st, bs, cs, n, p, b, cl, rfl, hB, hS, hT, h2, hp, k⟩ := h
    have hu := hu_of hr
    have hnn : n * n ≤ 361 := by have := Nat.mul_le_mul h2 h2; omega
    refine ⟨_, (pss_cons (ps_set (i := 4) sc_part_at.nd rfl (Or.inl rfl) (pe_lst (pa_cons (pv 2) pa_nil)))
      (pss_cons (ps_set (i := 5) sc_part_at.nd rfl (Or.inl rfl) (pe_disp (pps_cons (pv 2) pe_bl pps_nil) rfl rfl (by simp) (by decide)))
      (pss_cons (ps_set (i := 6) sc_part_at.nd rfl (Or.inl rfl) pe_int)
      (pss_cons (ps_while PassesOwn.never (pt_cmpR op_lt (pv 6) (pe_callB call_len_seq (by rfl) T.len PySem.boot_len (pa_cons (pv 4) pa_nil)) (nomark _))
        (pss_cons (ps_for PassesOwn.never rfl (pi_list (pe_ix ix_list (pv 1) (pe_ix ix_list (pv 4) (pv 6) (fun _ _ => rfl)) (fun _ _ => rfl))) (pg_name (i := 7) sc_part_at.nd rfl (Or.inl rfl))
        (pss_one (ps_if (pw_and (pt_cmp (pc_dnotin hu (pv 7) (pv 5))) (pw_and1 (pt_cmpR op_in_seq (pe_ix ix_list (pv 0) (pv 7) (fun _ _ => rfl)) (pv 3) (by with_unfolding_all rfl)))).pt
        (pss_cons (ps_dput hu (pv 5) (pv 7) pe_bl rfl)
      (pss_one (ps_expr (pe_bm PySem.F.plainAttrs_list PySem.F.slot_list_append PySem.F.type_list_append mt_append (pv 4) (pa_cons (pv 7) pa_nil)))))
        pss_nil)))
      (pss_one (ps_aug (i := 6) sc_part_at.nd rfl (Or.inl rfl) pe_int ip_add))))
      (pss_one (ps_ret (pv 4))))))), ?_⟩
    refine ⟨_, rfl, (by show 1 ≤ sizeLine; decide), fun c hc => ?_⟩
    intro d hd
    refine ⟨_, rfl, upd_same, [(Sum.inl (p : Int), V.bl true)], rfl, (by show 1 ≤ 15; decide), ?_⟩
    have hd' : H d = none := (same_new hc).free hd
    have hcd : c ≠ d := fun e => by rw [← e, upd_same] at hd; cases hd
    have s1 : Same H (L2.upd (L2.upd (L2.upd H c (.lst [nV p])) d (.dK [])) d (.dK (mergeK [] [(Sum.inl (p : Int), V.bl true)]))) := ((same_new hc).upd hd').upd hd'
    refine while_by (fun σ H' => ∃ (C : List Nat) (j : Nat) (v : Option V), σ = [some (.ref st), some (.ref bs), some (nV p), some (.ref cs), some (.ref c), some (.ref d), some (nV j), v] ∧ Same H H' ∧ LN H' c C ∧ DS H' d C ∧ Flood n (okc b cl) p C j)
      (mu (n * n + 1) 6) ?_ ?_ mono_lt_len
    · refine ⟨[p], 0, none, rfl, s1, ?_, ?_, Flood.start⟩
      · exact upd_lst (upd_lst upd_same hcd) hcd
      · exact upd_same
    · rintro σ H1 ⟨C, j, v, rfl, sm, hC, hD, hS1⟩
      refine ⟨_, rfl, _, rfl, c, _, rfl, .inl (SqL.of hC), _, _, rfl, rfl, _, rfl, ?_⟩
      have hCl := hS1.length_le hp
      refine ite2 (fun q => ?_) (fun q => ?_)
      · have q := of_decide_eq_true q
        rw [List.length_map] at q
        have hj : j < C.length := by omega
        have hx : C[j]? = some C[j] := List.getElem?_eq_getElem hj
        have hxn : C[j] < n * n := (hS1.sub _ (List.getElem_mem hj)).lt hp
        obtain ⟨r, xs, g1, g2, g3⟩ := hS.at (K := K) hxn
        refine ⟨_, rfl, _, rfl, _, rfl, c, _, _, _, rfl, rfl, SqL.of hC, atN hx, bs, xs, _, _, rfl, rfl, sm.seq g1, g2, r, rfl, ⟨_, SqL.of (sm _ _ g3)⟩, ?_⟩
        refine for_nats (l := besideM n C[j]) (fun i σ H' => ∃ (C' : List Nat) (v : Option V), σ = [some (.ref st), some (.ref bs), some (nV p), some (.ref cs), some (.ref c), some (.ref d), some (nV j), v] ∧ Same H H' ∧ LN H' c C' ∧ DS H' d C' ∧ FloodIn n (okc b cl) p C' j C[j] i)
          ⟨C, v, rfl, sm, hC, hD, hS1.within hx⟩ (fun i σ H' ⟨_, _, _, sm', _⟩ => sm' _ _ g3) ?_ ?_
        · rintro i q σ H2 hq ⟨C', v', rfl, sm', hC', hD', hW⟩
          have hqn : q < n * n := near_lt hxn ((mem_besideM hxn).mp (List.mem_of_getElem? hq))
          have hB' := hB.same sm'
          have hCl' := hW.s.length_le hp
          refine ⟨_, rfl, _, rfl, d, _, rfl, ds_get hD', _, rfl, ?_⟩
          by_cases hm : q ∈ C'
          · rw [if_pos hm]
            refine iteF ?_
            exact iteF ⟨C', _, rfl, sm', hC', hD', hW.skip hq (fun _ => hm)⟩
          · rw [if_neg hm]
            refine iteT ?_
            refine ⟨_, rfl, _, rfl, _, _, _, _, rfl, rfl, hB'.sq, hB'.ix hqn, _, rfl, cs, _, rfl, .inr (SqT.of (sm' _ _ hT)), rfl, flat_nat _, _, rfl, ?_⟩
            show if inV _ _ = true then _ else _
            rw [inV_nat]
            refine ite2 (fun e => ?_) (fun e => ?_)
            · refine ⟨_, rfl, _, rfl, d, _, rfl, ds_put hD' (small (by omega)), ?_⟩
              refine ⟨_, rfl, .inl ⟨rfl, _, SqL.of (upd_lst hC' hcd)⟩, _, rfl, c, _, _, rfl, rfl, upd_lst hC' hcd, by rw [List.length_map]; exact small (by omega), ?_⟩
              have ei : insD C' q = C' ++ [q] := by unfold insD; rw [if_neg hm]
              refine ⟨C' ++ [q], _, rfl, (sm'.upd hd').upd hc, ?_, ?_, hW.put hp hq e hm⟩
              · show L2.upd _ _ _ _ = _
                rw [upd_same, List.map_append]; rfl
              · show L2.upd _ _ _ _ = _
                rw [upd_ne hcd.symm, upd_same, ei]
            · exact ⟨C', _, rfl, sm', hC', hD', hW.skip hq (fun x => absurd x e)⟩
        · rintro σ H2 ⟨C', v', rfl, sm', hC', hD', hW⟩
          refine ⟨_, rfl, _, _, rfl, rfl, ?_⟩
          refine ⟨⟨C', j + 1, _, rfl, sm', hC', hD', hW.done hp⟩, ?_⟩
          show n * n + 1 - ((j : Int) + 1).toNat < n * n + 1 - (j : Int).toNat
          omega
      · have q := of_decide_eq_false (Bool.not_eq_true _ ▸ q)
        rw [List.length_map] at q
        have hj : j = C.length := by have := hS1.le; omega
        subst hj
        exact ⟨_, rfl, k _ c C sm hc ⟨hS1.nd, hS1.all hp⟩ hC⟩
structure Parts (n : Nat) (ok : Nat → Bool) (i : Nat) (ls : List (List Nat)) : Prop where
  is : ∀ l ∈ ls, ∃ p, p < n * n ∧ ok p = true ∧ Part n ok p l
  all : ∀ p, p < i → ok p = true → ∃ l ∈ ls, p ∈ l
  ap : ∀ (j m : Nat) (l l' : List Nat) (q : Nat), ls[j]? = some l → ls[m]? = some l' → q ∈ l → q ∈ l' → j = m
theorem Parts.skip {n i : Nat} {ok : Nat → Bool} {ls : List (List Nat)} (h : Parts n ok i ls) (hi : ok i = true → ∃ l ∈ ls, i ∈ l) : Parts n ok (i + 1) ls :=
  ⟨h.is, fun p hp ho => by
    rcases Nat.lt_succ_iff_lt_or_eq.mp hp with hp | rfl
    · exact h.all p hp ho
    · exact hi ho, h.ap⟩
theorem Parts.apart {n i : Nat} {ok : Nat → Bool} {ls : List (List Nat)} {l : List Nat} (h : Parts n ok i ls) (hin : i < n * n) (ho : ok i = true) (hl : Part n ok i l) (hno : ∀ l' ∈ ls, i ∉ l') : ∀ l' ∈ ls, ∀ q ∈ l', q ∉ l := by
  intro l' hl' q hq hq'
  obtain ⟨p, hp, hop, hl2⟩ := h.is l' hl'
  exact hno l' hl' ((hl2.2 i).mpr (((hl2.2 q).mp hq).trans (((hl.2 q).mp hq').symm hin ho)))
theorem Parts.add {n i : Nat} {ok : Nat → Bool} {ls : List (List Nat)} {l : List Nat} (h : Parts n ok i ls) (hin : i < n * n) (ho : ok i = true) (hl : Part n ok i l) (hno : ∀ l' ∈ ls, i ∉ l') : Parts n ok (i + 1) (ls ++ [l]) := by
  have ap := h.apart hin ho hl hno
  have ix : ∀ (j : Nat) (m : List Nat), (ls ++ [l])[j]? = some m → (ls[j]? = some m) ∨ (j = ls.length ∧ m = l) := by
    intro j m e
    rcases Nat.lt_or_ge j ls.length with z | z
    · rw [List.getElem?_append_left z] at e; exact .inl e
    · rw [List.getElem?_append_right z] at e
      have : j - ls.length = 0 := by
        rcases Nat.eq_zero_or_pos (j - ls.length) with y | y
        · exact y
        · rw [List.getElem?_eq_none (by simp; omega)] at e; cases e
      rw [this] at e
      exact .inr ⟨by omega, (Option.some.inj e).symm⟩
  refine ⟨fun m hm => ?_, fun p hp hop => ?_, fun j m a a' q e1 e2 h1 h2 => ?_⟩
  · rcases List.mem_append.mp hm with hm | hm
    · exact h.is m hm
    · rw [List.mem_singleton.mp hm]; exact ⟨i, hin, ho, hl⟩
  · rcases Nat.lt_succ_iff_lt_or_eq.mp hp with hp | rfl
    · obtain ⟨m, hm, hpm⟩ := h.all p hp hop
      exact ⟨m, List.mem_append_left _ hm, hpm⟩
    · exact ⟨l, by simp, (hl.2 p).mpr .base⟩
  · rcases ix j a e1 with f1 | ⟨f1, g1⟩
    · rcases ix m a' e2 with f2 | ⟨f2, g2⟩
      · exact h.ap j m a a' q f1 f2 h1 h2
      · exact absurd (g2 ▸ h2) (ap a (List.mem_of_getElem? f1) q h1)
    · rcases ix m a' e2 with f2 | ⟨f2, g2⟩
      · exact absurd (g1 ▸ h1) (ap a' (List.mem_of_getElem? f2) q h2)
      · omega
theorem Parts.lt {n i : Nat} {ok : Nat → Bool} {ls : List (List Nat)} (h : Parts n ok i ls) : ∀ l ∈ ls, ∀ q ∈ l, q < n * n := by
  intro l hl q hq
  obtain ⟨p, hp, _, h1⟩ := h.is l hl
  exact ((h1.2 q).mp hq).lt hp
theorem Parts.nonempty {n i : Nat} {ok : Nat → Bool} {ls : List (List Nat)} (h : Parts n ok i ls) : ∀ l ∈ ls, ∃ q, q ∈ l ∧ q < n * n := by
  intro l hl
  obtain ⟨p, hp, _, h1⟩ := h.is l hl
  exact ⟨p, (h1.2 p).mpr .base, hp⟩
theorem Parts.few {n i : Nat} {ok : Nat → Bool} {ls : List (List Nat)} (h : Parts n ok i ls) : ls.length ≤ n * n := by
  have hd : ∀ l ∈ ls, l.headD 0 ∈ l ∧ l.headD 0 < n * n := by
    intro l hl
    obtain ⟨q, hq, _⟩ := h.nonempty l hl
    cases l with
    | nil => cases hq
    | cons a l => exact ⟨by simp, h.lt _ hl a (by simp)⟩
  have := short (l := ls.map fun l => l.headD 0) (n := n * n) ?_ ?_
  · rw [List.length_map] at this; exact this
  · refine List.pairwise_iff_getElem.mpr fun j m hj hm hjm e => ?_
    rw [List.length_map] at hm
    have e1 : ls[j]? = some ls[j] := List.getElem?_eq_getElem (by omega)
    have e2 : ls[m]? = some ls[m] := List.getElem?_eq_getElem (by omega)
    rw [List.getElem_map, List.getElem_map] at e
    have := h.ap j m _ _ (ls[j].headD 0) e1 e2 (hd _ (List.mem_of_getElem? e1)).1 (by rw [e]; exact (hd _ (List.mem_of_getElem? e2)).1)
    omega
  · intro q hq
    obtain ⟨l, hl, rfl⟩ := List.mem_map.mp hq
    exact (hd l hl).2
def RetLL (H : Hp) (Q : VK) (φ : List (List Nat) → Prop) : Prop := ∀ (H' : Hp) (a : Addr) (ls : List (List Nat)), Same H H' → H a = none → φ ls → LL H' a ls → NewR H H' a → Q (.ref a) H'
abbrev s_all_parts : Stmt := top 9
theorem sc_all_parts : FnScope ["stones", "beside", "colours", "found", "parts", "start", "part", "point"] ["stones", "beside", "colours"] (defScope s_all_parts) := ⟨rfl, rfl, rfl, by decide +kernel, rfl, by decide +kernel, by decide +kernel⟩
def spParts : Sp := fun vs H Q _ => ∃ (st bs cs : Addr) (n : Nat) (b : Sd46.Board) (cl : List Nat), vs = [.ref st, .ref bs, .ref cs] ∧ Brd H st n b ∧ Bes H bs n ∧ H cs = some (.tup (cl.map nV)) ∧ n ≤ 19 ∧ RetLL H Q (Parts n (okc b cl) (n * n))
theorem ok_all_parts (T : Txt K mg) (F : Fd K mg "all_parts" s_all_parts ["stones", "beside", "colours"]) (G_part_at : Fx P w K mg base 1 "part_at" ["stones", "beside", "start", "colours"] spPart) : Fx P w K mg base 2 "all_parts" ["stones", "beside", "colours"] spParts := by
  refine F.ok sc_all_parts (fun vs H Q E h => ?_) (fun f cdv A outer s H vs Q E hr h => ?_)
  · obtain ⟨st, bs, cs, n, b, cl, rfl, _⟩ := h; rfl
  · obtain ⟨st, bs, cs, n, b, cl, rfl, hB, hS, hT, h2, k⟩ := h
    have hu := hu_of hr
    have hnn : n * n ≤ 361 := by have := Nat.mul_le_mul h2 h2; omega
    refine ⟨_, (pss_cons (ps_set (i := 3) sc_all_parts.nd rfl (Or.inl rfl) pe_dnewK)
      (pss_cons (ps_set (i := 4) sc_all_parts.nd rfl (Or.inl rfl) (pe_lst pa_nil))
      (pss_cons (ps_for PassesOwn.never rfl (pi_range1 rfl T.range (pa_cons (pe_callB call_len_seq (by rfl) T.len PySem.boot_len (pa_cons (pv 0) pa_nil)) pa_nil)) (pg_name (i := 5) sc_all_parts.nd rfl (Or.inl rfl))
        (pss_one (ps_if (pw_and (pt_cmpR op_in_seq (pe_ix ix_list (pv 0) (pv 5) (fun _ _ => rfl)) (pv 2) (by with_unfolding_all rfl)) (pw_and1 (pt_cmp (pc_dnotin hu (pv 5) (pv 3))))).pt
        (pss_cons (ps_set (i := 6) sc_all_parts.nd rfl (Or.inl rfl) (pcall G_part_at (hr.mono (by decide)) (pa_cons (pv 0) (pa_cons (pv 1) (pa_cons (pv 5) (pa_cons (pv 2) pa_nil))))))
      (pss_cons (ps_for PassesOwn.never rfl (pi_list (pv 6)) (pg_name (i := 7) sc_all_parts.nd rfl (Or.inl rfl))
        (pss_one (ps_dput hu (pv 3) (pv 7) pe_bl rfl)))
      (pss_one (ps_expr (pe_bm PySem.F.plainAttrs_list PySem.F.slot_list_append PySem.F.type_list_append mt_append (pv 4) (pa_cons (pv 6) pa_nil))))))
        pss_nil)))
      (pss_one (ps_ret (pv 4)))))), ?_⟩
    intro d hd
    refine ⟨Nat.zero_le _, fun a ha => ?_⟩
    have ha' : H a = none := (same_new hd).free ha
    have had : a ≠ d := fun e => by rw [e, upd_same] at ha; cases ha
    have s1 : Same H (L2.upd (L2.upd H d (.dK [])) a (.lst [])) := (same_new hd).upd ha'
    have el : ((b.map nV).length : Int) = ((n * n : Nat) : Int) := by rw [List.length_map, hB.len]
    refine ⟨_, rfl, st, _, rfl, .inl (hB.same s1).sq, _, rfl, by rw [el]; omega, by rw [el]; omega, ?_⟩
    refine for_upto (n := n * n) el (fun i σ H' => ∃ (L : List Nat) (ls : List (List Nat)) (v v' v2 : Option V), σ = [some (.ref st), some (.ref bs), some (.ref cs), some (.ref d), some (.ref a), v, v', v2] ∧ Same H H' ∧ DS H' d L ∧ LL H' a ls ∧ L.Nodup ∧ (∀ q, q ∈ L ↔ ∃ l ∈ ls, q ∈ l) ∧ Parts n (okc b cl) i ls ∧ NewR H H' a)
      ⟨[], [], none, none, none, rfl, s1, upd_lst upd_same had.symm, ⟨[], upd_same, rfl, fun i r l e => by simp at e⟩, by simp, by simp, ⟨by simp, fun p hp => by omega, fun j m l l' q e => by simp at e⟩, NewR.mk' (rs := []) upd_same (by simp)⟩ ?_ ?_
    · rintro i σ H1 hi ⟨L, ls, v, v', v2, rfl, sm, hD, hL, nd, mem, hP, hNw⟩
      have hB' := hB.same sm
      have hLn := short nd fun q hq => by
        obtain ⟨l, hl, hq⟩ := (mem q).mp hq
        exact hP.lt l hl q hq
      refine ⟨_, rfl, _, rfl, _, _, _, _, rfl, rfl, hB'.sq, hB'.ix hi, _, rfl, cs, _, rfl, .inr (SqT.of (sm _ _ hT)), rfl, flat_nat _, _, rfl, ?_⟩
      show if inV _ _ = true then _ else _
      rw [inV_nat]
      refine ite2 (fun e => ?_) (fun e => ?_)
      · refine ⟨_, rfl, _, rfl, d, _, rfl, ds_get hD, _, rfl, ?_⟩
        by_cases hm : i ∈ L
        · rw [if_pos hm]
          exact iteF ⟨L, ls, _, _, _, rfl, sm, hD, hL, nd, mem, hP.skip fun _ => (mem i).mp hm, hNw⟩
        · rw [if_neg hm]
          refine iteT ?_
          refine ⟨_, rfl, _, rfl, _, rfl, _, rfl, st, bs, cs, n, i, b, cl, rfl, hB', hS.same sm, sm _ _ hT, h2, hi, fun H3 c M s3 hc hM hLN => ?_⟩
          have hdc : d ≠ c := ne_of_none hD hc
          obtain ⟨rs, y1, y2, y3⟩ := hL
          have hac : a ≠ c := ne_of_none y1 hc
          have hno : ∀ l' ∈ ls, i ∉ l' := fun l' hl' hh => hm ((mem i).mpr ⟨l', hl', hh⟩)
          have hap := hP.apart hi e hM hno
          have hP' := hP.add hi e hM hno
          have m2 : ∀ x ∈ M, x < n * n := fun x hx => ((hM.2 x).mp hx).lt hi
          have m3 : ∀ x ∈ M, x ∉ L := fun x hx hh => by
            obtain ⟨l', hl', hq⟩ := (mem x).mp hh
            exact hap l' hl' x hq hx
          have ndL : (L ++ M).Nodup := List.nodup_append.mpr ⟨nd, hM.1, fun x hx y hy e => m3 y hy (e ▸ hx)⟩
          have hLM := short ndL fun q hq => by
            rcases List.mem_append.mp hq with hq | hq
            · obtain ⟨l, hl, hq⟩ := (mem q).mp hq
              exact hP.lt l hl q hq
            · exact m2 q hq
          refine ⟨_, rfl, c, rfl, ⟨_, SqL.of hLN⟩, ?_⟩
          refine for_nats (l := M) (fun i' σ H' => ∃ (v' : Option V), σ = [some (.ref st), some (.ref bs), some (.ref cs), some (.ref d), some (.ref a), some (nV i), some (.ref c), v'] ∧ Same H H' ∧ DS H' d (L ++ M.take i') ∧ LN H' c M ∧ LL H' a ls ∧ H' a = some (.lst (rs.map V.ref)))
            ⟨_, rfl, sm.trans s3, by rw [List.take_zero, List.append_nil]; exact s3 _ _ hD, hLN, (LL.mk ⟨rs, y1, y2, y3⟩).same s3, s3 _ _ y1⟩ (fun i σ H' ⟨_, _, _, _, z, _⟩ => z) ?_ ?_
          · rintro i' x σ H4 hx ⟨v4, rfl, sm4, hD4, hL4, hLL4, hrs4⟩
            have hnot : x ∉ L ++ M.take i' := by
              intro hh
              rcases List.mem_append.mp hh with hh | hh
              · exact m3 x (List.mem_of_getElem? hx) hh
              · obtain ⟨t, ht, e⟩ := List.mem_take_iff_getElem.mp hh
                have ht' : M[t]? = some x := by rw [← e]; exact List.getElem?_eq_getElem (by omega)
                have := nd_ix hM.1 ht' hx
                omega
            have ei : insD (L ++ M.take i') x = L ++ M.take (i' + 1) := by
              unfold insD
              rw [if_neg hnot, take_snoc' hx, List.append_assoc]
            refine ⟨_, rfl, _, rfl, d, _, rfl, ds_put hD4 (small (by rw [List.length_append] at hLM ⊢; rw [List.length_take]; omega)), ?_⟩
            refine ⟨_, rfl, sm4.upd hd, ?_, upd_lst hL4 hdc.symm, ?_⟩
            · rw [ei]; exact upd_same
            · obtain ⟨rs4, z1, z2, z3⟩ := hLL4
              exact ⟨⟨rs4, upd_lst z1 had, z2, fun i r l e1 e2 => upd_lst (z3 i r l e1 e2) (ne_of (z3 i r l e1 e2) hD4 (by intro z; cases z))⟩, upd_lst hrs4 had⟩
          · rintro σ H4 ⟨v4, rfl, sm4, hD4, hL4, ⟨rs4, z1, z2, z3⟩, hrs4⟩
            rw [List.take_length] at hD4
            have hfew := hP.few
            refine ⟨_, rfl, .inl ⟨rfl, _, SqL.of z1⟩, _, rfl, a, _, _, rfl, rfl, z1, by rw [List.length_map, z2]; exact small (by omega), ?_⟩
            refine ⟨L ++ M, ls ++ [M], _, _, _, rfl, sm4.upd ha', upd_lst hD4 had.symm, ⟨rs4 ++ [c], ?_, by simp [z2], fun j r l e1 e2 => ?_⟩, ndL, fun q => ?_, hP', ?_⟩
            · show L2.upd _ _ _ _ = _
              rw [upd_same, List.map_append]; rfl
            · have hlr : LN H4 r l := by
                rcases Nat.lt_or_ge j rs4.length with z | z
                · rw [List.getElem?_append_left z] at e1
                  rw [List.getElem?_append_left (by omega)] at e2
                  exact z3 j r l e1 e2
                · rw [List.getElem?_append_right z] at e1
                  rw [List.getElem?_append_right (by omega), ← z2] at e2
                  have : j - rs4.length = 0 := by
                    rcases Nat.eq_zero_or_pos (j - rs4.length) with y | y
                    · exact y
                    · rw [List.getElem?_eq_none (by simp; omega)] at e1; cases e1
                  rw [this] at e1 e2
                  have e1 : c = r := Option.some.inj e1
                  have e2 : M = l := Option.some.inj e2
                  rw [← e1, ← e2]; exact hL4
              refine upd_lst hlr fun z => ?_
              subst z
              obtain ⟨q, hq, _⟩ := hP'.nonempty l (List.mem_of_getElem? e2)
              have hlr := z1.symm.trans hlr
              cases l with
              | nil => cases hq
              | cons x l =>
                cases rs4 with
                | nil => cases hlr
                | cons y rs4 => cases hlr
            · rw [List.mem_append, mem]
              simp only [List.mem_append, List.mem_singleton, or_and_right, exists_or, exists_eq_left]
            · have er : rs4 = rs := by rw [z1] at hrs4; exact refs_inj (HO.lst.inj (Option.some.inj hrs4))
              refine NewR.mk' (rs := rs4 ++ [c]) (by rw [upd_same, List.map_append]; rfl) fun r hr => ?_
              rcases List.mem_append.mp hr with hr | hr
              · rw [er] at hr; exact hNw rs y1 r hr
              · rw [List.mem_singleton.mp hr]; exact sm.free hc
      · exact iteF ⟨L, ls, _, _, _, rfl, sm, hD, hL, nd, mem, hP.skip fun z => absurd z e, hNw⟩
    · rintro σ H1 ⟨L, ls, v, v', v2, rfl, sm, hD, hL, nd, mem, hP, hNw⟩
      exact ⟨_, rfl, k _ a ls sm ha' hP hL hNw⟩
end
section
variable {P : Program} {w : World} {K : PySem.W.Frag} {mg : Str → Option Value} {base : Heap}
abbrev s_liberties : Stmt := top 10
theorem sc_liberties : FnScope ["stones", "beside", "chain", "empty", "stone", "point"] ["stones", "beside", "chain"] (defScope s_liberties) := ⟨rfl, rfl, rfl, by decide +kernel, rfl, by decide +kernel, by decide +kernel⟩
structure LibS (n : Nat) (b : Sd46.Board) (C : List Nat) (i : Nat) (B : List Nat) (L : List Nat) : Prop where
  nd : L.Nodup
  mem : ∀ q, q ∈ L ↔ Sd46.at_ b q = 0 ∧ ((∃ x ∈ C.take i, q ∈ Sd46.near n x) ∨ q ∈ B)
theorem LibS.lt {n : Nat} {b : Sd46.Board} {C B L : List Nat} {i : Nat} (h : LibS n b C i B L) (hb : b.length = n * n) : L.length ≤ n * n := short h.nd fun q hq => by
  rcases Nat.lt_or_ge q (n * n) with z | z
  · exact z
  · have := ((h.mem q).mp hq).1
    rw [at_ge (by omega)] at this
    cases this
theorem LibS.next {n : Nat} {b : Sd46.Board} {C L : List Nat} {i x : Nat} (hx : C[i]? = some x) (hxn : x < n * n) (h : LibS n b C i (besideM n x) L) : LibS n b C (i + 1) [] L := by
  refine ⟨h.nd, fun q => ?_⟩
  rw [h.mem, take_snoc' hx]
  constructor
  · rintro ⟨a, ⟨y, hy, hq⟩ | hq⟩
    · exact ⟨a, .inl ⟨y, List.mem_append_left _ hy, hq⟩⟩
    · exact ⟨a, .inl ⟨x, by simp, (mem_besideM hxn).mp hq⟩⟩
  · rintro ⟨a, ⟨y, hy, hq⟩ | hq⟩
    · rcases List.mem_append.mp hy with hy | hy
      · exact ⟨a, .inl ⟨y, hy, hq⟩⟩
      · rw [List.mem_singleton.mp hy] at hq
        exact ⟨a, .inr ((mem_besideM hxn).mpr hq)⟩
    · cases hq
theorem LibS.put {n : Nat} {b : Sd46.Board} {C B L : List Nat} {i j q : Nat} (hq : B[j]? = some q) (h : LibS n b C i (B.take j) L) (h0 : Sd46.at_ b q = 0) : LibS n b C i (B.take (j + 1)) (insD L q) := by
  refine ⟨insD_nd h.nd, fun x => ?_⟩
  rw [insD_mem, h.mem, take_snoc' hq, List.mem_append, List.mem_singleton]
  constructor
  · rintro (⟨a, c⟩ | rfl)
    · exact ⟨a, c.imp_right .inl⟩
    · exact ⟨h0, .inr (.inr rfl)⟩
  · rintro ⟨a, c | c | c⟩
    · exact .inl ⟨a, .inl c⟩
    · exact .inl ⟨a, .inr c⟩
    · exact .inr c
theorem LibS.skip {n : Nat} {b : Sd46.Board} {C B L : List Nat} {i j q : Nat} (hq : B[j]? = some q) (h : LibS n b C i (B.take j) L) (h0 : ¬ Sd46.at_ b q = 0) : LibS n b C i (B.take (j + 1)) L := by
  refine ⟨h.nd, fun x => ?_⟩
  rw [h.mem, take_snoc' hq, List.mem_append, List.mem_singleton]
  constructor
  · rintro ⟨a, c⟩
    exact ⟨a, c.imp_right .inl⟩
  · rintro ⟨a, c | c | c⟩
    · exact ⟨a, .inl c⟩
    · exact ⟨a, .inr c⟩
    · exact absurd (c ▸ a) h0
def spLibs : Sp := fun vs H Q _ => ∃ (st bs ch : Addr) (n : Nat) (C : List Nat) (b : Sd46.Board), vs = [.ref st, .ref bs, .ref ch] ∧ Brd H st n b ∧ Bes H bs n ∧ n ≤ 19 ∧ LN H ch C ∧ (∀ q ∈ C, q < n * n) ∧ RetL H Q fun l => l.Nodup ∧ ∀ q, q ∈ l ↔ Sd46.at_ b q = 0 ∧ ∃ x ∈ C, q ∈ Sd46.near n x
theorem ok_liberties (T : Txt K mg) (F : Fd K mg "liberties" s_liberties ["stones", "beside", "chain"]) : Fx P w K mg base 1 "liberties" ["stones", "beside", "chain"] spLibs := by
  refine F.ok sc_liberties (fun vs H Q E h => ?_) (fun f cdv A outer s H vs Q E hr h => ?_)
  · obtain ⟨st, bs, ch, n, C, b, rfl, _⟩ := h; rfl
  · obtain ⟨st, bs, ch, n, C, b, rfl, hB, hS, h2, hC, hCn, k⟩ := h
    have hu := hu_of hr
    have hnn : n * n ≤ 361 := by have := Nat.mul_le_mul h2 h2; omega
    refine ⟨_, (pss_cons (ps_set (i := 3) sc_liberties.nd rfl (Or.inl rfl) pe_dnewK)
      (pss_cons (ps_for PassesOwn.never rfl (pi_list (pv 2)) (pg_name (i := 4) sc_liberties.nd rfl (Or.inl rfl))
        (pss_one (ps_for PassesOwn.never rfl (pi_list (pe_ix ix_list (pv 1) (pv 4) (fun _ _ => rfl))) (pg_name (i := 5) sc_liberties.nd rfl (Or.inl rfl))
        (pss_one (ps_if (pt_cmpR op_eq (pe_ix ix_list (pv 0) (pv 5) (fun _ _ => rfl)) (pk T.EMPTY) (nomark _))
        (pss_one (ps_dput hu (pv 3) (pv 5) pe_bl rfl))
        pss_nil)))))
      (pss_one (ps_ret (pe_callTy (call_list_dict hr.hd) (by rfl) T.list boot_list (pa_cons (pv 3) pa_nil)))))), ?_⟩
    intro d hd
    have s1 : Same H (L2.upd H d (.dK [])) := same_new hd
    refine ⟨_, rfl, ch, rfl, ⟨_, SqL.of (s1 _ _ hC)⟩, ?_⟩
    refine for_nats (l := C) (fun i σ H' => ∃ (L : List Nat) (v v' : Option V), σ = [some (.ref st), some (.ref bs), some (.ref ch), some (.ref d), v, v'] ∧ Same H H' ∧ DS H' d L ∧ LibS n b C i [] L)
      ⟨[], none, none, rfl, s1, upd_same, by simp, fun q => by simp⟩ (fun i σ H' ⟨_, _, _, _, sm', _⟩ => sm' _ _ hC) ?_ ?_
    · rintro i x σ H2 hx ⟨L, v, v', rfl, sm, hD, hW⟩
      have hxn := hCn x (List.mem_of_getElem? hx)
      obtain ⟨r, xs, g1, g2, g3⟩ := hS.at (K := K) hxn
      refine ⟨_, rfl, _, rfl, bs, xs, _, _, rfl, rfl, sm.seq g1, g2, r, rfl, ⟨_, SqL.of (sm _ _ g3)⟩, ?_⟩
      refine for_nats (l := besideM n x) (fun j σ H' => ∃ (L : List Nat) (v' : Option V), σ = [some (.ref st), some (.ref bs), some (.ref ch), some (.ref d), some (nV x), v'] ∧ Same H H' ∧ DS H' d L ∧ LibS n b C i ((besideM n x).take j) L)
        ⟨L, _, rfl, sm, hD, by rw [List.take_zero]; exact hW⟩ (fun i σ H' ⟨_, _, _, sm', _⟩ => sm' _ _ g3) ?_ ?_
      · rintro j q σ H3 hq ⟨L, v3, rfl, sm, hD, hW⟩
        have hqn : q < n * n := near_lt hxn ((mem_besideM hxn).mp (List.mem_of_getElem? hq))
        have hB' := hB.same sm
        refine ⟨_, rfl, _, rfl, _, _, _, _, rfl, rfl, hB'.sq, hB'.ix hqn, rfl, _, rfl, ?_⟩
        rw [show (V.int 0 : V) = nV 0 from rfl, nV_dec]
        refine ite2 (fun e => ?_) (fun e => ?_)
        · have e := of_decide_eq_true e
          refine ⟨_, rfl, _, rfl, d, _, rfl, ds_put hD (small (by have := hW.lt hB.len; omega)), ?_⟩
          exact ⟨_, _, rfl, sm.upd hd, upd_same, hW.put hq e⟩
        · have e := of_decide_eq_false (Bool.not_eq_true _ ▸ e)
          exact ⟨L, _, rfl, sm, hD, hW.skip hq e⟩
      · rintro σ H3 ⟨L, v3, rfl, sm, hD, hW⟩
        rw [List.take_length] at hW
        exact ⟨L, _, _, rfl, sm, hD, hW.next hx hxn⟩
    · rintro σ H2 ⟨L, v, v', rfl, sm, hD, hW⟩
      refine ⟨_, rfl, d, _, rfl, hD, fun l hl => ?_⟩
      refine k _ l L (sm.upd (sm.free hl)) (sm.free hl) ⟨hW.nd, fun q => ?_⟩ ?_
      · rw [hW.mem, List.take_length]; simp
      · show L2.upd _ _ _ _ = _
        rw [upd_same, setD_keys]
abbrev s_colours_beside : Stmt := top 12
theorem sc_colours_beside : FnScope ["stones", "beside", "part", "reached", "point", "step"] ["stones", "beside", "part"] (defScope s_colours_beside) := ⟨rfl, rfl, rfl, by decide +kernel, rfl, by decide +kernel, by decide +kernel⟩
structure ColS (n : Nat) (b : Sd46.Board) (C : List Nat) (i : Nat) (B : List Nat) (L : List Nat) : Prop where
  nd : L.Nodup
  mem : ∀ c, c ∈ L ↔ c ≠ 0 ∧ ((∃ x ∈ C.take i, ∃ q ∈ Sd46.near n x, Sd46.at_ b q = c) ∨ ∃ q ∈ B, Sd46.at_ b q = c)
theorem ColS.next {n : Nat} {b : Sd46.Board} {C L : List Nat} {i x : Nat} (hx : C[i]? = some x) (hxn : x < n * n) (h : ColS n b C i (besideM n x) L) : ColS n b C (i + 1) [] L := by
  refine ⟨h.nd, fun c => ?_⟩
  rw [h.mem, take_snoc' hx]
  constructor
  · rintro ⟨a, ⟨y, hy, hq⟩ | ⟨q, hq, e⟩⟩
    · exact ⟨a, .inl ⟨y, List.mem_append_left _ hy, hq⟩⟩
    · exact ⟨a, .inl ⟨x, by simp, q, (mem_besideM hxn).mp hq, e⟩⟩
  · rintro ⟨a, ⟨y, hy, q, hq, e⟩ | ⟨q, hq, e⟩⟩
    · rcases List.mem_append.mp hy with hy | hy
      · exact ⟨a, .inl ⟨y, hy, q, hq, e⟩⟩
      · rw [List.mem_singleton.mp hy] at hq
        exact ⟨a, .inr ⟨q, (mem_besideM hxn).mpr hq, e⟩⟩
    · cases hq
theorem ColS.put {n : Nat} {b : Sd46.Board} {C B L : List Nat} {i j q : Nat} (hq : B[j]? = some q) (h : ColS n b C i (B.take j) L) (h0 : ¬ Sd46.at_ b q = 0) : ColS n b C i (B.take (j + 1)) (insD L (Sd46.at_ b q)) := by
  refine ⟨insD_nd h.nd, fun x => ?_⟩
  rw [insD_mem, h.mem, take_snoc' hq]
  constructor
  · rintro (⟨a, c | ⟨y, hy, e⟩⟩ | rfl)
    · exact ⟨a, .inl c⟩
    · exact ⟨a, .inr ⟨y, List.mem_append_left _ hy, e⟩⟩
    · exact ⟨h0, .inr ⟨q, by simp, rfl⟩⟩
  · rintro ⟨a, c | ⟨y, hy, e⟩⟩
    · exact .inl ⟨a, .inl c⟩
    · rcases List.mem_append.mp hy with hy | hy
      · exact .inl ⟨a, .inr ⟨y, hy, e⟩⟩
      · rw [List.mem_singleton.mp hy] at e
        exact .inr e.symm
theorem ColS.skip {n : Nat} {b : Sd46.Board} {C B L : List Nat} {i j q : Nat} (hq : B[j]? = some q) (h : ColS n b C i (B.take j) L) (h0 : Sd46.at_ b q = 0) : ColS n b C i (B.take (j + 1)) L := by
  refine ⟨h.nd, fun x => ?_⟩
  rw [h.mem, take_snoc' hq]
  constructor
  · rintro ⟨a, c | ⟨y, hy, e⟩⟩
    · exact ⟨a, .inl c⟩
    · exact ⟨a, .inr ⟨y, List.mem_append_left _ hy, e⟩⟩
  · rintro ⟨a, c | ⟨y, hy, e⟩⟩
    · exact ⟨a, .inl c⟩
    · rcases List.mem_append.mp hy with hy | hy
      · exact ⟨a, .inr ⟨y, hy, e⟩⟩
      · rw [List.mem_singleton.mp hy, h0] at e
        exact absurd e.symm a
def Colours (n : Nat) (b : Sd46.Board) (C l : List Nat) : Prop := l.Nodup ∧ ∀ c, c ∈ l ↔ c ≠ 0 ∧ ∃ x ∈ C, ∃ q ∈ Sd46.near n x, Sd46.at_ b q = c
def spCols : Sp := fun vs H Q _ => ∃ (st bs ch : Addr) (n : Nat) (C : List Nat) (b : Sd46.Board), vs = [.ref st, .ref bs, .ref ch] ∧ Brd H st n b ∧ Bes H bs n ∧ n ≤ 19 ∧ LN H ch C ∧ (∀ q ∈ C, q < n * n) ∧ (∀ q, q < n * n → Sd46.at_ b q ≤ 2) ∧ RetL H Q (Colours n b C)
theorem ColS.lt {n : Nat} {b : Sd46.Board} {C B L : List Nat} {i : Nat} (h : ColS n b C i B L) (h1 : ∀ q ∈ C, q < n * n) (h2 : ∀ q ∈ B, q < n * n) (h3 : ∀ q, q < n * n → Sd46.at_ b q ≤ 2) : L.length ≤ 3 := short h.nd fun c hc => by
  obtain ⟨_, ⟨x, hx, q, hq, e⟩ | ⟨q, hq, e⟩⟩ := (h.mem c).mp hc
  · have := h3 q (near_lt (h1 x (List.mem_of_mem_take hx)) hq)
    omega
  · have := h3 q (h2 q hq)
    omega
theorem ok_colours_beside (T : Txt K mg) (F : Fd K mg "colours_beside" s_colours_beside ["stones", "beside", "part"]) : Fx P w K mg base 1 "colours_beside" ["stones", "beside", "part"] spCols := by
  refine F.ok sc_colours_beside (fun vs H Q E h => ?_) (fun f cdv A outer s H vs Q E hr h => ?_)
  · obtain ⟨st, bs, ch, n, C, b, rfl, _⟩ := h; rfl
  · obtain ⟨st, bs, ch, n, C, b, rfl, hB, hS, h2, hC, hCn, hle, k⟩ := h
    have hu := hu_of hr
    have hnn : n * n ≤ 361 := by have := Nat.mul_le_mul h2 h2; omega
    refine ⟨_, (pss_cons (ps_set (i := 3) sc_colours_beside.nd rfl (Or.inl rfl) pe_dnewK)
      (pss_cons (ps_for PassesOwn.never rfl (pi_list (pv 2)) (pg_name (i := 4) sc_colours_beside.nd rfl (Or.inl rfl))
        (pss_one (ps_for PassesOwn.never rfl (pi_list (pe_ix ix_list (pv 1) (pv 4) (fun _ _ => rfl))) (pg_name (i := 5) sc_colours_beside.nd rfl (Or.inl rfl))
        (pss_one (ps_if (pt_cmpR op_ne (pe_ix ix_list (pv 0) (pv 5) (fun _ _ => rfl)) (pk T.EMPTY) (nomark _))
        (pss_one (ps_dput hu (pv 3) (pe_ix ix_list (pv 0) (pv 5) (fun _ _ => rfl)) pe_bl rfl))
        pss_nil)))))
      (pss_one (ps_ret (pe_callTy (call_list_dict hr.hd) (by rfl) T.list boot_list (pa_cons (pv 3) pa_nil)))))), ?_⟩
    intro d hd
    have s1 : Same H (L2.upd H d (.dK [])) := same_new hd
    refine ⟨_, rfl, ch, rfl, ⟨_, SqL.of (s1 _ _ hC)⟩, ?_⟩
    refine for_nats (l := C) (fun i σ H' => ∃ (L : List Nat) (v v' : Option V), σ = [some (.ref st), some (.ref bs), some (.ref ch), some (.ref d), v, v'] ∧ Same H H' ∧ DS H' d L ∧ ColS n b C i [] L)
      ⟨[], none, none, rfl, s1, upd_same, by simp, fun q => by simp⟩ (fun i σ H' ⟨_, _, _, _, sm', _⟩ => sm' _ _ hC) ?_ ?_
    · rintro i x σ H2 hx ⟨L, v, v', rfl, sm, hD, hW⟩
      have hxn := hCn x (List.mem_of_getElem? hx)
      obtain ⟨r, xs, g1, g2, g3⟩ := hS.at (K := K) hxn
      have hbn : ∀ q ∈ besideM n x, q < n * n := fun q hq => near_lt hxn ((mem_besideM hxn).mp hq)
      refine ⟨_, rfl, _, rfl, bs, xs, _, _, rfl, rfl, sm.seq g1, g2, r, rfl, ⟨_, SqL.of (sm _ _ g3)⟩, ?_⟩
      refine for_nats (l := besideM n x) (fun j σ H' => ∃ (L : List Nat) (v' : Option V), σ = [some (.ref st), some (.ref bs), some (.ref ch), some (.ref d), some (nV x), v'] ∧ Same H H' ∧ DS H' d L ∧ ColS n b C i ((besideM n x).take j) L)
        ⟨L, _, rfl, sm, hD, by rw [List.take_zero]; exact hW⟩ (fun i σ H' ⟨_, _, _, sm', _⟩ => sm' _ _ g3) ?_ ?_
      · rintro j q σ H3 hq ⟨L, v3, rfl, sm, hD, hW⟩
        have hqn : q < n * n := hbn q (List.mem_of_getElem? hq)
        have hB' := hB.same sm
        refine ⟨_, rfl, _, rfl, _, _, _, _, rfl, rfl, hB'.sq, hB'.ix hqn, rfl, _, rfl, ?_⟩
        rw [show (V.int 0 : V) = nV 0 from rfl, nV_dec]
        by_cases e : Sd46.at_ b q = 0
        · refine iteNS e ?_
          exact ⟨L, _, rfl, sm, hD, hW.skip hq e⟩
        · rw [decide_eq_false e]
          refine iteT ?_
          refine ⟨_, rfl, _, rfl, _, rfl, _, _, _, _, rfl, rfl, hB'.sq, hB'.ix hqn, d, _, rfl, ds_put hD (small (by have := hW.lt hCn (fun q hq => hbn q (List.mem_of_mem_take hq)) hle; omega)), ?_⟩
          exact ⟨_, _, rfl, sm.upd hd, upd_same, hW.put hq e⟩
      · rintro σ H3 ⟨L, v3, rfl, sm, hD, hW⟩
        rw [List.take_length] at hW
        exact ⟨L, _, _, rfl, sm, hD, hW.next hx hxn⟩
    · rintro σ H2 ⟨L, v, v', rfl, sm, hD, hW⟩
      refine ⟨_, rfl, d, _, rfl, hD, fun l hl => ?_⟩
      refine k _ l L (sm.upd (sm.free hl)) (sm.free hl) ⟨hW.nd, fun q => ?_⟩ ?_
      · rw [hW.mem, List.take_length]; simp
      · show L2.upd _ _ _ _ = _
        rw [upd_same, setD_keys]
end
def okE (b : Sd46.Board) : Nat → Bool := fun q => Sd46.at_ b q == 0
theorem okc_E (b : Sd46.Board) : okc b [0] = okE b := by
  funext q
  unfold okc okE
  rw [Bool.eq_iff_iff]
  simp
def arS (n : Nat) (b : Sd46.Board) (c : Nat) (ls : List (List Nat)) (p : Nat) : Bool := Sd46.at_ b p == c || ls.any fun l => l.contains p && areaOk n b c p
theorem arS_count (n : Nat) (b : Sd46.Board) (c : Nat) (hb : b.length = n * n) : (Sd46.points n).countP (arS n b c []) = b.countP fun x => x == c := by
  have e : b = (Sd46.points n).map (Sd46.at_ b) := by
    refine List.ext_getElem (by simp [Sd46.points, hb]) fun i h1 h2 => ?_
    rw [List.getElem_map]
    simp [Sd46.points, at_lt h1]
  conv => rhs; rw [e]
  rw [List.countP_map]
  congr 1
  funext p
  simp [arS, Function.comp]
theorem arS_end {n c : Nat} {b : Sd46.Board} {ls : List (List Nat)} (h : Parts n (okE b) (n * n) ls) : (Sd46.points n).countP (arS n b c ls) = Sd46.area n b c := by
  rw [area_eq]
  refine countP_congr' fun p hp => ?_
  have hp := mem_points.mp hp
  unfold arS
  rw [Bool.eq_iff_iff]
  constructor
  · intro e
    rcases Bool.or_eq_true_iff.mp e with e | e
    · unfold areaOk; rw [e]; rfl
    · obtain ⟨l, _, e⟩ := List.any_eq_true.mp e
      exact (Bool.and_eq_true_iff.mp e).2
  · intro e
    by_cases h1 : (Sd46.at_ b p == c) = true
    · rw [h1]; rfl
    · have h0 : okE b p = true := by
        unfold areaOk at e
        rcases Bool.or_eq_true_iff.mp e with z | z
        · exact absurd z h1
        · exact (Bool.and_eq_true_iff.mp z).1
      obtain ⟨l, hl, hpl⟩ := h.all p hp h0
      exact Bool.or_eq_true_iff.mpr (.inr (List.any_eq_true.mpr ⟨l, hl, Bool.and_eq_true_iff.mpr ⟨List.contains_iff_mem.mpr hpl, e⟩⟩))
theorem part_alike {n p c : Nat} {b : Sd46.Board} {l : List Nat} (hp : p < n * n) (h0 : okE b p = true) (hl : Part n (okE b) p l) (hc : c ≠ 0) : ∀ q ∈ l, areaOk n b c q = (Sd46.reaches n b p c && !Sd46.reaches n b p (Sd46.other c)) := by
  intro q hq
  have h0' : Sd46.at_ b p = 0 := by unfold okE at h0; simpa using h0
  have hr := (hl.2 q).mp hq
  have hq0 : Sd46.at_ b q = 0 := by have := hr.ok h0; unfold okE at this; simpa using this
  unfold areaOk
  rw [reaches_same hp h0' hr, reaches_same hp h0' hr, hq0]
  have : (0 == c) = false := by simp; omega
  rw [this]; simp
theorem colours_iff {n p c : Nat} {b : Sd46.Board} {l L : List Nat} (hp : p < n * n) (hl : Part n (okE b) p l) (hL : Colours n b l L) (hc : c ≠ 0) : c ∈ L ↔ Sd46.reaches n b p c = true := by
  rw [hL.2, reaches_iff hp]
  constructor
  · rintro ⟨_, x, hx, y, hy, e⟩
    exact ⟨x, (hl.2 x).mp hx, y, hy, e⟩
  · rintro ⟨x, hx, y, hy, e⟩
    exact ⟨hc, x, (hl.2 x).mpr hx, y, hy, e⟩
theorem arS_step {n c : Nat} {b : Sd46.Board} {ls : List (List Nat)} {l L : List Nat} {i : Nat} (hc : c = 1 ∨ c = 2) (h : Parts n (okE b) (n * n) ls) (e : ls[i]? = some l) (hL : Colours n b l L) (h2 : ∀ x ∈ L, x ≤ 2) :
    (Sd46.points n).countP (arS n b c (ls.take (i + 1))) = (Sd46.points n).countP (arS n b c (ls.take i)) + if L = [c] then l.length else 0 := by
  have hml := List.mem_of_getElem? e
  obtain ⟨p, hp, h0, hl⟩ := h.is l hml
  have hc0 : c ≠ 0 := by omega
  have al := part_alike hp h0 hl hc0
  have ho0 : Sd46.other c ≠ 0 := by unfold Sd46.other; omega
  have step : ∀ q, arS n b c (ls.take (i + 1)) q = (arS n b c (ls.take i) q || (l.contains q && areaOk n b c q)) := by
    intro q
    unfold arS
    rw [take_snoc' e, List.any_append]
    simp [Bool.or_assoc]
  have hiff : L = [c] ↔ (Sd46.reaches n b p c && !Sd46.reaches n b p (Sd46.other c)) = true := by
    rw [Bool.and_eq_true, Bool.not_eq_true', ← colours_iff hp hl hL hc0, ← Bool.not_eq_true, ← colours_iff hp hl hL ho0]
    constructor
    · intro e; rw [e]
      refine ⟨by simp, ?_⟩
      unfold Sd46.other
      simp; omega
    · rintro ⟨h3, h4⟩
      have all : ∀ x ∈ L, x = c := by
        intro x hx
        have := h2 x hx
        have hx0 := ((hL.2 x).mp hx).1
        by_cases z : x = Sd46.other c
        · exact absurd (z ▸ hx) h4
        · unfold Sd46.other at z; omega
      match L, hL, h3, all with
      | [], _, h3, _ => cases h3
      | [x], _, _, all => rw [all x (by simp)]
      | x :: y :: r, hL, _, all =>
        have h1 := all x (by simp)
        have h2 := all y (by simp)
        have := hL.1
        rw [h1, h2] at this
        simp at this
  by_cases hcase : L = [c]
  · rw [if_pos hcase]
    have t := hiff.mp hcase
    rw [← countP_more (f := arS n b c (ls.take i)) (points_nodup n) hl.1 (fun q hq => mem_points.mpr (h.lt l hml q hq)) ?_]
    · refine countP_congr' fun q _ => ?_
      rw [step]
      by_cases hq : q ∈ l
      · rw [al q hq, t]; simp
      · have : l.contains q = false := by rw [← Bool.not_eq_true]; intro z; exact hq (List.contains_iff_mem.mp z)
        rw [this]; simp
    · intro q hq
      have hq0 : Sd46.at_ b q = 0 := by have := ((hl.2 q).mp hq).ok h0; unfold okE at this; simpa using this
      unfold arS
      rw [hq0]
      have z : (0 == c) = false := by simp; omega
      rw [z, Bool.false_or, ← Bool.not_eq_true]
      intro y
      obtain ⟨m, hm, y⟩ := List.any_eq_true.mp y
      have y := List.contains_iff_mem.mp (Bool.and_eq_true_iff.mp y).1
      obtain ⟨t', ht', et⟩ := List.mem_take_iff_getElem.mp hm
      have := h.ap t' i m l q (by rw [← et]; exact List.getElem?_eq_getElem (by omega)) e y hq
      omega
  · rw [if_neg hcase, Nat.add_zero]
    have t : (Sd46.reaches n b p c && !Sd46.reaches n b p (Sd46.other c)) = false := by rw [← Bool.not_eq_true]; exact fun z => hcase (hiff.mpr z)
    refine countP_congr' fun q _ => ?_
    rw [step]
    by_cases hq : q ∈ l
    · rw [al q hq, t]; simp
    · have : l.contains q = false := by rw [← Bool.not_eq_true]; intro z; exact hq (List.contains_iff_mem.mp z)
      rw [this]; simp
abbrev DT (x y : Int) : List (Key × V) := [(Sum.inl 1, V.int x), (Sum.inl 2, V.int y)]
theorem DT_get1 {H : Hp} {d : Addr} {x y : Int} (h : H d = some (.dK (DT x y))) : DGet H d (nV 1) (some (.int x)) := DGet.k (k := Sum.inl 1) h
theorem DT_get2 {H : Hp} {d : Addr} {x y : Int} (h : H d = some (.dK (DT x y))) : DGet H d (nV 2) (some (.int y)) := DGet.k (k := Sum.inl 2) h
theorem DT_put1 {H : Hp} {d : Addr} {x y z : Int} (h : H d = some (.dK (DT x y))) : DPut H d (nV 1) (.int z) (L2.upd H d (.dK (DT z y))) := DPut.k (k := Sum.inl 1) h (by show 2 < sizeLine; decide)
theorem DT_put2 {H : Hp} {d : Addr} {x y z : Int} (h : H d = some (.dK (DT x y))) : DPut H d (nV 2) (.int z) (L2.upd H d (.dK (DT x z))) := DPut.k (k := Sum.inl 2) h (by show 2 < sizeLine; decide)
section
variable {P : Program} {w : World} {K : PySem.W.Frag} {mg : Str → Option Value} {base : Heap}
abbrev s_areas : Stmt := top 13
theorem sc_areas : FnScope ["stones", "beside", "sizes", "part", "reached"] ["stones", "beside"] (defScope s_areas) := ⟨rfl, rfl, rfl, by decide +kernel, rfl, by decide +kernel, by decide +kernel⟩
def spAreas : Sp := fun vs H Q _ => ∃ (st bs : Addr) (n : Nat) (b : Sd46.Board), vs = [.ref st, .ref bs] ∧ Brd H st n b ∧ Bes H bs n ∧ n ≤ 19 ∧ (∀ q, q < n * n → Sd46.at_ b q ≤ 2) ∧
  ∀ (H' : Hp) (d : Addr), Same H H' → H d = none → H' d = some (.dK (DT (Sd46.area n b 1 : Nat) (Sd46.area n b 2 : Nat))) → Q (.ref d) H'
theorem ok_areas (T : Txt K mg) (F : Fd K mg "areas" s_areas ["stones", "beside"]) (G_all_parts : Fx P w K mg base 2 "all_parts" ["stones", "beside", "colours"] spParts) (G_colours_beside : Fx P w K mg base 1 "colours_beside" ["stones", "beside", "part"] spCols) :
    Fx P w K mg base 3 "areas" ["stones", "beside"] spAreas := by
  refine F.ok sc_areas (fun vs H Q E h => ?_) (fun f cdv A outer s H vs Q E hr h => ?_)
  · obtain ⟨st, bs, n, b, rfl, _⟩ := h; rfl
  · obtain ⟨st, bs, n, b, rfl, hB, hS, h2, hle, k⟩ := h
    have hu := hu_of hr
    have hnn : n * n ≤ 361 := by have := Nat.mul_le_mul h2 h2; omega
    refine ⟨_, (pss_cons (ps_set (i := 2) sc_areas.nd rfl (Or.inl rfl) (pe_disp (pps_cons (pk T.BLACK) (pe_bm PySem.F.plainAttrs_list PySem.F.slot_list_count PySem.F.type_list_count mt_countL (pv 0) (pa_cons (pk T.BLACK) pa_nil)) (pps_cons (pk T.WHITE) (pe_bm PySem.F.plainAttrs_list PySem.F.slot_list_count PySem.F.type_list_count mt_countL (pv 0) (pa_cons (pk T.WHITE) pa_nil)) pps_nil)) rfl rfl (by simp) (by decide)))
      (pss_cons (ps_for PassesOwn.never rfl (pi_list (pcall G_all_parts (hr.mono (by decide)) (pa_cons (pv 0) (pa_cons (pv 1) (pa_cons (pe_tup (pa_cons (pk T.EMPTY) pa_nil)) pa_nil))))) (pg_name (i := 3) sc_areas.nd rfl (Or.inl rfl))
        (pss_cons (ps_set (i := 4) sc_areas.nd rfl (Or.inl rfl) (pcall G_colours_beside (hr.mono (by decide)) (pa_cons (pv 0) (pa_cons (pv 1) (pa_cons (pv 3) pa_nil)))))
      (pss_one (ps_if (pt_cmpR op_eq (pe_callB call_len_seq (by rfl) T.len PySem.boot_len (pa_cons (pv 4) pa_nil)) pe_int (nomark _))
        (pss_one (ps_daug hu (pv 2) (pe_ix ix_list (pv 4) pe_int (fun _ _ => rfl)) (pe_callB call_len_seq (by rfl) T.len PySem.boot_len (pa_cons (pv 3) pa_nil)) in_add (fun _ _ _ => rfl)))
        pss_nil))))
      (pss_one (ps_ret (pv 2))))), ?_⟩
    intro d hd
    have s0 : Same H (L2.upd H d (.dK [])) := same_new hd
    refine ⟨_, rfl, .inl ⟨rfl, _, (hB.same s0).sq⟩, st, _, nV 1, rfl, rfl, (hB.same s0).sq, rfl, flat_nat _, ?_⟩
    refine ⟨_, rfl, .inl ⟨rfl, _, (hB.same s0).sq⟩, st, _, nV 2, rfl, rfl, (hB.same s0).sq, rfl, flat_nat _, ?_⟩
    rw [count_nat, count_nat, ← arS_count n b 1 hB.len, ← arS_count n b 2 hB.len]
    refine ⟨upd_same, DT ((Sd46.points n).countP (arS n b 1 []) : Nat) ((Sd46.points n).countP (arS n b 2 []) : Nat), rfl, (by show 2 ≤ 15; decide), ?_⟩
    have s1 : Same H (L2.upd (L2.upd H d (.dK [])) d (.dK (mergeK [] (DT ((Sd46.points n).countP (arS n b 1 []) : Nat) ((Sd46.points n).countP (arS n b 2 []) : Nat))))) := s0.upd hd
    refine ⟨_, rfl, _, rfl, (by show 1 ≤ sizeLine; decide), fun t ht => ?_⟩
    have s2 := s1.upd (o := .tup [nV 0]) (s1.free ht)
    refine ⟨st, bs, t, n, b, [0], rfl, hB.same s2, hS.same s2, upd_same, h2, fun H3 a ls s3 ha hP hLL _ => ?_⟩
    rw [okc_E] at hP
    obtain ⟨rs, y1, y2, y3⟩ := hLL
    refine ⟨a, rfl, ⟨_, SqL.of y1⟩, ?_⟩
    have hdt : d ≠ t := fun e => by rw [← e, upd_same] at ht; cases ht
    have hd3 : H3 d = some (.dK (DT ((Sd46.points n).countP (arS n b 1 []) : Nat) ((Sd46.points n).countP (arS n b 2 []) : Nat))) := s3 _ _ (upd_lst upd_same hdt)
    have had : a ≠ d := ne_of y1 hd3 (by intro z; cases z)
    refine for_LL (ls := ls) y2 (fun i σ H' => ∃ (v v' : Option V), σ = [some (.ref st), some (.ref bs), some (.ref d), v, v'] ∧ Same H H' ∧ SameB d H3 H' ∧ H' d = some (.dK (DT ((Sd46.points n).countP (arS n b 1 (ls.take i)) : Nat) ((Sd46.points n).countP (arS n b 2 (ls.take i)) : Nat))))
      ⟨none, none, rfl, s2.trans s3, fun b o _ e => e, hd3⟩ (fun i σ H' ⟨_, _, _, _, sb, _⟩ => sb _ _ had y1) ?_ ?_
    · rintro i r l σ H4 er el ⟨v, v', rfl, sm, sb, hD⟩
      have hr3 := y3 i r l er el
      have hr4 : LN H4 r l := sb _ _ (ne_of hr3 hd3 (by intro z; cases z)) hr3
      refine ⟨_, rfl, _, rfl, _, rfl, st, bs, r, n, l, b, rfl, hB.same sm, hS.same sm, h2, hr4, hP.lt l (List.mem_of_getElem? el), hle, fun H5 c L s5 hc hL hLN => ?_⟩
      have hL2 : ∀ x ∈ L, x ≤ 2 := by
        intro x hx
        obtain ⟨_, y, hy, q, hq, e⟩ := (hL.2 x).mp hx
        rw [← e]
        exact hle q (near_lt (hP.lt l (List.mem_of_getElem? el) y hy) hq)
      have st1 := arS_step (c := 1) (.inl rfl) hP el hL hL2
      have st2 := arS_step (c := 2) (.inr rfl) hP el hL hL2
      have sb5 : SameB d H3 H5 := fun b o hb e => s5 _ _ (sb b o hb e)
      refine ⟨_, rfl, c, _, rfl, .inl (SqL.of hLN), rfl, _, rfl, ?_⟩
      rw [List.length_map, show (V.int 1 : V) = nV 1 from rfl, nV_dec]
      refine ite2 (fun e => ?_) (fun e => ?_)
      · have e := of_decide_eq_true e
        obtain ⟨x, rfl⟩ : ∃ x, L = [x] := by
          match L, e with
          | [x], _ => exact ⟨x, rfl⟩
        have hx2 := hL2 x (by simp)
        have hx0 := ((hL.2 x).mp (by simp)).1
        have hx : x = 1 ∨ x = 2 := by omega
        rcases hx with rfl | rfl
        · refine ⟨_, rfl, _, rfl, c, _, _, _, rfl, rfl, SqL.of hLN, atI_nat (j := 0) rfl, d, _, rfl, DT_get1 (s5 _ _ hD), _, rfl, r, _, rfl, .inl (SqL.of (s5 _ _ hr4)), _, _, rfl, rfl, _, DT_put1 (s5 _ _ hD), ?_⟩
          refine ⟨_, _, rfl, (sm.trans s5).upd hd, fun b o hb e => upd_lst (sb5 b o hb e) hb, ?_⟩
          rw [if_pos rfl] at st1
          rw [if_neg (by simp)] at st2
          rw [st1, st2, upd_same, List.length_map]
          rfl
        · refine ⟨_, rfl, _, rfl, c, _, _, _, rfl, rfl, SqL.of hLN, atI_nat (j := 0) rfl, d, _, rfl, DT_get2 (s5 _ _ hD), _, rfl, r, _, rfl, .inl (SqL.of (s5 _ _ hr4)), _, _, rfl, rfl, _, DT_put2 (s5 _ _ hD), ?_⟩
          refine ⟨_, _, rfl, (sm.trans s5).upd hd, fun b o hb e => upd_lst (sb5 b o hb e) hb, ?_⟩
          rw [if_pos rfl] at st2
          rw [if_neg (by simp)] at st1
          rw [st1, st2, upd_same, List.length_map]
          rfl
      · have e := of_decide_eq_false (Bool.not_eq_true _ ▸ e)
        refine ⟨_, _, rfl, sm.trans s5, sb5, ?_⟩
        rw [if_neg (by intro z; rw [z] at e; exact e rfl)] at st1 st2
        rw [st1, st2]
        exact s5 _ _ hD
    · rintro σ H4 ⟨v, v', rfl, sm, sb, hD⟩
      rw [List.take_length, arS_end hP, arS_end hP] at hD
      exact ⟨_, rfl, k _ d sm hd hD⟩
end
section
variable {P : Program} {w : World} {K : PySem.W.Frag} {mg : Str → Option Value} {base : Heap}
abbrev s_chain_numbers : Stmt := top 32
theorem sc_chain_numbers : FnScope ["points", "chains", "chain_of", "point", "number", "chain"] ["points", "chains"] (defScope s_chain_numbers) := ⟨rfl, rfl, rfl, by decide +kernel, rfl, by decide +kernel, by decide +kernel⟩
def IsNum (ls : List (List Nat)) (i p : Nat) (z : Int) : Prop := (∃ (j : Nat) (m : List Nat), j < i ∧ ls[j]? = some m ∧ p ∈ m ∧ z = (j : Int)) ∨ ((∀ (j : Nat) (m : List Nat), j < i → ls[j]? = some m → p ∉ m) ∧ z = -1)
def Nums (ls : List (List Nat)) (i N : Nat) (co : List Int) : Prop := co.length = N ∧ ∀ (p : Nat) (z : Int), co[p]? = some z → IsNum ls i p z
def spNums : Sp := fun vs H Q _ => ∃ (ca : Addr) (N : Nat) (ls : List (List Nat)), vs = [nV N, .ref ca] ∧ LL H ca ls ∧ N ≤ 400 ∧ (∀ l ∈ ls, ∀ q ∈ l, q < N) ∧
  ∀ (H' : Hp) (a : Addr) (co : List Int), Same H H' → H a = none → Nums ls ls.length N co → LZ H' a co → Q (.ref a) H'
theorem ok_chain_numbers (T : Txt K mg) (F : Fd K mg "chain_numbers" s_chain_numbers ["points", "chains"]) : Fx P w K mg base 1 "chain_numbers" ["points", "chains"] spNums := by
  refine F.ok sc_chain_numbers (fun vs H Q E h => ?_) (fun f cdv A outer s H vs Q E hr h => ?_)
  · obtain ⟨ca, N, ls, rfl, _⟩ := h; rfl
  · obtain ⟨ca, N, ls, rfl, hLL, hN, hls, k⟩ := h
    have hu := hu_of hr
    refine ⟨_, (pss_cons (ps_setLc (i := 2) rfl sc_chain_numbers.nd rfl rfl (sw_true rfl rfl rfl rfl) (pi_range1 rfl T.range (pa_cons (pv 0) pa_nil)) (own := [("point", 3)]) (blkOk_by (N := ["points", "chains", "chain_of", "point", "number", "chain"]) (sc := defScope s_chain_numbers) (by decide +kernel)) (fun _ _ _ _ _ => (pg_name (i := 3) sc_chain_numbers.nd rfl (Or.inl rfl))) (fun _ _ _ _ _ => pts_nil) (fun _ _ _ _ _ => (pk T.NO_CHAIN)))
      (pss_cons (ps_for PassesOwn.never rfl (pi_enum rfl T.enumerate (pa_cons (pv 1) pa_nil)) (pg_tup rfl (pgs_cons (pg_name (i := 4) sc_chain_numbers.nd rfl (Or.inl rfl)) (pgs_cons (pg_name (i := 5) sc_chain_numbers.nd rfl (Or.inl rfl)) pgs_nil)))
        (pss_one (ps_for PassesOwn.never rfl (pi_list (pv 5)) (pg_name (i := 3) sc_chain_numbers.nd rfl (Or.inl rfl))
        (pss_one (ps_asg (pv 4) (pg_sub (pv 2) (pv 3) set_list))))))
      (pss_one (ps_ret (pv 2))))), ?_⟩
    refine ⟨_, rfl, _, rfl, by omega, by omega, fun a ha => ?_⟩
    refine lc_upto (n := N) rfl (fun i H' => H' = L2.upd H a (.lst ((List.replicate i (-1 : Int)).map V.int))) rfl ?_ ?_
    · rintro i _ hi rfl
      refine ⟨rfl, _, upd_same, by rw [List.length_map, List.length_replicate]; exact small (by omega), ?_⟩
      rw [upd_upd, List.replicate_succ', List.map_append]; rfl
    rintro _ rfl
    obtain ⟨rs, y1, y2, y3⟩ := hLL
    have s1 : Same H (L2.upd H a (.lst ((List.replicate N (-1 : Int)).map V.int))) := same_new ha
    refine ⟨_, rfl, ca, _, rfl, SqL.of (s1 _ _ y1), ?_⟩
    refine for_enumLL (ls := ls) y2 (fun i σ H' => ∃ (co : List Int) (v v' v2 : Option V), σ = [some (nV N), some (.ref ca), some (.ref a), v, v', v2] ∧ Same H H' ∧ LZ H' a co ∧ Nums ls i N co)
      ⟨_, _, _, _, rfl, s1, upd_same, List.length_replicate, fun p z e => .inr ⟨fun j m h => by omega, ?_⟩⟩ (fun i σ H' ⟨_, _, _, _, _, sm, _⟩ => sm _ _ y1) ?_ ?_
    · exact (List.eq_of_mem_replicate (List.mem_of_getElem? e))
    · rintro i r l t σ H1 er el ht ⟨co, v, v', v2, rfl, sm, hco, hNu⟩
      have hrl := y3 i r l er el
      have s2 : Same H (L2.upd H1 t (.tup [nV i, .ref r])) := sm.upd (sm.free ht)
      refine ⟨t, _, rfl, SqT.of upd_same, rfl, _, _, rfl, _, _, rfl, rfl, _, rfl, r, rfl, ⟨_, SqL.of (s2 _ _ hrl)⟩, ?_⟩
      refine for_nats (l := l) (fun j σ H' => ∃ (co : List Int) (v : Option V), σ = [some (nV N), some (.ref ca), some (.ref a), v, some (nV i), some (.ref r)] ∧ Same H H' ∧ LZ H' a co ∧ co.length = N ∧ ∀ (p : Nat) (z : Int), co[p]? = some z → (p ∈ l.take j ∧ z = (i : Int)) ∨ (p ∉ l.take j ∧ IsNum ls i p z))
        ⟨co, _, rfl, s2, upd_other hco ht, hNu.1, fun p z e => .inr ⟨by simp, hNu.2 p z e⟩⟩ (fun i σ H' ⟨_, _, _, sm, _⟩ => sm _ _ hrl) ?_ ?_
      · rintro j q σ H2 hq ⟨co, v, rfl, sm, hco, hl, hW⟩
        have hqN : q < N := hls l (List.mem_of_getElem? el) q (List.mem_of_getElem? hq)
        refine ⟨_, rfl, _, rfl, _, rfl, a, _, _, q, rfl, rfl, hco, ixN_nat (by rw [List.length_map]; omega), ?_⟩
        refine ⟨co.set q i, _, rfl, sm.upd ha, ?_, by rw [List.length_set]; exact hl, fun p z e => ?_⟩
        · show L2.upd _ _ _ _ = _
          rw [upd_same, List.map_set]
        · rw [take_snoc' hq]
          by_cases hpq : p = q
          · subst hpq
            rw [List.getElem?_set_self (by omega)] at e
            exact .inl ⟨by simp, (Option.some.inj e).symm⟩
          · rw [List.getElem?_set_ne (fun z => hpq z.symm)] at e
            rcases hW p z e with ⟨h1, h2⟩ | ⟨h1, h2⟩
            · exact .inl ⟨List.mem_append_left _ h1, h2⟩
            · exact .inr ⟨by simp [h1, hpq], h2⟩
      · rintro σ H2 ⟨co, v, rfl, sm, hco, hl, hW⟩
        refine ⟨co, _, _, _, rfl, sm, hco, hl, fun p z e => ?_⟩
        have := hW p z e
        rw [List.take_length] at this
        rcases this with ⟨h1, h2⟩ | ⟨h1, ⟨j, m, hj, h3, h4, h5⟩ | ⟨h3, h4⟩⟩
        · exact .inl ⟨i, l, by omega, el, h1, h2⟩
        · exact .inl ⟨j, m, by omega, h3, h4, h5⟩
        · refine .inr ⟨fun j m hj e2 => ?_, h4⟩
          rcases Nat.lt_succ_iff_lt_or_eq.mp hj with hj | rfl
          · exact h3 j m hj e2
          · rw [el] at e2; rw [← Option.some.inj e2]; exact h1
    · rintro σ H1 ⟨co, v, v', v2, rfl, sm, hco, hNu⟩
      exact ⟨_, rfl, k _ a co sm ha hNu hco⟩
abbrev s_chains_near : Stmt := top 33
theorem sc_chains_near : FnScope ["chain_of", "beside", "point", "near", "step", "chain"] ["chain_of", "beside", "point"] (defScope s_chains_near) := ⟨rfl, rfl, rfl, by decide +kernel, rfl, by decide +kernel, by decide +kernel⟩
structure NearS (co : List Int) (B l : List Nat) : Prop where
  nd : l.Nodup
  mem : ∀ i : Nat, i ∈ l ↔ ∃ q ∈ B, co[q]? = some (i : Int)
def spNear : Sp := fun vs H Q _ => ∃ (ca bs : Addr) (n p : Nat) (co : List Int), vs = [.ref ca, .ref bs, nV p] ∧ LZ H ca co ∧ co.length = n * n ∧ (∀ z ∈ co, z = -1 ∨ 0 ≤ z) ∧ Bes H bs n ∧ p < n * n ∧ RetL H Q (NearS co (besideM n p))
theorem ok_chains_near (T : Txt K mg) (F : Fd K mg "chains_near" s_chains_near ["chain_of", "beside", "point"]) : Fx P w K mg base 1 "chains_near" ["chain_of", "beside", "point"] spNear := by
  refine F.ok sc_chains_near (fun vs H Q E h => ?_) (fun f cdv A outer s H vs Q E hr h => ?_)
  · obtain ⟨ca, bs, n, p, co, rfl, _⟩ := h; rfl
  · obtain ⟨ca, bs, n, p, co, rfl, hco, hcl, hz, hS, hp, k⟩ := h
    have hu := hu_of hr
    refine ⟨_, (pss_cons (ps_set (i := 3) sc_chains_near.nd rfl (Or.inl rfl) (pe_lst pa_nil))
      (pss_cons (ps_for PassesOwn.never rfl (pi_list (pe_ix ix_list (pv 1) (pv 2) (fun _ _ => rfl))) (pg_name (i := 4) sc_chains_near.nd rfl (Or.inl rfl))
        (pss_cons (ps_set (i := 5) sc_chains_near.nd rfl (Or.inl rfl) (pe_ix ix_list (pv 0) (pv 4) (fun _ _ => rfl)))
      (pss_one (ps_if (pw_and (pt_cmpR op_ne (pv 5) (pk T.NO_CHAIN) (nomark _)) (pw_and1 (pt_cmpR op_notIn_seq (pv 5) (pv 3) (by with_unfolding_all rfl)))).pt
        (pss_one (ps_expr (pe_bm PySem.F.plainAttrs_list PySem.F.slot_list_append PySem.F.type_list_append mt_append (pv 3) (pa_cons (pv 5) pa_nil))))
        pss_nil))))
      (pss_one (ps_ret (pv 3))))), ?_⟩
    refine ⟨Nat.zero_le _, fun a ha => ?_⟩
    have s1 : Same H (L2.upd H a (.lst [])) := same_new ha
    obtain ⟨r, xs, g1, g2, g3⟩ := hS.at (K := K) hp
    refine ⟨_, rfl, _, rfl, bs, xs, _, _, rfl, rfl, s1.seq g1, g2, r, rfl, ⟨_, SqL.of (s1 _ _ g3)⟩, ?_⟩
    refine for_nats (l := besideM n p) (fun j σ H' => ∃ (l : List Nat) (v v' : Option V), σ = [some (.ref ca), some (.ref bs), some (nV p), some (.ref a), v, v'] ∧ Same H H' ∧ LN H' a l ∧ l.length ≤ j ∧ NearS co ((besideM n p).take j) l)
      ⟨[], _, _, rfl, s1, upd_same, Nat.le_refl _, by simp, by simp⟩ (fun i σ H' ⟨_, _, _, _, sm, _⟩ => sm _ _ g3) ?_ ?_
    · rintro j q σ H1 hq ⟨l, v, v', rfl, sm, hl, hlj, hW⟩
      have hqn : q < n * n := near_lt hp ((mem_besideM hp).mp (List.mem_of_getElem? hq))
      obtain ⟨z, ez⟩ : ∃ z, co[q]? = some z := ⟨co[q], List.getElem?_eq_getElem (by omega)⟩
      have hj4 : j < 4 := Nat.lt_of_lt_of_le (List.getElem?_eq_some_iff.mp hq).1 (besideM_length n p)
      refine ⟨_, rfl, _, rfl, ca, _, _, _, rfl, rfl, SqL.of (sm _ _ hco), atZ ez, ?_⟩
      have skip : ∀ {H2 : Hp} {l : List Nat} {v v' : Option V}, Same H H2 → LN H2 a l → l.length ≤ j + 1 → NearS co ((besideM n p).take j) l → (∀ i : Nat, z = (i : Int) → i ∈ l) → ∃ (l : List Nat) (v1 v2 : Option V), [some (.ref ca), some (.ref bs), some (nV p), some (.ref a), v, v'] = [some (.ref ca), some (.ref bs), some (nV p), some (.ref a), v1, v2] ∧ Same H H2 ∧ LN H2 a l ∧ l.length ≤ j + 1 ∧ NearS co ((besideM n p).take (j + 1)) l := by
        intro H2 l v v' sm2 hl2 hj2 hW2 hi
        refine ⟨l, _, _, rfl, sm2, hl2, hj2, hW2.nd, fun i => ?_⟩
        rw [hW2.mem, take_snoc' hq]
        constructor
        · rintro ⟨x, hx, e⟩; exact ⟨x, List.mem_append_left _ hx, e⟩
        · rintro ⟨x, hx, e⟩
          rcases List.mem_append.mp hx with hx | hx
          · exact ⟨x, hx, e⟩
          · rw [List.mem_singleton.mp hx, ez] at e
            exact (hW2.mem i).mp (hi i (Option.some.inj e))
      refine ⟨_, rfl, rfl, _, rfl, ?_⟩
      rcases hz z (List.mem_of_getElem? ez) with h0 | h0
      · subst h0
        refine iteNS rfl ?_
        exact iteF (skip sm hl (by omega) hW fun i e => by omega)
      · obtain ⟨i, rfl⟩ : ∃ i : Nat, z = (i : Int) := ⟨z.toNat, by omega⟩
        rw [decide_eq_false (by intro e; have := V.int.inj e; omega)]
        refine iteT ?_
        refine ⟨_, rfl, _, rfl, a, _, rfl, .inl (SqL.of hl), rfl, flat_nat _, _, rfl, ?_⟩
        show if (!inV _ _) = true then _ else _
        rw [inV_nat]
        by_cases hm : i ∈ l
        · rw [List.contains_iff_mem.mpr hm]
          exact iteF (skip sm hl (by omega) hW fun i' e => by rw [← Int.ofNat.inj e]; exact hm)
        · rw [show l.contains i = false by rw [← Bool.not_eq_true]; exact fun z => hm (List.contains_iff_mem.mp z)]
          refine iteT ?_
          refine ⟨_, rfl, .inl ⟨rfl, _, SqL.of hl⟩, _, rfl, a, _, _, rfl, rfl, hl, by rw [List.length_map]; exact small (by omega), ?_⟩
          refine ⟨l ++ [i], _, _, rfl, sm.upd ha, ?_, by simp; omega, ?_, fun x => ?_⟩
          · show L2.upd _ _ _ _ = _
            rw [upd_same, List.map_append]; rfl
          · exact List.nodup_append.mpr ⟨hW.nd, by simp, fun x hx y hy e => by rw [List.mem_singleton.mp hy] at e; exact hm (e ▸ hx)⟩
          · rw [List.mem_append, hW.mem, take_snoc' hq]
            constructor
            · rintro (⟨y, hy, e⟩ | hx)
              · exact ⟨y, List.mem_append_left _ hy, e⟩
              · rw [List.mem_singleton.mp hx]; exact ⟨q, by simp, ez⟩
            · rintro ⟨y, hy, e⟩
              rcases List.mem_append.mp hy with hy | hy
              · exact .inl ⟨y, hy, e⟩
              · rw [List.mem_singleton.mp hy, ez] at e
                exact .inr (by rw [Int.ofNat.inj (Option.some.inj e)]; simp)
    · rintro σ H1 ⟨l, v, v', rfl, sm, hl, hlj, hW⟩
      rw [List.take_length] at hW
      exact ⟨_, rfl, k _ a l sm ha hW hl⟩
end
theorem ext_snd {α : Type} {l : List α} {i : Nat} {x y : α} (h1 : l[i]? = some x) (h2 : l[i]? = some y) : x = y := Option.some.inj (h1.symm.trans h2)
section
variable {P : Program} {w : World} {K : PySem.W.Frag} {mg : Str → Option Value} {base : Heap}
abbrev s_chains_round : Stmt := top 34
theorem sc_chains_round : FnScope ["near", "piece", "found", "point", "chain"] ["near", "piece"] (defScope s_chains_round) := ⟨rfl, rfl, rfl, by decide +kernel, rfl, by decide +kernel, by decide +kernel⟩
structure RoundS (nr : List (List Nat)) (C B l : List Nat) : Prop where
  nd : l.Nodup
  mem : ∀ i : Nat, i ∈ l ↔ (∃ p ∈ C, ∃ x, nr[p]? = some x ∧ i ∈ x) ∨ i ∈ B
theorem RoundS.put {nr : List (List Nat)} {C B l : List Nat} {j q : Nat} (hq : B[j]? = some q) (h : RoundS nr C (B.take j) l) : RoundS nr C (B.take (j + 1)) (insD l q) := by
  refine ⟨insD_nd h.nd, fun x => ?_⟩
  rw [insD_mem, h.mem, take_snoc' hq, List.mem_append, List.mem_singleton]
  exact or_assoc
theorem RoundS.next {nr : List (List Nat)} {C l x : List Nat} {i p : Nat} (hp : C[i]? = some p) (hx : nr[p]? = some x) (h : RoundS nr (C.take i) x l) : RoundS nr (C.take (i + 1)) [] l := by
  refine ⟨h.nd, fun z => ?_⟩
  rw [h.mem, take_snoc' hp]
  constructor
  · rintro (⟨y, hy, e⟩ | hz)
    · exact .inl ⟨y, List.mem_append_left _ hy, e⟩
    · exact .inl ⟨p, by simp, x, hx, hz⟩
  · rintro (⟨y, hy, u, e, hz⟩ | hz)
    · rcases List.mem_append.mp hy with hy | hy
      · exact .inl ⟨y, hy, u, e, hz⟩
      · rw [List.mem_singleton.mp hy, hx] at e
        rw [← Option.some.inj e] at hz
        exact .inr hz
    · cases hz
def spRound : Sp := fun vs H Q _ => ∃ (na pa : Addr) (nr : List (List Nat)) (C : List Nat), vs = [.ref na, .ref pa] ∧ LL H na nr ∧ LN H pa C ∧ (∀ p ∈ C, p < nr.length) ∧ (∀ x ∈ nr, ∀ i ∈ x, i < 400) ∧ RetL H Q (RoundS nr C [])
theorem ok_chains_round (T : Txt K mg) (F : Fd K mg "chains_round" s_chains_round ["near", "piece"]) : Fx P w K mg base 1 "chains_round" ["near", "piece"] spRound := by
  refine F.ok sc_chains_round (fun vs H Q E h => ?_) (fun f cdv A outer s H vs Q E hr h => ?_)
  · obtain ⟨na, pa, nr, C, rfl, _⟩ := h; rfl
  · obtain ⟨na, pa, nr, C, rfl, hN, hC, hCn, h4, k⟩ := h
    have hu := hu_of hr
    refine ⟨_, (pss_cons (ps_set (i := 2) sc_chains_round.nd rfl (Or.inl rfl) pe_dnewK)
      (pss_cons (ps_for PassesOwn.never rfl (pi_list (pv 1)) (pg_name (i := 3) sc_chains_round.nd rfl (Or.inl rfl))
        (pss_one (ps_for PassesOwn.never rfl (pi_list (pe_ix ix_list (pv 0) (pv 3) (fun _ _ => rfl))) (pg_name (i := 4) sc_chains_round.nd rfl (Or.inl rfl))
        (pss_one (ps_dput hu (pv 2) (pv 4) pe_bl rfl)))))
      (pss_one (ps_ret (pe_callTy (call_list_dict hr.hd) (by rfl) T.list boot_list (pa_cons (pv 2) pa_nil)))))), ?_⟩
    intro d hd
    have s1 : Same H (L2.upd H d (.dK [])) := same_new hd
    refine ⟨_, rfl, pa, rfl, ⟨_, SqL.of (s1 _ _ hC)⟩, ?_⟩
    refine for_nats (l := C) (fun i σ H' => ∃ (l : List Nat) (v v' : Option V), σ = [some (.ref na), some (.ref pa), some (.ref d), v, v'] ∧ Same H H' ∧ DS H' d l ∧ RoundS nr (C.take i) [] l)
      ⟨[], none, none, rfl, s1, upd_same, by simp, fun q => by simp⟩ (fun i σ H' ⟨_, _, _, _, sm, _⟩ => sm _ _ hC) ?_ ?_
    · rintro i p σ H1 hp ⟨l, v, v', rfl, sm, hD, hW⟩
      have hpn := hCn p (List.mem_of_getElem? hp)
      have ex : nr[p]? = some nr[p] := List.getElem?_eq_getElem hpn
      obtain ⟨xs, r, g1, g2, g3, g4⟩ := hN.at ex
      refine ⟨_, rfl, _, rfl, na, xs, _, _, rfl, rfl, SqL.of (sm _ _ g1), atI_nat g3, r, rfl, ⟨_, SqL.of (sm _ _ g4)⟩, ?_⟩
      refine for_nats (l := nr[p]) (fun j σ H' => ∃ (l : List Nat) (v' : Option V), σ = [some (.ref na), some (.ref pa), some (.ref d), some (nV p), v'] ∧ Same H H' ∧ DS H' d l ∧ RoundS nr (C.take i) (nr[p].take j) l)
        ⟨l, _, rfl, sm, hD, by rw [List.take_zero]; exact hW⟩ (fun i σ H' ⟨_, _, _, sm, _⟩ => sm _ _ g4) ?_ ?_
      · rintro j q σ H2 hq ⟨l, v', rfl, sm, hD, hW⟩
        have hl : l.length ≤ 400 := short hW.nd fun x hx => by
          rcases (hW.mem x).mp hx with ⟨_, _, y, hy, hxy⟩ | hx
          · exact h4 y (List.mem_of_getElem? hy) x hxy
          · exact h4 _ (List.mem_of_getElem? ex) x (List.mem_of_mem_take hx)
        refine ⟨_, rfl, _, rfl, d, _, rfl, ds_put hD (small (by omega)), ?_⟩
        exact ⟨_, _, rfl, sm.upd hd, upd_same, hW.put hq⟩
      · rintro σ H2 ⟨l, v', rfl, sm, hD, hW⟩
        rw [List.take_length] at hW
        exact ⟨l, _, _, rfl, sm, hD, hW.next hp ex⟩
    · rintro σ H1 ⟨l, v, v', rfl, sm, hD, hW⟩
      rw [List.take_length] at hW
      refine ⟨_, rfl, d, _, rfl, hD, fun a ha => ?_⟩
      refine k _ a l (sm.upd (sm.free ha)) (sm.free ha) hW ?_
      show L2.upd _ _ _ _ = _
      rw [upd_same, setD_keys]
abbrev s_chains_kept : Stmt := top 35
theorem sc_chains_kept : FnScope ["stones", "near", "piece", "empty", "point", "vital", "chain"] ["stones", "near", "piece"] (defScope s_chains_kept) := ⟨rfl, rfl, rfl, by decide +kernel, rfl, by decide +kernel, by decide +kernel⟩
def KeptS (b : Sd46.Board) (nr : List (List Nat)) (C l : List Nat) : Prop := l.Nodup ∧ ∀ x, x ∈ l ↔ (∃ p ∈ C, Sd46.at_ b p = 0) ∧ ∀ p ∈ C, Sd46.at_ b p = 0 → ∃ y, nr[p]? = some y ∧ x ∈ y
def spKept : Sp := fun vs H Q _ => ∃ (st na pa : Addr) (n : Nat) (b : Sd46.Board) (nr : List (List Nat)) (C : List Nat), vs = [.ref st, .ref na, .ref pa] ∧ Brd H st n b ∧ LL H na nr ∧ nr.length = n * n ∧ n ≤ 19 ∧ LN H pa C ∧ C.Nodup ∧ (∀ p ∈ C, p < n * n) ∧ (∀ x ∈ nr, x.Nodup ∧ ∀ i ∈ x, i < 400) ∧ RetL H Q (KeptS b nr C)
theorem ok_chains_kept (T : Txt K mg) (F : Fd K mg "chains_kept" s_chains_kept ["stones", "near", "piece"]) : Fx P w K mg base 1 "chains_kept" ["stones", "near", "piece"] spKept := by
  refine F.ok sc_chains_kept (fun vs H Q E h => ?_) (fun f cdv A outer s H vs Q E hr h => ?_)
  · obtain ⟨st, na, pa, n, b, nr, C, rfl, _⟩ := h; rfl
  · obtain ⟨st, na, pa, n, b, nr, C, rfl, hB, hN, hnr, h2, hC, hCd, hCn, h4, k⟩ := h
    have hu := hu_of hr
    have hnn : n * n ≤ 361 := by have := Nat.mul_le_mul h2 h2; omega
    have hCl := short hCd hCn
    refine ⟨_, (pss_cons (ps_setLc (i := 3) rfl sc_chains_kept.nd rfl rfl (sw_true rfl rfl rfl rfl) (pi_list (pv 2)) (own := [("point", 4)]) (blkOk_by (N := ["stones", "near", "piece", "empty", "point", "vital", "chain"]) (sc := defScope s_chains_kept) (by decide +kernel)) (fun _ _ _ _ _ => (pg_name (i := 4) sc_chains_kept.nd rfl (Or.inl rfl))) (fun _ _ _ _ _ => (pts_one (pt_cmpR op_eq (pe_ix (show IxR _ (rIxL K) from ix_list) (pv 0) (pv 4) (fun _ _ => rfl)) (pk T.EMPTY) (nomark _)))) (fun _ _ _ _ _ => (pv 4)))
      (pss_cons (ps_if (pt_cmpR op_eq (pe_callB call_len_seq (by rfl) T.len PySem.boot_len (pa_cons (pv 3) pa_nil)) pe_int (nomark _))
        (pss_one (ps_ret (pe_lst pa_nil)))
        pss_nil)
      (pss_cons (ps_set (i := 5) sc_chains_kept.nd rfl (Or.inl rfl) (pe_ix ix_list (pv 1) (pe_ix ix_list (pv 3) pe_int (fun _ _ => rfl)) (fun _ _ => rfl)))
      (pss_cons (ps_for PassesOwn.never rfl (pi_list (pv 3)) (pg_name (i := 4) sc_chains_kept.nd rfl (Or.inr rfl))
        (pss_one (ps_setLc (i := 5) rfl sc_chains_kept.nd rfl rfl (sw_true rfl rfl rfl rfl) (pi_list (pv 5)) (own := [("chain", 6)]) (blkOk_by (N := ["stones", "near", "piece", "empty", "point", "vital", "chain"]) (sc := defScope s_chains_kept) (by decide +kernel)) (fun _ _ _ _ _ => (pg_name (i := 6) sc_chains_kept.nd rfl (Or.inl rfl))) (fun _ _ _ _ _ => (pts_one (pt_cmpR (show OpR _ (compareOp .In) (rIn K false) from op_in_seq) (pv 6) (pe_ix (show IxR _ (rIxL K) from ix_list) (pv 1) (pv 4) (fun _ _ => rfl)) (by with_unfolding_all rfl)))) (fun _ _ _ _ _ => (pv 6)))))
      (pss_one (ps_ret (pv 5))))))), ?_⟩
    refine ⟨_, rfl, pa, rfl, ⟨_, SqL.of hC⟩, fun a ha => ?_⟩
    have s1 : ∀ {o : HO}, Same H (L2.upd H a o) := same_new ha
    refine lc_nats (l := C) (fun i H' => ∃ E : List Nat, H' = L2.upd H a (.lst (E.map nV)) ∧ E = (C.take i).filter fun p => decide (Sd46.at_ b p = 0)) ⟨[], rfl, rfl⟩ (fun i H' ⟨_, h, _⟩ => by rw [h]; exact s1 _ _ hC) ?_ ?_
    · rintro i p _ hp ⟨E, rfl, hE⟩
      have hpn := hCn p (List.mem_of_getElem? hp)
      have hEl : E.length ≤ 400 := by
        rw [hE]
        have := List.length_filter_le (fun p => decide (Sd46.at_ b p = 0)) (C.take i)
        rw [List.length_take] at this
        omega
      refine ⟨rfl, _, rfl, _, rfl, st, _, _, _, rfl, rfl, (hB.same s1).sq, (hB.same (s1 (o := .lst (E.map nV)))).ix hpn, rfl, _, rfl, ?_⟩
      rw [show (V.int 0 : V) = nV 0 from rfl, nV_dec]
      refine ite2 (fun e => ?_) (fun e => ?_)
      · refine ⟨_, rfl, _, upd_same, by rw [List.length_map]; exact small (by omega), E ++ [p], ?_, ?_⟩
        · rw [upd_upd, List.map_append]; rfl
        · rw [take_snoc' hp, List.filter_append, ← hE, List.filter_cons, if_pos e]; rfl
      · refine ⟨E, rfl, ?_⟩
        rw [take_snoc' hp, List.filter_append, ← hE, List.filter_cons, if_neg e]; simp
    rintro _ ⟨E, rfl, hE⟩
    rw [List.take_length] at hE
    have hEm : ∀ p, p ∈ E ↔ p ∈ C ∧ Sd46.at_ b p = 0 := by intro p; rw [hE]; simp
    refine ⟨_, rfl, a, _, rfl, .inl (SqL.of upd_same), rfl, _, rfl, ?_⟩
    rw [List.length_map, show (V.int 0 : V) = nV 0 from rfl, nV_dec]
    refine ite2 (fun e => ?_) (fun e => ?_)
    · have e := of_decide_eq_true e
      have e0 := List.length_eq_zero_iff.mp e
      refine ⟨Nat.zero_le _, fun l hl => ?_⟩
      refine k _ l [] (s1.upd (s1.free hl)) (s1.free hl) ⟨by simp, fun x => ⟨fun h => by simp at h, fun ⟨⟨p, hp, h0⟩, _⟩ => ?_⟩⟩ upd_same
      have := (hEm p).mpr ⟨hp, h0⟩
      rw [e0] at this
      cases this
    · have e := of_decide_eq_false (Bool.not_eq_true _ ▸ e)
      obtain ⟨p0, he0⟩ : ∃ p, E[0]? = some p := ⟨E[0]'(by omega), List.getElem?_eq_getElem (by omega)⟩
      have hp0 := (hEm p0).mp (List.mem_of_getElem? he0)
      have hp0n := hCn p0 hp0.1
      have ex0 : nr[p0]? = some nr[p0] := List.getElem?_eq_getElem (by omega)
      obtain ⟨xs, r, g1, g2, g3, g4⟩ := hN.at ex0
      refine ⟨_, rfl, _, rfl, a, _, _, _, rfl, rfl, SqL.of upd_same, atN (i := 0) he0, na, xs, _, _, rfl, rfl, SqL.of (s1 _ _ g1), atI_nat g3, ?_⟩
      refine ⟨_, rfl, a, rfl, ⟨_, SqL.of upd_same⟩, ?_⟩
      refine for_nats (l := E) (fun i σ H' => ∃ (l : List Nat) (va : Addr) (v v' : Option V), σ = [some (.ref st), some (.ref na), some (.ref pa), some (.ref a), v, some (.ref va), v'] ∧ Same H H' ∧ LN H' a E ∧ LN H' va l ∧ (0 < i → H va = none) ∧ l.Nodup ∧ l.length ≤ 400 ∧ ∀ x, x ∈ l ↔ x ∈ nr[p0] ∧ ∀ p ∈ E.take i, ∃ y, nr[p]? = some y ∧ x ∈ y)
        ⟨nr[p0], r, _, _, rfl, s1, upd_same, s1 _ _ g4, fun z => by omega, (h4 _ (List.mem_of_getElem? ex0)).1, short (h4 _ (List.mem_of_getElem? ex0)).1 (h4 _ (List.mem_of_getElem? ex0)).2, fun x => by simp⟩ (fun i σ H' ⟨_, _, _, _, _, _, z, _⟩ => z) ?_ ?_
      · rintro i p σ H1 hp ⟨l, va, v, v', rfl, sm, hE1, hl1, hnew, nd, hl4, mem⟩
        have hpE := (hEm p).mp (List.mem_of_getElem? hp)
        have hpl : p < nr.length := by have := hCn p hpE.1; omega
        have ex : nr[p]? = some nr[p] := List.getElem?_eq_getElem hpl
        obtain ⟨xs, r, g1, g2, g3, g4⟩ := hN.at ex
        refine ⟨_, rfl, va, rfl, ⟨_, SqL.of hl1⟩, fun c hc => ?_⟩
        have s2 : ∀ {o : HO}, Same H1 (L2.upd H1 c o) := same_new hc
        refine lc_nats (l := l) (fun j H' => ∃ E : List Nat, H' = L2.upd H1 c (.lst (E.map nV)) ∧ E = (l.take j).filter fun x => nr[p].contains x) ⟨[], rfl, rfl⟩ (fun i H' ⟨_, h, _⟩ => by rw [h]; exact s2 _ _ hl1) ?_ ?_
        · rintro j x _ hx ⟨M, rfl, hM⟩
          have hMl : M.length ≤ 400 := by
            rw [hM]
            have := List.length_filter_le (fun x => nr[p].contains x) (l.take j)
            rw [List.length_take] at this
            omega
          refine ⟨rfl, _, rfl, _, rfl, _, rfl, na, _, _, _, rfl, rfl, SqL.of (s2 _ _ (sm _ _ g1)), atI_nat g3, r, _, rfl, .inl (SqL.of (s2 _ _ (sm _ _ g4))), rfl, flat_nat _, _, rfl, ?_⟩
          show if inV _ _ = true then _ else _
          rw [inV_nat]
          refine ite2 (fun e => ?_) (fun e => ?_)
          · refine ⟨_, rfl, _, upd_same, by rw [List.length_map]; exact small (by omega), M ++ [x], ?_, ?_⟩
            · rw [upd_upd, List.map_append]; rfl
            · rw [take_snoc' hx, List.filter_append, ← hM, List.filter_cons, if_pos e]; rfl
          · refine ⟨M, rfl, ?_⟩
            rw [take_snoc' hx, List.filter_append, ← hM, List.filter_cons, if_neg e]; simp
        rintro _ ⟨M, rfl, hM⟩
        rw [List.take_length] at hM
        refine ⟨M, c, _, _, rfl, sm.upd (sm.free hc), upd_other hE1 hc, upd_same, fun _ => sm.free hc, by rw [hM]; exact nd.filter _, by rw [hM]; exact Nat.le_trans (List.length_filter_le _ _) hl4, fun x => ?_⟩
        rw [hM, List.mem_filter, mem, take_snoc' hp]
        constructor
        · rintro ⟨⟨h1, h2⟩, h3⟩
          refine ⟨h1, fun q hq => ?_⟩
          rcases List.mem_append.mp hq with hq | hq
          · exact h2 q hq
          · rw [List.mem_singleton.mp hq]
            exact ⟨_, ex, List.contains_iff_mem.mp h3⟩
        · rintro ⟨h1, h2⟩
          refine ⟨⟨h1, fun q hq => h2 q (List.mem_append_left _ hq)⟩, ?_⟩
          obtain ⟨y, hy, hxy⟩ := h2 p (by simp)
          rw [ex] at hy
          rw [← Option.some.inj hy] at hxy
          exact List.contains_iff_mem.mpr hxy
      · rintro σ H1 ⟨l, va, v, v', rfl, sm, hE1, hl1, hnew, nd, hl4, mem⟩
        refine ⟨_, rfl, k _ va l sm (hnew (by omega)) ⟨nd, fun x => ?_⟩ hl1⟩
        rw [mem, List.take_length]
        constructor
        · rintro ⟨h1, h2⟩
          exact ⟨⟨p0, hp0⟩, fun p hp h0 => h2 p ((hEm p).mpr ⟨hp, h0⟩)⟩
        · rintro ⟨h1, h2⟩
          refine ⟨?_, fun p hp => h2 p ((hEm p).mp hp).1 ((hEm p).mp hp).2⟩
          obtain ⟨y, hy, hxy⟩ := h2 p0 hp0.1 hp0.2
          rw [ext_snd ex0 hy]
          exact hxy
end
structure Rows (H0 H : Hp) (a : Addr) (rs : List Addr) (ps : List (List Nat)) : Prop where
  lst : H a = some (.lst (rs.map V.ref))
  len : rs.length = ps.length
  nd : rs.Nodup
  at_ : ∀ (i : Nat) (r : Addr) (l : List Nat), rs[i]? = some r → ps[i]? = some l → LN H r l
  new : ∀ r ∈ rs, H0 r = none ∧ r ≠ a
theorem Rows.set {H0 H : Hp} {a r : Addr} {rs : List Addr} {ps : List (List Nat)} {i : Nat} {l : List Nat} (h : Rows H0 H a rs ps) (e : rs[i]? = some r) : Rows H0 (L2.upd H r (.lst (l.map nV))) a rs (ps.set i l) := by
  have hr := List.mem_of_getElem? e
  refine ⟨upd_lst h.lst (h.new r hr).2.symm, by rw [List.length_set]; exact h.len, h.nd, fun j r' l' e1 e2 => ?_, h.new⟩
  have hi := (List.getElem?_eq_some_iff.mp e).1
  by_cases hj : j = i
  · subst hj
    rw [List.getElem?_set_self (by rw [← h.len]; exact hi)] at e2
    have e1 := ext_snd e1 e
    subst e1
    rw [← Option.some.inj e2]
    exact upd_same
  · rw [List.getElem?_set_ne (fun z => hj z.symm)] at e2
    exact upd_lst (h.at_ j r' l' e1 e2) fun z => hj (nd_ix h.nd e1 (by rw [z]; exact e))
theorem Rows.same {H0 H H' : Hp} {a : Addr} {rs : List Addr} {ps : List (List Nat)} (h : Rows H0 H a rs ps) (s : Same H H') : Rows H0 H' a rs ps := ⟨s _ _ h.lst, h.len, h.nd, fun i r l e1 e2 => s _ _ (h.at_ i r l e1 e2), h.new⟩
def byC (cs : List (List Nat)) (m i : Nat) : List (List Nat) := (List.range m).map fun c => (List.range i).filter fun j => (cs.getD j []).contains c
theorem byC_get (cs : List (List Nat)) (m i c : Nat) (h : c < m) : (byC cs m i)[c]? = some ((List.range i).filter fun j => (cs.getD j []).contains c) := by
  unfold byC
  rw [List.getElem?_map, List.getElem?_range h]; rfl
def byB (cs : List (List Nat)) (m i : Nat) (B : List Nat) : List (List Nat) := (List.range m).map fun c => ((List.range i).filter fun j => (cs.getD j []).contains c) ++ if B.contains c then [i] else []
theorem byB_nil (cs : List (List Nat)) (m i : Nat) : byB cs m i [] = byC cs m i := by
  unfold byB byC
  simp
theorem byB_end (cs : List (List Nat)) (m i : Nat) {B : List Nat} (e : cs[i]? = some B) : byB cs m i B = byC cs m (i + 1) := by
  unfold byB byC
  refine List.map_congr_left fun c _ => ?_
  rw [List.range_succ, List.filter_append, List.filter_cons]
  have : cs.getD i [] = B := by rw [List.getD_eq_getElem?_getD, e]; rfl
  rw [this]
  simp
theorem byB_get (cs : List (List Nat)) (m i c : Nat) (B : List Nat) (h : c < m) : (byB cs m i B)[c]? = some (((List.range i).filter fun j => (cs.getD j []).contains c) ++ if B.contains c then [i] else []) := by
  unfold byB
  rw [List.getElem?_map, List.getElem?_range h]; rfl
theorem byB_put {cs : List (List Nat)} {m i c : Nat} {B : List Nat} {l : List Nat} (h : c < m) (hn : c ∉ B) (e : (byB cs m i B)[c]? = some l) : (byB cs m i B).set c (l ++ [i]) = byB cs m i (B ++ [c]) := by
  rw [byB_get cs m i c B h] at e
  have e := Option.some.inj e
  refine List.ext_getElem? fun d => ?_
  have hlen : ∀ B, (byB cs m i B).length = m := by intro B; unfold byB; simp
  by_cases hd : d < m
  · rw [byB_get cs m i d _ hd]
    by_cases hdc : d = c
    · subst hdc
      rw [List.getElem?_set_self (by rw [hlen]; exact hd), ← e]
      have h1 : B.contains d = false := by rw [← Bool.not_eq_true]; exact fun z => hn (List.contains_iff_mem.mp z)
      have h2 : (B ++ [d]).contains d = true := by simp
      rw [h1, h2]; simp
    · rw [List.getElem?_set_ne (fun z => hdc z.symm), byB_get cs m i d _ hd]
      have : (B ++ [c]).contains d = B.contains d := by
        rw [Bool.eq_iff_iff]; simp [hdc]
      rw [this]
  · rw [List.getElem?_eq_none (by rw [List.length_set, hlen]; omega), List.getElem?_eq_none (by rw [hlen]; omega)]
def spByC : Sp := fun vs H Q _ => ∃ (ca : Addr) (m : Nat) (cs : List (List Nat)), vs = [nV m, .ref ca] ∧ LL H ca cs ∧ m ≤ 400 ∧ cs.length ≤ 400 ∧ (∀ x ∈ cs, x.Nodup ∧ ∀ c ∈ x, c < m) ∧
  ∀ (H' : Hp) (a : Addr) (rs : List Addr), Same H H' → H a = none → Rows H H' a rs (byC cs m cs.length) → Q (.ref a) H'
section
variable {P : Program} {w : World} {K : PySem.W.Frag} {mg : Str → Option Value} {base : Heap}
abbrev s_pieces_by_chain : Stmt := top 36
theorem sc_pieces_by_chain : FnScope ["count", "chains_of", "pieces", "chain", "piece", "chains"] ["count", "chains_of"] (defScope s_pieces_by_chain) := ⟨rfl, rfl, rfl, by decide +kernel, rfl, by decide +kernel, by decide +kernel⟩
theorem ok_pieces_by_chain (T : Txt K mg) (F : Fd K mg "pieces_by_chain" s_pieces_by_chain ["count", "chains_of"]) : Fx P w K mg base 1 "pieces_by_chain" ["count", "chains_of"] spByC := by
  refine F.ok sc_pieces_by_chain (fun vs H Q E h => ?_) (fun f cdv A outer s H vs Q E hr h => ?_)
  · obtain ⟨ca, m, cs, rfl, _⟩ := h; rfl
  · obtain ⟨ca, m, cs, rfl, hLL, hm, hcl, hcs, k⟩ := h
    have hu := hu_of hr
    refine ⟨_, (pss_cons (ps_setLc (i := 2) rfl sc_pieces_by_chain.nd rfl rfl (sw_true rfl rfl rfl rfl) (pi_range1 rfl T.range (pa_cons (pv 0) pa_nil)) (own := [("chain", 3)]) (blkOk_by (N := ["count", "chains_of", "pieces", "chain", "piece", "chains"]) (sc := defScope s_pieces_by_chain) (by decide +kernel)) (fun _ _ _ _ _ => (pg_name (i := 3) sc_pieces_by_chain.nd rfl (Or.inl rfl))) (fun _ _ _ _ _ => pts_nil) (fun _ _ _ _ _ => (pe_lst pa_nil)))
      (pss_cons (ps_for PassesOwn.never rfl (pi_enum rfl T.enumerate (pa_cons (pv 1) pa_nil)) (pg_tup rfl (pgs_cons (pg_name (i := 4) sc_pieces_by_chain.nd rfl (Or.inl rfl)) (pgs_cons (pg_name (i := 5) sc_pieces_by_chain.nd rfl (Or.inl rfl)) pgs_nil)))
        (pss_one (ps_for PassesOwn.never rfl (pi_list (pv 5)) (pg_name (i := 3) sc_pieces_by_chain.nd rfl (Or.inl rfl))
        (pss_one (ps_expr (pe_bm PySem.F.plainAttrs_list PySem.F.slot_list_append PySem.F.type_list_append mt_append (pe_ix ix_list (pv 2) (pv 3) (fun _ _ => rfl)) (pa_cons (pv 4) pa_nil)))))))
      (pss_one (ps_ret (pv 2))))), ?_⟩
    refine ⟨_, rfl, _, rfl, by omega, by omega, fun a ha => ?_⟩
    refine lc_upto (n := m) rfl (fun i H' => Same H H' ∧ ∃ rs, Rows H H' a rs (List.replicate i [])) ⟨same_new ha, [], upd_same, rfl, by simp, fun i r l e => by simp at e, by simp⟩ ?_ ?_
    · rintro i H1 hi ⟨sm, rs, hR⟩
      refine ⟨rfl, Nat.zero_le _, fun c hc => ?_⟩
      have hca : c ≠ a := fun e => by rw [e, hR.lst] at hc; cases hc
      refine ⟨_, upd_lst hR.lst hca.symm, by rw [List.length_map, hR.len, List.length_replicate]; exact small (by omega), (sm.upd (sm.free hc)).upd ha, rs ++ [c], ?_⟩
      refine ⟨by rw [upd_same, List.map_append]; rfl, by simp [hR.len], ?_, fun j r l e1 e2 => ?_, fun r hr => ?_⟩
      · refine List.nodup_append.mpr ⟨hR.nd, by simp, fun x hx y hy e => ?_⟩
        rw [List.mem_singleton.mp hy] at e
        obtain ⟨j, hj⟩ := List.mem_iff_getElem?.mp hx
        have := hR.at_ j x [] hj (by rw [List.getElem?_replicate, if_pos (by have := (List.getElem?_eq_some_iff.mp hj).1; rw [hR.len, List.length_replicate] at this; exact this)])
        rw [e] at this
        have this := hc.symm.trans this
        cases this
      · have el : l = [] := List.eq_of_mem_replicate (List.mem_of_getElem? e2)
        subst el
        rcases Nat.lt_or_ge j rs.length with z | z
        · rw [List.getElem?_append_left z] at e1
          have hj := hR.at_ j r [] e1 (by rw [List.getElem?_replicate, if_pos (by have := (List.getElem?_eq_some_iff.mp e1).1; rw [hR.len, List.length_replicate] at this; exact this)])
          exact upd_lst (upd_other hj hc) (hR.new r (List.mem_of_getElem? e1)).2
        · rw [List.getElem?_append_right z] at e1
          have : j - rs.length = 0 := by
            rcases Nat.eq_zero_or_pos (j - rs.length) with y | y
            · exact y
            · rw [List.getElem?_eq_none (by simp; omega)] at e1; cases e1
          rw [this] at e1
          have e1 : c = r := Option.some.inj e1
          subst e1
          exact upd_lst upd_same hca
      · rcases List.mem_append.mp hr with hr | hr
        · exact hR.new r hr
        · rw [List.mem_singleton.mp hr]; exact ⟨sm.free hc, hca⟩
    rintro H1 ⟨s1, rs, hR⟩
    obtain ⟨qs, y1, y2, y3⟩ := hLL
    have e0 : List.replicate m [] = byC cs m 0 := by
      unfold byC
      refine List.ext_getElem (by simp) fun i h1 h2 => ?_
      simp
    rw [e0] at hR
    refine ⟨_, rfl, ca, _, rfl, SqL.of (s1 _ _ y1), ?_⟩
    refine for_enumLL (ls := cs) y2 (fun i σ H' => ∃ (v v' v2 : Option V), σ = [some (nV m), some (.ref ca), some (.ref a), v, v', v2] ∧ Same H H' ∧ Rows H H' a rs (byC cs m i))
      ⟨_, _, _, rfl, s1, hR⟩ (fun i σ H' ⟨_, _, _, _, sm, _⟩ => sm _ _ y1) ?_ ?_
    · rintro i r l t σ H2 er el ht ⟨v, v', v2, rfl, sm, hR⟩
      have hrl := y3 i r l er el
      have hml := List.mem_of_getElem? el
      have hil : i < cs.length := (List.getElem?_eq_some_iff.mp el).1
      have s2 : Same H (L2.upd H2 t (.tup [nV i, .ref r])) := sm.upd (sm.free ht)
      refine ⟨t, _, rfl, SqT.of upd_same, rfl, _, _, rfl, _, _, rfl, rfl, _, rfl, r, rfl, ⟨_, SqL.of (s2 _ _ hrl)⟩, ?_⟩
      refine for_nats (l := l) (fun j σ H' => ∃ (v : Option V), σ = [some (nV m), some (.ref ca), some (.ref a), v, some (nV i), some (.ref r)] ∧ Same H H' ∧ Rows H H' a rs (byB cs m i (l.take j)))
        ⟨_, rfl, s2, by rw [List.take_zero, byB_nil]; exact hR.same (same_new ht)⟩ (fun i σ H' ⟨_, _, sm, _⟩ => sm _ _ hrl) ?_ ?_
      · rintro j c σ H3 hc ⟨v, rfl, sm, hR⟩
        have hcm : c < m := (hcs l hml).2 c (List.mem_of_getElem? hc)
        have hrm : rs.length = m := by rw [hR.len]; unfold byB; simp
        have e1 : rs[c]? = some rs[c] := List.getElem?_eq_getElem (by omega)
        have e2 := byB_get cs m i c (l.take j) hcm
        have hL := hR.at_ c _ _ e1 e2
        have hn : c ∉ l.take j := by
          intro hh
          obtain ⟨t', ht', e⟩ := List.mem_take_iff_getElem.mp hh
          have := nd_ix (hcs l hml).1 (by rw [← e]; exact List.getElem?_eq_getElem (by omega)) hc
          omega
        refine ⟨_, rfl, _, rfl, a, _, _, _, rfl, rfl, SqL.of hR.lst, atI_nat (j := c) (v := V.ref rs[c]) (by rw [List.getElem?_map, e1]; rfl), Or.inl ⟨rfl, _, SqL.of hL⟩, _, rfl, rs[c], _, _, rfl, rfl, hL, ?_, ?_⟩
        · rw [List.length_map, List.length_append]
          have h1 := List.length_filter_le (fun j => (cs.getD j []).contains c) (List.range i)
          rw [List.length_range] at h1
          refine small ?_
          split <;> simp only [List.length_cons, List.length_nil] <;> omega
        · refine ⟨_, rfl, sm.upd (hR.new _ (List.mem_of_getElem? e1)).1, ?_⟩
          rw [take_snoc' hc, ← byB_put hcm hn e2]
          have := hR.set (l := (((List.range i).filter fun j => (cs.getD j []).contains c) ++ if (l.take j).contains c then [i] else []) ++ [i]) e1
          rw [List.map_append] at this
          exact this
      · rintro σ H3 ⟨v, rfl, sm, hR⟩
        rw [List.take_length, byB_end cs m i el] at hR
        exact ⟨_, _, _, rfl, sm, hR⟩
    · rintro σ H2 ⟨v, v', v2, rfl, sm, hR⟩
      exact ⟨_, rfl, k _ a _ sm ha hR⟩
end
structure AGood (m : Nat) (ks ts : List (List Nat)) (X R : Nat → Prop) : Prop where
  two : ∀ c, X c → c < m ∧ ∃ r s, r ≠ s ∧ R r ∧ R s ∧ c ∈ ks.getD r [] ∧ c ∈ ks.getD s []
  rs : ∀ r, R r → r < ks.length
  all : ∀ r, R r → ∀ c ∈ ts.getD r [], X c
def cntK (ks : List (List Nat)) (PO : List Nat) (c : Nat) : Nat := ((List.range ks.length).filter fun j => (ks.getD j []).contains c && !PO.contains j).length
theorem cntK_two {m : Nat} {ks ts : List (List Nat)} {X R : Nat → Prop} {PO : List Nat} {c : Nat} (h : AGood m ks ts X R) (hp : ∀ j ∈ PO, ¬ R j) (hc : X c) : 2 ≤ cntK ks PO c := by
  obtain ⟨_, r, s, hrs, hr, hs, h1, h2⟩ := h.two c hc
  refine le_of_two hrs ?_ ?_
  · rw [List.mem_filter]
    refine ⟨List.mem_range.mpr (h.rs r hr), ?_⟩
    rw [Bool.and_eq_true]
    refine ⟨List.contains_iff_mem.mpr h1, ?_⟩
    rw [Bool.not_eq_true', ← Bool.not_eq_true]
    exact fun z => hp r (List.contains_iff_mem.mp z) hr
  · rw [List.mem_filter]
    refine ⟨List.mem_range.mpr (h.rs s hs), ?_⟩
    rw [Bool.and_eq_true]
    refine ⟨List.contains_iff_mem.mpr h2, ?_⟩
    rw [Bool.not_eq_true', ← Bool.not_eq_true]
    exact fun z => hp s (List.contains_iff_mem.mp z) hs
theorem cntK_put {ks : List (List Nat)} {PO : List Nat} {j c : Nat} (hj : j < ks.length) (hn : j ∉ PO) : cntK ks PO c = cntK ks (PO ++ [j]) c + if c ∈ ks.getD j [] then 1 else 0 := by
  unfold cntK
  rw [← List.countP_eq_length_filter, ← List.countP_eq_length_filter]
  by_cases hc : c ∈ ks.getD j []
  · rw [if_pos hc]
    have := countP_more (l := List.range ks.length) (R := [j]) (f := fun i => (ks.getD i []).contains c && !(PO ++ [j]).contains i) List.nodup_range (by simp) (fun q hq => by rw [List.mem_singleton.mp hq]; exact List.mem_range.mpr hj) (fun q hq => by
      rw [List.mem_singleton.mp hq]
      simp)
    rw [List.length_singleton] at this
    rw [← this]
    refine countP_congr' fun i _ => ?_
    by_cases hi : i = j
    · subst hi
      have h1 : (ks.getD i []).contains c = true := List.contains_iff_mem.mpr hc
      have h2 : PO.contains i = false := by rw [← Bool.not_eq_true]; exact fun z => hn (List.contains_iff_mem.mp z)
      rw [h1, h2]; simp
    · have : (PO ++ [j]).contains i = PO.contains i := by rw [Bool.eq_iff_iff]; simp [hi]
      rw [this]
      simp [hi]
  · rw [if_neg hc, Nat.add_zero]
    refine countP_congr' fun i _ => ?_
    by_cases hi : i = j
    · subst hi
      have h1 : (ks.getD i []).contains c = false := by rw [← Bool.not_eq_true]; exact fun z => hc (List.contains_iff_mem.mp z)
      rw [h1]; simp
    · have : (PO ++ [j]).contains i = PO.contains i := by rw [Bool.eq_iff_iff]; simp [hi]
      rw [this]
structure Lf (m : Nat) (ks ts : List (List Nat)) (vl CO PO : List Nat) (d : Nat) (B : List Nat) : Prop where
  vlen : vl.length = m
  vat : ∀ c, c < m → vl[c]? = some (cntK ks PO c + if c ∈ B then 1 else 0)
  cnd : CO.Nodup
  cmem : ∀ c, c ∈ CO ↔ c < m ∧ cntK ks PO c + (if c ∈ B then 1 else 0) < 2
  pnd : PO.Nodup
  plt : ∀ j ∈ PO, j < ks.length
  done : ∀ i c, i < d → CO[i]? = some c → ∀ j, j < ks.length → c ∈ ts.getD j [] → j ∈ PO
  snd : ∀ X R, AGood m ks ts X R → (∀ c ∈ CO, ¬ X c) ∧ ∀ j ∈ PO, ¬ R j
  le : d ≤ CO.length
theorem Lf.clen {m d : Nat} {ks ts : List (List Nat)} {vl CO PO B : List Nat} (h : Lf m ks ts vl CO PO d B) : CO.length ≤ m := short h.cnd fun c hc => ((h.cmem c).mp hc).1
theorem Lf.plen {m d : Nat} {ks ts : List (List Nat)} {vl CO PO B : List Nat} (h : Lf m ks ts vl CO PO d B) : PO.length ≤ ks.length := short h.pnd h.plt
theorem Lf.start {m : Nat} {ks ts : List (List Nat)} : Lf m ks ts ((byC ks m ks.length).map List.length) ((List.range m).filter fun c => decide (cntK ks [] c < 2)) [] 0 [] := by
  have hc0 : ∀ c, ((List.range ks.length).filter fun j => (ks.getD j []).contains c).length = cntK ks [] c := by
    intro c; unfold cntK; simp
  refine ⟨by simp [byC], fun c hc => ?_, List.nodup_range.filter _, fun c => ?_, by simp, by simp, fun i c h => by omega, fun X R h => ⟨fun c hc hx => ?_, by simp⟩, Nat.zero_le _⟩
  · rw [List.getElem?_map, byC_get ks m _ c hc, Option.map_some, hc0]; simp
  · simp
  · have := cntK_two h (PO := []) (by simp) hx
    have h2 := (List.mem_filter.mp hc).2
    have := of_decide_eq_true h2
    omega
theorem Lf.out {m d j : Nat} {ks ts : List (List Nat)} {vl CO PO : List Nat} (h : Lf m ks ts vl CO PO d []) (hj : j < ks.length) (hn : j ∉ PO) {c0 : Nat} (hc0 : c0 ∈ CO) (ht : c0 ∈ ts.getD j []) : Lf m ks ts vl CO (PO ++ [j]) d (ks.getD j []) := by
  refine ⟨h.vlen, fun c hc => ?_, h.cnd, fun c => ?_, ?_, fun i hi => ?_, fun i c hi e j' hj' ht' => List.mem_append_left _ (h.done i c hi e j' hj' ht'), fun X R g => ?_, h.le⟩
  · rw [h.vat c hc, cntK_put hj hn]; simp
  · rw [h.cmem, cntK_put hj hn]; simp
  · exact List.nodup_append.mpr ⟨h.pnd, by simp, fun x hx y hy e => by rw [List.mem_singleton.mp hy] at e; exact hn (e ▸ hx)⟩
  · rcases List.mem_append.mp hi with hi | hi
    · exact h.plt i hi
    · rw [List.mem_singleton.mp hi]; exact hj
  · obtain ⟨h1, h2⟩ := h.snd X R g
    refine ⟨h1, fun i hi hr => ?_⟩
    rcases List.mem_append.mp hi with hi | hi
    · exact h2 i hi hr
    · rw [List.mem_singleton.mp hi] at hr
      exact h1 c0 hc0 (g.all j hr c0 ht)
theorem Lf.step {m d c : Nat} {ks ts : List (List Nat)} {vl CO PO B : List Nat} (h : Lf m ks ts vl CO PO d (c :: B)) (hc : c < m) (hn : c ∉ B) :
    vl[c]? = some (cntK ks PO c + 1) ∧ (cntK ks PO c = 1 → c ∉ CO) ∧ Lf m ks ts (vl.set c (cntK ks PO c)) (if cntK ks PO c = 1 then CO ++ [c] else CO) PO d B := by
  have hv : vl[c]? = some (cntK ks PO c + 1) := by rw [h.vat c hc, if_pos (by simp)]
  have hout : cntK ks PO c = 1 → c ∉ CO := by
    intro e hm
    have := ((h.cmem c).mp hm).2
    rw [if_pos (by simp)] at this
    omega
  have eqn : ∀ x, x ≠ c → (x ∈ c :: B ↔ x ∈ B) := by intro x hx; simp [hx]
  refine ⟨hv, hout, by rw [List.length_set]; exact h.vlen, fun x hx => ?_, ?_, fun x => ?_, h.pnd, h.plt, fun i x hi e => ?_, fun X R g => ?_, ?_⟩
  · by_cases hxc : x = c
    · subst hxc
      rw [List.getElem?_set_self (by rw [h.vlen]; exact hx), if_neg hn]; rfl
    · rw [List.getElem?_set_ne (fun z => hxc z.symm), h.vat x hx]
      simp only [eqn x hxc]
  · split
    · rename_i e
      exact List.nodup_append.mpr ⟨h.cnd, by simp, fun x hx y hy z => by rw [List.mem_singleton.mp hy] at z; exact hout e (z ▸ hx)⟩
    · exact h.cnd
  · by_cases hxc : x = c
    · subst hxc
      have hb := h.cmem x
      rw [if_pos (by simp)] at hb
      rw [if_neg hn, Nat.add_zero]
      split
      · rename_i e
        exact ⟨fun _ => ⟨hc, by omega⟩, fun _ => by simp⟩
      · rename_i e
        rw [hb]
        constructor
        · rintro ⟨_, h2⟩; exact ⟨hc, by omega⟩
        · rintro ⟨_, h2⟩; exact ⟨hc, by omega⟩
    · have hb := h.cmem x
      simp only [eqn x hxc] at hb
      rw [← hb]
      split
      · simp [hxc]
      · rfl
  · have hcl : i < CO.length := Nat.lt_of_lt_of_le hi h.le
    have : CO[i]? = some x := by
      split at e
      · rw [List.getElem?_append_left hcl] at e; exact e
      · exact e
    exact h.done i x hi this
  · obtain ⟨h1, h2⟩ := h.snd X R g
    refine ⟨fun x hx hX => ?_, h2⟩
    split at hx
    · rename_i e
      rcases List.mem_append.mp hx with hx | hx
      · exact h1 x hx hX
      · rw [List.mem_singleton.mp hx] at hX
        have := cntK_two g h2 hX
        omega
    · exact h1 x hx hX
  · have := h.le
    split
    · simp; omega
    · exact this
def LeftOk (m : Nat) (ks ts : List (List Nat)) (l : List Nat) : Prop := l.Nodup ∧ ∀ c, c ∈ l ↔ ∃ X R, AGood m ks ts X R ∧ X c
theorem Lf.all {m : Nat} {ks ts : List (List Nat)} {vl CO PO : List Nat} (h : Lf m ks ts vl CO PO CO.length []) (hts : ts.length = ks.length) (htm : ∀ x ∈ ts, ∀ c ∈ x, c < m) : LeftOk m ks ts ((List.range m).filter fun c => decide (2 ≤ cntK ks PO c)) := by
  refine ⟨List.nodup_range.filter _, fun c => ?_⟩
  rw [List.mem_filter, List.mem_range, decide_eq_true_iff]
  constructor
  · rintro ⟨hc, h2⟩
    refine ⟨fun c => c < m ∧ 2 ≤ cntK ks PO c, fun j => j < ks.length ∧ j ∉ PO, ⟨fun c hc => ⟨hc.1, ?_⟩, fun r hr => hr.1, fun r hr c hc => ?_⟩, hc, h2⟩
    · obtain ⟨a, b, hab, ha, hb⟩ := two_of_le (List.nodup_range.filter _) hc.2
      have spl : ∀ a, a ∈ (List.range ks.length).filter (fun j => (ks.getD j []).contains c && !PO.contains j) → (a < ks.length ∧ a ∉ PO) ∧ c ∈ ks.getD a [] := by
        intro a ha
        obtain ⟨h1, h2⟩ := List.mem_filter.mp ha
        rw [Bool.and_eq_true, Bool.not_eq_true'] at h2
        refine ⟨⟨List.mem_range.mp h1, fun z => ?_⟩, List.contains_iff_mem.mp h2.1⟩
        rw [List.contains_iff_mem.mpr z] at h2
        cases h2.2
      exact ⟨a, b, hab, (spl a ha).1, (spl b hb).1, (spl a ha).2, (spl b hb).2⟩
    · have hrt : r < ts.length := by rw [hts]; exact hr.1
      have hcm : c < m := htm (ts.getD r []) (by rw [List.getD_eq_getElem?_getD, List.getElem?_eq_getElem hrt]; exact List.getElem_mem hrt) c hc
      refine ⟨hcm, ?_⟩
      rcases Nat.lt_or_ge (cntK ks PO c) 2 with z | z
      · have hm : c ∈ CO := (h.cmem c).mpr ⟨hcm, by simpa using z⟩
        obtain ⟨i, hi⟩ := List.mem_iff_getElem?.mp hm
        exact absurd (h.done i c (List.getElem?_eq_some_iff.mp hi).1 hi r hr.1 hc) hr.2
      · exact z
  · rintro ⟨X, R, g, hX⟩
    obtain ⟨h1, h2⟩ := h.snd X R g
    exact ⟨(g.two c hX).1, cntK_two g h2 hX⟩
theorem Lf.next {m d c0 : Nat} {ks ts : List (List Nat)} {vl CO PO : List Nat} (h : Lf m ks ts vl CO PO d []) (e : CO[d]? = some c0) (hall : ∀ j, j < ks.length → c0 ∈ ts.getD j [] → j ∈ PO) : Lf m ks ts vl CO PO (d + 1) [] := by
  refine ⟨h.vlen, h.vat, h.cnd, h.cmem, h.pnd, h.plt, fun i c hi ei j hj ht => ?_, h.snd, (List.getElem?_eq_some_iff.mp e).1⟩
  rcases Nat.lt_succ_iff_lt_or_eq.mp hi with hi | rfl
  · exact h.done i c hi ei j hj ht
  · rw [ext_snd ei e] at ht
    exact hall j hj ht
theorem Rows.upd {H0 H : Hp} {a x : Addr} {o : HO} {rs : List Addr} {ps : List (List Nat)} (h : Rows H0 H a rs ps) (ha : a ≠ x) (hr : x ∉ rs) : Rows H0 (L2.upd H x o) a rs ps :=
  ⟨upd_lst h.lst ha, h.len, h.nd, fun i r l e1 e2 => upd_lst (h.at_ i r l e1 e2) fun z => hr (z ▸ List.mem_of_getElem? e1), h.new⟩
section
variable {P : Program} {w : World} {K : PySem.W.Frag} {mg : Str → Option Value} {base : Heap}
abbrev s_chains_left : Stmt := top 37
theorem sc_chains_left : FnScope ["count", "kept", "touched", "vital", "pieces", "pieces_beside", "chains_out", "chain", "pieces_out", "done", "piece"] ["count", "kept", "touched"] (defScope s_chains_left) := ⟨rfl, rfl, rfl, by decide +kernel, rfl, by decide +kernel, by decide +kernel⟩
def spLeft : Sp := fun vs H Q _ => ∃ (ka ta : Addr) (m : Nat) (ks ts : List (List Nat)), vs = [nV m, .ref ka, .ref ta] ∧ LL H ka ks ∧ LL H ta ts ∧ m ≤ 400 ∧ ks.length ≤ 400 ∧ ts.length = ks.length ∧ (∀ x ∈ ks, x.Nodup ∧ ∀ c ∈ x, c < m) ∧ (∀ x ∈ ts, x.Nodup ∧ ∀ c ∈ x, c < m) ∧ RetL H Q (LeftOk m ks ts)
theorem ok_chains_left (T : Txt K mg) (F : Fd K mg "chains_left" s_chains_left ["count", "kept", "touched"]) (G_pieces_by_chain : Fx P w K mg base 1 "pieces_by_chain" ["count", "chains_of"] spByC) : Fx P w K mg base 2 "chains_left" ["count", "kept", "touched"] spLeft := by
  refine F.ok sc_chains_left (fun vs H Q E h => ?_) (fun f cdv A outer s H vs Q E hr h => ?_)
  · obtain ⟨ka, ta, m, ks, ts, rfl, _⟩ := h; rfl
  · obtain ⟨ka, ta, m, ks, ts, rfl, hK, hT, hm, hkl, htl, hks, hts, k⟩ := h
    have hu := hu_of hr
    refine ⟨_, (pss_cons (ps_set (i := 3) sc_chains_left.nd rfl (Or.inr rfl) (pe_lc rfl sc_chains_left.nd (pi_list (pcall G_pieces_by_chain (hr.mono (by decide)) (pa_cons (pv 0) (pa_cons (pv 1) pa_nil)))) (own := [("pieces", 4)]) (blkOk_by (N := ["count", "kept", "touched", "vital", "pieces", "pieces_beside", "chains_out", "chain", "pieces_out", "done", "piece"]) (sc := defScope s_chains_left) (by decide +kernel)) (fun _ _ _ _ _ => (pg_name (i := 4) sc_chains_left.nd rfl (Or.inl rfl))) (fun _ _ _ _ _ => pts_nil) (fun _ _ _ _ _ => (pe_callB (show CallR _ (.builtin "len") (fun xs H Q => ∃ p ys, xs = [.ref p] ∧ (SqL K H p ys ∨ SqT K H p ys) ∧ Q (.int ys.length) H) from call_len_seq) (by rfl) T.len PySem.boot_len (pa_cons (pv 4) pa_nil)))))
      (pss_cons (ps_set (i := 5) sc_chains_left.nd rfl (Or.inl rfl) (pcall G_pieces_by_chain (hr.mono (by decide)) (pa_cons (pv 0) (pa_cons (pv 2) pa_nil))))
      (pss_cons (ps_setLc (i := 6) rfl sc_chains_left.nd rfl rfl (sw_true rfl rfl rfl rfl) (pi_range1 rfl T.range (pa_cons (pv 0) pa_nil)) (own := [("chain", 7)]) (blkOk_by (N := ["count", "kept", "touched", "vital", "pieces", "pieces_beside", "chains_out", "chain", "pieces_out", "done", "piece"]) (sc := defScope s_chains_left) (by decide +kernel)) (fun _ _ _ _ _ => (pg_name (i := 7) sc_chains_left.nd rfl (Or.inl rfl))) (fun _ _ _ _ _ => (pts_one (pt_cmpR op_lt (pe_ix (show IxR _ (rIxL K) from ix_list) (pv 3) (pv 7) (fun _ _ => rfl)) (pk T.ENOUGH) (nomark _)))) (fun _ _ _ _ _ => (pv 7)))
      (pss_cons (ps_set (i := 8) sc_chains_left.nd rfl (Or.inl rfl) pe_dnewK)
      (pss_cons (ps_set (i := 9) sc_chains_left.nd rfl (Or.inl rfl) pe_int)
      (pss_cons (ps_while PassesOwn.never (pt_cmpR op_lt (pv 9) (pe_callB call_len_seq (by rfl) T.len PySem.boot_len (pa_cons (pv 6) pa_nil)) (nomark _))
        (pss_cons (ps_for PassesOwn.never rfl (pi_list (pe_ix ix_list (pv 5) (pe_ix ix_list (pv 6) (pv 9) (fun _ _ => rfl)) (fun _ _ => rfl))) (pg_name (i := 10) sc_chains_left.nd rfl (Or.inl rfl))
        (pss_cons (ps_if (pt_cmp (pc_din hu (pv 10) (pv 8)))
        (pss_one ps_continue)
        pss_nil)
      (pss_cons (ps_dput hu (pv 8) (pv 10) pe_bl rfl)
      (pss_one (ps_for PassesOwn.never rfl (pi_list (pe_ix ix_list (pv 1) (pv 10) (fun _ _ => rfl))) (pg_name (i := 7) sc_chains_left.nd rfl (Or.inl rfl))
        (pss_cons (ps_augS (pv 3) (pv 7) get_list pe_int ip_sub set_list)
      (pss_one (ps_if (pt_cmpR op_eq (pe_ix ix_list (pv 3) (pv 7) (fun _ _ => rfl)) (pe_op op_sub (pk T.ENOUGH) pe_int) (nomark _))
        (pss_one (ps_expr (pe_bm PySem.F.plainAttrs_list PySem.F.slot_list_append PySem.F.type_list_append mt_append (pv 6) (pa_cons (pv 7) pa_nil))))
        pss_nil))))))))
      (pss_one (ps_aug (i := 9) sc_chains_left.nd rfl (Or.inl rfl) pe_int ip_add))))
      (pss_one (ps_ret (pe_lc rfl sc_chains_left.nd (pi_range1 rfl T.range (pa_cons (pv 0) pa_nil)) (own := [("chain", 7)]) (blkOk_by (N := ["count", "kept", "touched", "vital", "pieces", "pieces_beside", "chains_out", "chain", "pieces_out", "done", "piece"]) (sc := defScope s_chains_left) (by decide +kernel)) (fun _ _ _ _ _ => (pg_name (i := 7) sc_chains_left.nd rfl (Or.inl rfl))) (fun _ _ _ _ _ => (pts_one (pt_cmpR op_ge (pe_ix (show IxR _ (rIxL K) from ix_list) (pv 3) (pv 7) (fun _ _ => rfl)) (pk T.ENOUGH) (nomark _)))) (fun _ _ _ _ _ => (pv 7))))))))))), ?_⟩
    refine ⟨_, rfl, _, rfl, ka, m, ks, rfl, hK, hm, hkl, hks, fun H1 pa rs s1 hpa hR => ?_⟩
    refine ⟨pa, rfl, ⟨_, SqL.of hR.lst⟩, fun va hva => ?_⟩
    have hva' : H va = none := s1.free hva
    have s1v : ∀ {o : HO}, Same H1 (L2.upd H1 va o) := same_new hva
    refine lc_LL (ls := byC ks m ks.length) hR.len (fun i H' => H' = L2.upd H1 va (.lst ((((byC ks m ks.length).take i).map List.length).map nV))) rfl (fun i H' h => by rw [h]; exact s1v _ _ hR.lst) ?_ ?_
    · rintro i r l _ er el rfl
      refine ⟨rfl, _, rfl, r, _, rfl, .inl (SqL.of (s1v _ _ (hR.at_ i r l er el))), _, upd_same, ?_, ?_⟩
      · rw [List.length_map, List.length_map, List.length_take]
        have : (byC ks m ks.length).length = m := by simp [byC]
        exact small (by omega)
      · rw [upd_upd, take_snoc' el, List.map_append, List.map_append, List.length_map]; rfl
    rintro _ rfl
    rw [List.take_length]
    have sA : Same H (L2.upd H1 va (.lst (((byC ks m ks.length).map List.length).map nV))) := s1.upd hva'
    generalize hHA : L2.upd H1 va (.lst (((byC ks m ks.length).map List.length).map nV)) = HA at sA ⊢
    have hvA : LN HA va ((byC ks m ks.length).map List.length) := by rw [← hHA]; exact upd_same
    refine ⟨_, rfl, _, rfl, ta, m, ts, rfl, hT.same sA, hm, by omega, hts, fun H2 pb rs2 s2 hpb hR2 => ?_⟩
    have hv2 : LN H2 va ((byC ks m ks.length).map List.length) := s2 _ _ hvA
    have npbv : pb ≠ va := (ne_of_none hvA hpb).symm
    have nrv : va ∉ rs2 := fun z => by have := (hR2.new va z).1; rw [hvA] at this; cases this
    have sB : Same H H2 := sA.trans s2
    refine ⟨_, rfl, _, rfl, by omega, by omega, fun co hco => ?_⟩
    have hco' : H co = none := sB.free hco
    have s2c : ∀ {o : HO}, Same H2 (L2.upd H2 co o) := same_new hco
    have hvc : va ≠ co := ne_of_none hv2 hco
    have hst := @Lf.start m ks ts
    refine lc_upto (n := m) rfl (fun i H' => ∃ E : List Nat, H' = L2.upd H2 co (.lst (E.map nV)) ∧ E = (List.range i).filter fun c => decide (cntK ks [] c < 2)) ⟨[], rfl, rfl⟩ ?_ ?_
    · rintro i _ hi ⟨E, rfl, hE⟩
      have hEl : E.length ≤ 400 := by
        rw [hE]
        have := List.length_filter_le (fun c => decide (cntK ks [] c < 2)) (List.range i)
        rw [List.length_range] at this
        omega
      have hat := hst.vat i hi
      simp only [List.not_mem_nil, if_false, Nat.add_zero] at hat
      refine ⟨rfl, _, rfl, _, rfl, va, _, _, _, rfl, rfl, SqL.of (s2c _ _ hv2), atN hat, _, _, rfl, rfl, _, rfl, ?_⟩
      refine ite2 (fun e => ?_) (fun e => ?_)
      · have e := of_decide_eq_true e
        refine ⟨_, rfl, _, upd_same, by rw [List.length_map]; exact small (by omega), E ++ [i], ?_, ?_⟩
        · rw [upd_upd, List.map_append]; rfl
        · rw [List.range_succ, List.filter_append, ← hE, List.filter_cons, if_pos (by rw [decide_eq_true_iff]; omega)]; rfl
      · have e := of_decide_eq_false (Bool.not_eq_true _ ▸ e)
        refine ⟨E, rfl, ?_⟩
        rw [List.range_succ, List.filter_append, ← hE, List.filter_cons, if_neg (by rw [decide_eq_true_iff]; omega)]; simp
    rintro _ ⟨E, rfl, hE⟩
    subst hE
    have sC : Same H (L2.upd H2 co (.lst (((List.range m).filter fun c => decide (cntK ks [] c < 2)).map nV))) := sB.upd hco'
    have ncr : co ∉ rs2 := fun z => by
      obtain ⟨i, hi⟩ := List.mem_iff_getElem?.mp z
      have hlt := (List.getElem?_eq_some_iff.mp hi).1
      have := hR2.at_ i co _ hi (List.getElem?_eq_getElem (by rw [← hR2.len]; exact hlt))
      have := hco.symm.trans this
      cases this
    have hRC := hR2.upd (x := co) (o := .lst (((List.range m).filter fun c => decide (cntK ks [] c < 2)).map nV)) (ne_of_none hR2.lst hco) ncr
    have hvC := upd_lst (d := co) (o := .lst (((List.range m).filter fun c => decide (cntK ks [] c < 2)).map nV)) hv2 hvc
    have hcC : LN (L2.upd H2 co (.lst (((List.range m).filter fun c => decide (cntK ks [] c < 2)).map nV))) co ((List.range m).filter fun c => decide (cntK ks [] c < 2)) := upd_same
    generalize L2.upd H2 co (.lst (((List.range m).filter fun c => decide (cntK ks [] c < 2)).map nV)) = HC at sC hRC hvC hcC ⊢
    intro pd hpd
    have hpd' : H pd = none := sC.free hpd
    have hvp : va ≠ pd := ne_of_none hvC hpd
    have hcp : co ≠ pd := ne_of_none hcC hpd
    have npp : pd ∉ rs2 := fun z => by
      obtain ⟨i, hi⟩ := List.mem_iff_getElem?.mp z
      have hlt := (List.getElem?_eq_some_iff.mp hi).1
      have := hRC.at_ i pd _ hi (List.getElem?_eq_getElem (by rw [← hRC.len]; exact hlt))
      have := hpd.symm.trans this
      cases this
    have nbc : pb ≠ co := fun e => by
      have := hRC.lst; rw [e] at this
      exact absurd rfl (fun (z : pb = pb) => by have h1 := ne_of_none hR2.lst hco; exact h1 e)
    have nbp : pb ≠ pd := ne_of_none hRC.lst hpd
    refine while_by (fun σ H' => ∃ (vl CO PO : List Nat) (d : Nat) (v4 v7 v10 : Option V), σ = [some (nV m), some (.ref ka), some (.ref ta), some (.ref va), v4, some (.ref pb), some (.ref co), v7, some (.ref pd), some (nV d), v10] ∧ Same H H' ∧ Rows HA H' pb rs2 (byC ts m ts.length) ∧ LN H' va vl ∧ LN H' co CO ∧ DS H' pd PO ∧ Lf m ks ts vl CO PO d [])
      (mu (m + 1) 9) ?_ ?_ mono_lt_len
    · exact ⟨_, _, [], 0, _, _, _, rfl, sC.upd hpd', hRC.upd nbp npp, upd_lst hvC hvp, upd_lst hcC hcp, upd_same, hst⟩
    · rintro σ H4 ⟨vl, CO, PO, d, v4, v7, v10, rfl, sm, hRb, hV, hC, hD, hL⟩
      refine ⟨_, rfl, _, rfl, co, _, rfl, .inl (SqL.of hC), _, _, rfl, rfl, _, rfl, ?_⟩
      have hCl := hL.clen
      refine ite2 (fun q => ?_) (fun q => ?_)
      · have q := of_decide_eq_true q
        rw [List.length_map] at q
        have hd : d < CO.length := by omega
        obtain ⟨c0, hc0⟩ : ∃ c0, CO[d]? = some c0 := ⟨_, List.getElem?_eq_getElem hd⟩
        have hc0m : c0 < m := ((hL.cmem c0).mp (List.mem_of_getElem? hc0)).1
        have hrm : rs2.length = m := by rw [hRb.len]; simp [byC]
        have er : rs2[c0]? = some rs2[c0] := List.getElem?_eq_getElem (by omega)
        have ePB := byC_get ts m ts.length c0 hc0m
        generalize hPB : ((List.range ts.length).filter fun j => (ts.getD j []).contains c0) = PB at ePB
        have hPBm : ∀ j, j ∈ PB ↔ j < ts.length ∧ c0 ∈ ts.getD j [] := by intro j; rw [← hPB]; simp
        have hPr := hRb.at_ c0 _ PB er ePB
        refine ⟨_, rfl, _, rfl, _, rfl, co, _, _, _, rfl, rfl, SqL.of hC, atN hc0, pb, _, _, V.ref rs2[c0], rfl, rfl, SqL.of hRb.lst, atI_nat (by rw [List.getElem?_map, er]; rfl), rs2[c0], rfl, ⟨_, SqL.of hPr⟩, ?_⟩
        refine for_nats (l := PB) (fun i σ H' => ∃ (vl CO PO : List Nat) (v4 v7 v10 : Option V), σ = [some (nV m), some (.ref ka), some (.ref ta), some (.ref va), v4, some (.ref pb), some (.ref co), v7, some (.ref pd), some (nV d), v10] ∧ Same H H' ∧ Rows HA H' pb rs2 (byC ts m ts.length) ∧ LN H' va vl ∧ LN H' co CO ∧ DS H' pd PO ∧ Lf m ks ts vl CO PO d [] ∧ CO[d]? = some c0 ∧ ∀ j ∈ PB.take i, j ∈ PO)
          ⟨vl, CO, PO, _, _, _, rfl, sm, hRb, hV, hC, hD, hL, hc0, by simp⟩ (fun i σ H' ⟨_, _, _, _, _, _, _, _, hR', _⟩ => hR'.at_ c0 _ PB er ePB) ?_ ?_
        · rintro i j σ H5 hj ⟨vl, CO, PO, v4, v7, v10, rfl, sm, hRb, hV, hC, hD, hL, hc0, hPo⟩
          have hjm := (hPBm j).mp (List.mem_of_getElem? hj)
          have hjk : j < ks.length := by omega
          refine ⟨_, rfl, _, rfl, pd, _, rfl, ds_get hD, _, rfl, ?_⟩
          by_cases hin : j ∈ PO
          · rw [if_pos hin]
            refine iteT ?_
            refine ⟨vl, CO, PO, _, _, _, rfl, sm, hRb, hV, hC, hD, hL, hc0, fun x hx => ?_⟩
            rw [take_snoc' hj] at hx
            rcases List.mem_append.mp hx with hx | hx
            · exact hPo x hx
            · rw [List.mem_singleton.mp hx]; exact hin
          · rw [if_neg hin]
            refine iteF ?_
            have hpl := hL.plen
            refine ⟨_, rfl, _, rfl, pd, _, rfl, ds_put hD (small (by omega)), ?_⟩
            have ei : insD PO j = PO ++ [j] := by unfold insD; rw [if_neg hin]
            rw [ei]
            have ek : ks[j]? = some (ks.getD j []) := by rw [List.getD_eq_getElem?_getD, List.getElem?_eq_getElem hjk]; rfl
            obtain ⟨xs, r, g1, g2, g3, g4⟩ := hK.at ek
            have s5 : Same H (L2.upd H5 pd (.dK (setD (PO ++ [j])))) := sm.upd hpd'
            refine ⟨_, rfl, _, rfl, ka, xs, _, _, rfl, rfl, SqL.of (s5 _ _ g1), atI_nat g3, r, rfl, ⟨_, SqL.of (s5 _ _ g4)⟩, ?_⟩
            have hL2 := hL.out hjk hin (List.mem_of_getElem? hc0) hjm.2
            have hkj := hks _ (List.mem_of_getElem? ek)
            generalize ks.getD j [] = B at ek g4 hL2 hkj ⊢
            refine for_nats (l := B) (fun i' σ H' => ∃ (vl CO : List Nat) (v4 v7 : Option V), σ = [some (nV m), some (.ref ka), some (.ref ta), some (.ref va), v4, some (.ref pb), some (.ref co), v7, some (.ref pd), some (nV d), some (nV j)] ∧ Same H H' ∧ Rows HA H' pb rs2 (byC ts m ts.length) ∧ LN H' va vl ∧ LN H' co CO ∧ DS H' pd (PO ++ [j]) ∧ Lf m ks ts vl CO (PO ++ [j]) d (B.drop i') ∧ CO[d]? = some c0)
              ⟨vl, CO, _, _, rfl, s5, hRb.upd nbp npp, upd_lst hV hvp, upd_lst hC hcp, upd_same, hL2, hc0⟩ (fun i σ H' ⟨_, _, _, _, _, sm', _⟩ => sm' _ _ g4) ?_ ?_
            · rintro i' c σ H6 hc ⟨vl, CO, v4, v7, rfl, sm6, hRb, hV, hC, hD, hL, hc0⟩
              have hcm : c < m := hkj.2 c (List.mem_of_getElem? hc)
              have edr : B.drop i' = c :: B.drop (i' + 1) := by
                obtain ⟨h1, h2⟩ := List.getElem?_eq_some_iff.mp hc
                rw [List.drop_eq_getElem_cons h1, h2]
              have hnc : c ∉ B.drop (i' + 1) := by
                have := hkj.1.sublist (List.drop_sublist i' B)
                rw [edr] at this
                exact (List.nodup_cons.mp this).1
              rw [edr] at hL
              obtain ⟨hv, hout, hLn⟩ := hL.step hcm hnc
              have hcl6 := hL.clen
              refine ⟨_, rfl, _, rfl, va, _, c, _, rfl, rfl, SqL.of hV, at_nV hv, _, _, rfl, rfl, va, _, _, c, rfl, rfl, hV, ixN_nat (by rw [List.length_map, hL.vlen]; exact hcm), ?_⟩
              have ev : (vl.map nV).set c (V.int (((cntK ks (PO ++ [j]) c + 1 : Nat) : Int) - 1)) = (vl.set c (cntK ks (PO ++ [j]) c)).map nV := by
                rw [List.map_set]
                congr 1
                exact congrArg V.int (by omega)
              rw [ev]
              have hat : (vl.set c (cntK ks (PO ++ [j]) c))[c]? = some (cntK ks (PO ++ [j]) c) := List.getElem?_set_self (by rw [hL.vlen]; exact hcm)
              refine ⟨_, rfl, _, rfl, va, _, _, _, rfl, rfl, SqL.of upd_same, atN hat, _, _, rfl, rfl, rfl, _, rfl, ?_⟩
              show if decide (nV _ = nV 1) = true then _ else _
              rw [nV_dec]
              refine ite2 (fun e => ?_) (fun e => ?_)
              · have e := of_decide_eq_true e
                rw [if_pos e] at hLn
                refine ⟨_, rfl, .inl ⟨rfl, _, SqL.of (upd_lst hC hvc.symm)⟩, _, rfl, co, _, _, rfl, rfl, upd_lst hC hvc.symm, by rw [List.length_map]; exact small (by omega), ?_⟩
                refine ⟨_, CO ++ [c], _, _, rfl, (sm6.upd hva').upd hco', (hRb.upd npbv nrv).upd nbc ncr, upd_lst upd_same hvc, ?_, upd_lst (upd_lst hD hvp.symm) hcp.symm, hLn, ?_⟩
                · show L2.upd _ _ _ _ = _
                  rw [upd_same, List.map_append]; rfl
                · rw [List.getElem?_append_left (List.getElem?_eq_some_iff.mp hc0).1]; exact hc0
              · have e := of_decide_eq_false (Bool.not_eq_true _ ▸ e)
                rw [if_neg e] at hLn
                exact ⟨_, CO, _, _, rfl, sm6.upd hva', hRb.upd npbv nrv, upd_same, upd_lst hC hvc.symm, upd_lst hD hvp.symm, hLn, hc0⟩
            · rintro σ H6 ⟨vl, CO, v4, v7, rfl, sm6, hRb, hV, hC, hD, hL, hc0⟩
              rw [List.drop_length] at hL
              refine ⟨vl, CO, PO ++ [j], _, _, _, rfl, sm6, hRb, hV, hC, hD, hL, hc0, fun x hx => ?_⟩
              rw [take_snoc' hj] at hx
              rcases List.mem_append.mp hx with hx | hx
              · exact List.mem_append_left _ (hPo x hx)
              · exact List.mem_append_right _ hx
        · rintro σ H5 ⟨vl, CO, PO, v4, v7, v10, rfl, sm, hRb, hV, hC, hD, hL, hc0, hPo⟩
          refine ⟨_, rfl, _, _, rfl, rfl, ?_⟩
          rw [List.take_length] at hPo
          refine ⟨⟨vl, CO, PO, d + 1, _, _, _, rfl, sm, hRb, hV, hC, hD, hL.next hc0 fun j hj ht => hPo j ((hPBm j).mpr ⟨by omega, ht⟩)⟩, ?_⟩
          show m + 1 - ((d : Int) + 1).toNat < m + 1 - (d : Int).toNat
          omega
      · have q := of_decide_eq_false (Bool.not_eq_true _ ▸ q)
        rw [List.length_map] at q
        have hd : d = CO.length := by have := hL.le; omega
        subst hd
        have hfin := hL.all htl (fun x hx => (hts x hx).2)
        refine ⟨_, rfl, _, rfl, by omega, by omega, fun a ha => ?_⟩
        have s4 : ∀ {o : HO}, Same H4 (L2.upd H4 a o) := same_new ha
        refine lc_upto (n := m) rfl (fun i H' => ∃ E : List Nat, H' = L2.upd H4 a (.lst (E.map nV)) ∧ E = (List.range i).filter fun c => decide (2 ≤ cntK ks PO c)) ⟨[], rfl, rfl⟩ ?_ ?_
        · rintro i _ hi ⟨E, rfl, hE⟩
          have hEl : E.length ≤ 400 := by
            rw [hE]
            have := List.length_filter_le (fun c => decide (2 ≤ cntK ks PO c)) (List.range i)
            rw [List.length_range] at this
            omega
          have hat := hL.vat i hi
          simp only [List.not_mem_nil, if_false, Nat.add_zero] at hat
          refine ⟨rfl, _, rfl, _, rfl, va, _, _, _, rfl, rfl, SqL.of (s4 _ _ hV), atN hat, _, _, rfl, rfl, _, rfl, ?_⟩
          refine ite2 (fun e => ?_) (fun e => ?_)
          · have e := of_decide_eq_true e
            refine ⟨_, rfl, _, upd_same, by rw [List.length_map]; exact small (by omega), E ++ [i], ?_, ?_⟩
            · rw [upd_upd, List.map_append]; rfl
            · rw [List.range_succ, List.filter_append, ← hE, List.filter_cons, if_pos (by rw [decide_eq_true_iff]; omega)]; rfl
          · have e := of_decide_eq_false (Bool.not_eq_true _ ▸ e)
            refine ⟨E, rfl, ?_⟩
            rw [List.range_succ, List.filter_append, ← hE, List.filter_cons, if_neg (by rw [decide_eq_true_iff]; omega)]; simp
        rintro _ ⟨E, rfl, hE⟩
        subst hE
        exact k _ a _ (sm.upd (sm.free ha)) (sm.free ha) hfin upd_same
end
structure LvS (n : Nat) (b : Sd46.Board) (c : Nat) (cs ps : List (List Nat)) (co : List Int) (nr ks ts : List (List Nat)) : Prop where
  hc : c = 1 ∨ c = 2
  le : ∀ q, q < n * n → Sd46.at_ b q ≤ 2
  cp : Parts n (okc b [c]) (n * n) cs
  pp : Parts n (okc b [0, Sd46.other c]) (n * n) ps
  nu : Nums cs cs.length (n * n) co
  nl : nr.length = n * n
  na : ∀ (p : Nat) (x : List Nat), nr[p]? = some x → NearS co (besideM n p) x
  kl : ks.length = ps.length
  ka : ∀ (j : Nat) (l x : List Nat), ps[j]? = some l → ks[j]? = some x → KeptS b nr l x
  tl : ts.length = ps.length
  ta : ∀ (j : Nat) (l x : List Nat), ps[j]? = some l → ts[j]? = some x → RoundS nr l [] x
theorem getD_at {l : List (List Nat)} {j : Nat} (h : j < l.length) : l[j]? = some (l.getD j []) := by rw [List.getD_eq_getElem?_getD, List.getElem?_eq_getElem h]; rfl
section
variable {n c : Nat} {b : Sd46.Board} {cs ps : List (List Nat)} {co : List Int} {nr ks ts : List (List Nat)}
theorem LvS.cc (h : LvS n b c cs ps co nr ks ts) {i q : Nat} {l : List Nat} (e : cs[i]? = some l) (hq : q ∈ l) : q < n * n ∧ Sd46.at_ b q = c ∧ ∀ x, x ∈ l ↔ x ∈ Sd46.chain n b q := by
  obtain ⟨p, hp, ho, hl⟩ := h.cp.is l (List.mem_of_getElem? e)
  have hr := (hl.2 q).mp hq
  have hpc : Sd46.at_ b p = c := by simpa [okc] using ho
  have hqc : Sd46.at_ b q = c := by simpa [okc] using hr.ok ho
  have hqn := hr.lt hp
  refine ⟨hqn, hqc, fun x => ?_⟩
  rw [hl.2, mem_chain hqn]
  have ef : okc b [c] = fun x => Sd46.at_ b x == Sd46.at_ b q := by
    funext x; unfold okc; rw [hqc, Bool.eq_iff_iff]; simp
  rw [← ef]
  exact ⟨fun z => (hr.symm hp ho).trans z, fun z => hr.trans z⟩
theorem LvS.pc (h : LvS n b c cs ps co nr ks ts) {j q : Nat} {l : List Nat} (e : ps[j]? = some l) (hq : q ∈ l) : q < n * n ∧ Sd46.at_ b q ≠ c ∧ ∀ x, x ∈ l ↔ x ∈ Sd46.reached n (fun q => Sd46.at_ b q != c) q := by
  obtain ⟨p, hp, ho, hl⟩ := h.pp.is l (List.mem_of_getElem? e)
  have hr := (hl.2 q).mp hq
  have hqn := hr.lt hp
  have hc := h.hc
  have agree : ∀ x, x < n * n → (okc b [0, Sd46.other c] x = true ↔ (Sd46.at_ b x != c) = true) := by
    intro x hx
    have := h.le x hx
    unfold okc Sd46.other
    simp
    omega
  have hqc : Sd46.at_ b q ≠ c := by simpa using (agree q hqn).mp (hr.ok ho)
  refine ⟨hqn, hqc, fun x => ?_⟩
  rw [hl.2, mem_reached hqn]
  constructor
  · intro z
    exact ((hr.symm hp ho).trans z).mono fun y hy hoy _ => (agree y hy).mp hoy
  · intro z
    exact hr.trans (z.mono fun y hy hoy _ => (agree y hy).mpr hoy)
theorem LvS.near (h : LvS n b c cs ps co nr ks ts) {p i : Nat} {x l : List Nat} (hp : p < n * n) (e : nr[p]? = some x) (ei : cs[i]? = some l) : i ∈ x ↔ ∃ q ∈ Sd46.near n p, q ∈ l := by
  rw [(h.na p x e).mem]
  constructor
  · rintro ⟨q, hq, hco⟩
    rcases h.nu.2 q _ hco with ⟨j, m, hj, ej, hm, z⟩ | ⟨_, z⟩
    · have : i = j := by omega
      subst this
      rw [ext_snd ei ej]
      exact ⟨q, (mem_besideM hp).mp hq, hm⟩
    · omega
  · rintro ⟨q, hq, hl⟩
    have hqn := (h.cc ei hl).1
    obtain ⟨z, hz⟩ : ∃ z, co[q]? = some z := ⟨_, List.getElem?_eq_getElem (by rw [h.nu.1]; exact hqn)⟩
    refine ⟨q, (mem_besideM hp).mpr hq, ?_⟩
    rcases h.nu.2 q z hz with ⟨j, m, hj, ej, hm, rfl⟩ | ⟨z', _⟩
    · rw [hz, h.cp.ap i j l m q ei ej hl hm]
    · exact absurd hl (z' i l (List.getElem?_eq_some_iff.mp ei).1 ei)
theorem LvS.kept (h : LvS n b c cs ps co nr ks ts) {j i q q' : Nat} {l m : List Nat} (e : ps[j]? = some l) (ei : cs[i]? = some m) (hq : q ∈ m) (hq' : q' ∈ l) : i ∈ ks.getD j [] ↔ Sd46.vital n b (Sd46.chain n b q) (Sd46.reached n (fun q => Sd46.at_ b q != c) q') = true := by
  have hj : j < ks.length := by rw [h.kl]; exact (List.getElem?_eq_some_iff.mp e).1
  have hk := h.ka j l _ e (getD_at hj)
  obtain ⟨_, _, hc3⟩ := h.cc ei hq
  obtain ⟨_, _, hp3⟩ := h.pc e hq'
  have hln := h.pp.lt l (List.mem_of_getElem? e)
  rw [hk.2, vital_iff]
  simp only [← hp3, ← hc3]
  constructor
  · rintro ⟨h1, h2⟩
    refine ⟨h1, fun p hp h0 => ?_⟩
    obtain ⟨y, hy, hiy⟩ := h2 p hp h0
    exact (h.near (hln p hp) hy ei).mp hiy
  · rintro ⟨h1, h2⟩
    refine ⟨h1, fun p hp h0 => ?_⟩
    have hpn : p < nr.length := by rw [h.nl]; exact hln p hp
    exact ⟨_, getD_at hpn, (h.near (hln p hp) (getD_at hpn) ei).mpr (h2 p hp h0)⟩
theorem LvS.touched (h : LvS n b c cs ps co nr ks ts) {j i : Nat} {l m : List Nat} (e : ps[j]? = some l) (ei : cs[i]? = some m) : i ∈ ts.getD j [] ↔ ∃ p ∈ l, ∃ q ∈ Sd46.near n p, q ∈ m := by
  have hj : j < ts.length := by rw [h.tl]; exact (List.getElem?_eq_some_iff.mp e).1
  have hk := h.ta j l _ e (getD_at hj)
  have hln := h.pp.lt l (List.mem_of_getElem? e)
  rw [hk.mem]
  constructor
  · rintro (⟨p, hp, x, hx, hi⟩ | z)
    · exact ⟨p, hp, (h.near (hln p hp) hx ei).mp hi⟩
    · cases z
  · rintro ⟨p, hp, q⟩
    have hpn : p < nr.length := by rw [h.nl]; exact hln p hp
    exact .inl ⟨p, hp, _, getD_at hpn, (h.near (hln p hp) (getD_at hpn) ei).mpr q⟩
theorem LvS.num (h : LvS n b c cs ps co nr ks ts) {x : List Nat} (hx : x ∈ nr) : ∀ i ∈ x, i < cs.length := by
  intro i hi
  obtain ⟨p, hp⟩ := List.mem_iff_getElem?.mp hx
  obtain ⟨q, hq, hco⟩ := ((h.na p x hp).mem i).mp hi
  rcases h.nu.2 q _ hco with ⟨j, m, hj, ej, hm, z⟩ | ⟨_, z⟩ <;> omega
theorem LvS.knum (h : LvS n b c cs ps co nr ks ts) {x : List Nat} (hx : x ∈ ks) : x.Nodup ∧ ∀ i ∈ x, i < cs.length := by
  obtain ⟨j, hj⟩ := List.mem_iff_getElem?.mp hx
  have hjp : j < ps.length := by rw [← h.kl]; exact (List.getElem?_eq_some_iff.mp hj).1
  have hk := h.ka j _ x (getD_at hjp) hj
  refine ⟨hk.1, fun i hi => ?_⟩
  obtain ⟨⟨p, hp, h0⟩, h2⟩ := (hk.2 i).mp hi
  obtain ⟨y, hy, hiy⟩ := h2 p hp h0
  exact h.num (List.mem_of_getElem? hy) i hiy
theorem LvS.tnum (h : LvS n b c cs ps co nr ks ts) {x : List Nat} (hx : x ∈ ts) : x.Nodup ∧ ∀ i ∈ x, i < cs.length := by
  obtain ⟨j, hj⟩ := List.mem_iff_getElem?.mp hx
  have hjp : j < ps.length := by rw [← h.tl]; exact (List.getElem?_eq_some_iff.mp hj).1
  have hk := h.ta j _ x (getD_at hjp) hj
  refine ⟨hk.nd, fun i hi => ?_⟩
  rcases (hk.mem i).mp hi with ⟨p, hp, y, hy, hiy⟩ | z
  · exact h.num (List.mem_of_getElem? hy) i hiy
  · cases z
theorem LvS.sound (h : LvS n b c cs ps co nr ks ts) {X R : Nat → Prop} (g : AGood cs.length ks ts X R) {i q : Nat} {m : List Nat} (hX : X i) (ei : cs[i]? = some m) (hq : q ∈ m) : Sd46.chain n b q ∈ Sd46.living n b c := by
  have G : Good n b c (fun x => ∃ (i : Nat) (l : List Nat) (q : Nat), X i ∧ cs[i]? = some l ∧ q ∈ l ∧ x = Sd46.chain n b q) (fun r => ∃ (j : Nat) (l : List Nat) (q : Nat), R j ∧ ps[j]? = some l ∧ q ∈ l ∧ r = Sd46.reached n (fun q => Sd46.at_ b q != c) q) := by
    refine ⟨?_, ?_, ?_, ?_⟩
    · rintro x ⟨i, l, q, _, e, hq, rfl⟩
      obtain ⟨h1, h2, _⟩ := h.cc e hq
      exact mem_chainsOf.mpr ⟨q, h1, h2, rfl⟩
    · rintro r ⟨j, l, q, _, e, hq, rfl⟩
      obtain ⟨h1, h2, _⟩ := h.pc e hq
      exact mem_piecesOf.mpr ⟨q, h1, h2, rfl⟩
    · rintro x ⟨i, l, q, hX, e, hq, rfl⟩
      obtain ⟨_, j, j', hjj, hj, hj', k1, k2⟩ := g.two i hX
      have ej := getD_at (l := ps) (j := j) (by rw [← h.kl]; exact g.rs j hj)
      have ej' := getD_at (l := ps) (j := j') (by rw [← h.kl]; exact g.rs j' hj')
      obtain ⟨p, hp, _⟩ := h.pp.nonempty _ (List.mem_of_getElem? ej)
      obtain ⟨p', hp', _⟩ := h.pp.nonempty _ (List.mem_of_getElem? ej')
      refine ⟨_, _, fun z => ?_, ⟨j, _, p, hj, ej, hp, rfl⟩, ⟨j', _, p', hj', ej', hp', rfl⟩, (h.kept ej e hq hp).mp k1, (h.kept ej' e hq hp').mp k2⟩
      have a1 := ((h.pc ej hp).2.2 p).mp hp
      rw [z] at a1
      exact hjj (h.pp.ap j j' _ _ p ej ej' hp (((h.pc ej' hp').2.2 p).mpr a1))
    · rintro r ⟨j, l, q, hR, e, hq, rfl⟩ p hp hpc ht
      obtain ⟨y, hy, hyr⟩ := touches_iff.mp ht
      have hyl := ((h.pc e hq).2.2 y).mpr hyr
      obtain ⟨m, hm, hpm⟩ := h.cp.all p hp (by unfold okc; simp [hpc])
      obtain ⟨i, ei⟩ := List.mem_iff_getElem?.mp hm
      have hi := g.all j hR i ((h.touched e ei).mpr ⟨y, hyl, p, near_symm hp hy, hpm⟩)
      exact ⟨_, ⟨i, m, p, hi, ei, hpm, rfl⟩, chain_self hp⟩
  exact G.living ⟨i, m, q, hX, ei, hq, rfl⟩
theorem LvS.complete (h : LvS n b c cs ps co nr ks ts) {i q : Nat} {m : List Nat} (ei : cs[i]? = some m) (hq : q ∈ m) (hl : Sd46.chain n b q ∈ Sd46.living n b c) : ∃ X R, AGood cs.length ks ts X R ∧ X i := by
  have G := living_good n b c
  refine ⟨fun i => ∃ (l : List Nat) (q : Nat), cs[i]? = some l ∧ q ∈ l ∧ Sd46.chain n b q ∈ Sd46.living n b c, fun j => ∃ (l : List Nat) (q : Nat), ps[j]? = some l ∧ q ∈ l ∧ Sd46.reached n (fun q => Sd46.at_ b q != c) q ∈ (sv n b c (2 * (n * n) + 1)).2, ⟨?_, ?_, ?_⟩, m, q, ei, hq, hl⟩
  · rintro i ⟨l, q, e, hq, hl⟩
    refine ⟨(List.getElem?_eq_some_iff.mp e).1, ?_⟩
    obtain ⟨r, s, hrs, hr, hs, vr, vs⟩ := G.two _ hl
    have fnd : ∀ r, r ∈ (sv n b c (2 * (n * n) + 1)).2 → ∃ (j : Nat) (l : List Nat) (q : Nat), ps[j]? = some l ∧ q ∈ l ∧ r = Sd46.reached n (fun q => Sd46.at_ b q != c) q := by
      intro r hr
      obtain ⟨p, hp, hpc, rfl⟩ := mem_piecesOf.mp (G.r0 r hr)
      have := h.le p hp
      have hc := h.hc
      obtain ⟨l, hl, hpl⟩ := h.pp.all p hp (by unfold okc Sd46.other; simp; omega)
      obtain ⟨j, ej⟩ := List.mem_iff_getElem?.mp hl
      exact ⟨j, l, p, ej, hpl, rfl⟩
    obtain ⟨j, lj, p, ej, hp, rfl⟩ := fnd r hr
    obtain ⟨j', lj', p', ej', hp', rfl⟩ := fnd s hs
    refine ⟨j, j', fun z => ?_, ⟨lj, p, ej, hp, hr⟩, ⟨lj', p', ej', hp', hs⟩, (h.kept ej e hq hp).mpr vr, (h.kept ej' e hq hp').mpr vs⟩
    subst z
    have := ext_snd ej ej'
    subst this
    apply hrs
    obtain ⟨a1, a2, a3⟩ := h.pc ej hp
    obtain ⟨b1, b2, b3⟩ := h.pc ej hp'
    exact (reached_same (ok := fun q => Sd46.at_ b q != c) b1 (by simpa using b2) ((mem_reached b1).mp ((b3 p).mp hp)))
  · rintro j ⟨l, q, e, _⟩
    rw [h.kl]
    exact (List.getElem?_eq_some_iff.mp e).1
  · rintro j ⟨l, q, e, hq, hr⟩ i hi
    have hjt : j < ts.length := by rw [h.tl]; exact (List.getElem?_eq_some_iff.mp e).1
    have him : i < cs.length := (h.tnum (List.mem_of_getElem? (getD_at hjt))).2 i hi
    obtain ⟨p, hp, y, hy, hym⟩ := (h.touched e (getD_at him)).mp hi
    obtain ⟨y1, y2, _⟩ := h.cc (getD_at him) hym
    have hpn := h.pp.lt l (List.mem_of_getElem? e) p hp
    obtain ⟨x, hx, hyx⟩ := G.all _ hr y y1 y2 (touches_iff.mpr ⟨p, near_symm hpn hy, ((h.pc e hq).2.2 p).mp hp⟩)
    obtain ⟨z, hz, hzc, rfl⟩ := mem_chainsOf.mp (G.x0 x hx)
    refine ⟨_, y, getD_at him, hym, ?_⟩
    rw [chain_same hz hyx]
    exact hx
structure Lives (n : Nat) (b : Sd46.Board) (c : Nat) (ls : List (List Nat)) : Prop where
  lt : ∀ l ∈ ls, ∀ q ∈ l, q < n * n
  mem : ∀ p, (∃ l ∈ ls, p ∈ l) ↔ p < n * n ∧ Sd46.at_ b p = c ∧ ∃ x ∈ Sd46.living n b c, p ∈ x
theorem LvS.lives (h : LvS n b c cs ps co nr ks ts) {L : List Nat} (hL : LeftOk cs.length ks ts L) : Lives n b c (L.map fun i => cs.getD i []) := by
  have hi : ∀ i ∈ L, i < cs.length := by
    intro i hi
    obtain ⟨X, R, g, hX⟩ := (hL.2 i).mp hi
    exact (g.two i hX).1
  refine ⟨fun l hl q hq => ?_, fun p => ?_⟩
  · obtain ⟨i, hiL, rfl⟩ := List.mem_map.mp hl
    exact (h.cc (getD_at (hi i hiL)) hq).1
  · constructor
    · rintro ⟨l, hl, hp⟩
      obtain ⟨i, hiL, rfl⟩ := List.mem_map.mp hl
      obtain ⟨h1, h2, _⟩ := h.cc (getD_at (hi i hiL)) hp
      obtain ⟨X, R, g, hX⟩ := (hL.2 i).mp hiL
      exact ⟨h1, h2, _, h.sound g hX (getD_at (hi i hiL)) hp, chain_self h1⟩
    · rintro ⟨hp, hpc, x, hx, hpx⟩
      obtain ⟨z, hz, hzc, rfl⟩ := mem_chainsOf.mp ((living_good n b c).x0 x hx)
      rw [← chain_same hz hpx] at hx
      obtain ⟨m, hm, hpm⟩ := h.cp.all p hp (by unfold okc; simp [hpc])
      obtain ⟨i, ei⟩ := List.mem_iff_getElem?.mp hm
      have him := (List.getElem?_eq_some_iff.mp ei).1
      have : i ∈ L := (hL.2 i).mpr (h.complete ei hpm hx)
      refine ⟨_, List.mem_map.mpr ⟨i, this, rfl⟩, ?_⟩
      rw [ext_snd (getD_at him) ei]
      exact hpm
end
structure Bld (H : Hp) (a : Addr) (ls : List (List Nat)) : Prop where
  ex : ∃ rs : List Addr, H a = some (.lst (rs.map V.ref)) ∧ rs.length = ls.length ∧ (∀ (i : Nat) (r : Addr) (l : List Nat), rs[i]? = some r → ls[i]? = some l → LN H r l) ∧ ∀ r ∈ rs, r ≠ a
theorem Bld.nil {H : Hp} {a : Addr} : Bld (L2.upd H a (.lst [])) a [] := ⟨[], upd_same, rfl, fun i r l e => by simp at e, by simp⟩
theorem Bld.same {H H' : Hp} {a : Addr} {ls : List (List Nat)} (h : Bld H a ls) (s : Same H H') : Bld H' a ls := by
  obtain ⟨rs, h1, h2, h3, h4⟩ := h
  exact ⟨rs, s _ _ h1, h2, fun i r l e1 e2 => s _ _ (h3 i r l e1 e2), h4⟩
theorem Bld.ll {H : Hp} {a : Addr} {ls : List (List Nat)} (h : Bld H a ls) : LL H a ls := by
  obtain ⟨rs, h1, h2, h3, h4⟩ := h
  exact ⟨rs, h1, h2, h3⟩
theorem Bld.acc {H : Hp} {a : Addr} {ls : List (List Nat)} (h : Bld H a ls) : ∃ acc, H a = some (.lst acc) ∧ acc.length = ls.length := by
  obtain ⟨rs, h1, h2, h3, h4⟩ := h
  exact ⟨_, h1, by rw [List.length_map]; exact h2⟩
theorem Bld.snoc {H : Hp} {a r : Addr} {ls : List (List Nat)} {l : List Nat} {acc : List V} (h : Bld H a ls) (ha : H a = some (.lst acc)) (hr : LN H r l) (hra : r ≠ a) : Bld (L2.upd H a (.lst (acc ++ [.ref r]))) a (ls ++ [l]) := by
  obtain ⟨rs, h1, h2, h3, h4⟩ := h
  have e : acc = rs.map V.ref := by rw [ha] at h1; exact HO.lst.inj (Option.some.inj h1)
  subst e
  refine ⟨rs ++ [r], by rw [upd_same, List.map_append]; rfl, by simp [h2], fun i r' l' e1 e2 => ?_, fun r' hr' => ?_⟩
  · rcases Nat.lt_or_ge i rs.length with z | z
    · rw [List.getElem?_append_left z] at e1
      rw [List.getElem?_append_left (by omega)] at e2
      exact upd_lst (h3 i r' l' e1 e2) (h4 r' (List.mem_of_getElem? e1))
    · rw [List.getElem?_append_right z] at e1
      rw [List.getElem?_append_right (by omega), ← h2] at e2
      have : i - rs.length = 0 := by
        rcases Nat.eq_zero_or_pos (i - rs.length) with y | y
        · exact y
        · rw [List.getElem?_eq_none (by simp; omega)] at e1; cases e1
      rw [this] at e1 e2
      have e1 : r = r' := Option.some.inj e1
      have e2 : l = l' := Option.some.inj e2
      subst e1 e2
      exact upd_lst hr hra
  · rcases List.mem_append.mp hr' with hr' | hr'
    · exact h4 r' hr'
    · rw [List.mem_singleton.mp hr']; exact hra
section
variable {P : Program} {w : World} {K : PySem.W.Frag} {mg : Str → Option Value} {base : Heap}
abbrev s_living_chains : Stmt := top 38
theorem sc_living_chains : FnScope ["stones", "beside", "colour", "chains", "pieces", "chain_of", "near", "point", "kept", "piece", "touched", "number"] ["stones", "beside", "colour"] (defScope s_living_chains) := ⟨rfl, rfl, rfl, by decide +kernel, rfl, by decide +kernel, by decide +kernel⟩
def spLivC : Sp := fun vs H Q _ => ∃ (st bs : Addr) (n c : Nat) (b : Sd46.Board), vs = [.ref st, .ref bs, nV c] ∧ Brd H st n b ∧ Bes H bs n ∧ n ≤ 19 ∧ (c = 1 ∨ c = 2) ∧ (∀ q, q < n * n → Sd46.at_ b q ≤ 2) ∧ RetLL H Q (Lives n b c)
theorem ok_living_chains (T : Txt K mg) (F : Fd K mg "living_chains" s_living_chains ["stones", "beside", "colour"]) (G_all_parts : Fx P w K mg base 2 "all_parts" ["stones", "beside", "colours"] spParts) (G_other : Fx P w K mg base 1 "other" ["colour"] spOther)
    (G_chain_numbers : Fx P w K mg base 1 "chain_numbers" ["points", "chains"] spNums) (G_chains_near : Fx P w K mg base 1 "chains_near" ["chain_of", "beside", "point"] spNear) (G_chains_kept : Fx P w K mg base 1 "chains_kept" ["stones", "near", "piece"] spKept)
    (G_chains_round : Fx P w K mg base 1 "chains_round" ["near", "piece"] spRound) (G_chains_left : Fx P w K mg base 2 "chains_left" ["count", "kept", "touched"] spLeft) : Fx P w K mg base 3 "living_chains" ["stones", "beside", "colour"] spLivC := by
  refine F.ok sc_living_chains (fun vs H Q E h => ?_) (fun f cdv A outer s H vs Q E hr h => ?_)
  · obtain ⟨st, bs, n, c, b, rfl, _⟩ := h; rfl
  · obtain ⟨st, bs, n, c, b, rfl, hB, hS, h2, hc, hle, k⟩ := h
    have hu := hu_of hr
    have hnn : n * n ≤ 361 := by have := Nat.mul_le_mul h2 h2; omega
    refine ⟨_, (pss_cons (ps_set (i := 3) sc_living_chains.nd rfl (Or.inr rfl) (pcall G_all_parts (hr.mono (by decide)) (pa_cons (pv 0) (pa_cons (pv 1) (pa_cons (pe_tup (pa_cons (pv 2) pa_nil)) pa_nil)))))
      (pss_cons (ps_set (i := 4) sc_living_chains.nd rfl (Or.inl rfl) (pcall G_all_parts (hr.mono (by decide)) (pa_cons (pv 0) (pa_cons (pv 1) (pa_cons (pe_tup (pa_cons (pk T.EMPTY) (pa_cons (pcall G_other (hr.mono (by decide)) (pa_cons (pv 2) pa_nil)) pa_nil))) pa_nil)))))
      (pss_cons (ps_set (i := 5) sc_living_chains.nd rfl (Or.inr rfl) (pcall G_chain_numbers (hr.mono (by decide)) (pa_cons (pe_callB call_len_seq (by rfl) T.len PySem.boot_len (pa_cons (pv 0) pa_nil)) (pa_cons (pv 3) pa_nil))))
      (pss_cons (ps_set (i := 6) sc_living_chains.nd rfl (Or.inr rfl) (pe_lc rfl sc_living_chains.nd (pi_range1 rfl T.range (pa_cons (pe_callB call_len_seq (by rfl) T.len PySem.boot_len (pa_cons (pv 0) pa_nil)) pa_nil)) (own := [("point", 7)]) (blkOk_by (N := ["stones", "beside", "colour", "chains", "pieces", "chain_of", "near", "point", "kept", "piece", "touched", "number"]) (sc := defScope s_living_chains) (by decide +kernel)) (fun _ _ _ _ _ => (pg_name (i := 7) sc_living_chains.nd rfl (Or.inl rfl))) (fun _ _ _ _ _ => pts_nil) (fun _ _ _ _ _ => (pcall G_chains_near (hr.mono (by decide)) (pa_cons (pv 5) (pa_cons (pv 1) (pa_cons (pv 7) pa_nil)))))))
      (pss_cons (ps_setLc (i := 8) rfl sc_living_chains.nd rfl rfl (sw_true rfl rfl rfl rfl) (pi_list (pv 4)) (own := [("piece", 9)]) (blkOk_by (N := ["stones", "beside", "colour", "chains", "pieces", "chain_of", "near", "point", "kept", "piece", "touched", "number"]) (sc := defScope s_living_chains) (by decide +kernel)) (fun _ _ _ _ _ => (pg_name (i := 9) sc_living_chains.nd rfl (Or.inl rfl))) (fun _ _ _ _ _ => pts_nil) (fun _ _ _ _ _ => (pcall G_chains_kept (hr.mono (by decide)) (pa_cons (pv 0) (pa_cons (pv 6) (pa_cons (pv 9) pa_nil))))))
      (pss_cons (ps_setLc (i := 10) rfl sc_living_chains.nd rfl rfl (sw_true rfl rfl rfl rfl) (pi_list (pv 4)) (own := [("piece", 9)]) (blkOk_by (N := ["stones", "beside", "colour", "chains", "pieces", "chain_of", "near", "point", "kept", "piece", "touched", "number"]) (sc := defScope s_living_chains) (by decide +kernel)) (fun _ _ _ _ _ => (pg_name (i := 9) sc_living_chains.nd rfl (Or.inl rfl))) (fun _ _ _ _ _ => pts_nil) (fun _ _ _ _ _ => (pcall G_chains_round (hr.mono (by decide)) (pa_cons (pv 6) (pa_cons (pv 9) pa_nil)))))
      (pss_one (ps_ret (pe_lc rfl sc_living_chains.nd (pi_list (pcall G_chains_left (hr.mono (by decide)) (pa_cons (pe_callB call_len_seq (by rfl) T.len PySem.boot_len (pa_cons (pv 3) pa_nil)) (pa_cons (pv 8) (pa_cons (pv 10) pa_nil))))) (own := [("number", 11)]) (blkOk_by (N := ["stones", "beside", "colour", "chains", "pieces", "chain_of", "near", "point", "kept", "piece", "touched", "number"]) (sc := defScope s_living_chains) (by decide +kernel)) (fun _ _ _ _ _ => (pg_name (i := 11) sc_living_chains.nd rfl (Or.inl rfl))) (fun _ _ _ _ _ => pts_nil) (fun _ _ _ _ _ => (pe_ix (show IxR _ (rIxL K) from ix_list) (pv 3) (pv 11) (fun _ _ => rfl)))))))))))), ?_⟩
    refine ⟨_, rfl, _, rfl, _, rfl, (by show 1 ≤ sizeLine; decide), fun t1 ht1 => ?_⟩
    have s1 : Same H (L2.upd H t1 (.tup [nV c])) := same_new ht1
    refine ⟨st, bs, t1, n, b, [c], rfl, hB.same s1, hS.same s1, upd_same, h2, fun H2 ca cs s2 hca hcp hcs hcN => ?_⟩
    have S2 := s1.trans s2
    refine ⟨_, rfl, _, rfl, _, rfl, c, rfl, hc, (by show 2 ≤ sizeLine; decide), fun t2 ht2 => ?_⟩
    have s3 : Same H2 (L2.upd H2 t2 (.tup [nV 0, nV (Sd46.other c)])) := same_new ht2
    have S3 := S2.trans s3
    refine ⟨st, bs, t2, n, b, [0, Sd46.other c], rfl, hB.same S3, hS.same S3, upd_same, h2, fun H4 pa ps s4 hpa hpp hps _ => ?_⟩
    have S4 := S3.trans s4
    have hcs4 := hcs.same (s3.trans s4)
    have hcf := hcp.few
    have hpf := hpp.few
    have el : ((b.map nV).length : Int) = ((n * n : Nat) : Int) := by rw [List.length_map, hB.len]
    refine ⟨_, rfl, st, _, rfl, .inl (hB.same S4).sq, ?_⟩
    rw [el]
    refine ⟨_, rfl, ca, n * n, cs, rfl, hcs4, by omega, hcp.lt, fun H5 na co s5 hna hnu hco => ?_⟩
    have S5 := S4.trans s5
    have hz : ∀ z ∈ co, z = -1 ∨ 0 ≤ z := by
      intro z hz
      obtain ⟨p, hp⟩ := List.mem_iff_getElem?.mp hz
      rcases hnu.2 p z hp with ⟨j, m, _, _, _, rfl⟩ | ⟨_, h⟩
      · exact .inr (by omega)
      · exact .inl h
    refine ⟨_, rfl, st, _, rfl, .inl (hB.same S5).sq, _, rfl, by rw [el]; omega, by rw [el]; omega, fun nea hne => ?_⟩
    refine lc_upto (n := n * n) el (fun i H' => Same H5 H' ∧ ∃ nr : List (List Nat), Bld H' nea nr ∧ nr.length = i ∧ ∀ (p : Nat) (x : List Nat), nr[p]? = some x → NearS co (besideM n p) x) ⟨same_new hne, [], Bld.nil, rfl, fun p x e => by simp at e⟩ ?_ ?_
    · rintro i H' hi ⟨sm, nr, hb, hnl, hna'⟩
      have Sx := S5.trans sm
      refine ⟨rfl, _, rfl, _, rfl, _, rfl, na, bs, n, i, co, rfl, sm _ _ hco, hnu.1, hz, hS.same Sx, hi, fun H6 a l s6 ha hl hLN => ?_⟩
      obtain ⟨acc, h1, h2'⟩ := (hb.same s6).acc
      have hane : a ≠ nea := by
        obtain ⟨acc', h1', _⟩ := hb.acc
        exact (ne_of_none h1' ha).symm
      refine ⟨acc, h1, small (by omega), (sm.trans s6).upd hne, nr ++ [l], (hb.same s6).snoc h1 hLN hane, by simp [hnl], fun p x e => ?_⟩
      rcases Nat.lt_or_ge p nr.length with z | z
      · rw [List.getElem?_append_left z] at e; exact hna' p x e
      · rw [List.getElem?_append_right z] at e
        have : p - nr.length = 0 := by
          rcases Nat.eq_zero_or_pos (p - nr.length) with y | y
          · exact y
          · rw [List.getElem?_eq_none (by simp; omega)] at e; cases e
        rw [this] at e
        have e : l = x := Option.some.inj e
        subst e
        rw [show p = i by omega]
        exact hl
    rintro H6 ⟨s6, nr, hnb, hnl, hna'⟩
    have S6 := S5.trans s6
    have hnr := hnb.ll
    have num : ∀ x ∈ nr, x.Nodup ∧ ∀ i ∈ x, i < 400 := by
      intro x hx
      obtain ⟨p, hp⟩ := List.mem_iff_getElem?.mp hx
      refine ⟨(hna' p x hp).nd, fun i hi => ?_⟩
      obtain ⟨q, hq, hcoq⟩ := ((hna' p x hp).mem i).mp hi
      rcases hnu.2 q _ hcoq with ⟨j, m, hj, ej, hm, z⟩ | ⟨_, z⟩ <;> omega
    have hps6 := hps.same (s5.trans s6)
    obtain ⟨prs, y1, y2, y3⟩ := hps6
    refine ⟨_, rfl, pa, rfl, ⟨_, SqL.of y1⟩, fun ka hka => ?_⟩
    refine lc_LL (ls := ps) y2 (fun i H' => Same H6 H' ∧ ∃ ks : List (List Nat), Bld H' ka ks ∧ ks.length = i ∧ ∀ (j : Nat) (l x : List Nat), ps[j]? = some l → ks[j]? = some x → KeptS b nr l x) ⟨same_new hka, [], Bld.nil, rfl, fun j l x _ e => by simp at e⟩ (fun i H' h => h.1 _ _ y1) ?_ ?_
    · rintro i r l H' er el' ⟨sm, ks, hb, hkl, hks⟩
      have Sx := S6.trans sm
      have hil := (List.getElem?_eq_some_iff.mp el').1
      have hml := List.mem_of_getElem? el'
      obtain ⟨p0, _, _, hPt⟩ := hpp.is l hml
      refine ⟨rfl, _, rfl, _, rfl, _, rfl, st, nea, r, n, b, nr, l, rfl, hB.same Sx, hnr.same sm, hnl, h2, sm _ _ (y3 i r l er el'), hPt.1, hpp.lt l hml, num, fun H7 a x s7 ha hx hLN => ?_⟩
      obtain ⟨acc, h1, h2'⟩ := (hb.same s7).acc
      have hane : a ≠ ka := by
        obtain ⟨acc', h1', _⟩ := hb.acc
        exact (ne_of_none h1' ha).symm
      refine ⟨acc, h1, small (by omega), (sm.trans s7).upd hka, ks ++ [x], (hb.same s7).snoc h1 hLN hane, by simp [hkl], fun j l' x' e1 e => ?_⟩
      rcases Nat.lt_or_ge j ks.length with z | z
      · rw [List.getElem?_append_left z] at e; exact hks j l' x' e1 e
      · rw [List.getElem?_append_right z] at e
        have : j - ks.length = 0 := by
          rcases Nat.eq_zero_or_pos (j - ks.length) with y | y
          · exact y
          · rw [List.getElem?_eq_none (by simp; omega)] at e; cases e
        rw [this] at e
        have e : x = x' := Option.some.inj e
        subst e
        rw [show j = i by omega] at e1
        rw [ext_snd e1 el']
        exact hx
    rintro H7 ⟨s7, ks, hkb, hkl, hks⟩
    have S7 := S6.trans s7
    refine ⟨_, rfl, pa, rfl, ⟨_, SqL.of (s7 _ _ y1)⟩, fun ta hta => ?_⟩
    refine lc_LL (ls := ps) y2 (fun i H' => Same H7 H' ∧ ∃ ts : List (List Nat), Bld H' ta ts ∧ ts.length = i ∧ ∀ (j : Nat) (l x : List Nat), ps[j]? = some l → ts[j]? = some x → RoundS nr l [] x) ⟨same_new hta, [], Bld.nil, rfl, fun j l x _ e => by simp at e⟩ (fun i H' h => h.1 _ _ (s7 _ _ y1)) ?_ ?_
    · rintro i r l H' er el' ⟨sm, ts, hb, htl, hts⟩
      have Sx := S7.trans sm
      have hil := (List.getElem?_eq_some_iff.mp el').1
      have hml := List.mem_of_getElem? el'
      refine ⟨rfl, _, rfl, _, rfl, nea, r, nr, l, rfl, hnr.same (s7.trans sm), sm _ _ (s7 _ _ (y3 i r l er el')), fun p hp => by rw [hnl]; exact hpp.lt l hml p hp, fun x hx => (num x hx).2, fun H8 a x s8 ha hx hLN => ?_⟩
      obtain ⟨acc, h1, h2'⟩ := (hb.same s8).acc
      have hane : a ≠ ta := by
        obtain ⟨acc', h1', _⟩ := hb.acc
        exact (ne_of_none h1' ha).symm
      refine ⟨acc, h1, small (by omega), (sm.trans s8).upd hta, ts ++ [x], (hb.same s8).snoc h1 hLN hane, by simp [htl], fun j l' x' e1 e => ?_⟩
      rcases Nat.lt_or_ge j ts.length with z | z
      · rw [List.getElem?_append_left z] at e; exact hts j l' x' e1 e
      · rw [List.getElem?_append_right z] at e
        have : j - ts.length = 0 := by
          rcases Nat.eq_zero_or_pos (j - ts.length) with y | y
          · exact y
          · rw [List.getElem?_eq_none (by simp; omega)] at e; cases e
        rw [this] at e
        have e : x = x' := Option.some.inj e
        subst e
        rw [show j = i by omega] at e1
        rw [ext_snd e1 el']
        exact hx
    rintro H8 ⟨s8, ts, htb, htl, hts⟩
    have S8 := S7.trans s8
    have lv : LvS n b c cs ps co nr ks ts := ⟨hc, hle, hcp, hpp, hnu, hnl, hna', hkl, hks, htl, hts⟩
    have hcs8 := hcs4.same (((s5.trans s6).trans s7).trans s8)
    obtain ⟨crs, z1, z2, z3⟩ := hcs8
    have elc : ((crs.map V.ref).length : Int) = ((cs.length : Nat) : Int) := by rw [List.length_map, z2]
    refine ⟨_, rfl, ca, _, rfl, .inl (SqL.of z1), ?_⟩
    rw [elc]
    refine ⟨_, rfl, _, rfl, ka, ta, cs.length, ks, ts, rfl, (hkb.same s8).ll, htb.ll, by omega, by omega, by omega, fun x hx => lv.knum hx, fun x hx => lv.tnum hx, fun H9 la L s9 hla hL hLN => ?_⟩
    refine ⟨la, rfl, ⟨_, SqL.of hLN⟩, fun a ha => ?_⟩
    have hLl : L.length ≤ cs.length := short hL.1 fun i hi => by
      obtain ⟨X, R, g, hX⟩ := (hL.2 i).mp hi
      exact (g.two i hX).1
    have S9 := S8.trans s9
    have s9a : ∀ {o : HO}, Same H9 (L2.upd H9 a o) := same_new ha
    refine lc_nats (l := L) (fun i H' => ∃ rs : List Addr, H' = L2.upd H9 a (.lst (rs.map V.ref)) ∧ rs.length = i ∧ (∀ (j : Nat) (r : Addr) (q : Nat), rs[j]? = some r → L[j]? = some q → LN H9 r (cs.getD q [])) ∧ ∀ r ∈ rs, H r = none) ⟨[], rfl, rfl, fun j r q e => by simp at e, by simp⟩ (fun i H' ⟨_, h, _⟩ => by rw [h]; exact s9a _ _ hLN) ?_ ?_
    · rintro i q _ hq ⟨rs, rfl, hrl, hrs, hrn⟩
      have hqc : q < cs.length := by
        obtain ⟨X, R, g, hX⟩ := (hL.2 q).mp (List.mem_of_getElem? hq)
        exact (g.two q hX).1
      have hil := (List.getElem?_eq_some_iff.mp hq).1
      have er : crs[q]? = some crs[q] := List.getElem?_eq_getElem (by omega)
      refine ⟨rfl, _, rfl, _, rfl, ca, _, _, V.ref crs[q], rfl, rfl, SqL.of (s9a _ _ (s9 _ _ z1)), atI_nat (by rw [List.getElem?_map, er]; rfl), _, upd_same, by rw [List.length_map]; exact small (by omega), rs ++ [crs[q]], ?_, by simp [hrl], fun j r q' e1 e2 => ?_, fun r hr => ?_⟩
      · rw [upd_upd, List.map_append]; rfl
      · rcases Nat.lt_or_ge j rs.length with z | z
        · rw [List.getElem?_append_left z] at e1; exact hrs j r q' e1 e2
        · rw [List.getElem?_append_right z] at e1
          have : j - rs.length = 0 := by
            rcases Nat.eq_zero_or_pos (j - rs.length) with y | y
            · exact y
            · rw [List.getElem?_eq_none (by simp; omega)] at e1; cases e1
          rw [this] at e1
          have e1 : crs[q] = r := Option.some.inj e1
          subst e1
          rw [show j = i by omega] at e2
          rw [ext_snd e2 hq]
          exact s9 _ _ (z3 q _ _ er (getD_at hqc))
      · rcases List.mem_append.mp hr with hr | hr
        · exact hrn r hr
        · rw [List.mem_singleton.mp hr]
          have hcs2 := hcs
          obtain ⟨rs0, w1, w2, w3⟩ := hcs2
          have e0 : crs = rs0 := by
            have := (((((s3.trans s4).trans s5).trans s6).trans s7).trans s8) _ _ w1
            rw [z1] at this
            exact refs_inj (HO.lst.inj (Option.some.inj this))
          exact s1.free (hcN rs0 w1 _ (by rw [← e0]; exact List.mem_of_getElem? er))
    rintro _ ⟨rs, rfl, hrl, hrs, hrn⟩
    refine k _ a _ (S9.upd (S9.free ha)) (S9.free ha) (lv.lives hL) ⟨rs, upd_same, by rw [List.length_map]; exact hrl, fun j r l e1 e2 => ?_⟩ (NewR.mk' upd_same hrn)
    rw [List.getElem?_map] at e2
    obtain ⟨q, e3, rfl⟩ := Option.map_eq_some_iff.mp e2
    exact upd_other (hrs j r q e1 e3) ha
end
theorem pts_set {n p v : Nat} {g : Nat → Nat} (hp : p < n * n) : ((Sd46.points n).map g).set p v = (Sd46.points n).map fun q => if q = p then v else g q := by
  refine List.ext_getElem? fun i => ?_
  unfold Sd46.points
  by_cases hi : i < n * n
  · by_cases hip : i = p
    · subst hip
      rw [List.getElem?_set_self (by simp; exact hi), List.getElem?_map, List.getElem?_range hi]
      simp
    · rw [List.getElem?_set_ne (fun z => hip z.symm), List.getElem?_map, List.getElem?_map, List.getElem?_range hi]
      simp [hip]
  · rw [List.getElem?_eq_none (by simp; omega), List.getElem?_eq_none (by simp; omega)]
section
variable {P : Program} {w : World} {K : PySem.W.Frag} {mg : Str → Option Value} {base : Heap}
abbrev s_living_stones : Stmt := top 39
theorem sc_living_stones : FnScope ["stones", "beside", "living", "point", "colour", "chain"] ["stones", "beside"] (defScope s_living_stones) := ⟨rfl, rfl, rfl, by decide +kernel, rfl, by decide +kernel, by decide +kernel⟩
def livB (n : Nat) (b : Sd46.Board) : List Nat := (Sd46.points n).map fun p => if Sd46.lives n b p = true then Sd46.at_ b p else 0
def spLivS : Sp := fun vs H Q _ => ∃ (st bs : Addr) (n : Nat) (b : Sd46.Board), vs = [.ref st, .ref bs] ∧ Brd H st n b ∧ Bes H bs n ∧ n ≤ 19 ∧ (∀ q, q < n * n → Sd46.at_ b q ≤ 2) ∧ RetL H Q (fun l => l = livB n b)
def livF (n : Nat) (b : Sd46.Board) (i p : Nat) : Nat := if Sd46.lives n b p = true ∧ Sd46.at_ b p ≤ i then Sd46.at_ b p else 0
theorem ok_living_stones (T : Txt K mg) (F : Fd K mg "living_stones" s_living_stones ["stones", "beside"]) (G_living_chains : Fx P w K mg base 3 "living_chains" ["stones", "beside", "colour"] spLivC) : Fx P w K mg base 4 "living_stones" ["stones", "beside"] spLivS := by
  refine F.ok sc_living_stones (fun vs H Q E h => ?_) (fun f cdv A outer s H vs Q E hr h => ?_)
  · obtain ⟨st, bs, n, b, rfl, _⟩ := h; rfl
  · obtain ⟨st, bs, n, b, rfl, hB, hS, h2, hle, k⟩ := h
    have hu := hu_of hr
    have hnn : n * n ≤ 361 := by have := Nat.mul_le_mul h2 h2; omega
    refine ⟨_, (pss_cons (ps_setLc (i := 2) rfl sc_living_stones.nd rfl rfl (sw_true rfl rfl rfl rfl) (pi_list (pv 0)) (own := [("point", 3)]) (blkOk_by (N := ["stones", "beside", "living", "point", "colour", "chain"]) (sc := defScope s_living_stones) (by decide +kernel)) (fun _ _ _ _ _ => (pg_name (i := 3) sc_living_stones.nd rfl (Or.inl rfl))) (fun _ _ _ _ _ => pts_nil) (fun _ _ _ _ _ => (pk T.EMPTY)))
      (pss_cons (ps_for PassesOwn.never rfl (pi_tup (pe_tup (pa_cons (pk T.BLACK) (pa_cons (pk T.WHITE) pa_nil)))) (pg_name (i := 4) sc_living_stones.nd rfl (Or.inl rfl))
        (pss_one (ps_for PassesOwn.never rfl (pi_list (pcall G_living_chains (hr.mono (by decide)) (pa_cons (pv 0) (pa_cons (pv 1) (pa_cons (pv 4) pa_nil))))) (pg_name (i := 5) sc_living_stones.nd rfl (Or.inl rfl))
        (pss_one (ps_for PassesOwn.never rfl (pi_list (pv 5)) (pg_name (i := 3) sc_living_stones.nd rfl (Or.inl rfl))
        (pss_one (ps_asg (pv 4) (pg_sub (pv 2) (pv 3) set_list))))))))
      (pss_one (ps_ret (pv 2))))), ?_⟩
    refine ⟨_, rfl, st, rfl, ⟨_, hB.sq⟩, fun a ha => ?_⟩
    have sa : ∀ {o : HO}, Same H (L2.upd H a o) := same_new ha
    refine lc_nats (l := b) (fun i H' => H' = L2.upd H a (.lst ((List.replicate i 0).map nV))) rfl (fun i H' h => by rw [h]; exact sa _ _ hB.at_) ?_ ?_
    · rintro i q _ hq rfl
      have hi := (List.getElem?_eq_some_iff.mp hq).1
      rw [hB.len] at hi
      refine ⟨rfl, _, upd_same, by rw [List.length_map, List.length_replicate]; exact small (by omega), ?_⟩
      rw [upd_upd, List.replicate_succ', List.map_append]; rfl
    rintro _ rfl
    have e0 : List.replicate b.length 0 = (Sd46.points n).map (livF n b 0) := by
      rw [hB.len]
      refine List.ext_getElem (by simp [Sd46.points]) fun i h1 h3 => ?_
      rw [List.getElem_replicate, List.getElem_map]
      unfold livF
      rw [if_neg]
      rintro ⟨h4, h5⟩
      have := (lives_iff.mp h4).1
      omega
    rw [e0]
    have s1 : Same H (L2.upd H a (.lst (((Sd46.points n).map (livF n b 0)).map nV))) := sa
    refine ⟨(by show 2 ≤ sizeLine; decide), fun t ht => ?_⟩
    have s2 := s1.upd (o := .tup [nV 1, nV 2]) (s1.free ht)
    have hta : a ≠ t := fun e => by rw [← e, upd_same] at ht; cases ht
    have ht' : H t = none := s1.free ht
    have hle2 : ∀ l : Nat → Nat, ((Sd46.points n).map l).length = n * n := by intro l; simp [Sd46.points]
    refine ⟨t, rfl, ⟨_, SqT.of upd_same⟩, ?_⟩
    refine for_tup (K := K) (a := t) (xs := [nV 1, nV 2]) (fun i σ H' => ∃ (v3 v4 v5 : Option V), σ = [some (.ref st), some (.ref bs), some (.ref a), v3, v4, v5] ∧ Same H H' ∧ H' t = some (.tup [nV 1, nV 2]) ∧ LN H' a ((Sd46.points n).map (livF n b i)))
      ⟨_, _, _, rfl, s2, upd_same, upd_lst upd_same hta⟩ (fun i σ H' _ ⟨_, _, _, _, _, ht, _⟩ => SqT.of ht) ?_ ?_
    · rintro i x σ H1 hx ⟨v3, v4, v5, rfl, sm, htt, hl⟩
      have hi2 : i < 2 := (List.getElem?_eq_some_iff.mp hx).1
      have hxi : x = nV (i + 1) := by
        match i, hi2, hx with
        | 0, _, hx => exact (Option.some.inj hx).symm
        | 1, _, hx => exact (Option.some.inj hx).symm
      subst hxi
      refine ⟨_, rfl, _, rfl, _, rfl, st, bs, n, i + 1, b, rfl, hB.same sm, hS.same sm, h2, by omega, hle, fun H2 la ls s2 hla hLv hLL hNw => ?_⟩
      obtain ⟨rs, y1, y2, y3⟩ := hLL
      have hnla : la ≠ a := (ne_of_none hl hla).symm
      refine ⟨la, rfl, ⟨_, SqL.of y1⟩, ?_⟩
      have step : ∀ g : Nat → Nat, (∀ p, p < n * n → ((∃ l ∈ ls, p ∈ l) → g p = i + 1) ∧ ((¬ ∃ l ∈ ls, p ∈ l) → g p = livF n b i p)) → (Sd46.points n).map g = (Sd46.points n).map (livF n b (i + 1)) := by
        intro g hg
        refine List.map_congr_left fun p hp => ?_
        have hp := mem_points.mp hp
        obtain ⟨h3, h4⟩ := hg p hp
        have hm := hLv.mem p
        by_cases hc : ∃ l ∈ ls, p ∈ l
        · rw [h3 hc]
          obtain ⟨_, h5, h6⟩ := hm.mp hc
          unfold livF
          rw [if_pos ⟨lives_iff.mpr ⟨by omega, by rw [h5]; exact h6⟩, by omega⟩, h5]
        · rw [h4 hc]
          unfold livF
          by_cases hlv : Sd46.lives n b p = true ∧ Sd46.at_ b p ≤ i
          · rw [if_pos hlv, if_pos ⟨hlv.1, by omega⟩]
          · rw [if_neg hlv, if_neg]
            rintro ⟨h5, h6⟩
            have h7 : Sd46.at_ b p = i + 1 := by
              rcases Nat.lt_or_ge i (Sd46.at_ b p) with z | z
              · omega
              · exact absurd ⟨h5, z⟩ hlv
            have := (lives_iff.mp h5).2
            rw [h7] at this
            exact hc (hm.mpr ⟨hp, h7, this⟩)
      have hra : ∀ (j : Nat) (r : Addr), rs[j]? = some r → r ≠ a := fun j r e z => by
        have := hNw rs y1 r (List.mem_of_getElem? e)
        rw [z] at this
        exact absurd (this.symm.trans hl) (by intro y; cases y)
      refine for_LL (ls := ls) y2 (fun j σ H' => ∃ (v3 v5 : Option V) (g : Nat → Nat), σ = [some (.ref st), some (.ref bs), some (.ref a), v3, some (nV (i + 1)), v5] ∧ Same H H' ∧ SameB a H2 H' ∧ LN H' a ((Sd46.points n).map g) ∧ ∀ p, p < n * n → ((∃ l ∈ ls.take j, p ∈ l) → g p = i + 1) ∧ ((¬ ∃ l ∈ ls.take j, p ∈ l) → g p = livF n b i p))
        ⟨_, _, _, rfl, sm.trans s2, fun b o _ e => e, s2 _ _ hl, fun p hp => ⟨fun ⟨l, hl, _⟩ => by simp at hl, fun _ => rfl⟩⟩ (fun j σ H' ⟨_, _, _, _, _, sb, _⟩ => sb _ _ hnla y1) ?_ ?_
      · rintro j r l σ H3 er el ⟨v3, v5, g, rfl, sm3, sb, hl3, hg⟩
        have hr3 : LN H3 r l := sb _ _ (hra j r er) (y3 j r l er el)
        refine ⟨_, rfl, r, rfl, ⟨_, SqL.of hr3⟩, ?_⟩
        refine for_nats (l := l) (fun k σ H' => ∃ (v3 : Option V) (g : Nat → Nat), σ = [some (.ref st), some (.ref bs), some (.ref a), v3, some (nV (i + 1)), some (.ref r)] ∧ Same H H' ∧ SameB a H2 H' ∧ LN H' a ((Sd46.points n).map g) ∧ ∀ p, p < n * n → (((∃ l ∈ ls.take j, p ∈ l) ∨ p ∈ l.take k) → g p = i + 1) ∧ ((¬ ((∃ l ∈ ls.take j, p ∈ l) ∨ p ∈ l.take k)) → g p = livF n b i p))
          ⟨_, g, rfl, sm3, sb, hl3, fun p hp => by simpa using hg p hp⟩ (fun k σ H' ⟨_, _, _, _, sb, _⟩ => sb _ _ (hra j r er) (y3 j r l er el)) ?_ ?_
        · rintro k q σ H4 hq ⟨v3, g, rfl, sm4, sb4, hl4, hg4⟩
          have hqn : q < n * n := hLv.lt l (List.mem_of_getElem? el) q (List.mem_of_getElem? hq)
          refine ⟨_, rfl, _, rfl, _, rfl, a, _, _, q, rfl, rfl, hl4, ixN_nat (by rw [List.length_map, hle2]; exact hqn), ?_⟩
          refine ⟨_, fun x => if x = q then i + 1 else g x, rfl, sm4.upd ha, fun b o hb e => upd_lst (sb4 b o hb e) hb, ?_, fun p hp => ?_⟩
          · show L2.upd _ _ _ _ = _
            rw [upd_same, ← pts_set hqn, List.map_set]
          · obtain ⟨h3, h4⟩ := hg4 p hp
            rw [take_snoc' hq]
            by_cases hpq : p = q
            · subst hpq
              refine ⟨fun _ => if_pos rfl, fun z => absurd (.inr (by simp)) z⟩
            · have e1 : (p ∈ l.take k ++ [q]) ↔ p ∈ l.take k := by simp [hpq]
              simp only [e1, if_neg hpq]
              exact ⟨h3, h4⟩
        · rintro σ H4 ⟨v3, g, rfl, sm4, sb4, hl4, hg4⟩
          refine ⟨_, _, g, rfl, sm4, sb4, hl4, fun p hp => ?_⟩
          obtain ⟨h3, h4⟩ := hg4 p hp
          rw [List.take_length] at h3 h4
          have e1 : (∃ m ∈ ls.take (j + 1), p ∈ m) ↔ ((∃ m ∈ ls.take j, p ∈ m) ∨ p ∈ l) := by
            rw [take_snoc' el]
            simp only [List.mem_append, List.mem_singleton, or_and_right, exists_or, exists_eq_left]
          rw [e1]
          exact ⟨h3, h4⟩
      · rintro σ H3 ⟨v3, v5, g, rfl, sm3, sb, hl3, hg⟩
        rw [List.take_length] at hg
        rw [step g hg] at hl3
        exact ⟨_, _, _, rfl, sm3, sb _ _ hta.symm (s2 _ _ htt), hl3⟩
    · rintro σ H1 ⟨v3, v4, v5, rfl, sm, htt, hl⟩
      refine ⟨_, rfl, k _ a _ sm ha ?_ hl⟩
      unfold livB
      refine List.map_congr_left fun p hp => ?_
      unfold livF
      have := hle p (mem_points.mp hp)
      by_cases h3 : Sd46.lives n b p = true
      · rw [if_pos h3]; exact if_pos ⟨h3, this⟩
      · rw [if_neg h3]; exact if_neg fun z => h3 z.1
end
def gf (n : Nat) (bs st tu bo to : Addr) : List (Str × V) := [("size", nV n), ("beside", .ref bs), ("stones", .ref st), ("turns", .ref tu), ("boards", .ref bo), ("taken_off", .ref to)]
theorem lk_ne {f g : Str} {v : V} {r : List (Str × V)} (h : (f == g) = false) : List.lookup f ((g, v) :: r) = List.lookup f r := by rw [List.lookup_cons, h]
theorem lk_eq {f : Str} {v : V} {r : List (Str × V)} : List.lookup f ((f, v) :: r) = some v := by rw [List.lookup_cons, beq_self_eq_true]
section
variable {n : Nat} {bs st tu bo to : Addr}
theorem gf_size : (gf n bs st tu bo to).lookup ("size" : Str) = some (nV n) := lk_eq
theorem gf_beside : (gf n bs st tu bo to).lookup ("beside" : Str) = some (.ref bs) := by unfold gf; rw [lk_ne (by decide +kernel)]; exact lk_eq
theorem gf_stones : (gf n bs st tu bo to).lookup ("stones" : Str) = some (.ref st) := by unfold gf; rw [lk_ne (by decide +kernel), lk_ne (by decide +kernel)]; exact lk_eq
theorem gf_turns : (gf n bs st tu bo to).lookup ("turns" : Str) = some (.ref tu) := by unfold gf; rw [lk_ne (by decide +kernel), lk_ne (by decide +kernel), lk_ne (by decide +kernel)]; exact lk_eq
theorem gf_boards : (gf n bs st tu bo to).lookup ("boards" : Str) = some (.ref bo) := by unfold gf; rw [lk_ne (by decide +kernel), lk_ne (by decide +kernel), lk_ne (by decide +kernel), lk_ne (by decide +kernel)]; exact lk_eq
theorem gf_off : (gf n bs st tu bo to).lookup ("taken_off" : Str) = some (.ref to) := by unfold gf; rw [lk_ne (by decide +kernel), lk_ne (by decide +kernel), lk_ne (by decide +kernel), lk_ne (by decide +kernel), lk_ne (by decide +kernel)]; exact lk_eq
theorem gf_no {m : Str} (h : (["size", "beside", "stones", "turns", "boards", "taken_off"] : List Str).contains m = false) : (gf n bs st tu bo to).lookup m = none := by
  simp only [List.contains_cons, Bool.or_eq_false_iff] at h
  obtain ⟨h1, h2, h3, h4, h5, h6, _⟩ := h
  unfold gf
  rw [lk_ne h1, lk_ne h2, lk_ne h3, lk_ne h4, lk_ne h5, lk_ne h6]; rfl
theorem putF_ne {f g : Str} {v x : V} {r : List (Str × V)} (h : ¬ g = f) : putF f v ((g, x) :: r) = (g, x) :: putF f v r := if_neg h
theorem putF_eq {f : Str} {v x : V} {r : List (Str × V)} : putF f v ((f, x) :: r) = (f, v) :: r := if_pos rfl
theorem gf_put (st' : Addr) : putF "stones" (.ref st') (gf n bs st tu bo to) = gf n bs st' tu bo to := by
  unfold gf
  rw [putF_ne (by decide +kernel), putF_ne (by decide +kernel), putF_eq]
theorem gf_make : putF "taken_off" (.ref to) (putF "boards" (.ref bo) (putF "turns" (.ref tu) (putF "stones" (.ref st) (putF "beside" (.ref bs) (putF "size" (nV n) []))))) = gf n bs st tu bo to := by
  unfold gf
  show putF "taken_off" (.ref to) (putF "boards" (.ref bo) (putF "turns" (.ref tu) (putF "stones" (.ref st) (putF "beside" (.ref bs) [("size", nV n)])))) = _
  rw [putF_ne (by decide +kernel)]
  show putF "taken_off" (.ref to) (putF "boards" (.ref bo) (putF "turns" (.ref tu) (putF "stones" (.ref st) [("size", nV n), ("beside", .ref bs)]))) = _
  rw [putF_ne (by decide +kernel), putF_ne (by decide +kernel)]
  show putF "taken_off" (.ref to) (putF "boards" (.ref bo) (putF "turns" (.ref tu) [("size", nV n), ("beside", .ref bs), ("stones", .ref st)])) = _
  rw [putF_ne (by decide +kernel), putF_ne (by decide +kernel), putF_ne (by decide +kernel)]
  show putF "taken_off" (.ref to) (putF "boards" (.ref bo) [("size", nV n), ("beside", .ref bs), ("stones", .ref st), ("turns", .ref tu)]) = _
  rw [putF_ne (by decide +kernel), putF_ne (by decide +kernel), putF_ne (by decide +kernel), putF_ne (by decide +kernel)]
  show putF "taken_off" (.ref to) [("size", nV n), ("beside", .ref bs), ("stones", .ref st), ("turns", .ref tu), ("boards", .ref bo)] = _
  rw [putF_ne (by decide +kernel), putF_ne (by decide +kernel), putF_ne (by decide +kernel), putF_ne (by decide +kernel), putF_ne (by decide +kernel)]
  rfl
end
def tV : Option Nat → V
  | none => V.int (-1)
  | some p => nV p
inductive Tn (H : Hp) (F : List Addr) : List Addr → List (Option Nat) → List (List Nat) → Prop where
  | nil : Tn H F [] [] []
  | cons {a k : Addr} {t : Option Nat} {T : List Nat} {as : List Addr} {ts : List (Option Nat)} {Ts : List (List Nat)} : H a = some (.tup [tV t, .ref k]) → a ∉ F → LN H k T → k ∉ F → Tn H F as ts Ts → Tn H F (a :: as) (t :: ts) (T :: Ts)
def isSeq : HO → Prop
  | .tup _ => True
  | .lst _ => True
  | _ => False
theorem Tn.keep {H H' : Hp} {F F' : List Addr} {as : List Addr} {ts : List (Option Nat)} {Ts : List (List Nat)} (h : Tn H F as ts Ts) (s : ∀ b o, H b = some o → isSeq o → b ∉ F → H' b = some o) (f : ∀ b o, H b = some o → b ∉ F → b ∉ F') : Tn H' F' as ts Ts := by
  induction h with
  | nil => exact .nil
  | cons h1 h2 h3 h4 _ ih => exact .cons (s _ _ h1 True.intro h2) (f _ _ h1 h2) (s _ _ h3 True.intro h4) (f _ _ h3 h4) ih
theorem Tn.len {H : Hp} {F : List Addr} {as : List Addr} {ts : List (Option Nat)} {Ts : List (List Nat)} (h : Tn H F as ts Ts) : as.length = ts.length ∧ Ts.length = ts.length := by
  induction h with
  | nil => exact ⟨rfl, rfl⟩
  | cons _ _ _ _ _ ih => simp [ih.1, ih.2]
def plays : List (Option Nat) → List Sd46.Board → List Sd46.Board
  | [], bs => bs
  | none :: ts, bs => plays ts bs.tail
  | some _ :: ts, bs => bs.headD [] :: plays ts bs.tail
def kB (b : Sd46.Board) : List Key := b.map fun (q : Nat) => Sum.inl (q : Int)
theorem kB_V (b : Sd46.Board) : (kB b).map kV = b.map nV := by unfold kB; rw [List.map_map]; rfl
theorem kB_inj {b d : Sd46.Board} (h : kB b = kB d) : b = d := by
  have : (kB b).map kV = (kB d).map kV := by rw [h]
  rw [kB_V, kB_V] at this
  have h2 := congrArg (List.map fun v => match v with | V.int i => i.toNat | _ => 0) this
  rw [List.map_map, List.map_map] at h2
  have e : ((fun v => match v with | V.int i => i.toNat | _ => 0) ∘ nV) = id := by funext x; simp
  rw [e] at h2
  simpa using h2
def dB (l : List Sd46.Board) : List (List Key × V) := l.map fun b => (kB b, V.bl true)
theorem dB_val (l : List Sd46.Board) (b : Sd46.Board) : valV (dB l) (kB b) = if b ∈ l then some (V.bl true) else none := by
  induction l with
  | nil => rfl
  | cons a l ih =>
    show valV ((kB a, V.bl true) :: dB l) _ = _
    by_cases h : a = b
    · subst h; rw [valV_pos rfl]; simp
    · rw [valV_neg (fun e => h (kB_inj e)), ih]
      have : ¬ b = a := fun e => h e.symm
      simp [this]
theorem dB_put {l : List Sd46.Board} {b : Sd46.Board} (h : b ∉ l) : putK (dB l) (kB b) (V.bl true) = dB (l ++ [b]) := by
  rw [putK_new _ (by rw [dB_val, if_neg h])]
  unfold dB
  rw [List.map_append]; rfl
theorem plays_mem {n : Nat} {bs : List Sd46.Board} {ts : List (Option Nat)} {Ts : List (List Nat)} (h : Hist n bs ts Ts) : ∀ x, x ∈ plays ts bs ↔ x ∈ bs := by
  induction h with
  | new => intro x; exact Iff.rfl
  | @pass b bs ts Ts h ih => intro x; show x ∈ plays ts (b :: bs) ↔ _; rw [ih x]; simp
  | @play x b bs p ts T Ts h hp hT e hn ih => intro y; show y ∈ x :: plays ts (b :: bs) ↔ _; rw [List.mem_cons, ih y, List.mem_cons (a := y) (b := x)]
theorem plays_len : ∀ (ts : List (Option Nat)) (bs : List Sd46.Board), (plays ts bs).length ≤ ts.length + bs.length
  | [], bs => by show bs.length ≤ _; simp
  | none :: ts, bs => by
    have := plays_len ts bs.tail
    show (plays ts bs.tail).length ≤ _
    simp at this ⊢; omega
  | some _ :: ts, bs => by
    have := plays_len ts bs.tail
    show (plays ts bs.tail).length + 1 ≤ _
    simp at this ⊢; omega
structure GP (C : Addr) (H : Hp) (a : Addr) (g : Sd46.Game) (Ts : List (List Nat)) (dx bs st tu bo to : Addr) (as : List Addr) : Prop where
  ob : H a = some (.ins C dx (gf g.size bs st tu bo to))
  bes : Bes H bs g.size
  bst : bs ≠ st ∧ bs ≠ tu ∧ ∀ rows : List Addr, H bs = some (.lst (rows.map V.ref)) → st ∉ rows ∧ tu ∉ rows
  brd : LN H st g.board
  tus : H tu = some (.lst (as.reverse.map V.ref))
  tn : Tn H [st, tu] as g.turns Ts
  bds : H bo = some (.dT (dB (plays g.turns g.boards).reverse))
  off : H to = some (.dK (DT (offs Ts 1 : Nat) (offs Ts 2 : Nat)))
  stu : st ≠ tu
  ok : GameOk g Ts
def FP (a st tu bo to : Addr) : List Addr := [a, st, tu, bo, to]
def GameAt (C : Addr) (H : Hp) (a : Addr) (g : Sd46.Game) (F : List Addr) : Prop := ∃ (Ts : List (List Nat)) (dx bs st tu bo to : Addr) (as : List Addr), F = FP a st tu bo to ∧ GP C H a g Ts dx bs st tu bo to as
theorem GP.same {C : Addr} {H H' : Hp} {a : Addr} {g : Sd46.Game} {Ts : List (List Nat)} {dx bs st tu bo to : Addr} {as : List Addr} (h : GP C H a g Ts dx bs st tu bo to as) (s : Same H H') : GP C H' a g Ts dx bs st tu bo to as := by
  refine ⟨s _ _ h.ob, h.bes.same s, ⟨h.bst.1, h.bst.2.1, fun rows e => ?_⟩, s _ _ h.brd, s _ _ h.tus, h.tn.keep (fun b o e _ _ => s b o e) (fun _ _ _ z => z), s _ _ h.bds, s _ _ h.off, h.stu, h.ok⟩
  obtain ⟨rs, h1, _⟩ := h.bes
  have := s _ _ h1
  rw [this] at e
  rw [refs_inj (HO.lst.inj (Option.some.inj e))] at h1
  exact h.bst.2.2 rows h1
theorem GameAt.same {C : Addr} {H H' : Hp} {a : Addr} {g : Sd46.Game} {F : List Addr} (h : GameAt C H a g F) (s : Same H H') : GameAt C H' a g F := by
  obtain ⟨Ts, dx, bs, st, tu, bo, to, as, e, p⟩ := h
  exact ⟨Ts, dx, bs, st, tu, bo, to, as, e, p.same s⟩
def Frame (H H' : Hp) (F F' : List Addr) : Prop := (∀ b ∈ F', b ∈ F ∨ H b = none) ∧ ∀ b o, H b = some o → b ∉ F → H' b = some o
theorem Same.frame {H H' : Hp} {F : List Addr} (s : Same H H') : Frame H H' F F := ⟨fun _ h => .inl h, fun b o e _ => s b o e⟩
theorem Frame.trans {H H1 H2 : Hp} {F F1 F2 : List Addr} (h1 : Frame H H1 F F1) (h2 : Frame H1 H2 F1 F2) : Frame H H2 F F2 := by
  refine ⟨fun b hb => ?_, fun b o e hn => ?_⟩
  · rcases h2.1 b hb with z | z
    · exact h1.1 b z
    · by_cases hf : b ∈ F
      · exact .inl hf
      · right
        cases e : H b with
        | none => rfl
        | some o => rw [h1.2 b o e hf] at z; cases z
  · refine h2.2 b o (h1.2 b o e hn) fun z => ?_
    rcases h1.1 b z with z | z
    · exact hn z
    · rw [e] at z; cases z
def Turned (C : Addr) (H : Hp) (Q : VK) (a : Addr) (g : Sd46.Game) (F : List Addr) (t : Option Nat) : Prop := match g.turn t with
  | .ok g' => ∀ (H' : Hp) (F' : List Addr), GameAt C H' a g' F' → Frame H H' F F' → Q (.int 0) H'
  | .error e => ∀ H' : Hp, Same H H' → Q (.int (Sd46.code e)) H'
structure CG (K : PySem.W.Frag) (C : Addr) : Prop where
  cl : Cls K C
  size : NoAttr K C "size"
  beside : NoAttr K C "beside"
  stones : NoAttr K C "stones"
  turns : NoAttr K C "turns"
  boards : NoAttr K C "boards"
  off : NoAttr K C "taken_off"
section
variable {P : Program} {w : World} {K : PySem.W.Frag} {mg : Str → Option Value} {base : Heap} {C : Addr}
abbrev s_Game_whose_turn : Stmt := inClass (top 28) 1
theorem sc_Game_whose_turn : FnScope ["self"] ["self"] (defScope s_Game_whose_turn) := ⟨rfl, rfl, rfl, by decide +kernel, rfl, by decide +kernel, by decide +kernel⟩
def spWho (C : Addr) : Sp := fun vs H Q _ => ∃ (a dx bs st tu bo to : Addr) (n : Nat) (xs : List V), vs = [.ref a] ∧ H a = some (.ins C dx (gf n bs st tu bo to)) ∧ H tu = some (.lst xs) ∧ Q (nV (moverAt xs.length)) H
theorem ok_whose_turn (T : Txt K mg) (G : CG K C) (F : Md K C "whose_turn" "Game.whose_turn" s_Game_whose_turn ["self"]) : Mx P w K mg base C 1 "whose_turn" ["self"] (spWho C) := by
  refine F.ok sc_Game_whose_turn (fun vs H Q E h => ?_) (fun f cdv A outer s H vs Q E hr h => ?_)
  · obtain ⟨a, dx, bs, st, tu, bo, to, n, xs, rfl, _⟩ := h; rfl
  · obtain ⟨a, dx, bs, st, tu, bo, to, n, xs, rfl, ho, ht, k⟩ := h
    refine ⟨_, (pss_one (ps_ret (pe_ifExp (pt_cmpR op_eq (pe_op op_mod (pe_callB call_len_seq (by rfl) T.len PySem.boot_len (pa_cons (pe_fld (pv 0) rfl) pa_nil)) pe_int) pe_int (nomark _)) (pk T.BLACK) (pk T.WHITE)))), ?_⟩
    refine ⟨_, rfl, a, C, dx, _, _, rfl, ho, G.cl, G.turns, gf_turns, tu, _, rfl, .inl (SqL.of ht), _, _, rfl, rfl, (by show (0 : Int) < 2; decide), rfl, _, rfl, ?_⟩
    unfold moverAt at k
    by_cases e : xs.length % 2 = 0
    · rw [if_pos e] at k
      rw [decide_eq_true (congrArg V.int (show ((xs.length : Int) % 2) = 0 by omega))]
      exact iteT k
    · rw [if_neg e] at k
      rw [decide_eq_false (by intro z; have := V.int.inj z; omega)]
      exact iteF k
abbrev s_Game_is_on_board : Stmt := inClass (top 28) 2
theorem sc_Game_is_on_board : FnScope ["self", "x", "y"] ["self", "x", "y"] (defScope s_Game_is_on_board) := ⟨rfl, rfl, rfl, by decide +kernel, rfl, by decide +kernel, by decide +kernel⟩
def onB (n : Nat) (x y : Int) : Bool := decide (0 ≤ x ∧ x < (n : Int) ∧ 0 ≤ y ∧ y < (n : Int))
def spOnB (C : Addr) : Sp := fun vs H Q _ => ∃ (a dx bs st tu bo to : Addr) (n : Nat) (x y : Int), vs = [.ref a, .int x, .int y] ∧ H a = some (.ins C dx (gf n bs st tu bo to)) ∧ Q (.bl (onB n x y)) H
theorem ok_is_on_board (T : Txt K mg) (G : CG K C) (F : Md K C "is_on_board" "Game.is_on_board" s_Game_is_on_board ["self", "x", "y"]) : Mx P w K mg base C 1 "is_on_board" ["self", "x", "y"] (spOnB C) := by
  refine F.ok sc_Game_is_on_board (fun vs H Q E h => ?_) (fun f cdv A outer s H vs Q E hr h => ?_)
  · obtain ⟨a, dx, bs, st, tu, bo, to, n, x, y, rfl, _⟩ := h; rfl
  · obtain ⟨a, dx, bs, st, tu, bo, to, n, x, y, rfl, ho, k⟩ := h
    refine ⟨_, (pss_one (ps_ret (pe_and (pe_cmpR op_ge (pv 1) pe_int (nomark _)) (pe_and (pe_cmpR op_lt (pv 1) (pe_fld (pv 0) rfl) (nomark _)) (pe_and (pe_cmpR op_ge (pv 2) pe_int (nomark _)) (pe_one (pe_cmpR op_lt (pv 2) (pe_fld (pv 0) rfl) (nomark _)))))))), ?_⟩
    have no : ∀ {b : Bool}, onB n x y = b → Q (.bl b) H := fun e => e ▸ k
    refine ⟨_, rfl, _, _, rfl, rfl, _, rfl, ?_⟩
    refine ite2 (fun e1 => ?_) (fun e1 => no ?_)
    · have e1 := of_decide_eq_true e1
      refine ⟨_, rfl, _, rfl, a, C, dx, _, _, rfl, ho, G.cl, G.size, gf_size, _, _, rfl, rfl, _, rfl, ?_⟩
      refine ite2 (fun e2 => ?_) (fun e2 => no ?_)
      · have e2 := of_decide_eq_true e2
        refine ⟨_, rfl, _, _, rfl, rfl, _, rfl, ?_⟩
        refine ite2 (fun e3 => ?_) (fun e3 => no ?_)
        · have e3 := of_decide_eq_true e3
          refine ⟨_, rfl, _, rfl, a, C, dx, _, _, rfl, ho, G.cl, G.size, gf_size, _, _, rfl, rfl, no ?_⟩
          unfold onB
          rw [Bool.eq_iff_iff, decide_eq_true_iff, decide_eq_true_iff]
          exact ⟨fun z => z.2.2.2, fun z => ⟨e1, e2, e3, z⟩⟩
        · exact decide_eq_false fun z => e3 (decide_eq_true z.2.2.1)
      · exact decide_eq_false fun z => e2 (decide_eq_true z.2.1)
    · exact decide_eq_false fun z => e1 (decide_eq_true z.1)
abbrev s_Game_point_at : Stmt := inClass (top 28) 3
theorem sc_Game_point_at : FnScope ["self", "x", "y"] ["self", "x", "y"] (defScope s_Game_point_at) := ⟨rfl, rfl, rfl, by decide +kernel, rfl, by decide +kernel, by decide +kernel⟩
def spPtAt (C : Addr) : Sp := fun vs H Q _ => ∃ (a dx bs st tu bo to : Addr) (n : Nat) (x y : Int), vs = [.ref a, .int x, .int y] ∧ H a = some (.ins C dx (gf n bs st tu bo to)) ∧ n ≤ 19 ∧ Q (.int (y * (n : Int) + x)) H
theorem ok_point_at (T : Txt K mg) (G : CG K C) (F : Md K C "point_at" "Game.point_at" s_Game_point_at ["self", "x", "y"]) : Mx P w K mg base C 1 "point_at" ["self", "x", "y"] (spPtAt C) := by
  refine F.ok sc_Game_point_at (fun vs H Q E h => ?_) (fun f cdv A outer s H vs Q E hr h => ?_)
  · obtain ⟨a, dx, bs, st, tu, bo, to, n, x, y, rfl, _⟩ := h; rfl
  · obtain ⟨a, dx, bs, st, tu, bo, to, n, x, y, rfl, ho, hn, k⟩ := h
    refine ⟨_, (pss_one (ps_ret (pe_op op_add (pe_op op_mul (pv 2) (pe_fld (pv 0) rfl)) (pv 1)))), ?_⟩
    exact ⟨_, rfl, _, rfl, a, C, dx, _, _, rfl, ho, G.cl, G.size, gf_size, _, _, rfl, rfl, .inr ⟨by omega, by omega⟩, _, rfl, _, _, rfl, rfl, k⟩
abbrev s_Game_is_at_end : Stmt := inClass (top 28) 4
theorem sc_Game_is_at_end : FnScope ["self", "last"] ["self"] (defScope s_Game_is_at_end) := ⟨rfl, rfl, rfl, by decide +kernel, rfl, by decide +kernel, by decide +kernel⟩
theorem tV_pass {t : Option Nat} : decide (tV t = V.int (-1)) = t.isNone := by
  cases t with
  | none => rfl
  | some p => exact decide_eq_false fun z => by have := V.int.inj z; omega
theorem cut_last2 (xs : List V) (x y : V) : cutV (xs ++ [x, y]) (some (-2)) none = [x, y] := by
  unfold cutV
  have e : HT.sIx (xs ++ [x, y]).length 0 (some (-2)) = xs.length := by
    unfold HT.sIx
    rw [List.length_append]
    simp only []
    rw [if_pos (by decide)]
    simp only [List.length_cons, List.length_nil]
    omega
  rw [e, HT.sIx_none, List.drop_left]
  exact List.take_of_length_le (by simp)
def spEnd (C : Addr) : Sp := fun vs H Q _ => ∃ (a : Addr) (g : Sd46.Game) (F : List Addr), vs = [.ref a] ∧ GameAt C H a g F ∧ ∀ H', Same H H' → Q (.bl g.ended) H'
theorem ok_is_at_end (T : Txt K mg) (G : CG K C) (F : Md K C "is_at_end" "Game.is_at_end" s_Game_is_at_end ["self"]) : Mx P w K mg base C 1 "is_at_end" ["self"] (spEnd C) := by
  refine F.ok sc_Game_is_at_end (fun vs H Q E h => ?_) (fun f cdv A outer s H vs Q E hr h => ?_)
  · obtain ⟨a, g, F, rfl, _⟩ := h; rfl
  · obtain ⟨a, g, F, rfl, ⟨Ts, dx, bs, st, tu, bo, to, as, rfl, hg⟩, k⟩ := h
    refine ⟨_, (pss_cons (ps_set (i := 1) sc_Game_is_at_end.nd rfl (Or.inl rfl) (pe_slice sl_list (pe_fld (pv 0) rfl) (po_some (pe_un un_neg pe_int)) po_none))
      (pss_one (ps_ret (pe_and (pe_cmpR op_eq (pe_callB call_len_seq (by rfl) T.len PySem.boot_len (pa_cons (pv 1) pa_nil)) pe_int (nomark _)) (pe_and (pe_cmpR op_eq (pe_ix ix_tup (pe_ix ix_list (pv 1) pe_int (fun _ _ => rfl)) pe_int (fun _ _ => rfl)) (pk T.PASSED) (nomark _)) (pe_one (pe_cmpR op_eq (pe_ix ix_tup (pe_ix ix_list (pv 1) pe_int (fun _ _ => rfl)) pe_int (fun _ _ => rfl)) (pk T.PASSED) (nomark _)))))))), ?_⟩
    refine ⟨_, rfl, a, C, dx, _, _, rfl, hg.ob, G.cl, G.turns, gf_turns, _, rfl, _, rfl, tu, _, rfl, SqL.of hg.tus, fun l hl => ?_⟩
    have s1 : ∀ {o : HO}, Same H (L2.upd H l o) := same_new hl
    have htn := hg.tn
    have hend : g.ended = (match g.turns with | none :: none :: _ => true | _ => false) := rfl
    generalize g.turns = ts at htn hend
    have no : ∀ {b : Bool} {H' : Hp}, Same H H' → g.ended = b → Q (.bl b) H' := fun sm e => e ▸ k _ sm
    cases htn with
    | nil =>
      refine ⟨_, rfl, l, _, rfl, .inl (SqL.of upd_same), rfl, _, rfl, ?_⟩
      exact iteF (no s1 hend)
    | @cons a1 k1 t1 T1 as1 ts1 Ts1 h1 h2 h3 h4 htn =>
      cases htn with
      | nil =>
        refine ⟨_, rfl, l, _, rfl, .inl (SqL.of upd_same), rfl, _, rfl, ?_⟩
        refine iteF (no s1 (hend.trans ?_))
        cases t1 <;> rfl
      | @cons a2 k2 t2 T2 as2 ts2 Ts2 g1 g2 g3 g4 htn =>
        have ec : cutV ((a1 :: a2 :: as2).reverse.map V.ref) (some (-2)) none = [.ref a2, .ref a1] := by
          rw [show (a1 :: a2 :: as2).reverse.map V.ref = as2.reverse.map V.ref ++ [.ref a2, .ref a1] by simp]
          exact cut_last2 _ _ _
        rw [ec]
        have hl2 : L2.upd H l (.lst [.ref a2, .ref a1]) l = some (.lst [.ref a2, .ref a1]) := upd_same
        refine ⟨_, rfl, l, _, rfl, .inl (SqL.of hl2), rfl, _, rfl, ?_⟩
        refine iteT ?_
        refine ⟨_, rfl, l, _, _, _, rfl, rfl, SqL.of hl2, atI_nat (j := 0) (v := V.ref a2) rfl, a2, _, _, _, rfl, rfl, SqT.of (s1 _ _ g1), atI_nat (j := 0) rfl, by cases t2 <;> rfl, _, rfl, ?_⟩
        rw [tV_pass]
        refine ite2 (fun e => ?_) (fun e => no s1 (hend.trans ?_))
        · refine ⟨_, rfl, l, _, _, _, rfl, rfl, SqL.of hl2, atI_nat (j := 1) (v := V.ref a1) rfl, a1, _, _, _, rfl, rfl, SqT.of (s1 _ _ h1), atI_nat (j := 0) rfl, by cases t1 <;> rfl, ?_⟩
          rw [tV_pass]
          refine no s1 (hend.trans ?_)
          cases t2 with
          | some p => cases e
          | none => cases t1 <;> rfl
        · cases t2 with
          | none => exact absurd rfl e
          | some p => cases t1 <;> rfl
abbrev s_Game_turn_refusal : Stmt := inClass (top 28) 5
theorem sc_Game_turn_refusal : FnScope ["self"] ["self"] (defScope s_Game_turn_refusal) := ⟨rfl, rfl, rfl, by decide +kernel, rfl, by decide +kernel, by decide +kernel⟩
def refusal (g : Sd46.Game) : Int := if g.ended = true then -3 else if 1024 ≤ g.turns.length then -4 else 0
def spRef (C : Addr) : Sp := fun vs H Q _ => ∃ (a : Addr) (g : Sd46.Game) (F : List Addr), vs = [.ref a] ∧ GameAt C H a g F ∧ ∀ H', Same H H' → Q (.int (refusal g)) H'
theorem ok_turn_refusal (T : Txt K mg) (G : CG K C) (F : Md K C "turn_refusal" "Game.turn_refusal" s_Game_turn_refusal ["self"]) (M_is_at_end : Mx P w K mg base C 1 "is_at_end" ["self"] (spEnd C)) : Mx P w K mg base C 2 "turn_refusal" ["self"] (spRef C) := by
  refine F.ok sc_Game_turn_refusal (fun vs H Q E h => ?_) (fun f cdv A outer s H vs Q E hr h => ?_)
  · obtain ⟨a, g, F, rfl, _⟩ := h; rfl
  · obtain ⟨a, g, F, rfl, hga, k⟩ := h
    have cG := G.cl
    obtain ⟨Ts, dx, bs, st, tu, bo, to, as, rfl, hg⟩ := id hga
    refine ⟨_, (pss_cons (ps_if (pt_val (pmeth0 (pv 0) cG M_is_at_end (hr.mono (by decide))))
        (pss_one (ps_ret (pk T.AT_END)))
        pss_nil)
      (pss_cons (ps_if (pt_cmpR op_ge (pe_callB call_len_seq (by rfl) T.len PySem.boot_len (pa_cons (pe_fld (pv 0) rfl) pa_nil)) (pk T.MOST_TURNS) (nomark _))
        (pss_one (ps_ret (pk T.TOO_MANY_TURNS)))
        pss_nil)
      (pss_one (ps_ret (pk T.DONE))))), ?_⟩
    refine ⟨_, rfl, a, dx, _, rfl, hg.ob, gf_no (by decide +kernel), a, g, _, rfl, hga, fun H1 s1 => ⟨_, rfl, ?_⟩⟩
    have hg1 := hg.same s1
    have no : ∀ {b : Int}, refusal g = b → Q (.int b) H1 := fun e => e ▸ k _ s1
    refine ite2 (fun e => no (if_pos e)) (fun e => ?_)
    refine ⟨_, rfl, a, C, dx, _, _, rfl, hg1.ob, G.cl, G.turns, gf_turns, tu, _, rfl, .inl (SqL.of hg1.tus), _, _, rfl, rfl, _, rfl, ?_⟩
    have hl : ((as.reverse.map V.ref).length : Int) = (g.turns.length : Int) := by rw [List.length_map, List.length_reverse, hg.tn.len.1]
    rw [hl]
    refine ite2 (fun e2 => no ?_) (fun e2 => no ?_)
    · have e2 := of_decide_eq_true e2
      unfold refusal
      rw [if_neg e, if_pos (by omega)]
    · have e2 := of_decide_eq_false (Bool.not_eq_true _ ▸ e2)
      unfold refusal
      rw [if_neg e, if_neg (by omega)]
end
section
variable {P : Program} {w : World} {K : PySem.W.Frag} {mg : Str → Option Value} {base : Heap} {C : Addr}
abbrev s_Game_put_stone : Stmt := inClass (top 28) 9
theorem sc_Game_put_stone : FnScope ["self", "point", "colour", "stones", "taken", "lost"] ["self", "point"] (defScope s_Game_put_stone) := ⟨rfl, rfl, rfl, by decide +kernel, rfl, by decide +kernel, by decide +kernel⟩
def spPut (C : Addr) : Sp := fun vs H Q _ => ∃ (a : Addr) (g : Sd46.Game) (F : List Addr) (p : Nat), vs = [.ref a, nV p] ∧ GameAt C H a g F ∧ g.ended = false ∧ g.turns.length < 1024 ∧ p < g.size * g.size ∧ Sd46.at_ g.board p = 0 ∧ Turned C H Q a g F (some p)
theorem turn_put {g : Sd46.Game} {p : Nat} (h1 : g.ended = false) (h2 : g.turns.length < 1024) (h3 : Sd46.at_ g.board p = 0) : g.turn (some p) = (match Sd46.put g.size g.board g.mover p with
    | none => .error .breathless
    | some b => if g.boards.contains b = true then .error .again else .ok { g with boards := b :: g.boards, turns := some p :: g.turns }) := by
  unfold Sd46.Game.turn
  rw [if_neg (by rw [h1]; decide), if_neg (by unfold Sd46.TURNS; omega)]
  simp only []
  rw [if_neg (by simp [h3])]
  rfl
theorem ok_put_stone (T : Txt K mg) (G : CG K C) (F : Md K C "put_stone" "Game.put_stone" s_Game_put_stone ["self", "point"]) (M_whose_turn : Mx P w K mg base C 1 "whose_turn" ["self"] (spWho C)) (G_other : Fx P w K mg base 1 "other" ["colour"] spOther)
    (G_smothered_beside : Fx P w K mg base 2 "smothered_beside" ["stones", "beside", "start", "colour"] spSmoB) (G_smothered_chain : Fx P w K mg base 1 "smothered_chain" ["stones", "beside", "start"] spSmoth) : Mx P w K mg base C 3 "put_stone" ["self", "point"] (spPut C) := by
  refine F.ok sc_Game_put_stone (fun vs H Q E h => ?_) (fun f cdv A outer s H vs Q E hr h => ?_)
  · obtain ⟨a, g, F, p, rfl, _⟩ := h; rfl
  · obtain ⟨a, g, F, p, rfl, ⟨Ts, dx, bs, st, tu, bo, to, as, rfl, hg⟩, he, ht, hp, h0, k⟩ := h
    have cG := G.cl
    have hu := hu_of hr
    unfold Turned at k
    rw [turn_put he ht h0] at k
    have hok := hg.ok
    have hbo := hok.board
    have h19 := hok.hi
    have hnn : g.size * g.size ≤ 361 := by have := Nat.mul_le_mul h19 h19; omega
    have hmo : moverAt (as.reverse.map V.ref).length = g.mover := by rw [List.length_map, List.length_reverse, hg.tn.len.1]; rfl
    have hm12 : g.mover = 1 ∨ g.mover = 2 := moverAt_or _
    refine ⟨_, (pss_cons (ps_set (i := 2) sc_Game_put_stone.nd rfl (Or.inl rfl) (pmeth0 (pv 0) cG M_whose_turn (hr.mono (by decide))))
      (pss_cons (ps_set (i := 3) sc_Game_put_stone.nd rfl (Or.inl rfl) (pe_callTy call_list_of (by rfl) T.list boot_list (pa_cons (pe_fld (pv 0) rfl) pa_nil)))
      (pss_cons (ps_asg (pv 2) (pg_sub (pv 3) (pv 1) set_list))
      (pss_cons (ps_set (i := 4) sc_Game_put_stone.nd rfl (Or.inl rfl) (pcall G_smothered_beside (hr.mono (by decide)) (pa_cons (pv 3) (pa_cons (pe_fld (pv 0) rfl) (pa_cons (pv 1) (pa_cons (pcall G_other (hr.mono (by decide)) (pa_cons (pv 2) pa_nil)) pa_nil))))))
      (pss_cons (ps_for PassesOwn.never rfl (pi_list (pv 4)) (pg_name (i := 5) sc_Game_put_stone.nd rfl (Or.inl rfl))
        (pss_one (ps_asg (pk T.EMPTY) (pg_sub (pv 3) (pv 5) set_list))))
      (pss_cons (ps_if (pt_cmpR op_gt (pe_callB call_len_seq (by rfl) T.len PySem.boot_len (pa_cons (pcall G_smothered_chain (hr.mono (by decide)) (pa_cons (pv 3) (pa_cons (pe_fld (pv 0) rfl) (pa_cons (pv 1) pa_nil)))) pa_nil)) pe_int (nomark _))
        (pss_one (ps_ret (pk T.NO_LIBERTY)))
        pss_nil)
      (pss_cons (ps_if (pt_cmp (pc_din hu (pe_callTy call_tuple_of (by rfl) T.tuple boot_tuple (pa_cons (pv 3) pa_nil)) (pe_fld (pv 0) rfl)))
        (pss_one (ps_ret (pk T.BOARD_TWICE)))
        pss_nil)
      (pss_cons (ps_dput hu (pe_fld (pv 0) rfl) (pe_callTy call_tuple_of (by rfl) T.tuple boot_tuple (pa_cons (pv 3) pa_nil)) pe_bl rfl)
      (pss_cons (ps_fld (pv 0) (pv 3) rfl)
      (pss_cons (ps_daug hu (pe_fld (pv 0) rfl) (pcall G_other (hr.mono (by decide)) (pa_cons (pv 2) pa_nil)) (pe_callB call_len_seq (by rfl) T.len PySem.boot_len (pa_cons (pv 4) pa_nil)) in_add (fun _ _ _ => rfl))
      (pss_cons (ps_expr (pe_bm PySem.F.plainAttrs_list PySem.F.slot_list_append PySem.F.type_list_append mt_append (pe_fld (pv 0) rfl) (pa_cons (pe_tup (pa_cons (pv 1) (pa_cons (pv 4) pa_nil))) pa_nil)))
      (pss_one (ps_ret (pk T.DONE)))))))))))))), ?_⟩
    refine ⟨_, rfl, a, dx, _, rfl, hg.ob, gf_no (by decide +kernel), a, dx, bs, st, tu, bo, to, _, _, rfl, hg.ob, hg.tus, ?_⟩
    rw [hmo]
    refine ⟨_, rfl, a, C, dx, _, _, rfl, hg.ob, G.cl, G.stones, gf_stones, st, _, rfl, .inl (SqL.of hg.brd), fun l hl => ?_⟩
    refine ⟨_, rfl, _, rfl, _, rfl, l, _, _, p, rfl, rfl, upd_same, ixN_nat (by rw [List.length_map, hbo.len]; exact hp), ?_⟩
    rw [upd_upd]
    have eb1 : (g.board.map nV).set p (nV g.mover) = (g.board.set p g.mover).map nV := by rw [List.map_set]
    rw [eb1]
    have sA : Same H (L2.upd H l (.lst ((g.board.set p g.mover).map nV))) := same_new hl
    have hlA : LN (L2.upd H l (.lst ((g.board.set p g.mover).map nV))) l (g.board.set p g.mover) := upd_same
    generalize L2.upd H l (.lst ((g.board.set p g.mover).map nV)) = HA at sA hlA ⊢
    have gA := hg.same sA
    have lb1 : (g.board.set p g.mover).length = g.size * g.size := by rw [List.length_set]; exact hbo.len
    refine ⟨_, rfl, _, rfl, a, C, dx, _, _, rfl, gA.ob, G.cl, G.beside, gf_beside, _, rfl, _, rfl, g.mover, rfl, hm12, l, bs, g.size, p, Sd46.other g.mover, g.board.set p g.mover, rfl, ⟨hlA, lb1⟩, gA.bes, h19, hp, fun HB ta T' sB hta hSmo hTa => ?_⟩
    have hTe : Tells g.size (g.board.set p g.mover) (Sd46.other g.mover) T' := hSmo.tells hbo hp h0 (by unfold Sd46.other; omega) (by unfold Sd46.other; omega)
    have hlta : l ≠ ta := ne_of_none hlA hta
    have hTl : ∀ t ∈ T', t < g.size * g.size := fun t h => ((hTe.mem t).mp h).1
    have hTn := short hTe.nd hTl
    refine ⟨_, rfl, ta, rfl, ⟨_, SqL.of hTa⟩, ?_⟩
    refine for_nats (l := T') (fun i σ H' => ∃ v : Option V, σ = [some (.ref a), some (nV p), some (nV g.mover), some (.ref l), some (.ref ta), v] ∧ Same H H' ∧ LN H' ta T' ∧ LN H' l (strip (T'.take i) 0 (g.board.set p g.mover)))
      ⟨_, rfl, sA.trans sB, hTa, sB _ _ hlA⟩ (fun i σ H' ⟨_, _, _, z, _⟩ => z) ?_ ?_
    · rintro i q σ H1 hq ⟨v, rfl, sm, hta1, hl1⟩
      refine ⟨_, rfl, _, rfl, l, _, _, q, rfl, rfl, hl1, ixN_nat (by rw [List.length_map, strip_length, lb1]; exact hTl q (List.mem_of_getElem? hq)), ?_⟩
      refine ⟨_, rfl, sm.upd hl, upd_lst hta1 hlta.symm, ?_⟩
      show L2.upd _ _ _ _ = _
      rw [upd_same, take_snoc' hq, strip_snoc, List.map_set]; rfl
    rintro σ HC ⟨v, rfl, sC, htaC, hlC⟩
    rw [List.take_length, strip_cleared lb1 hTe] at hlC
    generalize hx : Sd46.cleared g.size (g.board.set p g.mover) (Sd46.other g.mover) = x at hlC
    have lx : x.length = g.size * g.size := by rw [← hx]; exact cleared_length
    have gC := hg.same sC
    refine ⟨_, rfl, _, rfl, a, C, dx, _, _, rfl, gC.ob, G.cl, G.beside, gf_beside, _, rfl, l, bs, g.size, p, x, rfl, ⟨hlC, lx⟩, gC.bes, h19, hp, fun HD la L sD hla hL hLN => ?_⟩
    refine ⟨la, _, rfl, .inl (SqL.of hLN), _, _, rfl, rfl, _, rfl, ?_⟩
    have sCD := sC.trans sD
    rw [List.length_map]
    rcases hL with ⟨hf, rfl⟩ | ⟨hf, _, hLm⟩
    case inr =>
      have : 0 < L.length := List.length_pos_of_mem ((hLm p).mpr (chain_self hp))
      rw [decide_eq_true (by omega)]
      refine iteT ?_
      rw [put_none (by rw [hx]; exact hf)] at k
      exact k _ sCD
    case inl =>
      refine iteF ?_
      have hput : Sd46.put g.size g.board g.mover p = some x := by rw [← hx]; exact put_of h0 (by rw [hx]; exact hf)
      rw [hput] at k
      have gD := hg.same sCD
      have hlD := sD _ _ hlC
      have htaD := sD _ _ htaC
      refine ⟨_, rfl, l, _, rfl, .inl ⟨SqL.of hlD, fun t1 ht1 => ?_⟩⟩
      have s1 : Same H (L2.upd HD t1 (.tup (x.map nV))) := sCD.upd (sCD.free ht1)
      have g1 := hg.same s1
      refine ⟨_, rfl, a, C, dx, _, _, rfl, g1.ob, G.cl, G.boards, gf_boards, bo, _, rfl, DGet.t (k := kB x) g1.bds (by rw [kB_V]; exact upd_same), _, rfl, ?_⟩
      rw [dB_val]
      have hmem : x ∈ (plays g.turns g.boards).reverse ↔ g.boards.contains x = true := by rw [List.mem_reverse, plays_mem hok.hist, List.contains_iff_mem]
      by_cases hin : x ∈ (plays g.turns g.boards).reverse
      · rw [if_pos hin]
        refine iteT ?_
        simp only [] at k
        rw [if_pos (hmem.mp hin)] at k
        exact k _ s1
      · rw [if_neg hin]
        refine iteF ?_
        simp only [] at k
        rw [if_neg (fun z => hin (hmem.mpr z))] at k
        have hl1 := upd_other (o := .tup (x.map nV)) hlD ht1
        have hta1 := upd_other (o := .tup (x.map nV)) htaD ht1
        generalize L2.upd HD t1 (.tup (x.map nV)) = HE at s1 g1 hl1 hta1 ⊢
        refine ⟨_, rfl, a, C, dx, _, _, rfl, g1.ob, G.cl, G.boards, gf_boards, _, rfl, l, _, rfl, .inl ⟨SqL.of hl1, fun t2 ht2 => ?_⟩⟩
        have s2 : Same H (L2.upd HE t2 (.tup (x.map nV))) := s1.upd (s1.free ht2)
        have g2 := hg.same s2
        have hl2 := upd_other (o := .tup (x.map nV)) hl1 ht2
        have hta2 := upd_other (o := .tup (x.map nV)) hta1 ht2
        have hb2 : (dB (plays g.turns g.boards).reverse).length ≤ 3000 := by
          unfold dB
          rw [List.length_map, List.length_reverse]
          have h1 := plays_len g.turns g.boards
          have h2 := hok.hist.lens.1
          omega
        refine ⟨bo, _, rfl, DPut.t (k := kB x) (v := .bl true) g2.bds (by rw [kB_V]; exact upd_same) (small (by omega)), ?_⟩
        rw [dB_put hin]
        generalize L2.upd HE t2 (.tup (x.map nV)) = HG at s2 g2 hl2 hta2 ⊢
        have nba : bo ≠ a := ne_of g2.bds g2.ob (by intro z; cases z)
        have nta : to ≠ a := ne_of g2.off g2.ob (by intro z; cases z)
        have nbt : bo ≠ to := ne_of g2.bds g2.off (by intro z; cases z)
        have ntua : tu ≠ a := ne_of g2.tus g2.ob (by intro z; cases z)
        have ntub : tu ≠ bo := ne_of g2.tus g2.bds (by intro z; cases z)
        have ntut : tu ≠ to := ne_of g2.tus g2.off (by intro z; cases z)
        have nla : l ≠ a := ne_of hl2 g2.ob (by intro z; cases z)
        have nlb : l ≠ bo := ne_of hl2 g2.bds (by intro z; cases z)
        have nlt : l ≠ to := ne_of hl2 g2.off (by intro z; cases z)
        have nltu : l ≠ tu := (ne_of_none hg.tus hl).symm
        have ntaa : ta ≠ a := ne_of hta2 g2.ob (by intro z; cases z)
        have ntab : ta ≠ bo := ne_of hta2 g2.bds (by intro z; cases z)
        have ntat : ta ≠ to := ne_of hta2 g2.off (by intro z; cases z)
        have hta' : H ta = none := sA.free hta
        have ntatu : ta ≠ tu := (ne_of_none hg.tus hta').symm
        refine ⟨_, rfl, _, rfl, a, C, dx, _, rfl, upd_lst g2.ob nba.symm, G.cl, G.stones, (by show 6 < 1000; decide), ?_⟩
        rw [gf_put]
        have hoff : L2.upd (L2.upd HG bo (.dT (dB ((plays g.turns g.boards).reverse ++ [x])))) a (.ins C dx (gf g.size bs l tu bo to)) to = some (.dK (DT (offs Ts 1 : Nat) (offs Ts 2 : Nat))) := upd_lst (upd_lst g2.off nbt.symm) nta
        refine ⟨_, rfl, a, C, dx, _, _, rfl, upd_same, G.cl, G.off, gf_off, _, rfl, g.mover, rfl, hm12, to, ?_⟩
        have hTsl : Ts.length = g.turns.length := hg.tn.len.2
        have fin : ∀ HX : Hp, (HX a = some (.ins C dx (gf g.size bs l tu bo to))) → HX bo = some (.dT (dB ((plays g.turns g.boards).reverse ++ [x]))) → HX to = some (.dK (DT (offs (T' :: Ts) 1 : Nat) (offs (T' :: Ts) 2 : Nat))) → (∀ b o, HG b = some o → b ≠ a → b ≠ bo → b ≠ to → HX b = some o) →
            tSeq (tDrop (tBM K "list" rAppend (tFld K (tVar 0) "turns") (tCons (tTup (tCons (tVar 1) (tCons (tVar 4) tNil))) tNil))) (tRet (tC (V.int 0))) { nx := fun _ H' => Q .non H', rt := Q } [some (.ref a), some (nV p), some (nV g.mover), some (.ref l), some (.ref ta), v] HX := by
          intro HX hXa hXb hXt hX
          have htu := hX tu _ g2.tus ntua ntub ntut
          refine ⟨_, rfl, a, C, dx, _, _, rfl, hXa, G.cl, G.turns, gf_turns, .inl ⟨rfl, _, SqL.of htu⟩, _, rfl, _, rfl, (by show 2 ≤ sizeLine; decide), fun tp htp => ?_⟩
          refine ⟨tu, _, _, rfl, rfl, upd_other htu htp, ?_, ?_⟩
          · rw [List.length_map, List.length_reverse, hg.tn.len.1]; exact small (by omega)
          have ntp : ∀ {b : Addr} {o : HO}, HX b = some o → b ≠ tp := fun e => ne_of_none e htp
          have hXl := hX l _ hl2 nla nlb nlt
          have hXta := hX ta _ hta2 ntaa ntab ntat
          have ntpl : tp ≠ l := (ntp hXl).symm
          have ntptu : tp ≠ tu := (ntp htu).symm
          have keep : ∀ b o, H b = some o → isSeq o → b ≠ tu → L2.upd (L2.upd HX tp (.tup [nV p, .ref ta])) tu (.lst (as.reverse.map V.ref ++ [.ref tp])) b = some o := by
            intro b o e hs hb
            have e2 := s2 b o e
            have n1 : b ≠ a := ne_of e2 g2.ob (by intro z; subst z; exact hs)
            have n2 : b ≠ bo := ne_of e2 g2.bds (by intro z; subst z; exact hs)
            have n3 : b ≠ to := ne_of e2 g2.off (by intro z; subst z; exact hs)
            have e3 := hX b o e2 n1 n2 n3
            exact upd_lst (upd_lst e3 (ntp e3)) hb
          refine k _ (FP a l tu bo to) ⟨T' :: Ts, dx, bs, l, tu, bo, to, tp :: as, rfl, ?_⟩ ⟨fun b hb => ?_, fun b o e hn => ?_⟩
          · refine ⟨?_, ?_, ?_, ?_, ?_, ?_, ?_, ?_, nltu, hok.play ht hp hput (fun z => hin (by rw [List.mem_reverse, plays_mem hok.hist]; exact z)) hTe⟩
            · exact upd_lst (upd_lst hXa (ntp hXa)) ntua.symm
            · obtain ⟨rows, b1, b2, b3⟩ := hg.bes
              have hnr := hg.bst.2.2 rows b1
              exact ⟨rows, keep _ _ b1 True.intro hg.bst.2.1, b2, fun q r e => keep _ _ (b3 q r e) True.intro fun z => hnr.2 (z ▸ List.mem_of_getElem? e)⟩
            · obtain ⟨rows, b1, b2, b3⟩ := hg.bes
              have hnr := hg.bst.2.2 rows b1
              refine ⟨ne_of_none b1 hl, hg.bst.2.1, fun rows' e => ?_⟩
              have := keep _ _ b1 True.intro hg.bst.2.1
              rw [this] at e
              rw [← refs_inj (HO.lst.inj (Option.some.inj e))]
              refine ⟨fun z => ?_, hnr.2⟩
              obtain ⟨q, hq⟩ := List.mem_iff_getElem?.mp z
              exact absurd ((b3 q l hq).symm.trans hl) (by intro z; cases z)
            · exact upd_lst (upd_lst hXl ntpl.symm) nltu
            · show L2.upd _ _ _ _ = _
              rw [upd_same]; simp
            · refine .cons (k := ta) (upd_lst upd_same ntptu) (by simp [ntpl, ntptu]) (upd_lst (upd_lst hXta (ntp hXta)) ntatu) (by simp [hlta.symm, ntatu]) (hg.tn.keep (fun b o e hs hb => keep b o e hs (by simp at hb; exact hb.2)) (fun b o e hb => ?_))
              simp at hb ⊢
              exact ⟨ne_of_none e hl, hb.2⟩
            · refine upd_lst (upd_lst ?_ (ntp hXb)) ntub.symm
              rw [hXb]
              show _ = some (HO.dT (dB (x :: plays g.turns g.boards).reverse))
              rw [List.reverse_cons]
            · exact upd_lst (upd_lst hXt (ntp hXt)) ntut.symm
          · unfold FP at hb ⊢
            simp at hb ⊢
            rcases hb with rfl | rfl | rfl | rfl | rfl
            · simp
            · exact .inr hl
            · simp
            · simp
            · simp
          · unfold FP at hn
            simp at hn
            have e3 := hX b o (s2 b o e) hn.1 hn.2.2.2.1 hn.2.2.2.2
            exact upd_lst (upd_lst e3 (ntp e3)) hn.2.2.1
        have o1 : offs (T' :: Ts) 1 = offs Ts 1 + if Sd46.other g.mover = 1 then T'.length else 0 := by show offs Ts 1 + _ = _; rw [hTsl]; rfl
        have o2 : offs (T' :: Ts) 2 = offs Ts 2 + if Sd46.other g.mover = 2 then T'.length else 0 := by show offs Ts 2 + _ = _; rw [hTsl]; rfl
        have hta3 : LN (L2.upd (L2.upd HG bo (.dT (dB ((plays g.turns g.boards).reverse ++ [x])))) a (.ins C dx (gf g.size bs l tu bo to))) ta T' := upd_lst (upd_lst hta2 ntab) ntaa
        rcases hm12 with e | e
        · have eo : Sd46.other g.mover = 2 := by rw [e]; rfl
          rw [eo] at o1 o2
          rw [if_neg (by decide)] at o1
          rw [if_pos rfl] at o2
          refine ⟨V.int (offs Ts 2 : Nat), rfl, (by rw [eo]; exact DT_get2 hoff), _, rfl, ta, _, rfl, .inl (SqL.of hta3), _, _, rfl, rfl, _, (by rw [eo]; exact DT_put2 hoff), ?_⟩
          refine fin _ (upd_lst upd_same nta.symm) (upd_lst (upd_lst upd_same nba) nbt) ?_ fun b o eb n1 n2 n3 => upd_lst (upd_lst (upd_lst eb n2) n1) n3
          rw [upd_same, o1, o2, List.length_map]; rfl
        · have eo : Sd46.other g.mover = 1 := by rw [e]; rfl
          rw [eo] at o1 o2
          rw [if_pos rfl] at o1
          rw [if_neg (by decide)] at o2
          refine ⟨V.int (offs Ts 1 : Nat), rfl, (by rw [eo]; exact DT_get1 hoff), _, rfl, ta, _, rfl, .inl (SqL.of hta3), _, _, rfl, rfl, _, (by rw [eo]; exact DT_put1 hoff), ?_⟩
          refine fin _ (upd_lst upd_same nta.symm) (upd_lst (upd_lst upd_same nba) nbt) ?_ fun b o eb n1 n2 n3 => upd_lst (upd_lst (upd_lst eb n2) n1) n3
          rw [upd_same, o1, o2, List.length_map]; rfl
end
section
variable {P : Program} {w : World} {K : PySem.W.Frag} {mg : Str → Option Value} {base : Heap} {C : Addr}
abbrev s_Game_take_turn : Stmt := inClass (top 28) 8
theorem sc_Game_take_turn : FnScope ["self", "point", "refusal"] ["self", "point"] (defScope s_Game_take_turn) := ⟨rfl, rfl, rfl, by decide +kernel, rfl, by decide +kernel, by decide +kernel⟩
def spTake (C : Addr) : Sp := fun vs H Q _ => ∃ (a : Addr) (g : Sd46.Game) (F : List Addr) (t : Option Nat), vs = [.ref a, tV t] ∧ GameAt C H a g F ∧ (∀ p, t = some p → p < g.size * g.size) ∧ Turned C H Q a g F t
theorem Turned.later {C : Addr} {H H1 : Hp} {Q : VK} {a : Addr} {g : Sd46.Game} {F : List Addr} {t : Option Nat} (h : Turned C H Q a g F t) (s : Same H H1) : Turned C H1 Q a g F t := by
  unfold Turned at h ⊢
  cases e : g.turn t with
  | ok g' =>
    rw [e] at h
    exact fun H' F' h1 h2 => h H' F' h1 ((Same.frame s).trans h2)
  | error w =>
    rw [e] at h
    exact fun H' s' => h H' (s.trans s')
theorem ok_take_turn (T : Txt K mg) (G : CG K C) (F : Md K C "take_turn" "Game.take_turn" s_Game_take_turn ["self", "point"]) (M_turn_refusal : Mx P w K mg base C 2 "turn_refusal" ["self"] (spRef C)) (M_put_stone : Mx P w K mg base C 3 "put_stone" ["self", "point"] (spPut C)) :
    Mx P w K mg base C 4 "take_turn" ["self", "point"] (spTake C) := by
  refine F.ok sc_Game_take_turn (fun vs H Q E h => ?_) (fun f cdv A outer s H vs Q E hr h => ?_)
  · obtain ⟨a, g, F, t, rfl, _⟩ := h; rfl
  · obtain ⟨a, g, F, t, rfl, hga, hpt, k⟩ := h
    have cG := G.cl
    obtain ⟨Ts, dx, bs, st, tu, bo, to, as, rfl, hg⟩ := id hga
    refine ⟨_, (pss_cons (ps_set (i := 2) sc_Game_take_turn.nd rfl (Or.inl rfl) (pmeth0 (pv 0) cG M_turn_refusal (hr.mono (by decide))))
      (pss_cons (ps_if (pt_cmpR op_ne (pv 2) (pk T.DONE) (nomark _))
        (pss_one (ps_ret (pv 2)))
        pss_nil)
      (pss_cons (ps_if (pt_cmpR op_eq (pv 1) (pk T.PASSED) (nomark _))
        (pss_cons (ps_expr (pe_bm PySem.F.plainAttrs_list PySem.F.slot_list_append PySem.F.type_list_append mt_append (pe_fld (pv 0) rfl) (pa_cons (pe_tup (pa_cons (pk T.PASSED) (pa_cons (pe_lst pa_nil) pa_nil))) pa_nil)))
      (pss_one (ps_ret (pk T.DONE))))
        pss_nil)
      (pss_cons (ps_if (pt_cmpR op_ne (pe_ix ix_list (pe_fld (pv 0) rfl) (pv 1) (fun _ _ => rfl)) (pk T.EMPTY) (nomark _))
        (pss_one (ps_ret (pk T.NOT_EMPTY)))
        pss_nil)
      (pss_one (ps_ret (pmeth (pv 0) cG M_put_stone (hr.mono (by decide)) (pa_cons (pv 1) pa_nil)))))))), ?_⟩
    refine ⟨_, rfl, a, dx, _, rfl, hg.ob, gf_no (by decide +kernel), a, g, _, rfl, hga, fun H1 s1 => ?_⟩
    have hg1 := hg.same s1
    have hok := hg.ok
    refine ⟨_, rfl, rfl, _, rfl, ?_⟩
    by_cases he : g.ended = true
    · have er : refusal g = -3 := by unfold refusal; rw [if_pos he]
      rw [er, decide_eq_false (by intro z; cases z)]
      refine iteT ⟨_, rfl, ?_⟩
      have et : g.turn t = .error .ended := by unfold Sd46.Game.turn; rw [if_pos he]
      unfold Turned at k
      rw [et] at k
      exact k _ s1
    by_cases hm : 1024 ≤ g.turns.length
    · have er : refusal g = -4 := by unfold refusal; rw [if_neg he, if_pos hm]
      rw [er, decide_eq_false (by intro z; cases z)]
      refine iteT ⟨_, rfl, ?_⟩
      have et : g.turn t = .error .many := by unfold Sd46.Game.turn; rw [if_neg he, if_pos (show Sd46.TURNS ≤ _ from hm)]
      unfold Turned at k
      rw [et] at k
      exact k _ s1
    have er : refusal g = 0 := by unfold refusal; rw [if_neg he, if_neg hm]
    rw [er]
    refine iteNS rfl ?_
    refine ⟨_, rfl, by cases t <;> rfl, _, rfl, ?_⟩
    rw [tV_pass]
    cases t with
    | none =>
      refine iteT ?_
      have et : g.turn none = .ok { g with boards := g.board :: g.boards, turns := none :: g.turns } := by unfold Sd46.Game.turn; rw [if_neg he, if_neg (show ¬ Sd46.TURNS ≤ _ from hm)]
      unfold Turned at k
      rw [et] at k
      refine ⟨_, rfl, a, C, dx, _, _, rfl, hg1.ob, G.cl, G.turns, gf_turns, .inl ⟨rfl, _, SqL.of hg1.tus⟩, Nat.zero_le _, fun kk hkk => ⟨(by show 2 ≤ sizeLine; decide), fun tp htp => ?_⟩⟩
      have s2 : Same H1 (L2.upd H1 kk (.lst [])) := same_new hkk
      have s3 : Same H1 (L2.upd (L2.upd H1 kk (.lst [])) tp (.tup [V.int (-1), .ref kk])) := s2.upd (s2.free htp)
      have hk3 : LN (L2.upd (L2.upd H1 kk (.lst [])) tp (.tup [V.int (-1), .ref kk])) kk [] := upd_other upd_same htp
      have ht3 : L2.upd (L2.upd H1 kk (.lst [])) tp (.tup [V.int (-1), .ref kk]) tp = some (.tup [V.int (-1), .ref kk]) := upd_same
      have htpn := s2.free htp
      generalize L2.upd (L2.upd H1 kk (.lst [])) tp (.tup [V.int (-1), .ref kk]) = H3 at s3 hk3 ht3 ⊢
      have hg3 := hg1.same s3
      refine ⟨tu, _, _, rfl, rfl, hg3.tus, ?_, ?_⟩
      · rw [List.length_map, List.length_reverse, hg.tn.len.1]; exact small (by omega)
      have nka : kk ≠ tu := (ne_of_none hg1.tus hkk).symm
      have nks : kk ≠ st := (ne_of_none hg1.brd hkk).symm
      have nta : tp ≠ tu := ne_of ht3 hg3.tus (by intro z; cases z)
      have nts : tp ≠ st := ne_of ht3 hg3.brd (by intro z; cases z)
      have ntua : tu ≠ a := ne_of hg3.tus hg3.ob (by intro z; cases z)
      have ntub : tu ≠ bo := ne_of hg3.tus hg3.bds (by intro z; cases z)
      have ntut : tu ≠ to := ne_of hg3.tus hg3.off (by intro z; cases z)
      refine k _ (FP a st tu bo to) ⟨[] :: Ts, dx, bs, st, tu, bo, to, tp :: as, rfl, ?_⟩ ⟨fun b hb => .inl hb, fun b o e hn => ?_⟩
      · have keep : ∀ b o, H3 b = some o → b ≠ tu → L2.upd H3 tu (.lst (as.reverse.map V.ref ++ [.ref tp])) b = some o := fun b o e hb => upd_lst e hb
        refine ⟨keep _ _ hg3.ob ntua.symm, ?_, ?_, keep _ _ hg3.brd hg.stu, ?_, ?_, keep _ _ hg3.bds ntub.symm, ?_, hg.stu, (hok.pass et).1⟩
        · obtain ⟨rows, b1, b2, b3⟩ := hg3.bes
          have hnr := hg3.bst.2.2 rows b1
          exact ⟨rows, keep _ _ b1 hg.bst.2.1, b2, fun q r e => keep _ _ (b3 q r e) fun z => hnr.2 (z ▸ List.mem_of_getElem? e)⟩
        · refine ⟨hg.bst.1, hg.bst.2.1, fun rows e => ?_⟩
          rw [upd_ne hg.bst.2.1] at e
          exact hg3.bst.2.2 rows e
        · rw [upd_same]; simp
        · exact .cons (k := kk) (keep _ _ ht3 nta) (by simp [nts, nta]) (keep _ _ hk3 nka) (by simp [nks, nka]) (hg3.tn.keep (fun b o e _ hb => keep b o e (by simp at hb; exact hb.2)) (fun _ _ _ z => z))
        · refine keep _ _ ?_ ntut.symm
          rw [hg3.off]
          show _ = some (HO.dK (DT ((offs Ts 1 + if _ then 0 else 0 : Nat) : Int) ((offs Ts 2 + if _ then 0 else 0 : Nat) : Int)))
          simp
      · unfold FP at hn
        simp at hn
        exact upd_lst (s3 _ _ (s1 _ _ e)) hn.2.2.1
    | some p =>
      refine iteF ?_
      have hp := hpt p rfl
      have hb1 : Brd H1 st g.size g.board := ⟨hg1.brd, hok.board.len⟩
      refine ⟨_, rfl, a, C, dx, _, _, rfl, hg1.ob, G.cl, G.stones, gf_stones, _, rfl, st, _, _, _, rfl, rfl, hb1.sq, hb1.ix hp, rfl, _, rfl, ?_⟩
      rw [show (V.int 0 : V) = nV 0 from rfl, nV_dec]
      by_cases h0 : Sd46.at_ g.board p = 0
      · refine iteNS h0 ?_
        exact ⟨_, rfl, a, dx, _, rfl, hg1.ob, gf_no (by decide +kernel), _, rfl, a, g, _, p, rfl, hga.same s1, by simpa using he, by omega, hp, h0, k.later s1⟩
      · rw [decide_eq_false h0]
        refine iteT ?_
        have et : g.turn (some p) = .error .taken := by
          unfold Sd46.Game.turn
          rw [if_neg he, if_neg (show ¬ Sd46.TURNS ≤ _ from hm)]
          simp only []
          rw [if_pos h0]
        unfold Turned at k
        rw [et] at k
        exact k _ s1
abbrev s_Game_play : Stmt := inClass (top 28) 6
theorem sc_Game_play : FnScope ["self", "x", "y"] ["self", "x", "y"] (defScope s_Game_play) := ⟨rfl, rfl, rfl, by decide +kernel, rfl, by decide +kernel, by decide +kernel⟩
def spPlay (C : Addr) : Sp := fun vs H Q _ => ∃ (a : Addr) (g : Sd46.Game) (F : List Addr) (x y : Int), vs = [.ref a, .int x, .int y] ∧ GameAt C H a g F ∧ (onB g.size x y = false → Q (.int (-2)) H) ∧ (onB g.size x y = true → Turned C H Q a g F (some (Sd46.pointOf g x y)))
theorem onB_point {n : Nat} {x y : Int} (h : onB n x y = true) : (y * (n : Int) + x = ((y.toNat * n + x.toNat : Nat) : Int)) ∧ y.toNat * n + x.toNat < n * n := by
  obtain ⟨h1, h2, h3, h4⟩ := of_decide_eq_true h
  obtain ⟨i, rfl⟩ : ∃ i : Nat, x = (i : Int) := ⟨x.toNat, by omega⟩
  obtain ⟨j, rfl⟩ : ∃ j : Nat, y = (j : Int) := ⟨y.toNat, by omega⟩
  simp only [Int.toNat_natCast]
  refine ⟨by rw [Int.natCast_add, Int.natCast_mul], ?_⟩
  have hj : j + 1 ≤ n := by omega
  have := Nat.mul_le_mul_right n hj
  rw [Nat.succ_mul] at this
  omega
theorem ok_play (T : Txt K mg) (G : CG K C) (F : Md K C "play" "Game.play" s_Game_play ["self", "x", "y"]) (M_is_on_board : Mx P w K mg base C 1 "is_on_board" ["self", "x", "y"] (spOnB C)) (M_point_at : Mx P w K mg base C 1 "point_at" ["self", "x", "y"] (spPtAt C)) (M_take_turn : Mx P w K mg base C 4 "take_turn" ["self", "point"] (spTake C)) :
    Mx P w K mg base C 5 "play" ["self", "x", "y"] (spPlay C) := by
  refine F.ok sc_Game_play (fun vs H Q E h => ?_) (fun f cdv A outer s H vs Q E hr h => ?_)
  · obtain ⟨a, g, F, x, y, rfl, _⟩ := h; rfl
  · obtain ⟨a, g, F, x, y, rfl, hga, k1, k2⟩ := h
    have cG := G.cl
    obtain ⟨Ts, dx, bs, st, tu, bo, to, as, rfl, hg⟩ := id hga
    refine ⟨_, (pss_cons (ps_if (pt_not (pt_val (pmeth (pv 0) cG M_is_on_board (hr.mono (by decide)) (pa_cons (pv 1) (pa_cons (pv 2) pa_nil)))))
        (pss_one (ps_ret (pk T.NOT_ON_BOARD)))
        pss_nil)
      (pss_one (ps_ret (pmeth (pv 0) cG M_take_turn (hr.mono (by decide)) (pa_cons (pmeth (pv 0) cG M_point_at (hr.mono (by decide)) (pa_cons (pv 1) (pa_cons (pv 2) pa_nil))) pa_nil))))), ?_⟩
    refine ⟨_, rfl, a, dx, _, rfl, hg.ob, gf_no (by decide +kernel), _, rfl, _, rfl, a, dx, bs, st, tu, bo, to, g.size, x, y, rfl, hg.ob, _, rfl, ?_⟩
    cases e : onB g.size x y with
    | false => exact iteT (k1 e)
    | true =>
      refine iteF ?_
      obtain ⟨e1, e2⟩ := onB_point e
      refine ⟨_, rfl, a, dx, _, rfl, hg.ob, gf_no (by decide +kernel), _, rfl, a, dx, _, rfl, hg.ob, gf_no (by decide +kernel), _, rfl, _, rfl, a, dx, bs, st, tu, bo, to, g.size, x, y, rfl, hg.ob, hg.ok.hi, ?_⟩
      rw [e1]
      exact ⟨a, g, _, some (Sd46.pointOf g x y), rfl, hga, fun p hp => by rw [← Option.some.inj hp]; exact e2, k2 e⟩
abbrev s_Game_pass_turn : Stmt := inClass (top 28) 7
theorem sc_Game_pass_turn : FnScope ["self"] ["self"] (defScope s_Game_pass_turn) := ⟨rfl, rfl, rfl, by decide +kernel, rfl, by decide +kernel, by decide +kernel⟩
def spPass (C : Addr) : Sp := fun vs H Q _ => ∃ (a : Addr) (g : Sd46.Game) (F : List Addr), vs = [.ref a] ∧ GameAt C H a g F ∧ Turned C H Q a g F none
theorem ok_pass_turn (T : Txt K mg) (G : CG K C) (F : Md K C "pass_turn" "Game.pass_turn" s_Game_pass_turn ["self"]) (M_take_turn : Mx P w K mg base C 4 "take_turn" ["self", "point"] (spTake C)) : Mx P w K mg base C 5 "pass_turn" ["self"] (spPass C) := by
  refine F.ok sc_Game_pass_turn (fun vs H Q E h => ?_) (fun f cdv A outer s H vs Q E hr h => ?_)
  · obtain ⟨a, g, F, rfl, _⟩ := h; rfl
  · obtain ⟨a, g, F, rfl, hga, k⟩ := h
    have cG := G.cl
    obtain ⟨Ts, dx, bs, st, tu, bo, to, as, rfl, hg⟩ := id hga
    refine ⟨_, (pss_one (ps_ret (pmeth (pv 0) cG M_take_turn (hr.mono (by decide)) (pa_cons (pk T.PASSED) pa_nil)))), ?_⟩
    exact ⟨_, rfl, a, dx, _, rfl, hg.ob, gf_no (by decide +kernel), a, g, _, none, rfl, hga, fun p hp => (nomatch hp), k⟩
end
section
variable {P : Program} {w : World} {K : PySem.W.Frag} {mg : Str → Option Value} {base : Heap} {C : Addr}
abbrev s_Game_lift_stone : Stmt := inClass (top 28) 11
theorem sc_Game_lift_stone : FnScope ["self", "point", "taken", "colour", "lost"] ["self", "point", "taken"] (defScope s_Game_lift_stone) := ⟨rfl, rfl, rfl, by decide +kernel, rfl, by decide +kernel, by decide +kernel⟩
def spLift (C : Addr) : Sp := fun vs H Q _ => ∃ (a dx bs st tu bo to tk : Addr) (n p c : Nat) (xs : List V) (x : Sd46.Board) (L : List Sd46.Board) (o1 o2 : Int) (T : List Nat), vs = [.ref a, nV p, .ref tk] ∧ H a = some (.ins C dx (gf n bs st tu bo to)) ∧ H tu = some (.lst xs) ∧
  c = Sd46.other (moverAt xs.length) ∧ LN H st x ∧ x.length = n * n ∧ p < n * n ∧ H bo = some (.dT (dB (L ++ [x]))) ∧ H to = some (.dK (DT o1 o2)) ∧ LN H tk T ∧ (∀ t ∈ T, t < n * n) ∧ tk ≠ st ∧
  ∀ H' : Hp, LN H' st (strip T c (x.set p 0)) → H' bo = some (.dT (dB L)) → H' to = some (.dK (DT (if c = 1 then o1 - (T.length : Int) else o1) (if c = 2 then o2 - (T.length : Int) else o2))) → (∀ b o, H b = some o → b ≠ st → b ≠ bo → b ≠ to → H' b = some o) → Q .non H'
theorem ok_lift_stone (T : Txt K mg) (G : CG K C) (F : Md K C "lift_stone" "Game.lift_stone" s_Game_lift_stone ["self", "point", "taken"]) (M_whose_turn : Mx P w K mg base C 1 "whose_turn" ["self"] (spWho C)) (G_other : Fx P w K mg base 1 "other" ["colour"] spOther) :
    Mx P w K mg base C 2 "lift_stone" ["self", "point", "taken"] (spLift C) := by
  refine F.ok sc_Game_lift_stone (fun vs H Q E h => ?_) (fun f cdv A outer s H vs Q E hr h => ?_)
  · obtain ⟨a, dx, bs, st, tu, bo, to, tk, n, p, c, xs, x, L, o1, o2, T', rfl, _⟩ := h; rfl
  · obtain ⟨a, dx, bs, st, tu, bo, to, tk, n, p, c, xs, x, L, o1, o2, T', rfl, ho, htu, hc, hst, hxl, hp, hbo, hto, htk, hT, ntk, k⟩ := h
    have cG := G.cl
    have hu := hu_of hr
    refine ⟨_, (pss_cons (ps_expr (pe_dpopT hu (pe_fld (pv 0) rfl) (pe_callTy call_tuple_of (by rfl) T.tuple boot_tuple (pa_cons (pe_fld (pv 0) rfl) pa_nil))))
      (pss_cons (ps_set (i := 3) sc_Game_lift_stone.nd rfl (Or.inl rfl) (pcall G_other (hr.mono (by decide)) (pa_cons (pmeth0 (pv 0) cG M_whose_turn (hr.mono (by decide))) pa_nil)))
      (pss_cons (ps_asg (pk T.EMPTY) (pg_sub (pe_fld (pv 0) rfl) (pv 1) set_list))
      (pss_cons (ps_for PassesOwn.never rfl (pi_list (pv 2)) (pg_name (i := 4) sc_Game_lift_stone.nd rfl (Or.inl rfl))
        (pss_one (ps_asg (pv 3) (pg_sub (pe_fld (pv 0) rfl) (pv 4) set_list))))
      (pss_one (ps_daug hu (pe_fld (pv 0) rfl) (pv 3) (pe_callB call_len_seq (by rfl) T.len PySem.boot_len (pa_cons (pv 2) pa_nil)) in_sub (fun _ _ _ => rfl))))))), ?_⟩
    have nsa : st ≠ a := ne_of hst ho (by intro z; cases z)
    have nsb : st ≠ bo := ne_of hst hbo (by intro z; cases z)
    have nso : st ≠ to := ne_of hst hto (by intro z; cases z)
    have nba : bo ≠ a := ne_of hbo ho (by intro z; cases z)
    have nbo : bo ≠ to := ne_of hbo hto (by intro z; cases z)
    have noa : to ≠ a := ne_of hto ho (by intro z; cases z)
    have ntua : tu ≠ bo := ne_of htu hbo (by intro z; cases z)
    have ntkb : tk ≠ bo := ne_of htk hbo (by intro z; cases z)
    have ntko : tk ≠ to := ne_of htk hto (by intro z; cases z)
    refine ⟨_, rfl, a, C, dx, _, _, rfl, ho, G.cl, G.boards, gf_boards, bo, rfl, .inr ⟨_, .inl hbo⟩, _, rfl, a, C, dx, _, _, rfl, ho, G.cl, G.stones, gf_stones, st, _, rfl, .inl ⟨SqL.of hst, fun t1 ht1 => ?_⟩⟩
    have s1 : Same H (L2.upd H t1 (.tup (x.map nV))) := same_new ht1
    have ej : (dB (L ++ [x]))[L.length]? = some (kB x, V.bl true) := by
      unfold dB
      rw [List.getElem?_map, List.getElem?_append_right (Nat.le_refl _)]; simp
    refine ⟨_, kB x, V.bl true, t1, L.length, s1 _ _ hbo, rfl, by rw [kB_V]; exact upd_same, ej, ?_⟩
    have eer : (dB (L ++ [x])).eraseIdx L.length = dB L := by
      unfold dB
      rw [List.map_append, List.eraseIdx_append_of_length_le (by simp)]
      simp
    rw [eer]
    have e1 : ∀ b o, H b = some o → b ≠ bo → L2.upd (L2.upd H t1 (.tup (x.map nV))) bo (.dT (dB L)) b = some o := fun b o e hb => upd_lst (s1 _ _ e) hb
    have e2 : L2.upd (L2.upd H t1 (.tup (x.map nV))) bo (.dT (dB L)) bo = some (.dT (dB L)) := upd_same
    generalize L2.upd (L2.upd H t1 (.tup (x.map nV))) bo (.dT (dB L)) = H1 at e1 e2 ⊢
    refine ⟨_, rfl, a, dx, _, rfl, e1 _ _ ho nba.symm, gf_no (by decide +kernel), a, dx, bs, st, tu, bo, to, n, xs, rfl, e1 _ _ ho nba.symm, e1 _ _ htu ntua, _, rfl, moverAt_or _, ?_⟩
    rw [← hc]
    refine ⟨_, rfl, a, C, dx, _, _, rfl, e1 _ _ ho nba.symm, G.cl, G.stones, gf_stones, _, rfl, st, _, _, p, rfl, rfl, e1 _ _ hst nsb, ixN_nat (by rw [List.length_map, hxl]; exact hp), ?_⟩
    have es : (x.map nV).set p (V.int 0) = (x.set p 0).map nV := by rw [List.map_set]; rfl
    rw [es]
    have lxs : (x.set p 0).length = n * n := by rw [List.length_set]; exact hxl
    refine ⟨_, rfl, tk, rfl, ⟨_, SqL.of (upd_lst (e1 _ _ htk ntkb) ntk)⟩, ?_⟩
    refine for_nats (l := T') (fun i σ H' => ∃ v : Option V, σ = [some (.ref a), some (nV p), some (.ref tk), some (nV c), v] ∧ LN H' st (strip (T'.take i) c (x.set p 0)) ∧ H' bo = some (.dT (dB L)) ∧ ∀ b o, H b = some o → b ≠ st → b ≠ bo → H' b = some o)
      ⟨_, rfl, upd_same, upd_lst e2 nsb.symm, fun b o e n1 n2 => upd_lst (e1 b o e n2) n1⟩ (fun i σ H' ⟨_, _, _, _, z⟩ => z _ _ htk ntk ntkb) ?_ ?_
    · rintro i q σ H2 hq ⟨v, rfl, hs2, hb2, e3⟩
      refine ⟨_, rfl, _, rfl, a, C, dx, _, _, rfl, e3 _ _ ho nsa.symm nba.symm, G.cl, G.stones, gf_stones, _, rfl, st, _, _, q, rfl, rfl, hs2, ixN_nat (by rw [List.length_map, strip_length, lxs]; exact hT q (List.mem_of_getElem? hq)), ?_⟩
      refine ⟨_, rfl, ?_, upd_lst hb2 nsb.symm, fun b o e n1 n2 => upd_lst (e3 b o e n1 n2) n1⟩
      show L2.upd _ _ _ _ = _
      rw [upd_same, take_snoc' hq, strip_snoc, List.map_set]
    rintro σ H2 ⟨v, rfl, hs2, hb2, e3⟩
    rw [List.take_length] at hs2
    have hto2 := e3 _ _ hto nso.symm nbo.symm
    have htk2 := e3 _ _ htk ntk ntkb
    refine ⟨_, rfl, a, C, dx, _, _, rfl, e3 _ _ ho nsa.symm nba.symm, G.cl, G.off, gf_off, _, rfl, to, ?_⟩
    have hc12 : c = 1 ∨ c = 2 := by
      rcases moverAt_or xs.length with z | z
      · right; rw [hc, z]; rfl
      · left; rw [hc, z]; rfl
    have fin : ∀ {d : List (Key × V)}, d = DT (if c = 1 then o1 - (T'.length : Int) else o1) (if c = 2 then o2 - (T'.length : Int) else o2) → Q .non (L2.upd H2 to (.dK d)) := fun e => by
      subst e
      exact k _ (upd_lst hs2 nso) (upd_lst hb2 nbo) upd_same fun b o e n1 n2 n3 => upd_lst (e3 b o e n1 n2) n3
    rcases hc12 with rfl | rfl
    · refine ⟨_, rfl, DT_get1 hto2, _, rfl, tk, _, rfl, .inl (SqL.of htk2), _, _, rfl, rfl, _, DT_put1 hto2, fin ?_⟩
      rw [List.length_map]; rfl
    · refine ⟨_, rfl, DT_get2 hto2, _, rfl, tk, _, rfl, .inl (SqL.of htk2), _, _, rfl, rfl, _, DT_put2 hto2, fin ?_⟩
      rw [List.length_map]; rfl
abbrev s_Game_undo : Stmt := inClass (top 28) 10
theorem sc_Game_undo : FnScope ["self", "turn"] ["self"] (defScope s_Game_undo) := ⟨rfl, rfl, rfl, by decide +kernel, rfl, by decide +kernel, by decide +kernel⟩
def spUndo (C : Addr) : Sp := fun vs H Q _ => ∃ (a : Addr) (g : Sd46.Game) (F : List Addr), vs = [.ref a] ∧ GameAt C H a g F ∧ (g.turns = [] → Q (.int (-3)) H) ∧ (g.turns ≠ [] → ∀ (H' : Hp) (F' : List Addr), GameAt C H' a g.back F' → Frame H H' F F' → Q (.int 0) H')
theorem ok_undo (T : Txt K mg) (G : CG K C) (F : Md K C "undo" "Game.undo" s_Game_undo ["self"]) (M_lift_stone : Mx P w K mg base C 2 "lift_stone" ["self", "point", "taken"] (spLift C)) : Mx P w K mg base C 3 "undo" ["self"] (spUndo C) := by
  refine F.ok sc_Game_undo (fun vs H Q E h => ?_) (fun f cdv A outer s H vs Q E hr h => ?_)
  · obtain ⟨a, g, F, rfl, _⟩ := h; rfl
  · obtain ⟨a, g, F, rfl, hga, k1, k2⟩ := h
    have cG := G.cl
    obtain ⟨Ts, dx, bs, st, tu, bo, to, as, rfl, hg⟩ := id hga
    refine ⟨_, (pss_cons (ps_if (pt_cmpR op_eq (pe_callB call_len_seq (by rfl) T.len PySem.boot_len (pa_cons (pe_fld (pv 0) rfl) pa_nil)) pe_int (nomark _))
        (pss_one (ps_ret (pk T.NO_TURN_YET)))
        pss_nil)
      (pss_cons (ps_set (i := 1) sc_Game_undo.nd rfl (Or.inl rfl) (pe_bm0 PySem.F.plainAttrs_list PySem.F.slot_list_pop PySem.F.type_list_pop mt_pop (pe_fld (pv 0) rfl)))
      (pss_cons (ps_mid (ps_if (pt_cmpR op_ne (pe_ix ix_tup (pv 1) pe_int (fun _ _ => rfl)) (pk T.PASSED) (nomark _))
        (pss_one (ps_expr (pmeth (pv 0) cG M_lift_stone (hr.mono (by decide)) (pa_cons (pe_ix ix_tup (pv 1) pe_int (fun _ _ => rfl)) (pa_cons (pe_ix ix_tup (pv 1) pe_int (fun _ _ => rfl)) pa_nil)))))
        pss_nil))
      (pss_one (ps_ret (pk T.DONE)))))), ?_⟩
    refine ⟨_, rfl, a, C, dx, _, _, rfl, hg.ob, G.cl, G.turns, gf_turns, tu, _, rfl, .inl (SqL.of hg.tus), rfl, _, rfl, ?_⟩
    rw [List.length_map, List.length_reverse, hg.tn.len.1, show (V.int 0 : V) = nV 0 from rfl, nV_dec]
    refine ite2 (fun e => k1 (List.length_eq_zero_iff.mp (of_decide_eq_true e))) (fun e => ?_)
    have e := of_decide_eq_false (Bool.not_eq_true _ ▸ e)
    have hne : g.turns ≠ [] := fun z => e (by rw [z]; rfl)
    have k := k2 hne
    have htn := hg.tn
    obtain ⟨t, ts, ets⟩ : ∃ t ts, g.turns = t :: ts := by
      cases h : g.turns with
      | nil => exact absurd h hne
      | cons t ts => exact ⟨t, ts, rfl⟩
    rw [ets] at htn
    have hgp := hg
    have ehist := hg.ok.hist
    have hoff := hg.off
    have hokk := hg.ok
    cases htn with
    | @cons tp tk _ T' as' _ Ts' h1 h2 h3 h4 htn' =>
      have htus : H tu = some (.lst (as'.reverse.map V.ref ++ [.ref tp])) := by rw [hg.tus]; simp
      refine ⟨_, rfl, a, C, dx, _, _, rfl, hg.ob, G.cl, G.turns, gf_turns, .inl ⟨rfl, _, SqL.of htus⟩, tu, _, .ref tp, rfl, rfl, htus, by simp, ?_⟩
      rw [List.dropLast_concat]
      have ntp : tp ≠ tu := by simp at h2; exact h2.2
      have ntps : tp ≠ st := by simp at h2; exact h2.1
      have ntk : tk ≠ tu := by simp at h4; exact h4.2
      have ntks : tk ≠ st := by simp at h4; exact h4.1
      have ntua : tu ≠ a := ne_of hg.tus hg.ob (by intro z; cases z)
      have ntub : tu ≠ bo := ne_of hg.tus hg.bds (by intro z; cases z)
      have ntut : tu ≠ to := ne_of hg.tus hg.off (by intro z; cases z)
      have nsa : st ≠ a := ne_of hg.brd hg.ob (by intro z; cases z)
      have nsb : st ≠ bo := ne_of hg.brd hg.bds (by intro z; cases z)
      have nso : st ≠ to := ne_of hg.brd hg.off (by intro z; cases z)
      have nba : bo ≠ a := ne_of hg.bds hg.ob (by intro z; cases z)
      have nbo : bo ≠ to := ne_of hg.bds hg.off (by intro z; cases z)
      have noa : to ≠ a := ne_of hg.off hg.ob (by intro z; cases z)
      have e1 : ∀ b o, H b = some o → b ≠ tu → L2.upd H tu (.lst (as'.reverse.map V.ref)) b = some o := fun b o e hb => upd_lst e hb
      have e2 : L2.upd H tu (.lst (as'.reverse.map V.ref)) tu = some (.lst (as'.reverse.map V.ref)) := upd_same
      generalize L2.upd H tu (.lst (as'.reverse.map V.ref)) = H1 at e1 e2 ⊢
      have hback : GameOk g.back Ts' := hokk.back ets
      have fin : ∀ H' : Hp, (∀ b o, H b = some o → b ≠ tu → b ≠ st → b ≠ bo → b ≠ to → H' b = some o) → H' tu = some (.lst (as'.reverse.map V.ref)) → LN H' st g.back.board → H' bo = some (.dT (dB (plays g.back.turns g.back.boards).reverse)) → H' to = some (.dK (DT (offs Ts' 1 : Nat) (offs Ts' 2 : Nat))) → Q (.int 0) H' := by
        intro H' h5 h6 h7 h8 h9
        have keep : ∀ b o, H b = some o → isSeq o → b ≠ tu → b ≠ st → H' b = some o := fun b o e hs n1 n2 =>
          h5 b o e n1 n2 (ne_of e hg.bds (by intro z; subst z; exact hs)) (ne_of e hg.off (by intro z; subst z; exact hs))
        refine k H' (FP a st tu bo to) ⟨Ts', dx, bs, st, tu, bo, to, as', rfl, ?_⟩ ⟨fun b hb => .inl hb, fun b o e hn => ?_⟩
        · refine ⟨h5 _ _ hg.ob ntua.symm nsa.symm nba.symm noa.symm, ?_, ?_, h7, h6, ?_, h8, h9, hg.stu, hback⟩
          · obtain ⟨rows, b1, b2, b3⟩ := hg.bes
            have hnr := hg.bst.2.2 rows b1
            exact ⟨rows, keep _ _ b1 True.intro hg.bst.2.1 hg.bst.1, b2, fun q r e => keep _ _ (b3 q r e) True.intro (fun z => hnr.2 (z ▸ List.mem_of_getElem? e)) fun z => hnr.1 (z ▸ List.mem_of_getElem? e)⟩
          · refine ⟨hg.bst.1, hg.bst.2.1, fun rows e => ?_⟩
            obtain ⟨rows', b1, _⟩ := hg.bes
            rw [keep _ _ b1 True.intro hg.bst.2.1 hg.bst.1] at e
            rw [← refs_inj (HO.lst.inj (Option.some.inj e))]
            exact hg.bst.2.2 rows' b1
          · show Tn H' [st, tu] as' (g.turns.drop 1) Ts'
            rw [ets]
            exact htn'.keep (fun b o e hs hb => by simp at hb; exact keep b o e hs hb.2 hb.1) (fun _ _ _ z => z)
        · unfold FP at hn
          simp at hn
          exact h5 b o e hn.2.2.1 hn.2.1 hn.2.2.2.1 hn.2.2.2.2
      refine ⟨fun _ H' => Q (.int 0) H', ?_, fun _ H' z => z⟩
      have hbs := ehist
      rw [ets] at hbs
      have hTsl : Ts'.length = ts.length := htn'.len.2
      cases t with
      | none =>
        refine ⟨_, rfl, tp, _, _, _, rfl, rfl, SqT.of (e1 _ _ h1 ntp), atI_nat (j := 0) rfl, rfl, _, rfl, ?_⟩
        refine iteF ?_
        generalize hB : g.boards = B at hbs
        cases hbs with
        | @pass b bs' _ _ hh =>
          refine fin _ (fun b o e n1 _ _ _ => e1 b o e n1) e2 ?_ ?_ ?_
          · show LN _ _ ((g.boards.drop 1).headD [])
            rw [hB]
            have := e1 _ _ hg.brd hg.stu
            have eb : g.board = b := by show g.boards.headD [] = b; rw [hB]; rfl
            rw [eb] at this
            exact this
          · have := e1 _ _ hg.bds ntub.symm
            rw [this]
            show some (HO.dT (dB (plays g.turns g.boards).reverse)) = some (HO.dT (dB (plays (g.turns.drop 1) (g.boards.drop 1)).reverse))
            rw [ets, hB]; rfl
          · have := e1 _ _ hg.off ntut.symm
            rw [this]
            show some (HO.dK (DT ((offs Ts' 1 + if _ then 0 else 0 : Nat) : Int) ((offs Ts' 2 + if _ then 0 else 0 : Nat) : Int))) = _
            simp
      | some p =>
        refine ⟨_, rfl, tp, _, _, _, rfl, rfl, SqT.of (e1 _ _ h1 ntp), atI_nat (j := 0) rfl, rfl, _, rfl, ?_⟩
        rw [show decide (tV (some p) = V.int (-1)) = false from tV_pass]
        refine iteT ?_
        generalize hB : g.boards = B at hbs
        cases hbs with
        | @play x b bs' _ _ _ _ hh hp hput hnot hTe =>
          have eb : g.board = x := by show g.boards.headD [] = x; rw [hB]; rfl
          have hpl : (plays g.turns g.boards).reverse = (plays ts (b :: bs')).reverse ++ [x] := by rw [ets, hB]; exact List.reverse_cons
          have hst1 := e1 _ _ hg.brd hg.stu
          have hbo1 := e1 _ _ hg.bds ntub.symm
          rw [eb] at hst1
          rw [hpl] at hbo1
          have hbok := hokk.board
          rw [eb] at hbok
          have hb0 : BoardOk g.size b := hh.ok b (by simp)
          have hlen1 : (as'.reverse.map V.ref).length = ts.length := by rw [List.length_map, List.length_reverse, htn'.len.1]
          obtain ⟨hat0, hxe, _⟩ := put_some hput
          refine ⟨_, rfl, a, dx, _, rfl, e1 _ _ hg.ob ntua.symm, gf_no (by decide +kernel), _, rfl, tp, _, _, _, rfl, rfl, SqT.of (e1 _ _ h1 ntp), atI_nat (j := 0) rfl, _, rfl, tp, _, _, _, rfl, rfl, SqT.of (e1 _ _ h1 ntp), atI_nat (j := 1) rfl,
            a, dx, bs, st, tu, bo, to, tk, g.size, p, _, _, x, (plays ts (b :: bs')).reverse, _, _, T', rfl, e1 _ _ hg.ob ntua.symm, e2, rfl, hst1, hbok.len, hp, hbo1, e1 _ _ hg.off ntut.symm, e1 _ _ h3 ntk, fun t ht => ((hTe.mem t).mp ht).1, ntks, fun H' h5 h6 h7 h8 => ?_⟩
          rw [hlen1] at h5 h7
          refine fin H' (fun b o e n1 n2 n3 n4 => h8 b o (e1 b o e n1) n2 n3 n4) (h8 _ _ e2 hg.stu.symm ntub ntut) ?_ ?_ ?_
          · show LN _ _ ((g.boards.drop 1).headD [])
            rw [hB]
            rw [hxe, strip_back hb0.len hp hat0 (moverAt_or _) hTe] at h5
            exact h5
          · rw [h6]
            show some (HO.dT (dB (plays ts (b :: bs')).reverse)) = some (HO.dT (dB (plays (g.turns.drop 1) (g.boards.drop 1)).reverse))
            rw [ets, hB]; rfl
          · rw [h7]
            have o1 : offs (T' :: Ts') 1 = offs Ts' 1 + if Sd46.other (moverAt ts.length) = 1 then T'.length else 0 := by show offs Ts' 1 + _ = _; rw [hTsl]
            have o2 : offs (T' :: Ts') 2 = offs Ts' 2 + if Sd46.other (moverAt ts.length) = 2 then T'.length else 0 := by show offs Ts' 2 + _ = _; rw [hTsl]
            have f1 : (if Sd46.other (moverAt ts.length) = 1 then ((offs (T' :: Ts') 1 : Nat) : Int) - (T'.length : Int) else ((offs (T' :: Ts') 1 : Nat) : Int)) = ((offs Ts' 1 : Nat) : Int) := by
              rw [o1]; split <;> omega
            have f2 : (if Sd46.other (moverAt ts.length) = 2 then ((offs (T' :: Ts') 2 : Nat) : Int) - (T'.length : Int) else ((offs (T' :: Ts') 2 : Nat) : Int)) = ((offs Ts' 2 : Nat) : Int) := by
              rw [o2]; split <;> omega
            rw [f1, f2]
end
section
variable {P : Program} {w : World} {K : PySem.W.Frag} {mg : Str → Option Value} {base : Heap} {C : Addr}
abbrev s_Game___init__ : Stmt := inClass (top 28) 0
theorem sc_Game___init__ : FnScope ["self", "size", "point"] ["self", "size"] (defScope s_Game___init__) := ⟨rfl, rfl, rfl, by decide +kernel, rfl, by decide +kernel, by decide +kernel⟩
def spGame (C : Addr) : Sp := fun vs H Q _ => ∃ (a dx : Addr) (n : Nat), vs = [.ref a, nV n] ∧ H a = some (.ins C dx []) ∧ 2 ≤ n ∧ n ≤ 19 ∧ ∀ (H' : Hp) (F' : List Addr), GameAt C H' a (Sd46.fresh n) F' → (∀ b ∈ F', b = a ∨ H b = none) → (∀ b o, H b = some o → b ≠ a → H' b = some o) → Q .non H'
theorem ok_Game (T : Txt K mg) (G : CG K C) (F : Nd K mg C "Game" "Game.__init__" s_Game___init__ ["self", "size"]) (G_points_beside : Fx P w K mg base 1 "points_beside" ["size", "point"] spBeside) : Nx P w K mg base C 2 "Game" ["self", "size"] (spGame C) := by
  refine F.ok sc_Game___init__ (fun vs H Q E h => ?_) (fun f cdv A outer s H vs Q E hr h => ?_)
  · obtain ⟨a, dx, n, rfl, _⟩ := h; rfl
  · obtain ⟨a, dx, n, rfl, ho, hn2, hn19, k⟩ := h
    have hu := hu_of hr
    have hnn : n * n ≤ 361 := by have := Nat.mul_le_mul hn19 hn19; omega
    have emul : (n : Int) * (n : Int) = ((n * n : Nat) : Int) := by rw [Int.natCast_mul]
    refine ⟨_, (pss_cons (ps_fld (pv 0) (pv 1) rfl)
      (pss_cons (ps_fld (pv 0) (pe_lc rfl sc_Game___init__.nd (pi_range1 rfl T.range (pa_cons (pe_op op_mul (pv 1) (pv 1)) pa_nil)) (own := [("point", 2)]) (blkOk_by (N := ["self", "size", "point"]) (sc := defScope s_Game___init__) (by decide +kernel)) (fun _ _ _ _ _ => (pg_name (i := 2) sc_Game___init__.nd rfl (Or.inl rfl))) (fun _ _ _ _ _ => pts_nil) (fun _ _ _ _ _ => (pcall G_points_beside (hr.mono (by decide)) (pa_cons (pv 1) (pa_cons (pv 2) pa_nil))))) rfl)
      (pss_cons (ps_fld (pv 0) (pe_lc rfl sc_Game___init__.nd (pi_range1 rfl T.range (pa_cons (pe_op op_mul (pv 1) (pv 1)) pa_nil)) (own := [("point", 2)]) (blkOk_by (N := ["self", "size", "point"]) (sc := defScope s_Game___init__) (by decide +kernel)) (fun _ _ _ _ _ => (pg_name (i := 2) sc_Game___init__.nd rfl (Or.inl rfl))) (fun _ _ _ _ _ => pts_nil) (fun _ _ _ _ _ => (pk T.EMPTY))) rfl)
      (pss_cons (ps_fld (pv 0) (pe_lst pa_nil) rfl)
      (pss_cons (ps_fld (pv 0) (pe_dispT hu (pe_callTy call_tuple_of (by rfl) T.tuple boot_tuple (pa_cons (pe_fld (pv 0) rfl) pa_nil)) pe_bl) rfl)
      (pss_one (ps_fld (pv 0) (pe_disp (pps_cons (pk T.BLACK) pe_int (pps_cons (pk T.WHITE) pe_int pps_nil)) rfl rfl (by simp) (by decide)) rfl))))))), ?_⟩
    refine ⟨_, rfl, _, rfl, a, C, dx, _, rfl, ho, G.cl, G.size, (by show 0 < 1000; decide), ?_⟩
    have a1 : L2.upd H a (.ins C dx (putF "size" (nV n) [])) a = some (.ins C dx (putF "size" (nV n) [])) := upd_same
    have r1 : ∀ b o, H b = some o → b ≠ a → L2.upd H a (.ins C dx (putF "size" (nV n) [])) b = some o := fun b o e hb => upd_lst e hb
    have n1 : ∀ b, L2.upd H a (.ins C dx (putF "size" (nV n) [])) b = none → H b = none := fun b e => by
      by_cases hb : b = a
      · rw [hb, upd_same] at e; cases e
      · rw [upd_ne hb] at e; exact e
    generalize L2.upd H a (.ins C dx (putF "size" (nV n) [])) = H1 at a1 r1 n1 ⊢
    refine ⟨_, rfl, _, rfl, _, _, rfl, rfl, .inl ⟨by omega, by omega⟩, _, rfl, by omega, by omega, fun bs hbs => ?_⟩
    refine lc_upto (n := n * n) emul (fun i H' => Same H1 H' ∧ Bld H' bs ((List.range i).map (besideM n)) ∧ ∀ rows : List Addr, H' bs = some (.lst (rows.map V.ref)) → ∀ r ∈ rows, H1 r = none) ⟨same_new hbs, Bld.nil, fun rows e => by
        rw [upd_same] at e
        have := List.map_eq_nil_iff.mp (HO.lst.inj (Option.some.inj e)).symm
        rw [this]; simp⟩ ?_ ?_
    · rintro i H' hi ⟨sm, hb, hnew⟩
      refine ⟨rfl, _, rfl, _, rfl, n, i, rfl, hn2, hn19, hi, fun H6 r l s6 hr' hl hLN => ?_⟩
      subst hl
      obtain ⟨rows, y1, y2, y3, y4⟩ := id hb
      have hrb : r ≠ bs := (ne_of_none y1 hr').symm
      refine ⟨_, s6 _ _ y1, by rw [List.length_map, y2]; simp; exact small (by omega), (sm.trans s6).upd hbs, ?_, fun rows' e => ?_⟩
      · rw [List.range_succ, List.map_append]
        exact (hb.same s6).snoc (s6 _ _ y1) hLN hrb
      · rw [upd_same, show rows.map V.ref ++ [V.ref r] = (rows ++ [r]).map V.ref by simp] at e
        rw [← refs_inj (HO.lst.inj (Option.some.inj e))]
        intro r' hr2
        rcases List.mem_append.mp hr2 with hr2 | hr2
        · exact hnew rows y1 r' hr2
        · rw [List.mem_singleton.mp hr2]; exact sm.free hr'
    rintro H2 ⟨s2, hb2, hnew⟩
    obtain ⟨rows, y1, y2, y3, y4⟩ := hb2
    refine ⟨_, rfl, a, C, dx, _, rfl, s2 _ _ a1, G.cl, G.beside, (by show 1 < 1000; decide), ?_⟩
    have nba : bs ≠ a := (ne_of_none a1 hbs).symm
    have a3 : L2.upd H2 a (.ins C dx (putF "beside" (.ref bs) (putF "size" (nV n) []))) a = some (.ins C dx (putF "beside" (.ref bs) (putF "size" (nV n) []))) := upd_same
    have r3 : ∀ b o, H2 b = some o → b ≠ a → L2.upd H2 a (.ins C dx (putF "beside" (.ref bs) (putF "size" (nV n) []))) b = some o := fun b o e hb => upd_lst e hb
    have n3 : ∀ b, L2.upd H2 a (.ins C dx (putF "beside" (.ref bs) (putF "size" (nV n) []))) b = none → H2 b = none := fun b e => by
      by_cases hb : b = a
      · rw [hb, upd_same] at e; cases e
      · rw [upd_ne hb] at e; exact e
    generalize L2.upd H2 a (.ins C dx (putF "beside" (.ref bs) (putF "size" (nV n) []))) = H3 at a3 r3 n3 ⊢
    refine ⟨_, rfl, _, rfl, _, _, rfl, rfl, .inl ⟨by omega, by omega⟩, _, rfl, by omega, by omega, fun st hst => ?_⟩
    refine lc_upto (n := n * n) emul (fun i H' => H' = L2.upd H3 st (.lst ((List.replicate i 0).map nV))) rfl ?_ ?_
    · rintro i _ hi rfl
      refine ⟨rfl, _, upd_same, by rw [List.length_map, List.length_replicate]; exact small (by omega), ?_⟩
      rw [upd_upd, List.replicate_succ', List.map_append]; rfl
    rintro _ rfl
    have nsta : st ≠ a := (ne_of_none a3 hst).symm
    refine ⟨_, rfl, a, C, dx, _, rfl, upd_lst a3 nsta.symm, G.cl, G.stones, (by show 2 < 1000; decide), ?_⟩
    refine ⟨Nat.zero_le _, fun tu htu => ?_⟩
    have a4 : L2.upd (L2.upd H3 st (.lst ((List.replicate (n * n) 0).map nV))) a (.ins C dx (putF "stones" (.ref st) (putF "beside" (.ref bs) (putF "size" (nV n) [])))) a = some (.ins C dx (putF "stones" (.ref st) (putF "beside" (.ref bs) (putF "size" (nV n) [])))) := upd_same
    have b4 : LN (L2.upd (L2.upd H3 st (.lst ((List.replicate (n * n) 0).map nV))) a (.ins C dx (putF "stones" (.ref st) (putF "beside" (.ref bs) (putF "size" (nV n) []))))) st (List.replicate (n * n) 0) := upd_lst upd_same nsta
    have r4 : ∀ b o, H3 b = some o → b ≠ a → L2.upd (L2.upd H3 st (.lst ((List.replicate (n * n) 0).map nV))) a (.ins C dx (putF "stones" (.ref st) (putF "beside" (.ref bs) (putF "size" (nV n) [])))) b = some o := fun b o e hb => upd_lst (upd_other e hst) hb
    have n4 : ∀ b, L2.upd (L2.upd H3 st (.lst ((List.replicate (n * n) 0).map nV))) a (.ins C dx (putF "stones" (.ref st) (putF "beside" (.ref bs) (putF "size" (nV n) [])))) b = none → H3 b = none := fun b e => by
      by_cases hb : b = a
      · rw [hb, upd_same] at e; cases e
      · rw [upd_ne hb] at e
        by_cases hb2 : b = st
        · rw [hb2, upd_same] at e; cases e
        · rw [upd_ne hb2] at e; exact e
    generalize L2.upd (L2.upd H3 st (.lst ((List.replicate (n * n) 0).map nV))) a (.ins C dx (putF "stones" (.ref st) (putF "beside" (.ref bs) (putF "size" (nV n) [])))) = H4 at a4 b4 r4 n4 htu ⊢
    have ntua : tu ≠ a := (ne_of_none a4 htu).symm
    have ntus : tu ≠ st := (ne_of_none b4 htu).symm
    refine ⟨_, rfl, a, C, dx, _, rfl, upd_lst a4 ntua.symm, G.cl, G.turns, (by show 3 < 1000; decide), ?_⟩
    intro bo hbo
    have a5 : L2.upd (L2.upd H4 tu (.lst [])) a (.ins C dx (putF "turns" (.ref tu) (putF "stones" (.ref st) (putF "beside" (.ref bs) (putF "size" (nV n) []))))) a = some (.ins C dx (putF "turns" (.ref tu) (putF "stones" (.ref st) (putF "beside" (.ref bs) (putF "size" (nV n) []))))) := upd_same
    have b5 : L2.upd (L2.upd H4 tu (.lst [])) a (.ins C dx (putF "turns" (.ref tu) (putF "stones" (.ref st) (putF "beside" (.ref bs) (putF "size" (nV n) []))))) tu = some (.lst []) := upd_lst upd_same ntua
    have r5 : ∀ b o, H4 b = some o → b ≠ a → L2.upd (L2.upd H4 tu (.lst [])) a (.ins C dx (putF "turns" (.ref tu) (putF "stones" (.ref st) (putF "beside" (.ref bs) (putF "size" (nV n) []))))) b = some o := fun b o e hb => upd_lst (upd_other e htu) hb
    have n5 : ∀ b, L2.upd (L2.upd H4 tu (.lst [])) a (.ins C dx (putF "turns" (.ref tu) (putF "stones" (.ref st) (putF "beside" (.ref bs) (putF "size" (nV n) []))))) b = none → H4 b = none := fun b e => by
      by_cases hb : b = a
      · rw [hb, upd_same] at e; cases e
      · rw [upd_ne hb] at e
        by_cases hb2 : b = tu
        · rw [hb2, upd_same] at e; cases e
        · rw [upd_ne hb2] at e; exact e
    generalize L2.upd (L2.upd H4 tu (.lst [])) a (.ins C dx (putF "turns" (.ref tu) (putF "stones" (.ref st) (putF "beside" (.ref bs) (putF "size" (nV n) []))))) = H5 at a5 b5 r5 n5 hbo ⊢
    have noa : bo ≠ a := (ne_of_none a5 hbo).symm
    have c5 : LN H5 st (List.replicate (n * n) 0) := r5 _ _ b4 nsta
    have nos : bo ≠ st := (ne_of_none c5 hbo).symm
    have not' : bo ≠ tu := (ne_of_none b5 hbo).symm
    have eput : (putF "turns" (V.ref tu) (putF "stones" (V.ref st) (putF "beside" (V.ref bs) (putF "size" (nV n) [])))).lookup ("stones" : Str) = some (.ref st) := by
      rw [lookup_putF, if_neg (by decide +kernel), lookup_putF, if_pos rfl]
    refine ⟨_, rfl, a, C, dx, _, _, rfl, upd_lst a5 noa.symm, G.cl, G.stones, eput, st, _, rfl, .inl ⟨SqL.of (upd_lst c5 nos.symm), fun t1 ht1 => ?_⟩⟩
    have not1 : bo ≠ t1 := fun e => by rw [← e, upd_same] at ht1; cases ht1
    have nat1 : a ≠ t1 := ne_of_none (upd_lst a5 noa.symm) ht1
    have h5t : H5 t1 = none := by rw [upd_ne not1.symm] at ht1; exact ht1
    refine ⟨t1, kB (Sd46.blank n), upd_lst upd_same not1, rfl, by rw [kB_V]; exact upd_same, ?_⟩
    refine ⟨_, rfl, a, C, dx, _, rfl, upd_lst (upd_lst (upd_lst a5 noa.symm) nat1) noa.symm, G.cl, G.boards, (by show 4 < 1000; decide), ?_⟩
    have a6 : L2.upd (L2.upd (L2.upd (L2.upd H5 bo (.dT [])) t1 (.tup ((List.replicate (n * n) 0).map nV))) bo (.dT [(kB (Sd46.blank n), .bl true)])) a (.ins C dx (putF "boards" (.ref bo) (putF "turns" (.ref tu) (putF "stones" (.ref st) (putF "beside" (.ref bs) (putF "size" (nV n) [])))))) a = some (.ins C dx (putF "boards" (.ref bo) (putF "turns" (.ref tu) (putF "stones" (.ref st) (putF "beside" (.ref bs) (putF "size" (nV n) [])))))) := upd_same
    have b6 : L2.upd (L2.upd (L2.upd (L2.upd H5 bo (.dT [])) t1 (.tup ((List.replicate (n * n) 0).map nV))) bo (.dT [(kB (Sd46.blank n), .bl true)])) a (.ins C dx (putF "boards" (.ref bo) (putF "turns" (.ref tu) (putF "stones" (.ref st) (putF "beside" (.ref bs) (putF "size" (nV n) [])))))) bo = some (.dT [(kB (Sd46.blank n), .bl true)]) := upd_lst upd_same noa
    have r6 : ∀ b o, H5 b = some o → b ≠ a → L2.upd (L2.upd (L2.upd (L2.upd H5 bo (.dT [])) t1 (.tup ((List.replicate (n * n) 0).map nV))) bo (.dT [(kB (Sd46.blank n), .bl true)])) a (.ins C dx (putF "boards" (.ref bo) (putF "turns" (.ref tu) (putF "stones" (.ref st) (putF "beside" (.ref bs) (putF "size" (nV n) [])))))) b = some o := fun b o e hb =>
      upd_lst (upd_lst (upd_lst (upd_other e hbo) (ne_of_none e h5t)) (ne_of_none e hbo)) hb
    have n6 : ∀ b, L2.upd (L2.upd (L2.upd (L2.upd H5 bo (.dT [])) t1 (.tup ((List.replicate (n * n) 0).map nV))) bo (.dT [(kB (Sd46.blank n), .bl true)])) a (.ins C dx (putF "boards" (.ref bo) (putF "turns" (.ref tu) (putF "stones" (.ref st) (putF "beside" (.ref bs) (putF "size" (nV n) [])))))) b = none → H5 b = none := fun b e => by
      by_cases hb : b = a
      · rw [hb, upd_same] at e; cases e
      · rw [upd_ne hb] at e
        by_cases hb2 : b = bo
        · rw [hb2, upd_same] at e; cases e
        · rw [upd_ne hb2] at e
          by_cases hb3 : b = t1
          · rw [hb3, upd_same] at e; cases e
          · rw [upd_ne hb3, upd_ne hb2] at e; exact e
    intro to hto
    generalize L2.upd (L2.upd (L2.upd (L2.upd H5 bo (.dT [])) t1 (.tup ((List.replicate (n * n) 0).map nV))) bo (.dT [(kB (Sd46.blank n), .bl true)])) a (.ins C dx (putF "boards" (.ref bo) (putF "turns" (.ref tu) (putF "stones" (.ref st) (putF "beside" (.ref bs) (putF "size" (nV n) [])))))) = H6 at a6 b6 r6 n6 hto ⊢
    refine ⟨upd_same, DT 0 0, rfl, (by show 2 ≤ 15; decide), ?_⟩
    rw [upd_upd]
    have nta : to ≠ a := (ne_of_none a6 hto).symm
    refine ⟨_, rfl, a, C, dx, _, rfl, upd_lst a6 nta.symm, G.cl, G.off, (by show 5 < 1000; decide), ?_⟩
    rw [gf_make]
    have fr : ∀ b o, H1 b = some o → b ≠ a → L2.upd (L2.upd H6 to (.dK (mergeK [] (DT 0 0)))) a (.ins C dx (gf n bs st tu bo to)) b = some o := fun b o e hb =>
      upd_lst (upd_other (r6 _ _ (r5 _ _ (r4 _ _ (r3 _ _ (s2 _ _ e) hb) hb) hb) hb) hto) hb
    have f2 : ∀ b o, H2 b = some o → b ≠ a → L2.upd (L2.upd H6 to (.dK (mergeK [] (DT 0 0)))) a (.ins C dx (gf n bs st tu bo to)) b = some o := fun b o e hb =>
      upd_lst (upd_other (r6 _ _ (r5 _ _ (r4 _ _ (r3 _ _ e hb) hb) hb) hb) hto) hb
    have rna : ∀ (q : Nat) (r : Addr), rows[q]? = some r → r ≠ a := fun q r e z => by
      have := hnew rows y1 r (List.mem_of_getElem? e)
      rw [z, a1] at this; cases this
    have hrows : ∀ (q : Nat) (r : Addr), rows[q]? = some r → LN H2 r (besideM n q) := fun q r e => by
      have hq : q < n * n := by have := (List.getElem?_eq_some_iff.mp e).1; rw [y2] at this; simpa using this
      exact y3 q r _ e (by rw [List.getElem?_map, List.getElem?_range hq]; rfl)
    have st3 : H2 st = none := n3 _ hst
    have tu3 : H2 tu = none := n3 _ (n4 _ htu)
    refine k _ (FP a st tu bo to) ⟨[], dx, bs, st, tu, bo, to, [], rfl, ?_⟩ (fun b hb => ?_) (fun b o e hb => fr b o (r1 b o e hb) hb)
    · refine ⟨upd_same, ⟨rows, f2 _ _ y1 nba, by rw [y2, List.length_map, List.length_range]; rfl, fun q r e => f2 _ _ (hrows q r e) (rna q r e)⟩, ⟨ne_of_none y1 st3, ne_of_none y1 tu3, fun rows' e => ?_⟩, ?_, ?_, .nil, ?_, ?_, ntus.symm, GameOk.fresh hn2 hn19⟩
      · rw [f2 _ _ y1 nba] at e
        rw [← refs_inj (HO.lst.inj (Option.some.inj e))]
        refine ⟨fun z => ?_, fun z => ?_⟩
        · obtain ⟨q, hq⟩ := List.mem_iff_getElem?.mp z
          exact absurd ((hrows q st hq).symm.trans st3) (by intro z; cases z)
        · obtain ⟨q, hq⟩ := List.mem_iff_getElem?.mp z
          exact absurd ((hrows q tu hq).symm.trans tu3) (by intro z; cases z)
      · exact upd_lst (upd_other (r6 _ _ c5 nsta) hto) nsta
      · exact upd_lst (upd_other (r6 _ _ b5 ntua) hto) ntua
      · exact upd_lst (upd_other b6 hto) noa
      · exact upd_lst upd_same nta
    · unfold FP at hb
      simp at hb
      rcases hb with rfl | rfl | rfl | rfl | rfl
      · exact .inl rfl
      · exact .inr (n1 _ (s2.free st3))
      · exact .inr (n1 _ (s2.free tu3))
      · exact .inr (n1 _ (s2.free (n3 _ (n4 _ (n5 _ hbo)))))
      · exact .inr (n1 _ (s2.free (n3 _ (n4 _ (n5 _ (n6 _ hto))))))
end
end SG
end
section
set_option Elab.async false
set_option maxRecDepth 100000
set_option maxHeartbeats 2000000
namespace SG
open PySem PySem.Spec L2 GM
open PyProof.Rows hiding St
open TL
section
variable {P : Program} {w : World} {K : PySem.W.Frag} {mg : Str → Option Value} {base : Heap}
abbrev s_codes : Stmt := top 45
theorem sc_codes : FnScope ["text", "sign"] ["text"] (defScope s_codes) := ⟨rfl, rfl, rfl, by decide +kernel, rfl, by decide +kernel, by decide +kernel⟩
def spCodes : Sp := fun vs H Q _ => ∃ x : Str, vs = [.str x] ∧ x.length ≤ 10000 ∧ RetL H Q fun l => l = tl x
theorem ok_codes (T : Txt K mg) (F : Fd K mg "codes" s_codes ["text"]) : Fx P w K mg base 1 "codes" ["text"] spCodes := by
  refine F.ok sc_codes (fun vs H Q E h => ?_) (fun f cdv A outer s H vs Q E hr h => ?_)
  · obtain ⟨x, rfl, _⟩ := h; rfl
  · obtain ⟨x, rfl, hl, k⟩ := h
    refine ⟨_, (pss_one (ps_ret (pe_lc rfl sc_codes.nd (pi_str (pv 0)) (own := [("sign", 1)]) (blkOk_by (N := ["text", "sign"]) (sc := defScope s_codes) (by decide +kernel)) (fun _ _ _ _ _ => (pg_name (i := 1) sc_codes.nd rfl (Or.inl rfl))) (fun _ _ _ _ _ => pts_nil) (fun _ _ _ _ _ => (pe_callB call_ord (by rfl) T.ord boot_ord (pa_cons (pv 1) pa_nil)))))), ?_⟩
    refine ⟨_, rfl, x, rfl, fun a ha => ?_⟩
    have hsz : x.cps.size = (tl x).length := by simp
    have hxl : x.length = (tl x).length := len_tl x
    refine lc_str (fun i H' => H' = L2.upd H a (.lst (((tl x).take i).map nV))) rfl ?_ ?_
    · rintro i c _ hc rfl
      have hc' : (tl x)[i]? = some c := by show x.cps.toList[i]? = _; rw [Array.getElem?_toList]; exact hc
      have hi := (List.getElem?_eq_some_iff.mp hc').1
      refine ⟨rfl, _, rfl, ⟨#[c]⟩, rfl, rfl, _, upd_same, by rw [List.length_map, List.length_take]; exact small (by omega), ?_⟩
      rw [upd_upd, take_snoc' hc', List.map_append]; rfl
    · rintro _ rfl
      rw [hsz, List.take_length]
      exact k _ a _ (same_new ha) ha rfl upd_same
abbrev s_head : Stmt := top 46
theorem sc_head : FnScope ["size"] ["size"] (defScope s_head) := ⟨rfl, rfl, rfl, by decide +kernel, rfl, by decide +kernel, by decide +kernel⟩
def spHead : Sp := fun vs H Q _ => ∃ n : Nat, vs = [nV n] ∧ n < 20 ∧ ∀ z : Str, tl z = Sd46.headOf n → Q (.str z) H
theorem log_small {n : Nat} (h : n < 20) : ((n : Int)).natAbs.log2 < 1920 := by
  have : ∀ m, m < 20 → Nat.log2 m < 1920 := by decide
  simpa using this n h
theorem cat_len (x y : Str) : (x ++ y).length = x.length + y.length := by rw [len_tl, tl_append, List.length_append, ← len_tl, ← len_tl]
theorem num_len {n : Nat} (h : n < 20) : (numL n).length ≤ 2 := by
  have : ∀ m, m < 20 → (numL m).length ≤ 2 := by decide
  exact this n h
theorem ok_head (T : Txt K mg) (F : Fd K mg "head" s_head ["size"]) : Fx P w K mg base 1 "head" ["size"] spHead := by
  refine F.ok sc_head (fun vs H Q E h => ?_) (fun f cdv A outer s H vs Q E hr h => ?_)
  · obtain ⟨n, rfl, _⟩ := h; rfl
  · obtain ⟨n, rfl, hn, k⟩ := h
    have hnl : (Str.ofString (toString (n : Int))).length ≤ 2 := by rw [len_tl, tl_num]; exact num_len hn
    refine ⟨_, (pss_one (ps_ret (pe_js (pj_cons pe_str (pj_cons (pe_fv (pv 0)) (pj_cons pe_str pj_nil)))))), ?_⟩
    refine ⟨_, rfl, (by decide +kernel), _, rfl, .inr ⟨_, rfl, log_small hn, _, rfl, ?_, _, rfl, ?_, ?_, ?_⟩⟩
    · rw [cat_len]; exact smallE (by have : (Str.empty ++ Str.ofString "(;FF[4]GM[1]SZ[").length = 15 := by decide +kernel
                                     omega)
    · rw [cat_len, cat_len]; exact smallE (by have : (Str.empty ++ Str.ofString "(;FF[4]GM[1]SZ[").length = 15 := by decide +kernel
                                              have : (Str.ofString "]").length = 1 := by decide +kernel
                                              omega)
    · rw [cat_len, cat_len]; exact smallE (by have : (Str.empty ++ Str.ofString "(;FF[4]GM[1]SZ[").length = 15 := by decide +kernel
                                              have : (Str.ofString "]").length = 1 := by decide +kernel
                                              omega)
    · refine k _ ?_
      rw [tl_append, tl_append, tl_append, tl_num]
      unfold Sd46.headOf
      rw [stem_eq]
      have e1 : tl Str.empty ++ tl (Str.ofString "(;FF[4]GM[1]SZ[") = stem := by decide +kernel
      rw [e1, List.append_assoc]
      rfl
abbrev s_turn_letter : Stmt := top 47
theorem sc_turn_letter : FnScope ["number"] ["number"] (defScope s_turn_letter) := ⟨rfl, rfl, rfl, by decide +kernel, rfl, by decide +kernel, by decide +kernel⟩
def letS (k : Nat) : Str := if k % 2 = 0 then "B" else "W"
def spLetter : Sp := fun vs H Q _ => ∃ k : Nat, vs = [nV k] ∧ Q (.str (letS k)) H
theorem letS_tl (k : Nat) : tl (letS k) = [colB (moverAt k)] := by
  unfold letS moverAt colB
  by_cases h : k % 2 = 0
  · rw [if_pos h, if_pos h]; decide +kernel
  · rw [if_neg h, if_neg h]; decide +kernel
theorem ok_turn_letter (T : Txt K mg) (F : Fd K mg "turn_letter" s_turn_letter ["number"]) : Fx P w K mg base 1 "turn_letter" ["number"] spLetter := by
  refine F.ok sc_turn_letter (fun vs H Q E h => ?_) (fun f cdv A outer s H vs Q E hr h => ?_)
  · obtain ⟨n, rfl, _⟩ := h; rfl
  · obtain ⟨n, rfl, k⟩ := h
    refine ⟨_, (pss_one (ps_ret (pe_ifExp (pt_cmpR op_eq (pe_op op_mod (pv 0) pe_int) pe_int (nomark _)) pe_str pe_str))), ?_⟩
    refine ⟨_, rfl, _, _, rfl, rfl, (by show (0 : Int) < 2; decide), rfl, _, rfl, ?_⟩
    unfold letS at k
    by_cases e : n % 2 = 0
    · rw [if_pos e] at k
      rw [decide_eq_true (congrArg V.int (show ((n : Int) % 2) = 0 by omega))]
      exact iteT k
    · rw [if_neg e] at k
      rw [decide_eq_false (by intro z; have := V.int.inj z; omega)]
      exact iteF k
abbrev s_turn_text : Stmt := top 48
theorem sc_turn_text : FnScope ["size", "number", "point", "letter", "x", "y"] ["size", "number", "point"] (defScope s_turn_text) := ⟨rfl, rfl, rfl, by decide +kernel, rfl, by decide +kernel, by decide +kernel⟩
def spText : Sp := fun vs H Q _ => ∃ (n k : Nat) (t : Option Nat), vs = [nV n, nV k, tV t] ∧ 2 ≤ n ∧ n ≤ 19 ∧ (∀ p, t = some p → p < n * n) ∧ ∀ z : Str, tl z = Sd46.turnText n (moverAt k) t → Q (.str z) H
theorem letters_at {i : Nat} (h : i < 19) : (tl (Str.ofString "abcdefghijklmnopqrs"))[i]? = some (97 + i) := by
  have : ∀ j, j < 19 → (tl (Str.ofString "abcdefghijklmnopqrs"))[j]? = some (97 + j) := by decide +kernel
  exact this i h
theorem one_len (c : Nat) : (⟨#[c]⟩ : Str).length = 1 := rfl
theorem letS_len (k : Nat) : (letS k).length = 1 := by rw [len_tl, letS_tl]; rfl
theorem ok_turn_text (T : Txt K mg) (F : Fd K mg "turn_text" s_turn_text ["size", "number", "point"]) (G_turn_letter : Fx P w K mg base 1 "turn_letter" ["number"] spLetter) : Fx P w K mg base 2 "turn_text" ["size", "number", "point"] spText := by
  refine F.ok sc_turn_text (fun vs H Q E h => ?_) (fun f cdv A outer s H vs Q E hr h => ?_)
  · obtain ⟨n, k, t, rfl, _⟩ := h; rfl
  · obtain ⟨n, k, t, rfl, h2, h19, hp, kk⟩ := h
    have l1 : (Str.empty ++ Str.ofString ";").length = 1 := by decide +kernel
    have l2 : (Str.ofString "[]").length = 2 := by decide +kernel
    have l3 : (Str.ofString "[").length = 1 := by decide +kernel
    have l4 : (Str.ofString "]").length = 1 := by decide +kernel
    have e1 : tl Str.empty ++ tl (Str.ofString ";") = [59] := by decide +kernel
    have e2 : tl (Str.ofString "[]") = [91, 93] := by decide +kernel
    have e3 : tl (Str.ofString "[") = [91] := by decide +kernel
    have e4 : tl (Str.ofString "]") = [93] := by decide +kernel
    have ls := letS_len k
    have ss : ∀ c : Nat, (⟨#[c]⟩ : Str).length = 1 := one_len
    refine ⟨_, (pss_cons (ps_set (i := 3) sc_turn_text.nd rfl (Or.inl rfl) (pcall G_turn_letter (hr.mono (by decide)) (pa_cons (pv 1) pa_nil)))
      (pss_cons (ps_if (pt_cmpR op_eq (pv 2) (pk T.PASSED) (nomark _))
        (pss_one (ps_ret (pe_js (pj_cons pe_str (pj_cons (pe_fv (pv 3)) (pj_cons pe_str pj_nil))))))
        pss_nil)
      (pss_cons (ps_set (i := 4) sc_turn_text.nd rfl (Or.inl rfl) (pe_ix ix_str (pk T.LETTERS) (pe_op op_mod (pv 2) (pv 0)) (fun _ _ => rfl)))
      (pss_cons (ps_set (i := 5) sc_turn_text.nd rfl (Or.inl rfl) (pe_ix ix_str (pk T.LETTERS) (pe_op op_fdiv (pv 2) (pv 0)) (fun _ _ => rfl)))
      (pss_one (ps_ret (pe_js (pj_cons pe_str (pj_cons (pe_fv (pv 3)) (pj_cons pe_str (pj_cons (pe_fv (pv 4)) (pj_cons (pe_fv (pv 5)) (pj_cons pe_str pj_nil))))))))))))), ?_⟩
    refine ⟨_, rfl, k, rfl, ?_⟩
    refine ⟨_, rfl, by cases t <;> rfl, _, rfl, ?_⟩
    rw [tV_pass]
    cases t with
    | none =>
      refine iteT ?_
      refine ⟨_, rfl, smallE (by omega), _, rfl, .inl ⟨_, rfl, smallE (by omega), _, rfl, ?_, _, rfl, ?_, ?_, ?_⟩⟩
      · rw [cat_len]; exact smallE (by omega)
      · rw [cat_len, cat_len]; exact smallE (by omega)
      · rw [cat_len, cat_len]; exact smallE (by omega)
      · refine kk _ ?_
        rw [tl_append, tl_append, tl_append, e1, e2, letS_tl]; rfl
    | some p =>
      refine iteF ?_
      have hpn := hp p rfl
      obtain ⟨q, r, hpe, hr1, hq1, hmo, hdi⟩ := cut hpn
      have hm : ((p : Int) % (n : Int)) = ((r : Nat) : Int) := by rw [← hmo]; rfl
      have hd : ((p : Int) / (n : Int)) = ((q : Nat) : Int) := by rw [← hdi]; rfl
      refine ⟨_, rfl, _, rfl, _, _, rfl, rfl, (by show (0 : Int) < (n : Int); omega), _, _, _, rfl, rfl, (by decide +kernel), (by rw [hm]; exact atI_nat (letters_at (by omega))), ?_⟩
      refine ⟨_, rfl, _, rfl, _, _, rfl, rfl, (by show (0 : Int) < (n : Int) ∧ (n : Int) < 1073741824; omega), _, _, _, rfl, rfl, (by decide +kernel), (by rw [hd]; exact atI_nat (letters_at (by omega))), ?_⟩
      refine ⟨_, rfl, smallE (by omega), _, rfl, .inl ⟨_, rfl, smallE (by omega), _, rfl, ?_, _, rfl, ?_, _, rfl, .inl ⟨_, rfl, smallE (by rw [ss]; omega), _, rfl, ?_, _, rfl, .inl ⟨_, rfl, smallE (by rw [ss]; omega), _, rfl, ?_, _, rfl, ?_, ?_, ?_⟩⟩⟩⟩
      · rw [cat_len]; exact smallE (by omega)
      · rw [cat_len, cat_len]; exact smallE (by omega)
      · rw [cat_len, cat_len, cat_len, ss]; exact smallE (by omega)
      · rw [cat_len, cat_len, cat_len, cat_len, ss, ss]; exact smallE (by omega)
      · rw [cat_len, cat_len, cat_len, cat_len, cat_len, ss, ss]; exact smallE (by omega)
      · rw [cat_len, cat_len, cat_len, cat_len, cat_len, ss, ss]; exact smallE (by omega)
      · refine kk _ ?_
        rw [tl_append, tl_append, tl_append, tl_append, tl_append, tl_append, e1, e3, e4, letS_tl]
        show [59] ++ [colB (moverAt k)] ++ [91] ++ [97 + r] ++ [97 + q] ++ [93] = 59 :: (colB (moverAt k) :: (91 :: ([97 + p % n, 97 + p / n] ++ [93])))
        rw [hmo, hdi]; rfl
end
theorem mover_succ (k : Nat) : moverAt (k + 1) = Sd46.other (moverAt k) := by
  unfold moverAt Sd46.other
  split <;> split <;> omega
theorem text_len (n c : Nat) (t : Option Nat) : (Sd46.turnText n c t).length ≤ 6 := by
  unfold Sd46.turnText
  cases t <;> simp
theorem head_len {n : Nat} (h : n < 20) : (Sd46.headOf n).length ≤ 18 := by
  rw [headOf_eq h]
  unfold digits stem
  split <;> simp
theorem eqv_nats : ∀ l m : List Nat, PyData.eqvAll (l.map fun (q : Nat) => PyData.int (q : Int)) (m.map fun (q : Nat) => PyData.int (q : Int)) = decide (l = m)
  | [], [] => by rfl
  | [], _ :: _ => by rfl
  | _ :: _, [] => by rfl
  | a :: l, b :: m => by
    show (((a : Int) == (b : Int)) && PyData.eqvAll _ _) = _
    rw [eqv_nats l m, Bool.eq_iff_iff]
    simp only [Bool.and_eq_true, beq_iff_eq, decide_eq_true_iff, List.cons.injEq]
    constructor
    · rintro ⟨h1, h2⟩; exact ⟨by omega, h2⟩
    · rintro ⟨h1, h2⟩; exact ⟨by omega, h2⟩
theorem dp_nats {K : PySem.W.Frag} {H : Hp} : ∀ l : List Nat, DpAll K H (l.map nV) (l.map fun (q : Nat) => PyData.int (q : Int))
  | [] => .nil
  | a :: l => .cons (.int _) (dp_nats l)
theorem canLay_nats : ∀ l : List Nat, PyData.canLayAll0 (l.map fun (q : Nat) => PyData.int (q : Int)) = true
  | [] => rfl
  | a :: l => by
    show (true && PyData.canLayAll0 _) = true
    rw [canLay_nats l]; rfl
theorem depth_nats : ∀ l : List Nat, PyData.depthAll (l.map fun (q : Nat) => PyData.int (q : Int)) ≤ 1
  | [] => by decide
  | a :: l => by
    have := depth_nats l
    show max _ (PyData.depthAll _) ≤ 1
    exact Nat.max_le.mpr ⟨by show 0 ≤ 1 <;> omega, this⟩
theorem shaped_nats (l : List Nat) : SeqAt.shaped (.list (l.map fun (q : Nat) => PyData.int (q : Int))) = true := by
  unfold SeqAt.shaped
  rw [Bool.and_eq_true, decide_eq_true_iff]
  refine ⟨canLay_nats l, ?_⟩
  have := depth_nats l
  show PyData.depthAll _ + 1 ≤ 64
  omega
theorem cut_nats (s : List Nat) (p k : Nat) : cutV (s.map nV) (some (p : Int)) (some ((p : Int) + (k : Int))) = ((s.drop p).take k).map nV := by
  unfold cutV
  rw [show ((p : Int) + (k : Int)) = ((p + k : Nat) : Int) by omega, HT.sIx_nat, HT.sIx_nat, List.length_map, ← List.map_drop, ← List.map_take]
  congr 1
  by_cases h : p ≤ s.length
  · rw [Nat.min_eq_left h]
    by_cases h2 : p + k ≤ s.length
    · rw [Nat.min_eq_left h2, Nat.add_sub_cancel_left]
    · rw [Nat.min_eq_right (by omega), List.take_of_length_le (by simp), List.take_of_length_le (by simp; omega)]
  · rw [Nat.min_eq_right (show s.length ≤ p by omega), List.drop_length, List.drop_eq_nil_of_le (by omega)]
    simp
theorem take_prefix (l s : List Nat) : decide (s.take l.length = l) = l.isPrefixOf s := by
  rw [Bool.eq_iff_iff, decide_eq_true_iff, List.isPrefixOf_iff_prefix, List.prefix_iff_eq_take]
  exact eq_comm
section
variable {P : Program} {w : World} {K : PySem.W.Frag} {mg : Str → Option Value} {base : Heap}
abbrev s_written : Stmt := top 49
theorem sc_written : FnScope ["size", "points", "record", "number", "point"] ["size", "points"] (defScope s_written) := ⟨rfl, rfl, rfl, by decide +kernel, rfl, by decide +kernel, by decide +kernel⟩
def spWritten : Sp := fun vs H Q _ => ∃ (pa : Addr) (n : Nat) (ts : List (Option Nat)), vs = [nV n, .ref pa] ∧ H pa = some (.lst (ts.map tV)) ∧ 2 ≤ n ∧ n ≤ 19 ∧ ts.length ≤ 1024 ∧ (∀ t ∈ ts, ∀ p, t = some p → p < n * n) ∧ RetL H Q fun l => l = Sd46.headOf n ++ Sd46.turnsText n 1 ts
theorem ok_written (T : Txt K mg) (F : Fd K mg "written" s_written ["size", "points"]) (G_codes : Fx P w K mg base 1 "codes" ["text"] spCodes) (G_head : Fx P w K mg base 1 "head" ["size"] spHead) (G_turn_text : Fx P w K mg base 2 "turn_text" ["size", "number", "point"] spText) :
    Fx P w K mg base 3 "written" ["size", "points"] spWritten := by
  refine F.ok sc_written (fun vs H Q E h => ?_) (fun f cdv A outer s H vs Q E hr h => ?_)
  · obtain ⟨pa, n, ts, rfl, _⟩ := h; rfl
  · obtain ⟨pa, n, ts, rfl, hpa, h2, h19, hts, hpt, k⟩ := h
    refine ⟨_, (pss_cons (ps_set (i := 2) sc_written.nd rfl (Or.inl rfl) (pcall G_codes (hr.mono (by decide)) (pa_cons (pcall G_head (hr.mono (by decide)) (pa_cons (pv 0) pa_nil)) pa_nil)))
      (pss_cons (ps_for PassesOwn.never rfl (pi_enum rfl T.enumerate (pa_cons (pv 1) pa_nil)) (pg_tup rfl (pgs_cons (pg_name (i := 3) sc_written.nd rfl (Or.inl rfl)) (pgs_cons (pg_name (i := 4) sc_written.nd rfl (Or.inl rfl)) pgs_nil)))
        (pss_one (ps_expr (pe_bm PySem.F.plainAttrs_list PySem.F.slot_list_extend PySem.F.type_list_extend mt_extend (pv 2) (pa_cons (pcall G_codes (hr.mono (by decide)) (pa_cons (pcall G_turn_text (hr.mono (by decide)) (pa_cons (pv 0) (pa_cons (pv 3) (pa_cons (pv 4) pa_nil)))) pa_nil)) pa_nil)))))
      (pss_cons (ps_expr (pe_bm PySem.F.plainAttrs_list PySem.F.slot_list_extend PySem.F.type_list_extend mt_extend (pv 2) (pa_cons (pcall G_codes (hr.mono (by decide)) (pa_cons pe_str pa_nil)) pa_nil)))
      (pss_one (ps_ret (pv 2)))))), ?_⟩
    refine ⟨_, rfl, n, rfl, by omega, fun z hz => ⟨z, rfl, by rw [len_tl, hz]; have := head_len (n := n) (by omega); omega, fun H1 ra l s1 hra hl hLN => ?_⟩⟩
    rw [hz] at hl
    subst hl
    have npr : pa ≠ ra := ne_of_none hpa hra
    refine ⟨_, rfl, pa, _, rfl, SqL.of (s1 _ _ hpa), ?_⟩
    refine for_enum (xs := ts.map tV) (fun i σ H' => ∃ (v v' : Option V) (r : List Nat), σ = [some (nV n), some (.ref pa), some (.ref ra), v, v'] ∧ Same H H' ∧ LN H' ra r ∧ r.length ≤ 18 + 6 * i ∧ r ++ Sd46.turnsText n (moverAt i) (ts.drop i) = Sd46.headOf n ++ Sd46.turnsText n 1 ts)
      ⟨_, _, _, rfl, s1, hLN, by have := head_len (n := n) (by omega); omega, rfl⟩ (fun i σ H' ⟨_, _, _, _, sm, _⟩ => sm _ _ hpa) ?_ ?_
    · rintro i x t σ H2 hx ht ⟨v, v', r, rfl, sm, hra2, hlr, heq⟩
      rw [List.getElem?_map] at hx
      obtain ⟨o, ho, rfl⟩ := Option.map_eq_some_iff.mp hx
      have hi := (List.getElem?_eq_some_iff.mp ho).1
      have s2 : Same H (L2.upd H2 t (.tup [nV i, tV o])) := sm.upd (sm.free ht)
      have hra3 := upd_other (o := .tup [nV i, tV o]) hra2 ht
      refine ⟨t, _, rfl, SqT.of upd_same, rfl, _, _, rfl, _, _, rfl, rfl, _, rfl, .inl ⟨rfl, _, SqL.of hra3⟩, _, rfl, _, rfl, _, rfl, n, i, o, rfl, h2, h19, hpt o (List.mem_of_getElem? ho), fun z hz => ⟨z, rfl, by rw [len_tl, hz]; have := text_len n (moverAt i) o; omega, fun H3 c l s3 hc hl hLN => ?_⟩⟩
      rw [hz] at hl
      subst hl
      have hra4 := s3 _ _ hra3
      refine ⟨ra, c, _, _, rfl, rfl, hra4, hLN, ?_, ?_⟩
      · rw [List.length_map, List.length_map]
        have := text_len n (moverAt i) o
        exact smallE (by omega)
      · refine ⟨_, _, r ++ Sd46.turnText n (moverAt i) o, rfl, (s2.trans s3).upd hra, ?_, ?_, ?_⟩
        · show L2.upd _ _ _ _ = _
          rw [upd_same, List.map_append]
        · rw [List.length_append]
          have := text_len n (moverAt i) o
          omega
        · rw [← heq, List.append_assoc, mover_succ]
          have : ts.drop i = o :: ts.drop (i + 1) := by
            obtain ⟨h1, h2⟩ := List.getElem?_eq_some_iff.mp ho
            rw [List.drop_eq_getElem_cons h1, h2]
          rw [this]; rfl
    · rintro σ H2 ⟨v, v', r, rfl, sm, hra2, hlr, heq⟩
      rw [List.length_map] at hlr heq
      rw [List.drop_length] at heq
      have e41 : tl (Str.ofString ")") = [41] := by decide +kernel
      refine ⟨_, rfl, .inl ⟨rfl, _, SqL.of hra2⟩, Str.ofString ")", rfl, by rw [len_tl, e41]; decide, fun H3 c l s3 hc hl hLN => ?_⟩
      rw [e41] at hl
      subst hl
      refine ⟨ra, c, _, _, rfl, rfl, s3 _ _ hra2, hLN, by rw [List.length_map]; exact smallE (by simp; omega), ?_⟩
      refine ⟨_, rfl, k _ ra (r ++ [41]) ((sm.trans s3).upd hra) hra heq ?_⟩
      show L2.upd _ _ _ _ = _
      rw [upd_same, List.map_append]
abbrev s_stands_at : Stmt := top 50
theorem sc_stands_at : FnScope ["record", "place", "text"] ["record", "place", "text"] (defScope s_stands_at) := ⟨rfl, rfl, rfl, by decide +kernel, rfl, by decide +kernel, by decide +kernel⟩
def spStands : Sp := fun vs H Q _ => ∃ (ra : Addr) (pl : Nat) (z : Str) (s : List Nat), vs = [.ref ra, nV pl, .str z] ∧ LN H ra s ∧ z.length ≤ 10000 ∧ ∀ H', Same H H' → Q (.bl ((tl z).isPrefixOf (s.drop pl))) H'
theorem ok_stands_at (T : Txt K mg) (F : Fd K mg "stands_at" s_stands_at ["record", "place", "text"]) (G_codes : Fx P w K mg base 1 "codes" ["text"] spCodes) : Fx P w K mg base 2 "stands_at" ["record", "place", "text"] spStands := by
  refine F.ok sc_stands_at (fun vs H Q E h => ?_) (fun f cdv A outer s H vs Q E hr h => ?_)
  · obtain ⟨ra, pl, z, s, rfl, _⟩ := h; rfl
  · obtain ⟨ra, pl, z, b, rfl, hra, hz, k⟩ := h
    refine ⟨_, (pss_one (ps_ret (pe_cmpR (op_eqD hr.units) (pe_slice sl_list (pv 0) (po_some (pv 1)) (po_some (pe_op op_add (pv 1) (pe_callB call_len_str (by rfl) T.len PySem.boot_len (pa_cons (pv 2) pa_nil))))) (pcall G_codes (hr.mono (by decide)) (pa_cons (pv 2) pa_nil)) (nomark _)))), ?_⟩
    refine ⟨_, rfl, _, rfl, _, rfl, _, rfl, _, rfl, z, rfl, smallE (by omega), _, _, rfl, rfl, _, rfl, ra, _, rfl, SqL.of hra, fun c hc => ?_⟩
    rw [cut_nats]
    have s1 : Same H (L2.upd H c (.lst (((b.drop pl).take z.length).map nV))) := same_new hc
    refine ⟨_, rfl, z, rfl, hz, fun H2 d l s2 hd hl hLN => ?_⟩
    subst hl
    refine ⟨_, _, .lst (SqL.of (s2 _ _ upd_same)) (dp_nats _), .lst (SqL.of hLN) (dp_nats _), shaped_nats _, shaped_nats _, ?_⟩
    show Q (.bl (PyData.eqvAll _ _)) H2
    rw [eqv_nats, len_tl, take_prefix]
    exact k _ (s1.trans s2)
abbrev s_size_read : Stmt := top 51
theorem sc_size_read : FnScope ["record", "size"] ["record"] (defScope s_size_read) := ⟨rfl, rfl, rfl, by decide +kernel, rfl, by decide +kernel, by decide +kernel⟩
def spSize : Sp := fun vs H Q _ => ∃ (ra : Addr) (s : List Nat), vs = [.ref ra] ∧ LN H ra s ∧ (∀ n, 2 ≤ n → n ≤ 19 → Sd46.headOf n <+: s → ∀ H', Same H H' → Q (nV n) H') ∧ ((∀ n, 2 ≤ n → n ≤ 19 → ¬ Sd46.headOf n <+: s) → ∀ H', Same H H' → Q .non H')
theorem ok_size_read (T : Txt K mg) (F : Fd K mg "size_read" s_size_read ["record"]) (G_stands_at : Fx P w K mg base 2 "stands_at" ["record", "place", "text"] spStands) (G_head : Fx P w K mg base 1 "head" ["size"] spHead) : Fx P w K mg base 3 "size_read" ["record"] spSize := by
  refine F.ok sc_size_read (fun vs H Q E h => ?_) (fun f cdv A outer s H vs Q E hr h => ?_)
  · obtain ⟨ra, s, rfl, _⟩ := h; rfl
  · obtain ⟨ra, b, rfl, hra, k1, k2⟩ := h
    refine ⟨_, (pss_cons (ps_for PassesOwn.never rfl (pi_range2 rfl T.range (pa_cons (pk T.SMALLEST) (pa_cons (pe_op op_add (pk T.LARGEST) pe_int) pa_nil))) (pg_name (i := 1) sc_size_read.nd rfl (Or.inl rfl))
        (pss_one (ps_if (pt_val (pcall G_stands_at (hr.mono (by decide)) (pa_cons (pv 0) (pa_cons pe_int (pa_cons (pcall G_head (hr.mono (by decide)) (pa_cons (pv 1) pa_nil)) pa_nil)))))
        (pss_one (ps_ret (pv 1)))
        pss_nil)))
      (pss_one (ps_ret pe_non))), ?_⟩
    refine ⟨_, _, rfl, rfl, 2, 20, rfl, ⟨by decide, by decide, by decide, by decide⟩, ?_⟩
    refine for_range (lo := 2) (n := 18) (fun i σ H' => ∃ v : Option V, σ = [some (.ref ra), v] ∧ Same H H' ∧ ∀ n, 2 ≤ n → n < 2 + i → ¬ Sd46.headOf n <+: b) ⟨_, rfl, Same.refl _, fun n h1 h2 => by omega⟩ ?_ ?_
    · rintro i σ H1 hi ⟨v, rfl, sm, hno⟩
      rw [show ((2 : Int) + (i : Int)) = ((2 + i : Nat) : Int) by omega]
      refine ⟨_, rfl, _, rfl, 2 + i, rfl, by omega, fun z hz => ⟨ra, 0, z, b, rfl, sm _ _ hra, by rw [len_tl, hz]; have := head_len (n := 2 + i) (by omega); omega, fun H2 s2 => ⟨_, rfl, ?_⟩⟩⟩
      rw [hz, List.drop_zero]
      refine ite2 (fun e => ?_) (fun e => ?_)
      · exact ⟨_, rfl, k1 (2 + i) (by omega) (by omega) (List.isPrefixOf_iff_prefix.mp e) _ (sm.trans s2)⟩
      · refine ⟨_, rfl, sm.trans s2, fun n h1 h2 h3 => ?_⟩
        by_cases hn : n = 2 + i
        · subst hn; exact e (List.isPrefixOf_iff_prefix.mpr h3)
        · exact hno n h1 (by omega) h3
    · rintro σ H1 ⟨v, rfl, sm, hno⟩
      exact k2 (fun n h1 h2 => hno n h1 (by omega)) _ sm
end
def Lets (n : Nat) (l : List Nat) (p : Nat) : Prop := ∃ x y r, l = x :: y :: r ∧ 97 ≤ x ∧ x < 97 + n ∧ 97 ≤ y ∧ y < 97 + n ∧ p = (y - 97) * n + (x - 97)
theorem Lets.lt {n p : Nat} {l : List Nat} (h : Lets n l p) : p < n * n ∧ p % n + 97 = l.headD 0 ∧ ∃ x y r, l = x :: y :: r ∧ x = 97 + p % n ∧ y = 97 + p / n := by
  obtain ⟨x, y, r, rfl, h1, h2, h3, h4, rfl⟩ := h
  have hj : y - 97 + 1 ≤ n := by omega
  have hm := Nat.mul_le_mul_right n hj
  rw [Nat.succ_mul] at hm
  have e1 : ((y - 97) * n + (x - 97)) % n = x - 97 := by rw [Nat.add_comm, Nat.add_mul_mod_self_right]; exact Nat.mod_eq_of_lt (by omega)
  have e2 : ((y - 97) * n + (x - 97)) / n = y - 97 := by rw [Nat.add_comm, Nat.add_mul_div_right _ _ (by omega), Nat.div_eq_of_lt (by omega)]; omega
  rw [e1, e2]
  exact ⟨by omega, by simp; omega, x, y, r, rfl, by omega, by omega⟩
section
variable {P : Program} {w : World} {K : PySem.W.Frag} {mg : Str → Option Value} {base : Heap}
abbrev s_point_read : Stmt := top 52
theorem sc_point_read : FnScope ["size", "letters", "on_board"] ["size", "letters"] (defScope s_point_read) := ⟨rfl, rfl, rfl, by decide +kernel, rfl, by decide +kernel, by decide +kernel⟩
def spPtR : Sp := fun vs H Q _ => ∃ (la : Addr) (n : Nat) (l : List Nat), vs = [nV n, .ref la] ∧ LN H la l ∧ 2 ≤ n ∧ n ≤ 19 ∧ (∀ p, Lets n l p → ∀ H', Same H H' → Q (nV p) H') ∧ ((¬ ∃ p, Lets n l p) → ∀ H', Same H H' → Q .non H')
theorem cut_letters {n : Nat} (h : n ≤ 19) : tl (cutS (Str.ofString "abcdefghijklmnopqrs") none (some (n : Int))) = (List.range n).map fun i => 97 + i := by
  have : ∀ m : Nat, m ≤ 19 → tl (cutS (Str.ofString "abcdefghijklmnopqrs") none (some (m : Int))) = (List.range m).map fun i => 97 + i := by decide +kernel
  exact this n h
theorem ob_mem {n x : Nat} : ((List.range n).map fun i => 97 + i).contains x = decide (97 ≤ x ∧ x < 97 + n) := by
  rw [Bool.eq_iff_iff, List.contains_iff_mem, decide_eq_true_iff, List.mem_map]
  constructor
  · rintro ⟨i, hi, rfl⟩
    have := List.mem_range.mp hi
    omega
  · rintro ⟨h1, h2⟩
    exact ⟨x - 97, List.mem_range.mpr (by omega), by omega⟩
theorem ob_get {n m : Nat} (hm : m < n) : (((List.range n).map fun i => 97 + i).map nV)[m]? = some (nV (97 + m)) := by
  rw [List.getElem?_map, List.getElem?_map, List.getElem?_range hm]; rfl
theorem ob_eq {x : Nat} (h : 97 ≤ x) : eqV (nV (97 + (x - 97))) (nV x) = true := by
  show (((97 + (x - 97) : Nat) : Int) == (x : Int)) = true
  simp; omega
theorem ob_ne {n x : Nat} (h2 : x < 97 + n) : ∀ (m : Nat) (z' : V), m < x - 97 → (((List.range n).map fun i => 97 + i).map nV)[m]? = some z' → eqV z' (nV x) = false := by
  intro m z hm hz
  rw [ob_get (by omega)] at hz
  rw [← Option.some.inj hz]
  show (((97 + m : Nat) : Int) == (x : Int)) = false
  simp; omega
theorem ok_point_read (T : Txt K mg) (F : Fd K mg "point_read" s_point_read ["size", "letters"]) (G_codes : Fx P w K mg base 1 "codes" ["text"] spCodes) : Fx P w K mg base 2 "point_read" ["size", "letters"] spPtR := by
  refine F.ok sc_point_read (fun vs H Q E h => ?_) (fun f cdv A outer s H vs Q E hr h => ?_)
  · obtain ⟨la, n, l, rfl, _⟩ := h; rfl
  · obtain ⟨la, n, l, rfl, hla, h2, h19, k1, k2⟩ := h
    refine ⟨_, (pss_cons (ps_set (i := 2) sc_point_read.nd rfl (Or.inl rfl) (pcall G_codes (hr.mono (by decide)) (pa_cons (pe_slice sl_str (pk T.LETTERS) po_none (po_some (pv 0))) pa_nil)))
      (pss_cons (ps_if (pw_or (pt_cmpR op_lt (pe_callB call_len_seq (by rfl) T.len PySem.boot_len (pa_cons (pv 1) pa_nil)) pe_int (nomark _)) (pw_or (pt_cmpR op_notIn_seq (pe_ix ix_list (pv 1) pe_int (fun _ _ => rfl)) (pv 2) (by with_unfolding_all rfl)) (pw_or1 (pt_cmpR op_notIn_seq (pe_ix ix_list (pv 1) pe_int (fun _ _ => rfl)) (pv 2) (by with_unfolding_all rfl))))).pt
        (pss_one (ps_ret pe_non))
        pss_nil)
      (pss_one (ps_ret (pe_op op_add (pe_op op_mul (pe_bm PySem.F.plainAttrs_list PySem.F.slot_list_index PySem.F.type_list_index mt_index (pv 2) (pa_cons (pe_ix ix_list (pv 1) pe_int (fun _ _ => rfl)) pa_nil)) (pv 0)) (pe_bm PySem.F.plainAttrs_list PySem.F.slot_list_index PySem.F.type_list_index mt_index (pv 2) (pa_cons (pe_ix ix_list (pv 1) pe_int (fun _ _ => rfl)) pa_nil))))))), ?_⟩
    have ecut := cut_letters h19
    refine ⟨_, rfl, _, rfl, _, rfl, (by decide +kernel), _, rfl, (by rw [len_tl, ecut]; simp; omega), fun H1 oa ol s1 hoa hol hLN => ?_⟩
    rw [ecut] at hol
    subst hol
    have hla1 := s1 _ _ hla
    refine ⟨_, rfl, la, _, rfl, .inl (SqL.of hla1), _, _, rfl, rfl, _, rfl, ?_⟩
    rw [List.length_map]
    have no : (¬ ∃ p, Lets n l p) → Q .non H1 := fun h => k2 h _ s1
    match l, hla1, k1, no with
    | [], hla1, k1, no =>
      refine iteT ?_
      refine iteT (no ?_)
      rintro ⟨p, x, y, r, e, _⟩; cases e
    | [x], hla1, k1, no =>
      refine iteT ?_
      refine iteT (no ?_)
      rintro ⟨p, x, y, r, e, _⟩; cases e
    | x :: y :: r, hla1, k1, no =>
      rw [decide_eq_false (by simp; omega)]
      refine iteF ?_
      refine ⟨_, rfl, la, _, _, _, rfl, rfl, SqL.of hla1, atI_nat (j := 0) rfl, _, rfl, oa, _, rfl, .inl (SqL.of hLN), rfl, flat_nat _, _, rfl, ?_⟩
      show if (!inV (nV x) _) = true then _ else _
      rw [inV_nat, ob_mem]
      by_cases hx : 97 ≤ x ∧ x < 97 + n
      · refine iteNS hx ?_
        refine ⟨_, rfl, la, _, _, _, rfl, rfl, SqL.of hla1, atI_nat (j := 1) rfl, _, rfl, oa, _, rfl, .inl (SqL.of hLN), rfl, flat_nat _, _, rfl, ?_⟩
        show if (!inV (nV y) _) = true then _ else _
        rw [inV_nat, ob_mem]
        by_cases hy : 97 ≤ y ∧ y < 97 + n
        · refine iteNS hy ?_
          refine ⟨_, rfl, .inl ⟨rfl, _, SqL.of hLN⟩, _, rfl, la, _, _, _, rfl, rfl, SqL.of hla1, atI_nat (j := 1) rfl, oa, _, nV y, y - 97, nV (97 + (y - 97)), rfl, rfl, SqL.of hLN, rfl, flat_nat _, ob_get (by omega), ob_eq hy.1, ob_ne hy.2, ?_⟩
          refine ⟨_, rfl, _, _, rfl, rfl, .inl ⟨by omega, by omega⟩, ?_⟩
          refine ⟨_, rfl, .inl ⟨rfl, _, SqL.of hLN⟩, _, rfl, la, _, _, _, rfl, rfl, SqL.of hla1, atI_nat (j := 0) rfl, oa, _, nV x, x - 97, nV (97 + (x - 97)), rfl, rfl, SqL.of hLN, rfl, flat_nat _, ob_get (by omega), ob_eq hx.1, ob_ne hx.2, ?_⟩
          refine ⟨_, _, rfl, rfl, ?_⟩
          show Q (V.int (((y - 97 : Nat) : Int) * (n : Int) + ((x - 97 : Nat) : Int))) H1
          rw [show ((((y - 97 : Nat) : Int) * (n : Int) + ((x - 97 : Nat) : Int))) = (((y - 97) * n + (x - 97) : Nat) : Int) by rw [Int.natCast_add, Int.natCast_mul]]
          exact k1 _ ⟨x, y, r, rfl, hx.1, hx.2, hy.1, hy.2, rfl⟩ _ s1
        · rw [decide_eq_false hy]
          refine iteT (no ?_)
          rintro ⟨p, x', y', r', e, h1, h2, h3, h4, _⟩
          injection e with e1 e
          injection e with e2 e
          exact hy ⟨by omega, by omega⟩
      · rw [decide_eq_false hx]
        refine iteT ?_
        refine iteT (no ?_)
        rintro ⟨p, x', y', r', e, h1, h2, h3, h4, _⟩
        injection e with e1 e
        exact hx ⟨by omega, by omega⟩
abbrev s_turn_read : Stmt := top 53
theorem sc_turn_read : FnScope ["size", "record", "place", "number", "letters", "point"] ["size", "record", "place", "number"] (defScope s_turn_read) := ⟨rfl, rfl, rfl, by decide +kernel, rfl, by decide +kernel, by decide +kernel⟩
def TurnAt (n c : Nat) (u : List Nat) : Option (Option Nat) → Prop
  | some t => Sd46.turnText n c t <+: u ∧ ∀ p, t = some p → p < n * n
  | none => ∀ t, (∀ p, t = some p → p < n * n) → ¬ Sd46.turnText n c t <+: u
def rV : Option (Option Nat) → V
  | some t => tV t
  | none => .non
def spTurnR : Sp := fun vs H Q _ => ∃ (ra : Addr) (n pl k : Nat) (s : List Nat), vs = [nV n, .ref ra, nV pl, nV k] ∧ LN H ra s ∧ 2 ≤ n ∧ n ≤ 19 ∧ ∀ (H' : Hp) (r : Option (Option Nat)), Same H H' → TurnAt n (moverAt k) (s.drop pl) r → Q (rV r) H'
theorem text_lets {n c p : Nat} {u : List Nat} (hp : p < n * n) (h : Sd46.turnText n c (some p) <+: u) : Lets n ((u.drop 3).take 2) p := by
  obtain ⟨v, rfl⟩ := h
  obtain ⟨a, r, hpe, hr1, ha1, hmo, hdi⟩ := cut hp
  refine ⟨97 + p % n, 97 + p / n, [], rfl, by omega, by omega, by omega, by omega, ?_⟩
  rw [hmo, hdi, hpe, Nat.add_sub_cancel_left, Nat.add_sub_cancel_left, Nat.mul_comm]
theorem ok_turn_read (T : Txt K mg) (F : Fd K mg "turn_read" s_turn_read ["size", "record", "place", "number"]) (G_stands_at : Fx P w K mg base 2 "stands_at" ["record", "place", "text"] spStands) (G_turn_text : Fx P w K mg base 2 "turn_text" ["size", "number", "point"] spText)
    (G_point_read : Fx P w K mg base 2 "point_read" ["size", "letters"] spPtR) : Fx P w K mg base 3 "turn_read" ["size", "record", "place", "number"] spTurnR := by
  refine F.ok sc_turn_read (fun vs H Q E h => ?_) (fun f cdv A outer s H vs Q E hr h => ?_)
  · obtain ⟨ra, n, pl, k, s, rfl, _⟩ := h; rfl
  · obtain ⟨ra, n, pl, k, b, rfl, hra, h2, h19, kk⟩ := h
    refine ⟨_, (pss_cons (ps_if (pt_val (pcall G_stands_at (hr.mono (by decide)) (pa_cons (pv 1) (pa_cons (pv 2) (pa_cons (pcall G_turn_text (hr.mono (by decide)) (pa_cons (pv 0) (pa_cons (pv 3) (pa_cons (pk T.PASSED) pa_nil)))) pa_nil)))))
        (pss_one (ps_ret (pk T.PASSED)))
        pss_nil)
      (pss_cons (ps_set (i := 4) sc_turn_read.nd rfl (Or.inl rfl) (pe_op op_add (pv 2) (pk T.AHEAD_OF_LETTERS)))
      (pss_cons (ps_set (i := 5) sc_turn_read.nd rfl (Or.inl rfl) (pcall G_point_read (hr.mono (by decide)) (pa_cons (pv 0) (pa_cons (pe_slice sl_list (pv 1) (po_some (pv 4)) (po_some (pe_op op_add (pv 4) pe_int))) pa_nil))))
      (pss_cons (ps_if (pw_or (pt_cmp (pc_isN (pv 5))) (pw_or1 (pt_not (pt_val (pcall G_stands_at (hr.mono (by decide)) (pa_cons (pv 1) (pa_cons (pv 2) (pa_cons (pcall G_turn_text (hr.mono (by decide)) (pa_cons (pv 0) (pa_cons (pv 3) (pa_cons (pv 5) pa_nil)))) pa_nil)))))))).pt
        (pss_one (ps_ret pe_non))
        pss_nil)
      (pss_one (ps_ret (pv 5))))))), ?_⟩
    refine ⟨_, rfl, _, rfl, _, rfl, _, rfl, n, k, none, rfl, h2, h19, fun p hp => (nomatch hp), fun z hz => ⟨ra, pl, z, b, rfl, hra, by rw [len_tl, hz]; have := text_len n (moverAt k) none; omega, fun H1 s1 => ⟨_, rfl, ?_⟩⟩⟩
    rw [hz]
    refine ite2 (fun e => ?_) (fun e => ?_)
    · exact kk _ (some none) s1 ⟨List.isPrefixOf_iff_prefix.mp e, fun p hp => (nomatch hp)⟩
    · have hnp : ¬ Sd46.turnText n (moverAt k) none <+: b.drop pl := fun h => e (List.isPrefixOf_iff_prefix.mpr h)
      refine ⟨_, rfl, _, _, rfl, rfl, ?_⟩
      refine ⟨_, rfl, _, rfl, _, rfl, _, rfl, _, rfl, _, _, rfl, rfl, _, rfl, ra, _, rfl, SqL.of (s1 _ _ hra), fun c hc => ?_⟩
      have ecut : cutV (b.map nV) (some ((pl : Int) + 3)) (some ((pl : Int) + 3 + 2)) = ((b.drop (pl + 3)).take 2).map nV := by
        rw [show ((pl : Int) + 3) = ((pl + 3 : Nat) : Int) by omega]
        exact cut_nats b (pl + 3) 2
      rw [ecut]
      have s2 : Same H (L2.upd H1 c (.lst (((b.drop (pl + 3)).take 2).map nV))) := s1.upd (s1.free hc)
      have edr : b.drop (pl + 3) = (b.drop pl).drop 3 := by rw [List.drop_drop]
      refine ⟨c, n, _, rfl, upd_same, h2, h19, fun p hp H3 s3 => ?_, fun hno H3 s3 => ?_⟩
      · have S3 := s2.trans s3
        have hpn := hp.lt.1
        refine ⟨_, rfl, _, rfl, ?_⟩
        rw [decide_eq_false (show ¬ nV p = V.non by intro z; cases z)]
        refine iteF ?_
        refine ⟨_, rfl, _, rfl, _, rfl, _, rfl, _, rfl, n, k, some p, rfl, h2, h19, fun q hq => by rw [← Option.some.inj hq]; exact hpn, fun z hz => ⟨ra, pl, z, b, rfl, S3 _ _ hra, by rw [len_tl, hz]; have := text_len n (moverAt k) (some p); omega, fun H4 s4 => ⟨_, rfl, ?_⟩⟩⟩
        rw [hz]
        cases ep : (Sd46.turnText n (moverAt k) (some p)).isPrefixOf (b.drop pl) with
        | true =>
          refine iteF ?_
          exact ⟨_, rfl, kk _ (some (some p)) (S3.trans s4) ⟨List.isPrefixOf_iff_prefix.mp ep, fun q hq => by rw [← Option.some.inj hq]; exact hpn⟩⟩
        | false =>
          refine iteT ?_
          refine kk _ none (S3.trans s4) fun t ht h => ?_
          cases t with
          | none => exact hnp h
          | some q =>
            have hq := ht q rfl
            have hl := text_lets hq h
            rw [edr] at hp
            obtain ⟨_, _, x, y, r, e1, e2, e3⟩ := hl.lt
            obtain ⟨_, _, x', y', r', e1', e2', e3'⟩ := hp.lt
            rw [e1] at e1'
            injection e1' with f1 f2
            injection f2 with f2 f3
            have m1 : q % n = p % n := by omega
            have m2 : q / n = p / n := by omega
            have : q = p := by rw [← Nat.div_add_mod q n, ← Nat.div_add_mod p n, m1, m2]
            subst this
            rw [List.isPrefixOf_iff_prefix.mpr h] at ep
            cases ep
      · refine ⟨_, rfl, _, rfl, ?_⟩
        refine iteT ?_
        refine iteT ?_
        refine kk _ none (s2.trans s3) fun t ht h => ?_
        cases t with
        | none => exact hnp h
        | some q =>
          have hl := text_lets (ht q rfl) h
          rw [← edr] at hl
          exact hno ⟨q, hl⟩
end
theorem text_none (n c : Nat) : Sd46.turnText n c none = [59, colB c, 91, 93] := rfl
theorem text_some (n c p : Nat) : Sd46.turnText n c (some p) = [59, colB c, 91, 97 + p % n, 97 + p / n, 93] := rfl
theorem reads_begin {n c : Nat} {u : List Nat} {l : List (Option Nat)} (h : Reads n c u l) : (u = [41] ∧ l = []) ∨ ∃ t l', l = t :: l' ∧ (∀ p, t = some p → p < n * n) ∧ Sd46.turnText n c t <+: u ∧ Reads n (Sd46.other c) (u.drop (Sd46.turnText n c t).length) l' := by
  cases h with
  | done => exact .inl ⟨rfl, rfl⟩
  | @pass _ v l' h => exact .inr ⟨none, l', rfl, fun p hp => (nomatch hp), ⟨v, rfl⟩, h⟩
  | @play _ x y v l' h1 h2 h3 h4 h =>
    have hl : Lets n [x, y] ((y - 97) * n + (x - 97)) := ⟨x, y, [], rfl, h1, h2, h3, h4, rfl⟩
    obtain ⟨a1, _, x', y', r, e, e1, e2⟩ := hl.lt
    injection e with f1 f2
    injection f2 with f2 f3
    refine .inr ⟨some _, l', rfl, fun p hp => by rw [← Option.some.inj hp]; exact a1, ?_, ?_⟩
    · rw [text_some, ← e1, ← e2, ← f1, ← f2]
      exact ⟨v, rfl⟩
    · rw [text_some]
      exact h
theorem reads_turn {n c : Nat} {u : List Nat} {t : Option Nat} (hn : 0 < n) (ht : ∀ p, t = some p → p < n * n) (h : Sd46.turnText n c t <+: u) {l' : List (Option Nat)} (h' : Reads n (Sd46.other c) (u.drop (Sd46.turnText n c t).length) l') : Reads n c u (t :: l') := by
  obtain ⟨v, rfl⟩ := h
  rw [List.drop_left] at h'
  cases t with
  | none => exact .pass h'
  | some p =>
    obtain ⟨a, r, hpe, hr1, ha1, hmo, hdi⟩ := cut (ht p rfl)
    have := Reads.play (n := n) (c := c) (x := 97 + p % n) (y := 97 + p / n) (u := v) (l := l') (by omega) (by omega) (by omega) (by omega) h'
    have ep : (97 + p / n - 97) * n + (97 + p % n - 97) = p := by rw [Nat.add_sub_cancel_left, Nat.add_sub_cancel_left, Nat.mul_comm]; exact Nat.div_add_mod p n
    rw [ep] at this
    exact this
theorem text_uniq {n c : Nat} {u : List Nat} {t t' : Option Nat} (ht : ∀ p, t = some p → p < n * n) (ht' : ∀ p, t' = some p → p < n * n) (h : Sd46.turnText n c t <+: u) (h' : Sd46.turnText n c t' <+: u) : t = t' := by
  obtain ⟨v, rfl⟩ := h
  obtain ⟨v', e⟩ := h'
  cases t with
  | none =>
    cases t' with
    | none => rfl
    | some q =>
      rw [text_none, text_some] at e
      obtain ⟨a, r, _, _, _, hmo, _⟩ := cut (ht' q rfl)
      injection e with _ e
      injection e with _ e
      injection e with _ e
      injection e with e _
      omega
  | some p =>
    cases t' with
    | none =>
      rw [text_none, text_some] at e
      injection e with _ e
      injection e with _ e
      injection e with _ e
      injection e with e _
      omega
    | some q =>
      rw [text_some, text_some] at e
      injection e with _ e
      injection e with _ e
      injection e with _ e
      injection e with e1 e
      injection e with e2 _
      have m1 : q % n = p % n := by omega
      have m2 : q / n = p / n := by omega
      rw [← Nat.div_add_mod p n, ← Nat.div_add_mod q n, m1, m2]
theorem reads_iff {n c : Nat} {u : List Nat} {t : Option Nat} (hn : 0 < n) (ht : ∀ p, t = some p → p < n * n) (h : Sd46.turnText n c t <+: u) (l : List (Option Nat)) : Reads n c u l ↔ ∃ l', l = t :: l' ∧ Reads n (Sd46.other c) (u.drop (Sd46.turnText n c t).length) l' := by
  constructor
  · intro hr
    rcases reads_begin hr with ⟨rfl, _⟩ | ⟨t', l', rfl, ht', h', hr'⟩
    · obtain ⟨v, e⟩ := h
      cases t <;> (injection e with e _; cases e)
    · have := text_uniq ht ht' h h'
      subst this
      exact ⟨l', rfl, hr'⟩
  · rintro ⟨l', rfl, hr⟩
    exact reads_turn hn ht h hr
section
variable {P : Program} {w : World} {K : PySem.W.Frag} {mg : Str → Option Value} {base : Heap}
abbrev s_points_read : Stmt := top 54
theorem sc_points_read : FnScope ["size", "record", "points", "place", "point"] ["size", "record"] (defScope s_points_read) := ⟨rfl, rfl, rfl, by decide +kernel, rfl, by decide +kernel, by decide +kernel⟩
def spPtsR : Sp := fun vs H Q _ => ∃ (ra : Addr) (n : Nat) (s : List Nat), vs = [nV n, .ref ra] ∧ LN H ra s ∧ 2 ≤ n ∧ n ≤ 19 ∧ s.length ≤ 30000 ∧ (∀ l, Reads n 1 (s.drop (Sd46.headOf n).length) l → ∀ (H' : Hp) (a : Addr), Same H H' → H a = none → H' a = some (.lst (l.map tV)) → Q (.ref a) H') ∧ ((∀ l, ¬ Reads n 1 (s.drop (Sd46.headOf n).length) l) → ∀ H', Same H H' → Q .non H')
theorem ok_points_read (T : Txt K mg) (F : Fd K mg "points_read" s_points_read ["size", "record"]) (G_head : Fx P w K mg base 1 "head" ["size"] spHead) (G_stands_at : Fx P w K mg base 2 "stands_at" ["record", "place", "text"] spStands)
    (G_turn_read : Fx P w K mg base 3 "turn_read" ["size", "record", "place", "number"] spTurnR) : Fx P w K mg base 4 "points_read" ["size", "record"] spPtsR := by
  refine F.ok sc_points_read (fun vs H Q E h => ?_) (fun f cdv A outer s H vs Q E hr h => ?_)
  · obtain ⟨ra, n, s, rfl, _⟩ := h; rfl
  · obtain ⟨ra, n, b, rfl, hra, h2, h19, hbl, k1, k2⟩ := h
    refine ⟨_, (pss_cons (ps_set (i := 2) sc_points_read.nd rfl (Or.inl rfl) (pe_lst pa_nil))
      (pss_cons (ps_set (i := 3) sc_points_read.nd rfl (Or.inl rfl) (pe_callB call_len_str (by rfl) T.len PySem.boot_len (pa_cons (pcall G_head (hr.mono (by decide)) (pa_cons (pv 0) pa_nil)) pa_nil)))
      (pss_cons (ps_while PassesOwn.never (pt_not (pt_val (pcall G_stands_at (hr.mono (by decide)) (pa_cons (pv 1) (pa_cons (pv 3) (pa_cons pe_str pa_nil))))))
        (pss_cons (ps_set (i := 4) sc_points_read.nd rfl (Or.inl rfl) (pcall G_turn_read (hr.mono (by decide)) (pa_cons (pv 0) (pa_cons (pv 1) (pa_cons (pv 3) (pa_cons (pe_callB call_len_seq (by rfl) T.len PySem.boot_len (pa_cons (pv 2) pa_nil)) pa_nil))))))
      (pss_cons (ps_if (pt_cmp (pc_isN (pv 4)))
        (pss_one (ps_ret pe_non))
        pss_nil)
      (pss_cons (ps_expr (pe_bm PySem.F.plainAttrs_list PySem.F.slot_list_append PySem.F.type_list_append mt_append (pv 2) (pa_cons (pv 4) pa_nil)))
      (pss_one (ps_aug (i := 3) sc_points_read.nd rfl (Or.inl rfl) (pe_ifExp (pt_cmpR op_eq (pv 4) (pk T.PASSED) (nomark _)) (pk T.PASS_LENGTH) (pk T.PLAY_LENGTH)) ip_add))))))
      (pss_one (ps_ret (pe_ifExp (pt_cmpR op_eq (pe_op op_add (pv 3) pe_int) (pe_callB call_len_seq (by rfl) T.len PySem.boot_len (pa_cons (pv 1) pa_nil)) (nomark _)) (pv 2) pe_non)))))), ?_⟩
    refine ⟨Nat.zero_le _, fun pa hpa => ?_⟩
    have s0 : Same H (L2.upd H pa (.lst [])) := same_new hpa
    refine ⟨_, rfl, n, rfl, by omega, fun z hz => ⟨z, rfl, by rw [len_tl, hz]; exact smallE (by have := head_len (n := n) (by omega); omega), ?_⟩⟩
    rw [len_tl, hz]
    have hh := head_len (n := n) (by omega)
    have e41 : tl (Str.ofString ")") = [41] := by decide +kernel
    refine while_by (fun σ H' => ∃ (pl : Nat) (v : Option V) (ts : List (Option Nat)), σ = [some (nV n), some (.ref ra), some (.ref pa), some (nV pl), v] ∧ Same H H' ∧ H' pa = some (.lst (ts.map tV)) ∧ ts.length ≤ pl ∧ pl ≤ 30000 + 18 ∧ ∀ l, Reads n 1 (b.drop (Sd46.headOf n).length) l ↔ ∃ l', l = ts ++ l' ∧ Reads n (moverAt ts.length) (b.drop pl) l')
      (mu (b.length + 1) 3) ?_ ?_ ?_
    · exact ⟨_, none, [], rfl, s0, upd_same, Nat.zero_le _, by omega, fun l => ⟨fun h => ⟨l, rfl, h⟩, fun ⟨l', e, h⟩ => by rw [e]; exact h⟩⟩
    · rintro σ H1 ⟨pl, v, ts, rfl, sm, hpa1, htl, hpl, hR⟩
      refine ⟨_, rfl, _, rfl, ra, pl, Str.ofString ")", b, rfl, sm _ _ hra, (by rw [len_tl, e41]; decide), fun H2 s2 => ⟨_, rfl, ?_⟩⟩
      rw [e41]
      have S2 := sm.trans s2
      cases ep : List.isPrefixOf [41] (b.drop pl) with
      | false =>
        refine iteT ?_
        have n41 : ¬ [41] <+: b.drop pl := fun h => by rw [List.isPrefixOf_iff_prefix.mpr h] at ep; cases ep
        have elen : ((ts.map tV).length : Int) = ((ts.length : Nat) : Int) := by rw [List.length_map]
        refine ⟨_, rfl, _, rfl, _, rfl, _, rfl, pa, _, rfl, .inl (SqL.of (s2 _ _ hpa1)), ?_⟩
        rw [elen]
        refine ⟨ra, n, pl, ts.length, b, rfl, S2 _ _ hra, h2, h19, fun H3 r s3 hT => ?_⟩
        have S3 := S2.trans s3
        have hpa3 := s3 _ _ (s2 _ _ hpa1)
        refine ⟨_, rfl, _, rfl, ?_⟩
        cases r with
        | none =>
          refine iteT ?_
          refine k2 (fun l hl => ?_) _ S3
          obtain ⟨l', _, h'⟩ := (hR l).mp hl
          rcases reads_begin h' with ⟨e, _⟩ | ⟨t, l2, _, ht, hp, _⟩
          · exact n41 (by rw [e]; exact List.prefix_rfl)
          · exact hT t ht hp
        | some t =>
          obtain ⟨hpre, ht⟩ := hT
          rw [decide_eq_false (show ¬ rV (some t) = V.non by cases t <;> (intro z; cases z))]
          refine iteF ?_
          have hle : pl + (Sd46.turnText n (moverAt ts.length) t).length ≤ b.length := by
            have := hpre.length_le
            rw [List.length_drop] at this
            have h4 : 0 < (Sd46.turnText n (moverAt ts.length) t).length := by unfold Sd46.turnText; simp
            omega
          refine ⟨_, rfl, .inl ⟨rfl, _, SqL.of hpa3⟩, _, rfl, pa, _, _, rfl, rfl, hpa3, by rw [List.length_map]; exact small (by omega), ?_⟩
          refine ⟨_, rfl, _, rfl, by cases t <;> rfl, _, rfl, ?_⟩
          have hR' : ∀ l, Reads n 1 (b.drop (Sd46.headOf n).length) l ↔ ∃ l', l = (ts ++ [t]) ++ l' ∧ Reads n (moverAt (ts ++ [t]).length) (b.drop (pl + (Sd46.turnText n (moverAt ts.length) t).length)) l' := by
            intro l
            rw [hR l]
            constructor
            · rintro ⟨l', rfl, h⟩
              obtain ⟨l2, el2, hh2⟩ := (reads_iff (by omega) ht hpre l').mp h
              refine ⟨l2, by rw [el2]; simp, ?_⟩
              rw [List.length_append, List.length_singleton, mover_succ, ← List.drop_drop]
              exact hh2
            · rintro ⟨l2, rfl, h⟩
              rw [List.length_append, List.length_singleton, mover_succ, ← List.drop_drop] at h
              exact ⟨t :: l2, by simp, (reads_iff (by omega) ht hpre _).mpr ⟨l2, rfl, h⟩⟩
          have hlast : L2.upd H3 pa (.lst (ts.map tV ++ [tV t])) pa = some (.lst ((ts ++ [t]).map tV)) := by rw [upd_same, List.map_append]; rfl
          show if decide (tV t = V.int (-1)) = true then _ else _
          rw [tV_pass]
          cases t with
          | none =>
            refine iteT ?_
            refine ⟨_, _, rfl, rfl, ⟨pl + 4, _, ts ++ [none], rfl, S3.upd hpa, hlast, by simp; omega, by rw [text_none] at hle; simp at hle; omega, hR'⟩, ?_⟩
            show b.length + 1 - ((pl : Int) + 4).toNat < b.length + 1 - (pl : Int).toNat
            rw [text_none] at hle
            simp at hle
            omega
          | some p =>
            refine iteF ?_
            refine ⟨_, _, rfl, rfl, ⟨pl + 6, _, ts ++ [some p], rfl, S3.upd hpa, hlast, by simp; omega, by rw [text_some] at hle; simp at hle; omega, hR'⟩, ?_⟩
            show b.length + 1 - ((pl : Int) + 6).toNat < b.length + 1 - (pl : Int).toNat
            rw [text_some] at hle
            simp at hle
            omega
      | true =>
        refine iteF ?_
        obtain ⟨w', hw⟩ := List.isPrefixOf_iff_prefix.mp ep
        have hpa2 := s2 _ _ hpa1
        have elb : ((b.map nV).length : Int) = ((b.length : Nat) : Int) := by rw [List.length_map]
        refine ⟨_, rfl, _, _, rfl, rfl, _, rfl, ra, _, rfl, .inl (SqL.of (S2 _ _ hra)), rfl, _, rfl, ?_⟩
        have hlen : b.length = pl + 1 + w'.length := by
          have := congrArg List.length hw
          rw [List.length_append, List.length_drop] at this
          simp at this
          omega
        show if decide (V.int ((pl : Int) + 1) = V.int ((b.map nV).length : Int)) = true then _ else _
        rw [elb]
        by_cases ew : w' = []
        · subst ew
          rw [decide_eq_true (congrArg V.int (by simp at hlen; omega))]
          refine iteT ⟨_, rfl, k1 ts ((hR ts).mpr ⟨[], by simp, ?_⟩) _ pa S2 hpa hpa2⟩
          rw [← hw]
          exact .done
        · have hwl : 0 < w'.length := List.length_pos_iff.mpr ew
          rw [decide_eq_false (by intro z; have := V.int.inj z; omega)]
          refine iteF ?_
          refine k2 (fun l hl => ?_) _ S2
          obtain ⟨l', _, h'⟩ := (hR l).mp hl
          rw [← hw] at h'
          rcases reads_begin h' with ⟨e, _⟩ | ⟨t, l2, _, ht, ⟨v', hp⟩, _⟩
          · injection e with _ e
            exact ew e
          · cases t <;> (injection hp with hp _; cases hp)
    · rintro σ H1 Q1 Q2 hq ⟨v1, h1, v2, h3, ra', pl', z', s', e1, e2, e3, e4⟩
      refine ⟨v1, h1, v2, h3, ra', pl', z', s', e1, e2, e3, fun H' sm => ?_⟩
      obtain ⟨c, ec, q⟩ := e4 H' sm
      exact ⟨c, ec, hq _ _ q⟩
end
abbrev nI (l : List Nat) : List Int := Sd46Neutral.ints l
theorem ints_V (l : List Nat) : (nI l).map V.int = l.map nV := by
  show (l.map _).map _ = _
  rw [List.map_map]; rfl
def RetZ (H : Hp) (Q : VK) (l : List Int) : Prop := ∀ (H' : Hp) (a : Addr), Same H H' → H a = none → LZ H' a l → Q (.ref a) H'
section
variable {P : Program} {w : World} {K : PySem.W.Frag} {mg : Str → Option Value} {base : Heap} {C : Addr}
abbrev s_is_size : Stmt := top 27
theorem sc_is_size : FnScope ["number"] ["number"] (defScope s_is_size) := ⟨rfl, rfl, rfl, by decide +kernel, rfl, by decide +kernel, by decide +kernel⟩
def spIsSize : Sp := fun vs H Q _ => ∃ z : Int, vs = [.int z] ∧ Q (.bl (decide (2 ≤ z ∧ z ≤ 19))) H
theorem ok_is_size (T : Txt K mg) (F : Fd K mg "is_size" s_is_size ["number"]) : Fx P w K mg base 1 "is_size" ["number"] spIsSize := by
  refine F.ok sc_is_size (fun vs H Q E h => ?_) (fun f cdv A outer s H vs Q E hr h => ?_)
  · obtain ⟨z, rfl, _⟩ := h; rfl
  · obtain ⟨z, rfl, k⟩ := h
    refine ⟨_, (pss_one (ps_ret (pe_and (pe_cmpR op_ge (pv 0) (pk T.SMALLEST) (nomark _)) (pe_one (pe_cmpR op_le (pv 0) (pk T.LARGEST) (nomark _)))))), ?_⟩
    refine ⟨_, rfl, _, _, rfl, rfl, _, rfl, ?_⟩
    refine ite2 (fun e => ?_) (fun e => ?_)
    · have e := of_decide_eq_true e
      refine ⟨_, rfl, _, _, rfl, rfl, ?_⟩
      have : decide (z ≤ 19) = decide (2 ≤ z ∧ z ≤ 19) := by rw [Bool.eq_iff_iff, decide_eq_true_iff, decide_eq_true_iff]; exact ⟨fun h => ⟨e, h⟩, fun h => h.2⟩
      show Q (.bl (decide (z ≤ 19))) H
      rw [this]; exact k
    · have : decide (2 ≤ z ∧ z ≤ 19) = false := decide_eq_false fun h => e (decide_eq_true h.1)
      rw [this] at k
      exact k
abbrev s_full_board : Stmt := top 72
theorem sc_full_board : FnScope ["points", "behind", "place"] ["points"] (defScope s_full_board) := ⟨rfl, rfl, rfl, by decide +kernel, rfl, by decide +kernel, by decide +kernel⟩
def spFull : Sp := fun vs H Q _ => ∃ (pa : Addr) (l : List Nat), vs = [.ref pa] ∧ LN H pa l ∧ l.length ≤ 361 ∧ RetL H Q fun m => m = Sd46.pad l
theorem ok_full_board (T : Txt K mg) (F : Fd K mg "full_board" s_full_board ["points"]) : Fx P w K mg base 1 "full_board" ["points"] spFull := by
  refine F.ok sc_full_board (fun vs H Q E h => ?_) (fun f cdv A outer s H vs Q E hr h => ?_)
  · obtain ⟨pa, l, rfl, _⟩ := h; rfl
  · obtain ⟨pa, l, rfl, hpa, hl, k⟩ := h
    refine ⟨_, (pss_cons (ps_set (i := 1) sc_full_board.nd rfl (Or.inl rfl) (pe_op op_sub (pe_op op_mul (pk T.LARGEST) (pk T.LARGEST)) (pe_callB call_len_seq (by rfl) T.len PySem.boot_len (pa_cons (pv 0) pa_nil))))
      (pss_one (ps_ret (pe_op op_cat (pv 0) (pe_lc rfl sc_full_board.nd (pi_range1 rfl T.range (pa_cons (pv 1) pa_nil)) (own := [("place", 2)]) (blkOk_by (N := ["points", "behind", "place"]) (sc := defScope s_full_board) (by decide +kernel)) (fun _ _ _ _ _ => (pg_name (i := 2) sc_full_board.nd rfl (Or.inl rfl))) (fun _ _ _ _ _ => pts_nil) (fun _ _ _ _ _ => (pk T.EMPTY))))))), ?_⟩
    refine ⟨_, _, rfl, rfl, .inl ⟨by decide, by decide⟩, _, rfl, pa, _, rfl, .inl (SqL.of hpa), _, _, rfl, rfl, ?_⟩
    have ez : (19 : Int) * 19 - ((l.map nV).length : Int) = ((361 - l.length : Nat) : Int) := by rw [List.length_map]; omega
    refine ⟨_, rfl, _, rfl, _, rfl, by rw [ez]; omega, by rw [ez]; omega, fun a ha => ?_⟩
    have sa : ∀ {o : HO}, Same H (L2.upd H a o) := same_new ha
    refine lc_upto (n := 361 - l.length) ez (fun i H' => H' = L2.upd H a (.lst ((List.replicate i 0).map nV))) rfl ?_ ?_
    · rintro i _ hi rfl
      refine ⟨rfl, _, upd_same, by rw [List.length_map, List.length_replicate]; exact small (by omega), ?_⟩
      rw [upd_upd, List.replicate_succ', List.map_append]; rfl
    rintro _ rfl
    refine ⟨pa, a, _, _, rfl, rfl, sa _ _ hpa, upd_same, by rw [List.length_map, List.length_map, List.length_replicate]; exact smallE (by omega), fun q hq => ?_⟩
    refine k _ q _ (sa.upd (sa.free hq)) (sa.free hq) rfl ?_
    show L2.upd _ _ _ _ = _
    rw [upd_same, ← List.map_append]; rfl
abbrev s_board_answer : Stmt := top 73
theorem sc_board_answer : FnScope ["game", "answer"] ["game"] (defScope s_board_answer) := ⟨rfl, rfl, rfl, by decide +kernel, rfl, by decide +kernel, by decide +kernel⟩
def boardL (g : Sd46.Game) : List Int := ((g.turns.length : Nat) : Int) :: nI (Sd46.pad g.board ++ [g.mover, if g.ended = true then 1 else 0, Sd46.lost g 1, Sd46.lost g 2])
def spBoard (C : Addr) : Sp := fun vs H Q _ => ∃ (a : Addr) (g : Sd46.Game) (F : List Addr), vs = [.ref a] ∧ GameAt C H a g F ∧ RetZ H Q (boardL g)
theorem ok_board_answer (T : Txt K mg) (G : CG K C) (F : Fd K mg "board_answer" s_board_answer ["game"]) (G_full_board : Fx P w K mg base 1 "full_board" ["points"] spFull) (M_whose_turn : Mx P w K mg base C 1 "whose_turn" ["self"] (spWho C)) (M_is_at_end : Mx P w K mg base C 1 "is_at_end" ["self"] (spEnd C)) :
    Fx P w K mg base 2 "board_answer" ["game"] (spBoard C) := by
  refine F.ok sc_board_answer (fun vs H Q E h => ?_) (fun f cdv A outer s H vs Q E hr h => ?_)
  · obtain ⟨a, g, F, rfl, _⟩ := h; rfl
  · obtain ⟨a, g, F, rfl, hga, k⟩ := h
    have cG := G.cl
    have hu := hu_of hr
    obtain ⟨Ts, dx, bs, st, tu, bo, to, as, rfl, hg⟩ := id hga
    have hok := hg.ok
    have h19 := hok.hi
    have hnn : g.size * g.size ≤ 361 := by have := Nat.mul_le_mul h19 h19; omega
    have hbl : g.board.length ≤ 361 := by rw [hok.board.len]; exact hnn
    have htl : (as.reverse.map V.ref).length = g.turns.length := by rw [List.length_map, List.length_reverse, hg.tn.len.1]
    refine ⟨_, (pss_cons (ps_set (i := 1) sc_board_answer.nd rfl (Or.inl rfl) (pe_lst (pa_cons (pe_callB call_len_seq (by rfl) T.len PySem.boot_len (pa_cons (pe_fld (pv 0) rfl) pa_nil)) pa_nil)))
      (pss_cons (ps_expr (pe_bm PySem.F.plainAttrs_list PySem.F.slot_list_extend PySem.F.type_list_extend mt_extend (pv 1) (pa_cons (pcall G_full_board (hr.mono (by decide)) (pa_cons (pe_fld (pv 0) rfl) pa_nil)) pa_nil)))
      (pss_cons (ps_expr (pe_bm PySem.F.plainAttrs_list PySem.F.slot_list_append PySem.F.type_list_append mt_append (pv 1) (pa_cons (pmeth0 (pv 0) cG M_whose_turn (hr.mono (by decide))) pa_nil)))
      (pss_cons (ps_expr (pe_bm PySem.F.plainAttrs_list PySem.F.slot_list_append PySem.F.type_list_append mt_append (pv 1) (pa_cons (pe_ifExp (pt_val (pmeth0 (pv 0) cG M_is_at_end (hr.mono (by decide)))) pe_int pe_int) pa_nil)))
      (pss_cons (ps_expr (pe_bm PySem.F.plainAttrs_list PySem.F.slot_list_append PySem.F.type_list_append mt_append (pv 1) (pa_cons (pe_dget hu (pe_fld (pv 0) rfl) (pk T.BLACK) (fun _ _ => rfl)) pa_nil)))
      (pss_cons (ps_expr (pe_bm PySem.F.plainAttrs_list PySem.F.slot_list_append PySem.F.type_list_append mt_append (pv 1) (pa_cons (pe_dget hu (pe_fld (pv 0) rfl) (pk T.WHITE) (fun _ _ => rfl)) pa_nil)))
      (pss_one (ps_ret (pv 1))))))))), ?_⟩
    refine ⟨_, rfl, a, C, dx, _, _, rfl, hg.ob, G.cl, G.turns, gf_turns, tu, _, rfl, .inl (SqL.of hg.tus), (by show 1 ≤ sizeLine; decide), fun q hq => ?_⟩
    rw [htl]
    have s1 : Same H (L2.upd H q (.lst [V.int (g.turns.length : Int)])) := same_new hq
    have g1 := hg.same s1
    have q1 : L2.upd H q (.lst [V.int (g.turns.length : Int)]) q = some (.lst ([g.turns.length].map nV)) := upd_same
    generalize L2.upd H q (.lst [V.int (g.turns.length : Int)]) = H1 at s1 g1 q1 ⊢
    refine ⟨_, rfl, .inl ⟨rfl, _, SqL.of q1⟩, _, rfl, a, C, dx, _, _, rfl, g1.ob, G.cl, G.stones, gf_stones, st, g.board, rfl, g1.brd, hbl, fun H2 p m s2 hp hm hLN => ?_⟩
    subst hm
    have q2 := s2 _ _ q1
    have hpl : (Sd46.pad g.board).length = 361 := by unfold Sd46.pad; simp; omega
    refine ⟨q, p, _, _, rfl, rfl, q2, hLN, by rw [List.length_map, List.length_map, hpl]; exact smallE (by simp), ?_⟩
    rw [← List.map_append]
    have S2 := s1.trans s2
    have s3 : Same H (L2.upd H2 q (.lst (([g.turns.length] ++ Sd46.pad g.board).map nV))) := S2.upd hq
    have g3 := hg.same s3
    have q3 : L2.upd H2 q (.lst (([g.turns.length] ++ Sd46.pad g.board).map nV)) q = some (.lst (([g.turns.length] ++ Sd46.pad g.board).map nV)) := upd_same
    generalize L2.upd H2 q (.lst (([g.turns.length] ++ Sd46.pad g.board).map nV)) = H3 at s3 g3 q3 ⊢
    refine ⟨_, rfl, .inl ⟨rfl, _, SqL.of q3⟩, _, rfl, a, dx, _, rfl, g3.ob, gf_no (by decide +kernel), a, dx, bs, st, tu, bo, to, _, _, rfl, g3.ob, g3.tus, ?_⟩
    refine ⟨q, _, _, rfl, rfl, q3, by rw [List.length_map, List.length_append, hpl]; exact small (by simp), ?_⟩
    rw [htl]
    have e4 : ([g.turns.length] ++ Sd46.pad g.board).map nV ++ [nV (moverAt g.turns.length)] = ([g.turns.length] ++ Sd46.pad g.board ++ [g.mover]).map nV := (List.map_append (f := nV) (l₁ := [g.turns.length] ++ Sd46.pad g.board) (l₂ := [g.mover])).symm
    rw [e4]
    have s4 : Same H (L2.upd H3 q (.lst (([g.turns.length] ++ Sd46.pad g.board ++ [g.mover]).map nV))) := s3.upd hq
    have g4 := hga.same s4
    have q4 : L2.upd H3 q (.lst (([g.turns.length] ++ Sd46.pad g.board ++ [g.mover]).map nV)) q = some (.lst (([g.turns.length] ++ Sd46.pad g.board ++ [g.mover]).map nV)) := upd_same
    have gg4 := hg.same s4
    generalize L2.upd H3 q (.lst (([g.turns.length] ++ Sd46.pad g.board ++ [g.mover]).map nV)) = H4 at s4 g4 gg4 q4 ⊢
    refine ⟨_, rfl, .inl ⟨rfl, _, SqL.of q4⟩, _, rfl, a, dx, _, rfl, gg4.ob, gf_no (by decide +kernel), a, g, _, rfl, g4, fun H5 s5 => ⟨_, rfl, ?_⟩⟩
    have S5 := s4.trans s5
    have q5 := s5 _ _ q4
    have step : ∀ (e : Nat), (if g.ended = true then 1 else 0) = e → rAppend (.ref q) [V.int (e : Int)] H5 fun _ H6 => tSeq (tDrop (tBM K "list" rAppend (tVar 1) (tCons (tDGet (tFld K (tVar 0) "taken_off") (tC (V.int 1))) tNil))) (tSeq (tDrop (tBM K "list" rAppend (tVar 1) (tCons (tDGet (tFld K (tVar 0) "taken_off") (tC (V.int 2))) tNil))) (tRet (tVar 1))) { nx := fun _ H' => Q .non H', rt := Q } [some (.ref a), some (.ref q)] H6 := by
      intro e he
      refine ⟨q, _, _, rfl, rfl, q5, by rw [List.length_map, List.length_append, List.length_append, hpl]; exact small (by simp), ?_⟩
      rw [← List.map_singleton (f := nV) (a := e), ← List.map_append]
      have s6 : Same H (L2.upd H5 q (.lst (([g.turns.length] ++ Sd46.pad g.board ++ [g.mover] ++ [e]).map nV))) := S5.upd hq
      have g6 := hg.same s6
      have q6 : L2.upd H5 q (.lst (([g.turns.length] ++ Sd46.pad g.board ++ [g.mover] ++ [e]).map nV)) q = some (.lst (([g.turns.length] ++ Sd46.pad g.board ++ [g.mover] ++ [e]).map nV)) := upd_same
      generalize L2.upd H5 q (.lst (([g.turns.length] ++ Sd46.pad g.board ++ [g.mover] ++ [e]).map nV)) = H6 at s6 g6 q6 ⊢
      refine ⟨_, rfl, .inl ⟨rfl, _, SqL.of q6⟩, _, rfl, a, C, dx, _, _, rfl, g6.ob, G.cl, G.off, gf_off, to, _, rfl, DT_get1 g6.off, q, _, _, rfl, rfl, q6, by rw [List.length_map, List.length_append, List.length_append, List.length_append, hpl]; exact small (by simp), ?_⟩
      rw [← List.map_singleton (f := nV) (a := offs Ts 1), ← List.map_append]
      have s7 : Same H (L2.upd H6 q (.lst (([g.turns.length] ++ Sd46.pad g.board ++ [g.mover] ++ [e] ++ [offs Ts 1]).map nV))) := s6.upd hq
      have g7 := hg.same s7
      have q7 : L2.upd H6 q (.lst (([g.turns.length] ++ Sd46.pad g.board ++ [g.mover] ++ [e] ++ [offs Ts 1]).map nV)) q = some (.lst (([g.turns.length] ++ Sd46.pad g.board ++ [g.mover] ++ [e] ++ [offs Ts 1]).map nV)) := upd_same
      generalize L2.upd H6 q (.lst (([g.turns.length] ++ Sd46.pad g.board ++ [g.mover] ++ [e] ++ [offs Ts 1]).map nV)) = H7 at s7 g7 q7 ⊢
      refine ⟨_, rfl, .inl ⟨rfl, _, SqL.of q7⟩, _, rfl, a, C, dx, _, _, rfl, g7.ob, G.cl, G.off, gf_off, to, _, rfl, DT_get2 g7.off, q, _, _, rfl, rfl, q7, by rw [List.length_map, List.length_append, List.length_append, List.length_append, List.length_append, hpl]; exact small (by simp), ?_⟩
      refine ⟨_, rfl, k _ q (s7.upd hq) hq ?_⟩
      show L2.upd _ _ _ _ = _
      rw [upd_same]
      unfold boardL
      rw [lost_eq hok.hist (.inl rfl), lost_eq hok.hist (.inr rfl), he]
      show _ = some (HO.lst (V.int _ :: (nI _).map V.int))
      rw [ints_V]
      simp
    cases he : g.ended with
    | true => exact iteT (step 1 (by rw [he]; rfl))
    | false => exact iteF (step 0 (by rw [he]; rfl))
end
section
variable {P : Program} {w : World} {K : PySem.W.Frag} {mg : Str → Option Value} {base : Heap} {C : Addr}
theorem RetZ.new {H H1 : Hp} {Q : VK} {l : List Int} {q : Addr} (k : RetZ H Q l) (s : Same H H1) (hq : H1 q = none) : Q (.ref q) (L2.upd H1 q (.lst (l.map V.int))) := k _ q (s.upd (s.free hq)) (s.free hq) upd_same
abbrev s_group_answer : Stmt := top 74
theorem sc_group_answer : FnScope ["game", "x", "y", "point", "colour", "chain"] ["game", "x", "y"] (defScope s_group_answer) := ⟨rfl, rfl, rfl, by decide +kernel, rfl, by decide +kernel, by decide +kernel⟩
def groupL (g : Sd46.Game) (x y : Int) : List Int := if onB g.size x y = false then [-2] else if Sd46.at_ g.board (Sd46.pointOf g x y) = 0 then [0] else
  [((Sd46.at_ g.board (Sd46.pointOf g x y) : Nat) : Int), (((Sd46.chain g.size g.board (Sd46.pointOf g x y)).length : Nat) : Int), (((Sd46.liberties g.size g.board (Sd46.chain g.size g.board (Sd46.pointOf g x y))).length : Nat) : Int)]
def spGroup (C : Addr) : Sp := fun vs H Q _ => ∃ (a : Addr) (g : Sd46.Game) (F : List Addr) (x y : Int), vs = [.ref a, .int x, .int y] ∧ GameAt C H a g F ∧ RetZ H Q (groupL g x y)
theorem ok_group_answer (T : Txt K mg) (G : CG K C) (F : Fd K mg "group_answer" s_group_answer ["game", "x", "y"]) (M_is_on_board : Mx P w K mg base C 1 "is_on_board" ["self", "x", "y"] (spOnB C)) (M_point_at : Mx P w K mg base C 1 "point_at" ["self", "x", "y"] (spPtAt C))
    (G_part_at : Fx P w K mg base 1 "part_at" ["stones", "beside", "start", "colours"] spPart) (G_liberties : Fx P w K mg base 1 "liberties" ["stones", "beside", "chain"] spLibs) : Fx P w K mg base 2 "group_answer" ["game", "x", "y"] (spGroup C) := by
  refine F.ok sc_group_answer (fun vs H Q E h => ?_) (fun f cdv A outer s H vs Q E hr h => ?_)
  · obtain ⟨a, g, F, x, y, rfl, _⟩ := h; rfl
  · obtain ⟨a, g, F, x, y, rfl, hga, k⟩ := h
    have cG := G.cl
    obtain ⟨Ts, dx, bs, st, tu, bo, to, as, rfl, hg⟩ := id hga
    have hok := hg.ok
    have h19 := hok.hi
    have hBk := hok.board
    refine ⟨_, (pss_cons (ps_if (pt_not (pt_val (pmeth (pv 0) cG M_is_on_board (hr.mono (by decide)) (pa_cons (pv 1) (pa_cons (pv 2) pa_nil)))))
        (pss_one (ps_ret (pe_lst (pa_cons (pk T.NOT_ON_BOARD) pa_nil))))
        pss_nil)
      (pss_cons (ps_set (i := 3) sc_group_answer.nd rfl (Or.inl rfl) (pmeth (pv 0) cG M_point_at (hr.mono (by decide)) (pa_cons (pv 1) (pa_cons (pv 2) pa_nil))))
      (pss_cons (ps_set (i := 4) sc_group_answer.nd rfl (Or.inl rfl) (pe_ix ix_list (pe_fld (pv 0) rfl) (pv 3) (fun _ _ => rfl)))
      (pss_cons (ps_if (pt_cmpR op_eq (pv 4) (pk T.EMPTY) (nomark _))
        (pss_one (ps_ret (pe_lst (pa_cons (pk T.DONE) pa_nil))))
        pss_nil)
      (pss_cons (ps_set (i := 5) sc_group_answer.nd rfl (Or.inl rfl) (pcall G_part_at (hr.mono (by decide)) (pa_cons (pe_fld (pv 0) rfl) (pa_cons (pe_fld (pv 0) rfl) (pa_cons (pv 3) (pa_cons (pe_tup (pa_cons (pv 4) pa_nil)) pa_nil))))))
      (pss_one (ps_ret (pe_lst (pa_cons (pv 4) (pa_cons (pe_callB call_len_seq (by rfl) T.len PySem.boot_len (pa_cons (pv 5) pa_nil)) (pa_cons (pe_callB call_len_seq (by rfl) T.len PySem.boot_len (pa_cons (pcall G_liberties (hr.mono (by decide)) (pa_cons (pe_fld (pv 0) rfl) (pa_cons (pe_fld (pv 0) rfl) (pa_cons (pv 5) pa_nil)))) pa_nil)) pa_nil))))))))))), ?_⟩
    refine ⟨_, rfl, a, dx, _, rfl, hg.ob, gf_no (by decide +kernel), _, rfl, _, rfl, a, dx, bs, st, tu, bo, to, g.size, x, y, rfl, hg.ob, _, rfl, ?_⟩
    unfold groupL at k
    cases e : onB g.size x y with
    | false =>
      rw [if_pos e] at k
      refine iteT ⟨(by show 1 ≤ sizeLine; decide), fun q hq => ?_⟩
      exact k.new (Same.refl _) hq
    | true =>
      rw [if_neg (by rw [e]; decide)] at k
      refine iteF ?_
      obtain ⟨e1, e2⟩ := onB_point e
      refine ⟨_, rfl, a, dx, _, rfl, hg.ob, gf_no (by decide +kernel), _, rfl, _, rfl, a, dx, bs, st, tu, bo, to, g.size, x, y, rfl, hg.ob, h19, ?_⟩
      rw [e1]
      have hp : Sd46.pointOf g x y < g.size * g.size := e2
      show tSeq _ _ _ [some (.ref a), some (.int x), some (.int y), some (nV (Sd46.pointOf g x y)), none, none] H
      generalize Sd46.pointOf g x y = p at k hp ⊢
      have hB : Brd H st g.size g.board := ⟨hg.brd, hBk.len⟩
      refine ⟨_, rfl, a, C, dx, _, _, rfl, hg.ob, G.cl, G.stones, gf_stones, _, rfl, st, _, _, _, rfl, rfl, hB.sq, hB.ix hp, ?_⟩
      refine ⟨_, rfl, rfl, _, rfl, ?_⟩
      rw [show (V.int 0 : V) = nV 0 from rfl, nV_dec]
      refine ite2 (fun e0 => ?_) (fun e0 => ?_)
      · rw [if_pos (of_decide_eq_true e0)] at k
        exact ⟨(by show 1 ≤ sizeLine; decide), fun q hq => k.new (Same.refl _) hq⟩
      · have e0 := of_decide_eq_false (Bool.not_eq_true _ ▸ e0)
        rw [if_neg e0] at k
        refine ⟨_, rfl, a, C, dx, _, _, rfl, hg.ob, G.cl, G.stones, gf_stones, _, rfl, a, C, dx, _, _, rfl, hg.ob, G.cl, G.beside, gf_beside, _, rfl, _, rfl, (by show 1 ≤ sizeLine; decide), fun t ht => ?_⟩
        have s1 : Same H (L2.upd H t (.tup [nV (Sd46.at_ g.board p)])) := same_new ht
        have g1 := hg.same s1
        refine ⟨st, bs, t, g.size, p, g.board, [Sd46.at_ g.board p], rfl, hB.same s1, g1.bes, upd_same, h19, hp, fun H2 c l s2 hc hl hLN => ?_⟩
        have S2 := s1.trans s2
        have g2 := hg.same S2
        have hmem : ∀ q, q ∈ l ↔ q ∈ Sd46.chain g.size g.board p := by
          intro q
          rw [hl.2, mem_chain hp]
          have : okc g.board [Sd46.at_ g.board p] = fun q => Sd46.at_ g.board q == Sd46.at_ g.board p := by funext q; unfold okc; rw [Bool.eq_iff_iff]; simp
          rw [this]
        have hln : ∀ q ∈ l, q < g.size * g.size := fun q hq => chain_lt hp ((hmem q).mp hq)
        have el : l.length = (Sd46.chain g.size g.board p).length := same_length hl.1 (chain_nodup hp) hmem
        refine ⟨_, rfl, _, rfl, c, _, rfl, .inl (SqL.of hLN), _, rfl, a, C, dx, _, _, rfl, g2.ob, G.cl, G.stones, gf_stones, _, rfl, a, C, dx, _, _, rfl, g2.ob, G.cl, G.beside, gf_beside, _, rfl, st, bs, c, g.size, l, g.board, rfl, hB.same S2, g2.bes, h19, hLN, hln, fun H3 c2 m s3 hc2 hm hLN2 => ?_⟩
        have em : m.length = (Sd46.liberties g.size g.board (Sd46.chain g.size g.board p)).length := by
          refine same_length hm.1 libs_nodup fun q => ?_
          rw [hm.2, mem_libs]
          constructor
          · rintro ⟨h0, z, hz, hq⟩
            have hzn := hln z hz
            have hqn := near_lt hzn hq
            exact ⟨hqn, h0, z, near_symm hzn hq, (hmem z).mp hz⟩
          · rintro ⟨hqn, h0, z, hz, hzc⟩
            exact ⟨h0, z, (hmem z).mpr hzc, near_symm hqn hz⟩
        refine ⟨c2, _, rfl, .inl (SqL.of hLN2), (by show 3 ≤ sizeLine; decide), fun q hq => ?_⟩
        rw [List.length_map, List.length_map, el, em]
        exact k.new (S2.trans s3) hq
abbrev s_area_answer : Stmt := top 75
theorem sc_area_answer : FnScope ["game", "sizes"] ["game"] (defScope s_area_answer) := ⟨rfl, rfl, rfl, by decide +kernel, rfl, by decide +kernel, by decide +kernel⟩
def spAreaA (C : Addr) : Sp := fun vs H Q _ => ∃ (a : Addr) (g : Sd46.Game) (F : List Addr), vs = [.ref a] ∧ GameAt C H a g F ∧ RetZ H Q [0, ((Sd46.area g.size g.board 1 : Nat) : Int), ((Sd46.area g.size g.board 2 : Nat) : Int)]
theorem ok_area_answer (T : Txt K mg) (G : CG K C) (F : Fd K mg "area_answer" s_area_answer ["game"]) (G_areas : Fx P w K mg base 3 "areas" ["stones", "beside"] spAreas) : Fx P w K mg base 4 "area_answer" ["game"] (spAreaA C) := by
  refine F.ok sc_area_answer (fun vs H Q E h => ?_) (fun f cdv A outer s H vs Q E hr h => ?_)
  · obtain ⟨a, g, F, rfl, _⟩ := h; rfl
  · obtain ⟨a, g, F, rfl, hga, k⟩ := h
    have hu := hu_of hr
    obtain ⟨Ts, dx, bs, st, tu, bo, to, as, rfl, hg⟩ := id hga
    have hok := hg.ok
    refine ⟨_, (pss_cons (ps_set (i := 1) sc_area_answer.nd rfl (Or.inl rfl) (pcall G_areas (hr.mono (by decide)) (pa_cons (pe_fld (pv 0) rfl) (pa_cons (pe_fld (pv 0) rfl) pa_nil))))
      (pss_one (ps_ret (pe_lst (pa_cons (pk T.DONE) (pa_cons (pe_dget hu (pv 1) (pk T.BLACK) (fun _ _ => rfl)) (pa_cons (pe_dget hu (pv 1) (pk T.WHITE) (fun _ _ => rfl)) pa_nil))))))), ?_⟩
    refine ⟨_, rfl, a, C, dx, _, _, rfl, hg.ob, G.cl, G.stones, gf_stones, _, rfl, a, C, dx, _, _, rfl, hg.ob, G.cl, G.beside, gf_beside, st, bs, g.size, g.board, rfl, ⟨hg.brd, hok.board.len⟩, hg.bes, hok.hi, hok.board.le, fun H1 d s1 hd hD => ?_⟩
    refine ⟨_, rfl, d, _, rfl, DT_get1 hD, _, rfl, d, _, rfl, DT_get2 hD, (by show 3 ≤ sizeLine; decide), fun q hq => ?_⟩
    exact k.new s1 hq
abbrev s_lives_answer : Stmt := top 76
theorem sc_lives_answer : FnScope ["game", "living"] ["game"] (defScope s_lives_answer) := ⟨rfl, rfl, rfl, by decide +kernel, rfl, by decide +kernel, by decide +kernel⟩
def livesL (g : Sd46.Game) : List Int := ((((Sd46.points g.size).filter fun p => Sd46.lives g.size g.board p).length : Nat) : Int) :: nI (Sd46.pad ((Sd46.points g.size).map fun p => if Sd46.lives g.size g.board p = true then Sd46.at_ g.board p else 0))
def spLivA (C : Addr) : Sp := fun vs H Q _ => ∃ (a : Addr) (g : Sd46.Game) (F : List Addr), vs = [.ref a] ∧ GameAt C H a g F ∧ RetZ H Q (livesL g)
theorem count_zero {n : Nat} {b : Sd46.Board} : ((livB n b).countP fun x => x == 0) + ((Sd46.points n).filter fun p => Sd46.lives n b p).length = n * n := by
  unfold livB
  rw [List.countP_map, ← List.countP_eq_length_filter]
  have h1 : ((fun x => x == 0) ∘ fun p => if Sd46.lives n b p = true then Sd46.at_ b p else 0) = fun p => !Sd46.lives n b p := by
    funext p
    show ((if Sd46.lives n b p = true then Sd46.at_ b p else 0) == 0) = _
    cases e : Sd46.lives n b p with
    | false => rfl
    | true =>
      have := (lives_iff.mp e).1
      rw [if_pos rfl, Bool.eq_iff_iff]
      simp
      omega
  rw [h1]
  have := List.length_eq_countP_add_countP (fun p => Sd46.lives n b p) (l := Sd46.points n)
  have h2 : (Sd46.points n).length = n * n := by simp [Sd46.points]
  have h3 : (Sd46.points n).countP (fun a => decide ¬Sd46.lives n b a = true) = (Sd46.points n).countP (fun p => !Sd46.lives n b p) := by
    refine countP_congr' fun x _ => ?_
    cases Sd46.lives n b x <;> rfl
  omega
theorem ok_lives_answer (T : Txt K mg) (G : CG K C) (F : Fd K mg "lives_answer" s_lives_answer ["game"]) (G_living_stones : Fx P w K mg base 4 "living_stones" ["stones", "beside"] spLivS) (G_full_board : Fx P w K mg base 1 "full_board" ["points"] spFull) : Fx P w K mg base 5 "lives_answer" ["game"] (spLivA C) := by
  refine F.ok sc_lives_answer (fun vs H Q E h => ?_) (fun f cdv A outer s H vs Q E hr h => ?_)
  · obtain ⟨a, g, F, rfl, _⟩ := h; rfl
  · obtain ⟨a, g, F, rfl, hga, k⟩ := h
    obtain ⟨Ts, dx, bs, st, tu, bo, to, as, rfl, hg⟩ := id hga
    have hok := hg.ok
    have h19 := hok.hi
    have hnn : g.size * g.size ≤ 361 := by have := Nat.mul_le_mul h19 h19; omega
    have hll : (livB g.size g.board).length = g.size * g.size := by unfold livB; simp [Sd46.points]
    refine ⟨_, (pss_cons (ps_set (i := 1) sc_lives_answer.nd rfl (Or.inl rfl) (pcall G_living_stones (hr.mono (by decide)) (pa_cons (pe_fld (pv 0) rfl) (pa_cons (pe_fld (pv 0) rfl) pa_nil))))
      (pss_one (ps_ret (pe_op op_cat (pe_lst (pa_cons (pe_op op_sub (pe_callB call_len_seq (by rfl) T.len PySem.boot_len (pa_cons (pv 1) pa_nil)) (pe_bm PySem.F.plainAttrs_list PySem.F.slot_list_count PySem.F.type_list_count mt_countL (pv 1) (pa_cons (pk T.EMPTY) pa_nil))) pa_nil)) (pcall G_full_board (hr.mono (by decide)) (pa_cons (pv 1) pa_nil)))))), ?_⟩
    refine ⟨_, rfl, a, C, dx, _, _, rfl, hg.ob, G.cl, G.stones, gf_stones, _, rfl, a, C, dx, _, _, rfl, hg.ob, G.cl, G.beside, gf_beside, st, bs, g.size, g.board, rfl, ⟨hg.brd, hok.board.len⟩, hg.bes, hok.hi, hok.board.le, fun H1 d l s1 hd hl hLN => ?_⟩
    subst hl
    refine ⟨_, rfl, d, _, rfl, .inl (SqL.of hLN), _, rfl, .inl ⟨rfl, _, SqL.of hLN⟩, d, _, nV 0, rfl, rfl, SqL.of hLN, rfl, flat_nat _, _, _, rfl, rfl, (by show 1 ≤ sizeLine; decide), fun q hq => ?_⟩
    have s2 : ∀ {o : HO}, Same H (L2.upd H1 q o) := s1.upd (s1.free hq)
    refine ⟨_, rfl, d, _, rfl, upd_other hLN hq, by omega, fun H3 p m s3 hp hm hLN3 => ?_⟩
    subst hm
    have hpl : (Sd46.pad (livB g.size g.board)).length = 361 := by unfold Sd46.pad; simp; omega
    refine ⟨q, p, _, _, rfl, rfl, s3 _ _ upd_same, hLN3, by rw [show ((Sd46.pad (livB g.size g.board)).map nV).length = 361 by rw [List.length_map, hpl]]; exact smallE (by simp), fun r hr => ?_⟩
    have S3 := s2.trans s3
    have hz : ((livB g.size g.board).map nV).length = g.size * g.size := by rw [List.length_map, hll]
    have ek : livesL g = ((((livB g.size g.board).map nV).length : Int) - (((livB g.size g.board).map nV).countP fun z => eqV z (nV 0) : Nat)) :: nI (Sd46.pad (livB g.size g.board)) := by
      unfold livesL
      rw [hz, count_nat]
      have := count_zero (n := g.size) (b := g.board)
      congr 1
      omega
    rw [ek] at k
    have := k.new S3 hr
    rw [List.map_cons, ints_V] at this
    exact this
end
theorem hist_pts {n : Nat} {bs : List Sd46.Board} {ts : List (Option Nat)} {Ts : List (List Nat)} (h : Hist n bs ts Ts) : ∀ t ∈ ts, ∀ p, t = some p → p < n * n := by
  induction h with
  | new => intro t ht; cases ht
  | pass h ih =>
    intro t ht p e
    rcases List.mem_cons.mp ht with rfl | ht
    · cases e
    · exact ih t ht p e
  | play h hp _ _ _ ih =>
    intro t ht p e
    rcases List.mem_cons.mp ht with rfl | ht
    · rw [← Option.some.inj e]; exact hp
    · exact ih t ht p e
theorem Tn.get {H : Hp} {F : List Addr} {as : List Addr} {ts : List (Option Nat)} {Ts : List (List Nat)} (h : Tn H F as ts Ts) : ∀ (i : Nat) (a : Addr), as[i]? = some a → ∃ t k, ts[i]? = some t ∧ H a = some (.tup [tV t, .ref k]) := by
  induction h with
  | nil => intro i a e; simp at e
  | @cons a0 k0 t0 T0 as0 ts0 Ts0 h1 h2 h3 h4 h5 ih =>
    intro i a e
    cases i with
    | zero =>
      have : a0 = a := Option.some.inj e
      subst this
      exact ⟨t0, k0, rfl, h1⟩
    | succ i => exact ih i a e
section
variable {P : Program} {w : World} {K : PySem.W.Frag} {mg : Str → Option Value} {base : Heap} {C : Addr}
abbrev s_save_answer : Stmt := top 77
theorem sc_save_answer : FnScope ["game", "most", "record", "turn"] ["game", "most"] (defScope s_save_answer) := ⟨rfl, rfl, rfl, by decide +kernel, rfl, by decide +kernel, by decide +kernel⟩
def saveL (g : Sd46.Game) (z : Int) : List Int := if Sd46.between z 0 8192 = false then [-2] else if z < (g.record.length : Nat) then [-1] else ((g.record.length : Nat) : Int) :: nI g.record
def spSave (C : Addr) : Sp := fun vs H Q _ => ∃ (a : Addr) (g : Sd46.Game) (F : List Addr) (z : Int), vs = [.ref a, .int z] ∧ GameAt C H a g F ∧ RetZ H Q (saveL g z)
theorem turnsText_len (n : Nat) : ∀ (c : Nat) (ts : List (Option Nat)), (Sd46.turnsText n c ts).length ≤ 6 * ts.length + 1
  | _, [] => by show 1 ≤ _; omega
  | c, t :: r => by
    have h1 := turnsText_len n (Sd46.other c) r
    have h2 := text_len n c t
    show (Sd46.turnText n c t ++ Sd46.turnsText n (Sd46.other c) r).length ≤ _
    rw [List.length_append, List.length_cons]
    omega
theorem ok_save_answer (T : Txt K mg) (G : CG K C) (F : Fd K mg "save_answer" s_save_answer ["game", "most"]) (G_written : Fx P w K mg base 3 "written" ["size", "points"] spWritten) : Fx P w K mg base 4 "save_answer" ["game", "most"] (spSave C) := by
  refine F.ok sc_save_answer (fun vs H Q E h => ?_) (fun f cdv A outer s H vs Q E hr h => ?_)
  · obtain ⟨a, g, F, z, rfl, _⟩ := h; rfl
  · obtain ⟨a, g, F, z, rfl, hga, k⟩ := h
    obtain ⟨Ts, dx, bs, st, tu, bo, to, as, rfl, hg⟩ := id hga
    have hok := hg.ok
    have hmost := hok.most
    refine ⟨_, (pss_cons (ps_if (pw_or (pt_cmpR op_lt (pv 1) pe_int (nomark _)) (pw_or1 (pt_cmpR op_gt (pv 1) (pk T.MOST_BYTES) (nomark _)))).pt
        (pss_one (ps_ret (pe_lst (pa_cons (pk T.WRONG_LENGTH) pa_nil))))
        pss_nil)
      (pss_cons (ps_set (i := 2) sc_save_answer.nd rfl (Or.inl rfl) (pcall G_written (hr.mono (by decide)) (pa_cons (pe_fld (pv 0) rfl) (pa_cons (pe_lc rfl sc_save_answer.nd (pi_list (pe_fld (pv 0) rfl)) (own := [("turn", 3)]) (blkOk_by (N := ["game", "most", "record", "turn"]) (sc := defScope s_save_answer) (by decide +kernel)) (fun _ _ _ _ _ => (pg_name (i := 3) sc_save_answer.nd rfl (Or.inl rfl))) (fun _ _ _ _ _ => pts_nil) (fun _ _ _ _ _ => (pe_ix (show IxR _ (rIxT K) from ix_tup) (pv 3) pe_int (fun _ _ => rfl)))) pa_nil))))
      (pss_cons (ps_if (pt_cmpR op_gt (pe_callB call_len_seq (by rfl) T.len PySem.boot_len (pa_cons (pv 2) pa_nil)) (pv 1) (nomark _))
        (pss_one (ps_ret (pe_lst (pa_cons (pk T.RECORD_TOO_LONG) pa_nil))))
        pss_nil)
      (pss_one (ps_ret (pe_op op_cat (pe_lst (pa_cons (pe_callB call_len_seq (by rfl) T.len PySem.boot_len (pa_cons (pv 2) pa_nil)) pa_nil)) (pv 2))))))), ?_⟩
    have hbet : Sd46.between z 0 8192 = decide (0 ≤ z ∧ z ≤ 8192) := by
      unfold Sd46.between
      rw [Bool.eq_iff_iff, Bool.and_eq_true, decide_eq_true_iff, decide_eq_true_iff, decide_eq_true_iff]
      exact Iff.rfl
    unfold saveL at k
    rw [hbet] at k
    have bad : ¬ (0 ≤ z ∧ z ≤ 8192) → tLst (tCons (tC (V.int (-2))) tNil) [some (.ref a), some (.int z), none, none] H Q := fun h => by
      rw [if_pos (decide_eq_false h)] at k
      exact ⟨(by show 1 ≤ sizeLine; decide), fun q hq => k.new (Same.refl _) hq⟩
    refine ⟨_, rfl, _, _, rfl, rfl, _, rfl, ?_⟩
    refine ite2 (fun e => ?_) (fun e => ?_)
    · exact iteT (bad fun h => by have := of_decide_eq_true e; omega)
    · have e := of_decide_eq_false (Bool.not_eq_true _ ▸ e)
      refine ⟨_, rfl, _, _, rfl, rfl, _, rfl, ?_⟩
      refine ite2 (fun e2 => ?_) (fun e2 => ?_)
      · exact bad fun h => by have := of_decide_eq_true e2; omega
      · have e2 := of_decide_eq_false (Bool.not_eq_true _ ▸ e2)
        rw [if_neg (by rw [decide_eq_true (show 0 ≤ z ∧ z ≤ 8192 from ⟨by omega, by omega⟩)]; decide)] at k
        refine ⟨_, rfl, a, C, dx, _, _, rfl, hg.ob, G.cl, G.size, gf_size, ?_⟩
        refine ⟨_, rfl, a, C, dx, _, _, rfl, hg.ob, G.cl, G.turns, gf_turns, tu, rfl, ⟨_, SqL.of hg.tus⟩, fun pa hpa => ?_⟩
        have sp : ∀ {o : HO}, Same H (L2.upd H pa o) := same_new hpa
        have hal := hg.tn.len.1
        refine lc_list (xs := as.reverse.map V.ref) (fun i H' => H' = L2.upd H pa (.lst ((g.turns.reverse.take i).map tV))) rfl (fun i H' _ h => by rw [h]; exact SqL.of (sp _ _ hg.tus)) ?_ ?_
        · rintro i x _ hx rfl
          rw [List.getElem?_map] at hx
          obtain ⟨r, hr', rfl⟩ := Option.map_eq_some_iff.mp hx
          have hi : i < as.length := by have := (List.getElem?_eq_some_iff.mp hr').1; rw [List.length_reverse] at this; exact this
          rw [List.getElem?_reverse hi] at hr'
          obtain ⟨t, kk, ht, htp⟩ := hg.tn.get _ r hr'
          have ht' : g.turns.reverse[i]? = some t := by rw [List.getElem?_reverse (by omega), ← hal]; exact ht
          refine ⟨rfl, _, rfl, r, _, _, _, rfl, rfl, SqT.of (sp _ _ htp), atI_nat (j := 0) rfl, _, upd_same, by rw [List.length_map, List.length_take, List.length_reverse]; exact small (by omega), ?_⟩
          rw [upd_upd, take_snoc' ht', List.map_append]; rfl
        · rintro _ rfl
          rw [List.length_map, List.length_reverse, hal, List.take_of_length_le (by simp)]
          refine ⟨pa, g.size, g.turns.reverse, rfl, upd_same, hok.lo, hok.hi, by rw [List.length_reverse]; exact hmost, fun t ht => hist_pts hok.hist t (List.mem_reverse.mp ht), fun H2 ra l s2 hra hl hLN => ?_⟩
          have el : l = g.record := hl
          subst el
          have S2 := sp.trans s2
          have hrl : g.record.length ≤ 7000 := by
            have h1 := turnsText_len g.size 1 g.turns.reverse
            have h2 := head_len (n := g.size) (by have := hok.hi; omega)
            show (Sd46.headOf g.size ++ Sd46.turnsText g.size 1 g.turns.reverse).length ≤ _
            rw [List.length_append]
            rw [List.length_reverse] at h1
            omega
          refine ⟨_, rfl, ra, _, rfl, .inl (SqL.of hLN), _, rfl, _, _, rfl, rfl, _, rfl, ?_⟩
          rw [List.length_map]
          refine ite2 (fun e3 => ?_) (fun e3 => ?_)
          · rw [if_pos (by have := of_decide_eq_true e3; omega)] at k
            exact ⟨(by show 1 ≤ sizeLine; decide), fun q hq => k.new S2 hq⟩
          · rw [if_neg (by have := of_decide_eq_false (Bool.not_eq_true _ ▸ e3); omega)] at k
            refine ⟨_, rfl, ra, _, rfl, .inl (SqL.of hLN), (by show 1 ≤ sizeLine; decide), fun q hq => ?_⟩
            have s3 : ∀ {o : HO}, Same H (L2.upd H2 q o) := S2.upd (S2.free hq)
            refine ⟨_, rfl, q, ra, _, _, rfl, rfl, upd_same, upd_other hLN hq, by rw [show (g.record.map nV).length = g.record.length by rw [List.length_map]]; exact smallE (by simp; omega), fun r hr' => ?_⟩
            have := k.new s3 hr'
            rw [List.map_cons, ints_V] at this
            rw [List.length_map] at this ⊢
            exact this
def tf (ga : Addr) : List (Str × V) := [("game", .ref ga)]
theorem tf_game (ga : Addr) : (tf ga).lookup ("game" : Str) = some (.ref ga) := lk_eq
theorem tf_no {ga : Addr} {m : Str} (h : (m == ("game" : Str)) = false) : (tf ga).lookup m = none := by unfold tf; rw [lk_ne h]; rfl
theorem tf_put (ga gb : Addr) : putF "game" (.ref gb) (tf ga) = tf gb := putF_eq
structure CTb (K : PySem.W.Frag) (D : Addr) : Prop where
  cl : Cls K D
  game : NoAttr K D "game"
def TableAt (D C : Addr) (H : Hp) (t : Addr) (g : Sd46.Game) (F : List Addr) : Prop := ∃ (dt ga : Addr) (Fg : List Addr), F = t :: Fg ∧ H t = some (.ins D dt (tf ga)) ∧ GameAt C H ga g Fg
theorem TableAt.same {D C : Addr} {H H' : Hp} {t : Addr} {g : Sd46.Game} {F : List Addr} (h : TableAt D C H t g F) (s : Same H H') : TableAt D C H' t g F := by
  obtain ⟨dt, ga, Fg, e, h1, h2⟩ := h
  exact ⟨dt, ga, Fg, e, s _ _ h1, h2.same s⟩
theorem GameAt.apart {D C : Addr} {H : Hp} {t dt ga gb : Addr} {g : Sd46.Game} {F : List Addr} (h : GameAt C H ga g F) (ht : H t = some (.ins D dt (tf gb))) : t ∉ F := by
  obtain ⟨Ts, dx, bs, st, tu, bo, to, as, rfl, hg⟩ := h
  unfold FP
  simp only [List.mem_cons, List.not_mem_nil, or_false, not_or]
  refine ⟨?_, ?_, ?_, ?_, ?_⟩
  · exact ne_of ht hg.ob (by intro z; injection z with _ _ z; injection z with _ z; cases z)
  · exact ne_of ht hg.brd (by intro z; cases z)
  · exact ne_of ht hg.tus (by intro z; cases z)
  · exact ne_of ht hg.bds (by intro z; cases z)
  · exact ne_of ht hg.off (by intro z; cases z)
theorem GameAt.keepI {C : Addr} {H H' : Hp} {a t D dt : Addr} {fs : List (Str × V)} {g : Sd46.Game} {F : List Addr} (h : GameAt C H a g F) (ht : H t = some (.ins D dt fs)) (hat : a ≠ t) (k : ∀ b o, H b = some o → b ≠ t → H' b = some o) : GameAt C H' a g F := by
  obtain ⟨Ts, dx, bs, st, tu, bo, to, as, e, hg⟩ := h
  have ks : ∀ b o, H b = some o → isSeq o → H' b = some o := fun b o e hs => k b o e (ne_of e ht (by intro z; subst z; exact hs))
  refine ⟨Ts, dx, bs, st, tu, bo, to, as, e, k _ _ hg.ob hat, ?_, ?_, ks _ _ hg.brd True.intro, ks _ _ hg.tus True.intro, hg.tn.keep (fun b o e hs _ => ks b o e hs) (fun _ _ _ z => z), k _ _ hg.bds (ne_of hg.bds ht (by intro z; cases z)), k _ _ hg.off (ne_of hg.off ht (by intro z; cases z)), hg.stu, hg.ok⟩
  · obtain ⟨rows, b1, b2, b3⟩ := hg.bes
    exact ⟨rows, ks _ _ b1 True.intro, b2, fun q r e => ks _ _ (b3 q r e) True.intro⟩
  · refine ⟨hg.bst.1, hg.bst.2.1, fun rows e => ?_⟩
    obtain ⟨rows', b1, _⟩ := hg.bes
    rw [ks _ _ b1 True.intro] at e
    rw [← refs_inj (HO.lst.inj (Option.some.inj e))]
    exact hg.bst.2.2 rows' b1
theorem GameAt.mem {C : Addr} {H : Hp} {a : Addr} {g : Sd46.Game} {F : List Addr} (h : GameAt C H a g F) : a ∈ F := by
  obtain ⟨Ts, dx, bs, st, tu, bo, to, as, rfl, hg⟩ := h
  unfold FP; simp
variable {D : Addr}
abbrev s_Table___init__ : Stmt := inClass (top 71) 0
theorem sc_Table___init__ : FnScope ["self", "size"] ["self", "size"] (defScope s_Table___init__) := ⟨rfl, rfl, rfl, by decide +kernel, rfl, by decide +kernel, by decide +kernel⟩
def spTable (D C : Addr) : Sp := fun vs H Q _ => ∃ (t dt : Addr) (n : Nat), vs = [.ref t, nV n] ∧ H t = some (.ins D dt []) ∧ 2 ≤ n ∧ n ≤ 19 ∧ ∀ (H' : Hp) (F' : List Addr), TableAt D C H' t (Sd46.fresh n) F' → (∀ b ∈ F', b = t ∨ H b = none) → (∀ b o, H b = some o → b ≠ t → H' b = some o) → Q .non H'
theorem made_game {C : Addr} {H H' : Hp} {x dx : Addr} {F' : List Addr} (nx : H x = none) (nd : H dx = none) (hF : ∀ b ∈ F', b = x ∨ (L2.upd (L2.upd H dx (.own x)) x (.ins C dx [])) b = none) (hk : ∀ b o, (L2.upd (L2.upd H dx (.own x)) x (.ins C dx [])) b = some o → b ≠ x → H' b = some o) :
    Same H H' ∧ ∀ b ∈ F', H b = none := by
  refine ⟨Same.made nx nd hk, fun b hb => ?_⟩
  rcases hF b hb with rfl | z
  · exact nx
  · by_cases h1 : b = x
    · rw [h1]; exact nx
    · rw [upd_ne h1] at z
      by_cases h2 : b = dx
      · rw [h2]; exact nd
      · rw [upd_ne h2] at z; exact z
theorem ok_Table (T : Txt K mg) (GD : CTb K D) (F : Nd K mg D "Table" "Table.__init__" s_Table___init__ ["self", "size"]) (N_Game : Nx P w K mg base C 2 "Game" ["self", "size"] (spGame C)) : Nx P w K mg base D 4 "Table" ["self", "size"] (spTable D C) := by
  refine F.ok sc_Table___init__ (fun vs H Q E h => ?_) (fun f cdv A outer s H vs Q E hr h => ?_)
  · obtain ⟨t, dt, n, rfl, _⟩ := h; rfl
  · obtain ⟨t, dt, n, rfl, ht, h2, h19, k⟩ := h
    refine ⟨_, (pss_one (ps_fld (pv 0) (pmake N_Game (hr.mono (by decide)) (pa_cons (pv 1) pa_nil)) rfl)), ?_⟩
    refine ⟨_, rfl, fun x dx nx ndx nex => ⟨x, dx, n, rfl, upd_same, h2, h19, fun H1 F1 hG hF hk => ⟨rfl, ?_⟩⟩⟩
    obtain ⟨sm, hn⟩ := made_game nx ndx hF hk
    have ht1 := sm _ _ ht
    refine ⟨_, rfl, t, D, dt, _, rfl, ht1, GD.cl, GD.game, (by show 0 < 1000; decide), ?_⟩
    have hap : t ∉ F1 := fun z => by have := hn t z; rw [ht] at this; cases this
    refine k _ (t :: F1) ⟨dt, x, F1, rfl, upd_same, ?_⟩ (fun b hb => ?_) (fun b o e hb => upd_lst (sm b o e) hb)
    · exact hG.keepI ht1 (fun z => hap (z ▸ hG.mem)) fun b o e hb => upd_lst e hb
    · rcases List.mem_cons.mp hb with rfl | hb
      · exact .inl rfl
      · exact .inr (hn b hb)
end
theorem for_enum1 {K : PySem.W.Frag} {a : Addr} {xs : List V} {g : TG} {tb : TS} {D : Ends} {σ : L2.St} {H : Hp} (Pv : Nat → L2.St → Hp → Prop) (h0 : Pv 0 σ H) (hl : ∀ i σ H, Pv i σ H → H a = some (.lst xs))
    (hs : ∀ i x T σ H, xs[i]? = some x → H T = none → Pv i σ H → g (.ref T) σ (L2.upd H T (.tup [nV (i + 1), x])) fun σ2 H2 => tb { D with nx := Pv (i + 1), ct := Pv (i + 1), bk := D.nx } σ2 H2) (hd : ∀ σ H, Pv xs.length σ H → D.nx σ H) :
    ∃ W : Nat → Nat → L2.St → Hp → Prop, (∃ m, W 0 m σ H) ∧ ∀ i m σ H, W i m σ H →
      ((Ite1 K a).stop i H ∧ D.nx σ H) ∨ ((Ite1 K a).go i H ∧ ∃ N : L2.St → Hp → Prop, (∀ σ' H', N σ' H' → ∃ m', m' < m ∧ W (i + 1) m' σ' H') ∧ ∀ x H', (Ite1 K a).yld i H x H' → g x σ H' fun σ2 H2 => tb { D with nx := N, ct := N, bk := D.nx } σ2 H2) := by
  refine ⟨fun i m σ H => m = xs.length - i ∧ i ≤ xs.length ∧ Pv i σ H, ⟨xs.length, by simp, Nat.zero_le _, h0⟩, ?_⟩
  rintro i m σ H ⟨rfl, hi, p⟩
  have q := hl i σ H p
  by_cases hlt : i < xs.length
  · have e : xs[i]? = some xs[i] := List.getElem?_eq_getElem hlt
    refine .inr ⟨⟨xs, xs[i], SqL.of q, e⟩, Pv (i + 1), fun σ' H' p' => ⟨xs.length - (i + 1), by omega, rfl, hlt, p'⟩, ?_⟩
    rintro v H' ⟨T, x, rfl, hT, rfl, hx⟩
    exact hs i x T σ H (hx _ (SqL.of q)) hT p
  · have e : i = xs.length := by omega
    subst e
    exact .inl ⟨⟨xs, SqL.of q, Nat.le_refl _⟩, hd σ H p⟩
theorem code_ne (w : Sd46.No) : ¬ V.int (Sd46.code w) = V.int 0 := by
  intro z
  have := V.int.inj z
  cases w <;> cases this
theorem turn_size {g g' : Sd46.Game} {t : Option Nat} (h : g.turn t = .ok g') : g'.size = g.size := by
  unfold Sd46.Game.turn at h
  split at h
  · cases h
  · split at h
    · cases h
    · cases t with
      | none => cases h; rfl
      | some p =>
        simp only [] at h
        split at h
        · cases h
        · split at h
          · cases h
          · split at h
            · cases h
            · cases h; rfl
section
variable {P : Program} {w : World} {K : PySem.W.Frag} {mg : Str → Option Value} {base : Heap} {C D : Addr}
abbrev s_Table_load : Stmt := inClass (top 71) 1
theorem sc_Table_load : FnScope ["self", "record", "size", "points", "game", "number", "point"] ["self", "record"] (defScope s_Table_load) := ⟨rfl, rfl, rfl, by decide +kernel, rfl, by decide +kernel, by decide +kernel⟩
def Loaded (D C : Addr) (H : Hp) (Q : VK) (t : Addr) (F : List Addr) (s : List Nat) : Prop := match Sd46.recordRead s with
  | none => ∀ H', Same H H' → Q (.int (-1)) H'
  | some x => match Sd46.taken 1 (Sd46.fresh x.1) x.2 with
    | .ok g' => ∀ (H' : Hp) (F' : List Addr), TableAt D C H' t g' F' → Frame H H' F F' → Q (.int (x.2.length : Nat)) H'
    | .error k => ∀ H', Same H H' → Q (.int (-100 - ((k : Nat) : Int))) H'
def spLoad (D C : Addr) : Sp := fun vs H Q _ => ∃ (t ra : Addr) (g : Sd46.Game) (F : List Addr) (s : List Nat), vs = [.ref t, .ref ra] ∧ TableAt D C H t g F ∧ LN H ra s ∧ s.length ≤ 8192 ∧ Loaded D C H Q t F s
theorem ok_load (T : Txt K mg) (G : CG K C) (GD : CTb K D) (F : Md K D "load" "Table.load" s_Table_load ["self", "record"]) (G_size_read : Fx P w K mg base 3 "size_read" ["record"] spSize) (G_points_read : Fx P w K mg base 4 "points_read" ["size", "record"] spPtsR)
    (N_Game : Nx P w K mg base C 2 "Game" ["self", "size"] (spGame C)) (M_take_turn : Mx P w K mg base C 4 "take_turn" ["self", "point"] (spTake C)) : Mx P w K mg base D 5 "load" ["self", "record"] (spLoad D C) := by
  refine F.ok sc_Table_load (fun vs H Q E h => ?_) (fun f cdv A outer s H vs Q E hr h => ?_)
  · obtain ⟨t, ra, g, F, s, rfl, _⟩ := h; rfl
  · obtain ⟨t, ra, g, F, b, rfl, hta, hra, hbl, k⟩ := h
    have cG := G.cl
    obtain ⟨dt, ga, Fg, rfl, ht, hga⟩ := id hta
    refine ⟨_, (pss_cons (ps_if (pt_cmpR op_gt (pe_callB call_len_seq (by rfl) T.len PySem.boot_len (pa_cons (pv 1) pa_nil)) (pk T.MOST_BYTES) (nomark _))
        (pss_one (ps_ret (pk T.WRONG_LENGTH)))
        pss_nil)
      (pss_cons (ps_set (i := 2) sc_Table_load.nd rfl (Or.inl rfl) (pcall G_size_read (hr.mono (by decide)) (pa_cons (pv 1) pa_nil)))
      (pss_cons (ps_if (pt_cmp (pc_isN (pv 2)))
        (pss_one (ps_ret (pk T.NO_RECORD)))
        pss_nil)
      (pss_cons (ps_set (i := 3) sc_Table_load.nd rfl (Or.inl rfl) (pcall G_points_read (hr.mono (by decide)) (pa_cons (pv 2) (pa_cons (pv 1) pa_nil))))
      (pss_cons (ps_if (pt_cmp (pc_isN (pv 3)))
        (pss_one (ps_ret (pk T.NO_RECORD)))
        pss_nil)
      (pss_cons (ps_set (i := 4) sc_Table_load.nd rfl (Or.inl rfl) (pmake N_Game (hr.mono (by decide)) (pa_cons (pv 2) pa_nil)))
      (pss_cons (ps_for PassesOwn.never rfl (pi_enum1 rfl T.enumerate (pa_cons (pv 3) pa_nil)) (pg_tup rfl (pgs_cons (pg_name (i := 5) sc_Table_load.nd rfl (Or.inl rfl)) (pgs_cons (pg_name (i := 6) sc_Table_load.nd rfl (Or.inl rfl)) pgs_nil)))
        (pss_one (ps_if (pt_cmpR op_ne (pmeth (pv 4) cG M_take_turn (hr.mono (by decide)) (pa_cons (pv 6) pa_nil)) (pk T.DONE) (nomark _))
        (pss_one (ps_ret (pe_op op_sub (pk T.TURN_REFUSED) (pv 5))))
        pss_nil)))
      (pss_cons (ps_fld (pv 0) (pv 4) rfl)
      (pss_one (ps_ret (pe_callB call_len_seq (by rfl) T.len PySem.boot_len (pa_cons (pv 3) pa_nil)))))))))))), ?_⟩
    refine ⟨_, rfl, ra, _, rfl, .inl (SqL.of hra), _, _, rfl, rfl, _, rfl, ?_⟩
    rw [List.length_map, decide_eq_false (by omega)]
    refine iteF ?_
    refine ⟨_, rfl, ra, b, rfl, hra, fun n h2 h19 hpre H1 s1 => ?_, fun hno H1 s1 => ?_⟩
    case refine_2 =>
      refine ⟨_, rfl, _, rfl, ?_⟩
      refine iteT ?_
      unfold Loaded at k
      rw [recordRead_head hno] at k
      exact k _ s1
    refine ⟨_, rfl, _, rfl, ?_⟩
    rw [decide_eq_false (show ¬ nV n = V.non by intro z; cases z)]
    refine iteF ?_
    have eb : b = Sd46.headOf n ++ b.drop (Sd46.headOf n).length := by
      obtain ⟨v, rfl⟩ := hpre
      rw [List.drop_left]
    refine ⟨_, rfl, _, rfl, ra, n, b, rfl, s1 _ _ hra, h2, h19, by omega, fun l hl H2 pa s2 hpa hP => ?_, fun hno H2 s2 => ?_⟩
    case refine_2 =>
      refine ⟨_, rfl, _, rfl, ?_⟩
      refine iteT ?_
      unfold Loaded at k
      rw [recordRead_none h2 h19 eb hno] at k
      exact k _ (s1.trans s2)
    refine ⟨_, rfl, _, rfl, ?_⟩
    rw [decide_eq_false (show ¬ V.ref pa = V.non by intro z; cases z)]
    refine iteF ?_
    have S2 := s1.trans s2
    unfold Loaded at k
    rw [recordRead_some h2 h19 eb hl] at k
    simp only [] at k
    have hval : ∀ o ∈ l, ∀ p, o = some p → p < n * n := fun o ho p e => hl.points p (e ▸ ho)
    refine ⟨_, rfl, fun x dx nx ndx nex => ⟨x, dx, n, rfl, upd_same, h2, h19, fun H3 F3 hG hF hk => ⟨rfl, ?_⟩⟩⟩
    obtain ⟨s3, hn3⟩ := made_game nx ndx hF hk
    have S3 := S2.trans s3
    have hP3 := s3 _ _ hP
    have hpF : pa ∉ F3 := fun z => by have := hn3 pa z; rw [hP] at this; cases this
    refine ⟨_, rfl, pa, _, rfl, SqL.of hP3, ?_⟩
    refine for_enum1 (xs := l.map tV) (fun i σ H' => ∃ (gi : Sd46.Game) (Fi : List Addr) (v v' : Option V), σ = [some (.ref t), some (.ref ra), some (nV n), some (.ref pa), some (.ref x), v, v'] ∧ GameAt C H' x gi Fi ∧ (∀ c ∈ Fi, H c = none) ∧ pa ∉ Fi ∧ Same H H' ∧ H' pa = some (.lst (l.map tV)) ∧ gi.size = n ∧ Sd46.taken 1 (Sd46.fresh n) l = Sd46.taken (1 + i) gi (l.drop i))
      ⟨_, F3, _, _, rfl, hG, fun c hc => S2.free (hn3 c hc), hpF, S3, hP3, rfl, rfl⟩ (fun i σ H' ⟨_, _, _, _, _, _, _, _, _, z, _⟩ => z) ?_ ?_
    · rintro i y tp σ H4 hy htp ⟨gi, Fi, v, v', rfl, hGi, hFi, hpi, sm, hP4, hsz, htk⟩
      rw [List.getElem?_map] at hy
      obtain ⟨o, ho, rfl⟩ := Option.map_eq_some_iff.mp hy
      have s5 : Same H4 (L2.upd H4 tp (.tup [nV (i + 1), tV o])) := same_new htp
      have hG5 := hGi.same s5
      obtain ⟨Ts5, dx5, bs5, st5, tu5, bo5, to5, as5, eF5, hg5⟩ := id hG5
      have edr : l.drop i = o :: l.drop (i + 1) := by
        obtain ⟨h1, h2⟩ := List.getElem?_eq_some_iff.mp ho
        rw [List.drop_eq_getElem_cons h1, h2]
      rw [edr] at htk
      refine ⟨tp, _, rfl, SqT.of upd_same, rfl, _, _, rfl, _, _, rfl, rfl, ?_⟩
      refine ⟨_, rfl, x, dx5, _, rfl, hg5.ob, gf_no (by decide +kernel), _, rfl, x, gi, Fi, o, rfl, hG5, fun p hp => by rw [hsz]; exact hval o (List.mem_of_getElem? ho) p hp, ?_⟩
      unfold Turned
      cases et : gi.turn o with
      | ok g' =>
        intro H6 F6 hG6 hfr
        refine ⟨rfl, _, rfl, ?_⟩
        refine iteNS rfl ?_
        have hP5 := s5 _ _ hP4
        refine ⟨g', F6, _, _, rfl, hG6, fun c hc => ?_, fun z => ?_, fun c u e => ?_, hfr.2 _ _ hP5 hpi, ?_, ?_⟩
        · rcases hfr.1 c hc with z | z
          · exact hFi c z
          · exact (sm.trans s5).free z
        · rcases hfr.1 pa z with z | z
          · exact hpi z
          · rw [hP5] at z; cases z
        · exact hfr.2 c u (s5 _ _ (sm c u e)) fun z => by have := hFi c z; rw [e] at this; cases this
        · rw [← hsz]
          exact turn_size et
        · rw [htk]
          show (match gi.turn o with | .ok h => Sd46.taken (1 + i + 1) h (l.drop (i + 1)) | .error _ => .error (1 + i)) = _
          rw [et]; rfl
      | error wr =>
        intro H6 s6
        refine ⟨rfl, _, rfl, ?_⟩
        rw [decide_eq_false (code_ne wr)]
        refine iteT ?_
        have ek : Sd46.taken 1 (Sd46.fresh n) l = .error (1 + i) := by
          rw [htk]
          show (match gi.turn o with | .ok h => Sd46.taken (1 + i + 1) h (l.drop (i + 1)) | .error _ => .error (1 + i)) = _
          rw [et]
        rw [ek] at k
        refine ⟨_, rfl, _, _, rfl, rfl, ?_⟩
        have := k _ ((sm.trans s5).trans s6)
        rw [Nat.add_comm 1 i] at this
        exact this
    · rintro σ H4 ⟨gi, Fi, v, v', rfl, hGi, hFi, hpi, sm, hP4, hsz, htk⟩
      rw [List.length_map] at htk
      rw [List.drop_length] at htk
      have ek : Sd46.taken 1 (Sd46.fresh n) l = .ok gi := htk
      rw [ek] at k
      have ht4 := sm _ _ ht
      refine ⟨_, rfl, _, rfl, t, D, dt, _, rfl, ht4, GD.cl, GD.game, (by show 1 < 1000; decide), ?_⟩
      rw [tf_put]
      have ntp : pa ≠ t := fun e => by rw [e, ht4] at hP4; cases hP4
      refine ⟨_, rfl, pa, _, rfl, .inl (SqL.of (upd_lst hP4 ntp)), ?_⟩
      rw [List.length_map]
      have htF : t ∉ Fi := fun z => by have := hFi t z; rw [ht] at this; cases this
      refine k _ (t :: Fi) ⟨dt, x, Fi, rfl, upd_same, hGi.keepI ht4 (fun z => htF (z ▸ hGi.mem)) fun c u e hc => upd_lst e hc⟩ ⟨fun c hc => ?_, fun c u e hc => ?_⟩
      · rcases List.mem_cons.mp hc with rfl | hc
        · exact .inl (by simp)
        · exact .inr (hFi c hc)
      · exact upd_lst (sm c u e) fun z => hc (by rw [z]; simp)
end
inductive CallH : Int → List Int → CL → Prop where
  | play (x y : Int) : CallH 1 [x, y] [[1, x, y]]
  | pass : CallH 2 [] [[2]]
  | undo : CallH 3 [] [[3]]
  | board : CallH 4 [] [[4]]
  | group (x y : Int) : CallH 5 [x, y] [[5, x, y]]
  | area : CallH 6 [] [[6]]
  | lives : CallH 7 [] [[7]]
  | load (b : List Int) : CallH 8 ((b.length : Int) :: b) [[8], b]
  | save (m : Int) : CallH 9 [m] [[9, m]]
theorem callH_of {p : Int} {r t : List Int} {c : CL} (h : CallIs (p :: r) c t) (hn : ∀ n, c ≠ [[0, n]]) : ∃ hs, CallH p hs c ∧ r = hs ++ t := by
  cases h with
  | begin n => exact absurd rfl (hn n)
  | play x y => exact ⟨_, .play x y, rfl⟩
  | pass => exact ⟨_, .pass, rfl⟩
  | undo => exact ⟨_, .undo, rfl⟩
  | board => exact ⟨_, .board, rfl⟩
  | group x y => exact ⟨_, .group x y, rfl⟩
  | area => exact ⟨_, .area, rfl⟩
  | lives => exact ⟨_, .lives, rfl⟩
  | load b => exact ⟨_, .load b, rfl⟩
  | save m => exact ⟨_, .save m, rfl⟩
theorem onBoard_eq {g : Sd46.Game} (h : 2 ≤ g.size) (x y : Int) : Sd46.onBoard g x y = onB g.size x y := by
  unfold Sd46.onBoard Sd46.between onB
  rw [Bool.eq_iff_iff]
  simp only [Bool.and_eq_true, decide_eq_true_iff]
  omega
theorem stp_play {g : Sd46.Game} (h : 2 ≤ g.size) (x y : Int) : stp (some g) (PySd46.whole [[1, x, y]]) = if onB g.size x y = false then (some g, [-2]) else match g.turn (some (Sd46.pointOf g x y)) with
    | .ok g' => (some g', [0])
    | .error w => (some g, [Sd46.code w]) := by
  show ((Sd46.does (some g) (.play x y)).1, (Sd46.does (some g) (.play x y)).2.v :: Sd46Neutral.ints (Sd46.does (some g) (.play x y)).2.nums) = _
  unfold Sd46.does
  rw [← onBoard_eq h x y]
  by_cases e : Sd46.onBoard g x y = false
  · simp only [if_pos e]; rfl
  · simp only [if_neg e]
    cases g.turn (some (Sd46.pointOf g x y)) <;> rfl
theorem stp_pass (g : Sd46.Game) : stp (some g) (PySd46.whole [[2]]) = match g.turn none with
    | .ok g' => (some g', [0])
    | .error w => (some g, [Sd46.code w]) := by
  show ((Sd46.does (some g) .pass).1, (Sd46.does (some g) .pass).2.v :: Sd46Neutral.ints (Sd46.does (some g) .pass).2.nums) = _
  unfold Sd46.does
  simp only []
  cases g.turn none <;> rfl
theorem stp_undo (g : Sd46.Game) : stp (some g) (PySd46.whole [[3]]) = if g.turns = [] then (some g, [-3]) else (some g.back, [0]) := by
  show ((Sd46.does (some g) .undo).1, (Sd46.does (some g) .undo).2.v :: Sd46Neutral.ints (Sd46.does (some g) .undo).2.nums) = _
  unfold Sd46.does
  by_cases e : g.turns = []
  · simp only [if_pos e]; rfl
  · simp only [if_neg e]; rfl
theorem stp_board (g : Sd46.Game) : stp (some g) (PySd46.whole [[4]]) = (some g, boardL g) := rfl
theorem stp_group {g : Sd46.Game} (h : 2 ≤ g.size) (x y : Int) : stp (some g) (PySd46.whole [[5, x, y]]) = (some g, groupL g x y) := by
  show ((Sd46.does (some g) (.group x y)).1, (Sd46.does (some g) (.group x y)).2.v :: Sd46Neutral.ints (Sd46.does (some g) (.group x y)).2.nums) = _
  unfold Sd46.does groupL
  rw [← onBoard_eq h x y]
  by_cases e : Sd46.onBoard g x y = false
  · simp only [if_pos e]; rfl
  · simp only [if_neg e]
    by_cases e2 : Sd46.at_ g.board (Sd46.pointOf g x y) = 0
    · simp only [if_pos e2]; rfl
    · simp only [if_neg e2]; rfl
theorem stp_area (g : Sd46.Game) : stp (some g) (PySd46.whole [[6]]) = (some g, [0, ((Sd46.area g.size g.board 1 : Nat) : Int), ((Sd46.area g.size g.board 2 : Nat) : Int)]) := rfl
theorem stp_lives (g : Sd46.Game) : stp (some g) (PySd46.whole [[7]]) = (some g, livesL g) := rfl
theorem stp_save (g : Sd46.Game) (z : Int) : stp (some g) (PySd46.whole [[9, z]]) = (some g, saveL g z) := by
  show ((Sd46.does (some g) (.save z)).1, (Sd46.does (some g) (.save z)).2.v :: Sd46Neutral.ints (Sd46.does (some g) (.save z)).2.nums) = _
  unfold Sd46.does saveL
  show _ = (some g, if Sd46.between z 0 Sd46.TEXT = false then [-2] else _)
  by_cases e : Sd46.between z 0 Sd46.TEXT = false
  · simp only [if_pos e]; rfl
  · simp only [if_neg e]
    by_cases e2 : z < (g.record.length : Nat)
    · simp only [if_pos e2]; rfl
    · simp only [if_neg e2]
theorem stp_load {g : Sd46.Game} {b : List Int} (hl : b.length ≤ 8192) : stp (some g) (PySd46.whole [[8], b]) = match Sd46.recordRead (Sd46Neutral.nats b) with
    | none => (some g, [-1])
    | some x => match Sd46.taken 1 (Sd46.fresh x.1) x.2 with
      | .ok g' => (some g', [((x.2.length : Nat) : Int)])
      | .error k => (some g, [-100 - ((k : Nat) : Int)]) := by
  show ((Sd46.does (some g) (.load (Sd46Neutral.nats b) (b.length : Int))).1, (Sd46.does (some g) (.load (Sd46Neutral.nats b) (b.length : Int))).2.v :: Sd46Neutral.ints (Sd46.does (some g) (.load (Sd46Neutral.nats b) (b.length : Int))).2.nums) = _
  unfold Sd46.does
  have hb : ¬ Sd46.between (b.length : Int) 0 Sd46.TEXT = false := by
    unfold Sd46.between Sd46.TEXT
    simp
    omega
  simp only [if_neg hb]
  cases Sd46.recordRead (Sd46Neutral.nats b) with
  | none => rfl
  | some x =>
    simp only []
    cases Sd46.taken 1 (Sd46.fresh x.1) x.2 <;> rfl
theorem asked_load {b : List Int} (h : Sd46Neutral.asked1 (PySd46.whole [[8], b]) = true) : b.length ≤ 8192 ∧ nI (Sd46Neutral.nats b) = b := by
  have h : (Sd46Neutral.whole32 (b.length : Int) && ((b.all fun z => Sd46Neutral.natural z 8) && Sd46Neutral.long b (b.length : Int) 0 8192)) = true := h
  rw [Bool.and_eq_true, Bool.and_eq_true] at h
  obtain ⟨_, h1, h2⟩ := h
  unfold Sd46Neutral.long at h2
  have h2 := of_decide_eq_true h2
  refine ⟨?_, ?_⟩
  · split at h2 <;> omega
  · unfold nI Sd46Neutral.ints Sd46Neutral.nats
    rw [List.map_map]
    have : ∀ z ∈ b, ((fun (x : Nat) => (x : Int)) ∘ Int.toNat) z = z := by
      intro z hz
      have := List.all_eq_true.mp h1 z hz
      unfold Sd46Neutral.natural at this
      rw [Bool.and_eq_true, decide_eq_true_iff] at this
      show ((z.toNat : Nat) : Int) = z
      omega
    rw [List.map_congr_left this]; simp
theorem GameAt.there {C : Addr} {H : Hp} {a : Addr} {g : Sd46.Game} {F : List Addr} (h : GameAt C H a g F) : ∀ b ∈ F, ∃ o, H b = some o := by
  obtain ⟨Ts, dx, bs, st, tu, bo, to, as, rfl, hg⟩ := h
  intro b hb
  unfold FP at hb
  simp at hb
  rcases hb with rfl | rfl | rfl | rfl | rfl
  · exact ⟨_, hg.ob⟩
  · exact ⟨_, hg.brd⟩
  · exact ⟨_, hg.tus⟩
  · exact ⟨_, hg.bds⟩
  · exact ⟨_, hg.off⟩
theorem TableAt.there {D C : Addr} {H : Hp} {t : Addr} {g : Sd46.Game} {F : List Addr} (h : TableAt D C H t g F) : ∀ b ∈ F, ∃ o, H b = some o := by
  obtain ⟨dt, ga, Fg, rfl, h1, h2⟩ := h
  intro b hb
  rcases List.mem_cons.mp hb with rfl | hb
  · exact ⟨_, h1⟩
  · exact h2.there b hb
def Stepped (D C : Addr) (H : Hp) (Q : VK) (t : Addr) (F : List Addr) (g : Sd46.Game) (c : CL) : Prop := ∀ (H' : Hp) (F' : List Addr) (q : Addr) (g' : Sd46.Game), (stp (some g) (PySd46.whole c)).1 = some g' → TableAt D C H' t g' F' → Frame H H' F F' → (∀ b o, H b = some o → b ∉ F → q ≠ b) → q ∉ F' → LZ H' q (stp (some g) (PySd46.whole c)).2 → Q (.ref q) H'
theorem Stepped.same {D C : Addr} {H : Hp} {Q : VK} {t : Addr} {F : List Addr} {g : Sd46.Game} {c : CL} {l : List Int} (k : Stepped D C H Q t F g c) (e : stp (some g) (PySd46.whole c) = (some g, l)) (hta : TableAt D C H t g F) : RetZ H Q l := by
  intro H' q s hq hl
  refine k H' F q g (by rw [e]) (hta.same s) (Same.frame s) (fun b o e _ => (ne_of_none e hq).symm) (fun z => ?_) (by rw [e]; exact hl)
  obtain ⟨o, ho⟩ := hta.there q z
  rw [hq] at ho; cases ho
theorem Stepped.one {D C : Addr} {H : Hp} {Q : VK} {t : Addr} {F : List Addr} {g : Sd46.Game} {c : CL} {z : Int} (k : Stepped D C H Q t F g c) (e : stp (some g) (PySd46.whole c) = (some g, [z])) (hta : TableAt D C H t g F) {H1 : Hp} (s : Same H H1) : [V.int z].length ≤ sizeLine ∧ ∀ q, H1 q = none → Q (.ref q) (L2.upd H1 q (.lst [V.int z])) :=
  ⟨by show 1 ≤ sizeLine; decide, fun _ hq => (k.same e hta).new s hq⟩
theorem Stepped.tab {D C : Addr} {H : Hp} {Q : VK} {t : Addr} {F : List Addr} {g g' : Sd46.Game} {c : CL} {z : Int} (k : Stepped D C H Q t F g c) (e : stp (some g) (PySd46.whole c) = (some g', [z])) {H1 : Hp} {F1 : List Addr} (h1 : TableAt D C H1 t g' F1) (hf : Frame H H1 F F1) : [V.int z].length ≤ sizeLine ∧ ∀ q, H1 q = none → Q (.ref q) (L2.upd H1 q (.lst [V.int z])) := by
  refine ⟨by show 1 ≤ sizeLine; decide, fun q hq => ?_⟩
  have s1 : Same H1 (L2.upd H1 q (.lst [V.int z])) := same_new hq
  have hqF1 : q ∉ F1 := fun y => by obtain ⟨o, ho⟩ := h1.there q y; rw [hq] at ho; cases ho
  exact k _ F1 q g' (by rw [e]) (h1.same s1) (hf.trans (Same.frame s1)) (fun b o eb hb => (ne_of_none (hf.2 b o eb hb) hq).symm) hqF1 (by rw [e]; exact upd_same)
theorem Stepped.game {D C : Addr} {H : Hp} {Q : VK} {t dt ga : Addr} {Fg : List Addr} {g g' : Sd46.Game} {c : CL} {z : Int} (k : Stepped D C H Q t (t :: Fg) g c) (e : stp (some g) (PySd46.whole c) = (some g', [z])) (ht : H t = some (.ins D dt (tf ga))) (hg : GameAt C H ga g Fg) {H1 : Hp} {F1 : List Addr} (h1 : GameAt C H1 ga g' F1) (hf : Frame H H1 Fg F1) :
    [V.int z].length ≤ sizeLine ∧ ∀ q, H1 q = none → Q (.ref q) (L2.upd H1 q (.lst [V.int z])) := by
  have hap := hg.apart ht
  refine k.tab e (F1 := t :: F1) ⟨dt, ga, F1, rfl, hf.2 _ _ ht hap, h1⟩ ⟨fun b hb => ?_, fun b o eb hb => ?_⟩
  · rcases List.mem_cons.mp hb with rfl | hb
    · exact .inl (by simp)
    · rcases hf.1 b hb with z | z
      · exact .inl (by simp [z])
      · exact .inr z
  · simp at hb
    exact hf.2 b o eb hb.2
theorem Stepped.turned {D C : Addr} {H : Hp} {Q : VK} {t dt ga : Addr} {Fg : List Addr} {g : Sd46.Game} {c : CL} {o : Option Nat} (k : Stepped D C H Q t (t :: Fg) g c) (e : stp (some g) (PySd46.whole c) = match g.turn o with | .ok g' => (some g', [0]) | .error w => (some g, [Sd46.code w])) (ht : H t = some (.ins D dt (tf ga))) (hg : GameAt C H ga g Fg) :
    Turned C H (fun v H1 => [v].length ≤ sizeLine ∧ ∀ q, H1 q = none → Q (.ref q) (L2.upd H1 q (.lst [v]))) ga g Fg o := by
  unfold Turned
  cases et : g.turn o with
  | ok g' =>
    rw [et] at e
    exact fun H1 F1 h1 hf => k.game e ht hg h1 hf
  | error w =>
    rw [et] at e
    exact fun H1 s1 => k.one e ⟨dt, ga, Fg, rfl, ht, hg⟩ s1
section
variable {P : Program} {w : World} {K : PySem.W.Frag} {mg : Str → Option Value} {base : Heap} {C D : Addr}
abbrev s_told : Stmt := top 78
theorem sc_told : FnScope ["game", "call", "handed"] ["game", "call", "handed"] (defScope s_told) := ⟨rfl, rfl, rfl, by decide +kernel, rfl, by decide +kernel, by decide +kernel⟩
def spTold (C : Addr) : Sp := fun vs H Q _ => ∃ (a ha : Addr) (g : Sd46.Game) (F : List Addr) (c : Int) (hs : List Int), vs = [.ref a, .int c, .ref ha] ∧ GameAt C H a g F ∧ LZ H ha hs ∧
  ((c = 4 ∧ RetZ H Q (boardL g)) ∨ (c = 5 ∧ ∃ x y, hs = [x, y] ∧ RetZ H Q (groupL g x y)) ∨ (c = 6 ∧ RetZ H Q [0, ((Sd46.area g.size g.board 1 : Nat) : Int), ((Sd46.area g.size g.board 2 : Nat) : Int)]) ∨ (c = 7 ∧ RetZ H Q (livesL g)) ∨ (c = 9 ∧ ∃ z, hs = [z] ∧ RetZ H Q (saveL g z)))
theorem ok_told (T : Txt K mg) (F : Fd K mg "told" s_told ["game", "call", "handed"]) (G_board_answer : Fx P w K mg base 2 "board_answer" ["game"] (spBoard C)) (G_group_answer : Fx P w K mg base 2 "group_answer" ["game", "x", "y"] (spGroup C)) (G_area_answer : Fx P w K mg base 4 "area_answer" ["game"] (spAreaA C))
    (G_lives_answer : Fx P w K mg base 5 "lives_answer" ["game"] (spLivA C)) (G_save_answer : Fx P w K mg base 4 "save_answer" ["game", "most"] (spSave C)) : Fx P w K mg base 6 "told" ["game", "call", "handed"] (spTold C) := by
  refine F.ok sc_told (fun vs H Q E h => ?_) (fun f cdv A outer s H vs Q E hr h => ?_)
  · obtain ⟨a, ha, g, F, c, hs, rfl, _⟩ := h; rfl
  · obtain ⟨a, ha, g, F, c, hs, rfl, hga, hha, k⟩ := h
    refine ⟨_, (pss_cons (ps_if (pt_cmpR op_eq (pv 1) (pk T.BOARD) (nomark _))
        (pss_one (ps_ret (pcall G_board_answer (hr.mono (by decide)) (pa_cons (pv 0) pa_nil))))
        pss_nil)
      (pss_cons (ps_if (pt_cmpR op_eq (pv 1) (pk T.GROUP) (nomark _))
        (pss_one (ps_ret (pcall G_group_answer (hr.mono (by decide)) (pa_cons (pv 0) (pa_cons (pe_ix ix_list (pv 2) pe_int (fun _ _ => rfl)) (pa_cons (pe_ix ix_list (pv 2) pe_int (fun _ _ => rfl)) pa_nil))))))
        pss_nil)
      (pss_cons (ps_if (pt_cmpR op_eq (pv 1) (pk T.AREA) (nomark _))
        (pss_one (ps_ret (pcall G_area_answer (hr.mono (by decide)) (pa_cons (pv 0) pa_nil))))
        pss_nil)
      (pss_cons (ps_if (pt_cmpR op_eq (pv 1) (pk T.LIVES) (nomark _))
        (pss_one (ps_ret (pcall G_lives_answer (hr.mono (by decide)) (pa_cons (pv 0) pa_nil))))
        pss_nil)
      (pss_one (ps_ret (pcall G_save_answer (hr.mono (by decide)) (pa_cons (pv 0) (pa_cons (pe_ix ix_list (pv 2) pe_int (fun _ _ => rfl)) pa_nil))))))))), ?_⟩
    rcases k with ⟨rfl, k⟩ | ⟨rfl, x, y, rfl, k⟩ | ⟨rfl, k⟩ | ⟨rfl, k⟩ | ⟨rfl, z, rfl, k⟩
    · exact ⟨_, rfl, rfl, _, rfl, iteT ⟨_, rfl, a, g, F, rfl, hga, k⟩⟩
    · refine ⟨_, rfl, rfl, _, rfl, iteF ?_⟩
      exact ⟨_, rfl, rfl, _, rfl, iteT ⟨_, rfl, _, rfl, ha, _, _, _, rfl, rfl, SqL.of hha, atI_nat (j := 0) rfl, _, rfl, ha, _, _, _, rfl, rfl, SqL.of hha, atI_nat (j := 1) rfl, a, g, F, x, y, rfl, hga, k⟩⟩
    · refine ⟨_, rfl, rfl, _, rfl, iteF ?_⟩
      refine ⟨_, rfl, rfl, _, rfl, iteF ?_⟩
      exact ⟨_, rfl, rfl, _, rfl, iteT ⟨_, rfl, a, g, F, rfl, hga, k⟩⟩
    · refine ⟨_, rfl, rfl, _, rfl, iteF ?_⟩
      refine ⟨_, rfl, rfl, _, rfl, iteF ?_⟩
      refine ⟨_, rfl, rfl, _, rfl, iteF ?_⟩
      exact ⟨_, rfl, rfl, _, rfl, iteT ⟨_, rfl, a, g, F, rfl, hga, k⟩⟩
    · refine ⟨_, rfl, rfl, _, rfl, iteF ?_⟩
      refine ⟨_, rfl, rfl, _, rfl, iteF ?_⟩
      refine ⟨_, rfl, rfl, _, rfl, iteF ?_⟩
      refine ⟨_, rfl, rfl, _, rfl, iteF ?_⟩
      exact ⟨_, rfl, _, rfl, ha, _, _, _, rfl, rfl, SqL.of hha, atI_nat (j := 0) rfl, a, g, F, z, rfl, hga, k⟩
abbrev s_call_answer : Stmt := top 79
theorem sc_call_answer : FnScope ["table", "call", "handed"] ["table", "call", "handed"] (defScope s_call_answer) := ⟨rfl, rfl, rfl, by decide +kernel, rfl, by decide +kernel, by decide +kernel⟩
def spCall (D C : Addr) : Sp := fun vs H Q _ => ∃ (t ha : Addr) (g : Sd46.Game) (F : List Addr) (c : Int) (hs : List Int) (cl : CL), vs = [.ref t, .int c, .ref ha] ∧ TableAt D C H t g F ∧ LZ H ha hs ∧ CallH c hs cl ∧ Sd46Neutral.asked1 (PySd46.whole cl) = true ∧ Stepped D C H Q t F g cl
theorem cut_tail (z : V) (xs : List V) : cutV (z :: xs) (some 1) none = xs := by
  unfold cutV
  rw [show (1 : Int) = ((1 : Nat) : Int) from rfl, HT.sIx_nat, HT.sIx_none]
  simp
theorem ok_call_answer (T : Txt K mg) (G : CG K C) (GD : CTb K D) (F : Fd K mg "call_answer" s_call_answer ["table", "call", "handed"]) (M_play : Mx P w K mg base C 5 "play" ["self", "x", "y"] (spPlay C)) (M_pass_turn : Mx P w K mg base C 5 "pass_turn" ["self"] (spPass C)) (M_undo : Mx P w K mg base C 3 "undo" ["self"] (spUndo C))
    (M_load : Mx P w K mg base D 5 "load" ["self", "record"] (spLoad D C)) (G_told : Fx P w K mg base 6 "told" ["game", "call", "handed"] (spTold C)) : Fx P w K mg base 7 "call_answer" ["table", "call", "handed"] (spCall D C) := by
  refine F.ok sc_call_answer (fun vs H Q E h => ?_) (fun f cdv A outer s H vs Q E hr h => ?_)
  · obtain ⟨t, ha, g, F, c, hs, cl, rfl, _⟩ := h; rfl
  · obtain ⟨t, ha, g, F, c, hs, cl, rfl, hta, hha, hc, hask, k⟩ := h
    have cG := G.cl
    have cT := GD.cl
    obtain ⟨dt, ga, Fg, rfl, ht, hga⟩ := id hta
    obtain ⟨Ts, dx, bs, st, tu, bo, to, as, eF, hg⟩ := id hga
    have hlo := hg.ok.lo
    refine ⟨_, (pss_cons (ps_if (pt_cmpR op_eq (pv 1) (pk T.PLAY) (nomark _))
        (pss_one (ps_ret (pe_lst (pa_cons (pmeth (pe_fld (pv 0) rfl) cG M_play (hr.mono (by decide)) (pa_cons (pe_ix ix_list (pv 2) pe_int (fun _ _ => rfl)) (pa_cons (pe_ix ix_list (pv 2) pe_int (fun _ _ => rfl)) pa_nil))) pa_nil))))
        pss_nil)
      (pss_cons (ps_if (pt_cmpR op_eq (pv 1) (pk T.PASS) (nomark _))
        (pss_one (ps_ret (pe_lst (pa_cons (pmeth0 (pe_fld (pv 0) rfl) cG M_pass_turn (hr.mono (by decide))) pa_nil))))
        pss_nil)
      (pss_cons (ps_if (pt_cmpR op_eq (pv 1) (pk T.UNDO) (nomark _))
        (pss_one (ps_ret (pe_lst (pa_cons (pmeth0 (pe_fld (pv 0) rfl) cG M_undo (hr.mono (by decide))) pa_nil))))
        pss_nil)
      (pss_cons (ps_if (pt_cmpR op_eq (pv 1) (pk T.LOAD) (nomark _))
        (pss_one (ps_ret (pe_lst (pa_cons (pmeth (pv 0) cT M_load (hr.mono (by decide)) (pa_cons (pe_slice sl_list (pv 2) (po_some pe_int) po_none) pa_nil)) pa_nil))))
        pss_nil)
      (pss_one (ps_ret (pcall G_told (hr.mono (by decide)) (pa_cons (pe_fld (pv 0) rfl) (pa_cons (pv 1) (pa_cons (pv 2) pa_nil)))))))))), ?_⟩
    cases hc with
    | play x y =>
      refine ⟨_, rfl, rfl, _, rfl, iteT ?_⟩
      refine ⟨_, rfl, t, D, dt, _, _, rfl, ht, GD.cl, GD.game, tf_game ga, ga, dx, _, rfl, hg.ob, gf_no (by decide +kernel), _, rfl, ha, _, _, _, rfl, rfl, SqL.of hha, atI_nat (j := 0) rfl, _, rfl, ha, _, _, _, rfl, rfl, SqL.of hha, atI_nat (j := 1) rfl, ga, g, Fg, x, y, rfl, hga, fun e => ?_, fun e => ?_⟩
      · have es := stp_play hlo x y
        rw [if_pos e] at es
        exact k.one es hta (Same.refl _)
      · have es := stp_play hlo x y
        rw [if_neg (by rw [e]; decide)] at es
        exact k.turned es ht hga
    | pass =>
      refine ⟨_, rfl, rfl, _, rfl, iteF ?_⟩
      refine ⟨_, rfl, rfl, _, rfl, iteT ?_⟩
      exact ⟨_, rfl, t, D, dt, _, _, rfl, ht, GD.cl, GD.game, tf_game ga, ga, dx, _, rfl, hg.ob, gf_no (by decide +kernel), ga, g, Fg, rfl, hga, k.turned (stp_pass g) ht hga⟩
    | undo =>
      refine ⟨_, rfl, rfl, _, rfl, iteF ?_⟩
      refine ⟨_, rfl, rfl, _, rfl, iteF ?_⟩
      refine ⟨_, rfl, rfl, _, rfl, iteT ?_⟩
      refine ⟨_, rfl, t, D, dt, _, _, rfl, ht, GD.cl, GD.game, tf_game ga, ga, dx, _, rfl, hg.ob, gf_no (by decide +kernel), ga, g, Fg, rfl, hga, fun e => ?_, fun e H1 F1 h1 hf => ?_⟩
      · have es := stp_undo g
        rw [if_pos e] at es
        exact k.one es hta (Same.refl _)
      · have es := stp_undo g
        rw [if_neg e] at es
        exact k.game es ht hga h1 hf
    | load b =>
      refine ⟨_, rfl, rfl, _, rfl, iteF ?_⟩
      refine ⟨_, rfl, rfl, _, rfl, iteF ?_⟩
      refine ⟨_, rfl, rfl, _, rfl, iteF ?_⟩
      refine ⟨_, rfl, rfl, _, rfl, iteT ?_⟩
      obtain ⟨hbl, hbn⟩ := asked_load hask
      refine ⟨_, rfl, t, dt, _, rfl, ht, tf_no (by decide +kernel), _, rfl, _, rfl, ha, _, rfl, SqL.of hha, fun ra hra => ?_⟩
      rw [List.map_cons, cut_tail]
      have s1 : Same H (L2.upd H ra (.lst (b.map V.int))) := same_new hra
      have hln : LN (L2.upd H ra (.lst (b.map V.int))) ra (Sd46Neutral.nats b) := by
        show L2.upd _ _ _ _ = _
        rw [upd_same, ← ints_V, hbn]
      refine ⟨t, ra, g, _, Sd46Neutral.nats b, rfl, hta.same s1, hln, by unfold Sd46Neutral.nats; rw [List.length_map]; exact hbl, ?_⟩
      have es := stp_load (g := g) hbl
      unfold Loaded
      cases er : Sd46.recordRead (Sd46Neutral.nats b) with
      | none =>
        rw [er] at es
        exact fun H2 s2 => k.one es hta (s1.trans s2)
      | some x =>
        rw [er] at es
        simp only [] at es ⊢
        cases etk : Sd46.taken 1 (Sd46.fresh x.1) x.2 with
        | ok g' =>
          rw [etk] at es
          exact fun H2 F2 h2 hf => k.tab es h2 ((Same.frame s1).trans hf)
        | error kk =>
          rw [etk] at es
          exact fun H2 s2 => k.one es hta (s1.trans s2)
    | board =>
      refine ⟨_, rfl, rfl, _, rfl, iteF ?_⟩
      refine ⟨_, rfl, rfl, _, rfl, iteF ?_⟩
      refine ⟨_, rfl, rfl, _, rfl, iteF ?_⟩
      refine ⟨_, rfl, rfl, _, rfl, iteF ?_⟩
      exact ⟨_, rfl, t, D, dt, _, _, rfl, ht, GD.cl, GD.game, tf_game ga, _, rfl, _, rfl, ga, ha, g, Fg, 4, _, rfl, hga, hha, .inl ⟨rfl, k.same (stp_board g) hta⟩⟩
    | group x y =>
      refine ⟨_, rfl, rfl, _, rfl, iteF ?_⟩
      refine ⟨_, rfl, rfl, _, rfl, iteF ?_⟩
      refine ⟨_, rfl, rfl, _, rfl, iteF ?_⟩
      refine ⟨_, rfl, rfl, _, rfl, iteF ?_⟩
      exact ⟨_, rfl, t, D, dt, _, _, rfl, ht, GD.cl, GD.game, tf_game ga, _, rfl, _, rfl, ga, ha, g, Fg, 5, _, rfl, hga, hha, .inr (.inl ⟨rfl, x, y, rfl, k.same (stp_group hlo x y) hta⟩)⟩
    | area =>
      refine ⟨_, rfl, rfl, _, rfl, iteF ?_⟩
      refine ⟨_, rfl, rfl, _, rfl, iteF ?_⟩
      refine ⟨_, rfl, rfl, _, rfl, iteF ?_⟩
      refine ⟨_, rfl, rfl, _, rfl, iteF ?_⟩
      exact ⟨_, rfl, t, D, dt, _, _, rfl, ht, GD.cl, GD.game, tf_game ga, _, rfl, _, rfl, ga, ha, g, Fg, 6, _, rfl, hga, hha, .inr (.inr (.inl ⟨rfl, k.same (stp_area g) hta⟩))⟩
    | lives =>
      refine ⟨_, rfl, rfl, _, rfl, iteF ?_⟩
      refine ⟨_, rfl, rfl, _, rfl, iteF ?_⟩
      refine ⟨_, rfl, rfl, _, rfl, iteF ?_⟩
      refine ⟨_, rfl, rfl, _, rfl, iteF ?_⟩
      exact ⟨_, rfl, t, D, dt, _, _, rfl, ht, GD.cl, GD.game, tf_game ga, _, rfl, _, rfl, ga, ha, g, Fg, 7, _, rfl, hga, hha, .inr (.inr (.inr (.inl ⟨rfl, k.same (stp_lives g) hta⟩)))⟩
    | save m =>
      refine ⟨_, rfl, rfl, _, rfl, iteF ?_⟩
      refine ⟨_, rfl, rfl, _, rfl, iteF ?_⟩
      refine ⟨_, rfl, rfl, _, rfl, iteF ?_⟩
      refine ⟨_, rfl, rfl, _, rfl, iteF ?_⟩
      exact ⟨_, rfl, t, D, dt, _, _, rfl, ht, GD.cl, GD.game, tf_game ga, _, rfl, _, rfl, ga, ha, g, Fg, 9, _, rfl, hga, hha, .inr (.inr (.inr (.inr ⟨rfl, m, rfl, k.same (stp_save g m) hta⟩)))⟩
end
theorem cut_ints (s : List Int) (p k : Nat) : cutV (s.map V.int) (some (p : Int)) (some ((p + k : Nat) : Int)) = ((s.drop p).take k).map V.int := by
  unfold cutV
  rw [HT.sIx_nat, HT.sIx_nat, List.length_map, ← List.map_drop, ← List.map_take]
  congr 1
  by_cases h : p ≤ s.length
  · rw [Nat.min_eq_left h]
    by_cases h2 : p + k ≤ s.length
    · rw [Nat.min_eq_left h2, Nat.add_sub_cancel_left]
    · rw [Nat.min_eq_right (by omega), List.take_of_length_le (by simp), List.take_of_length_le (by simp; omega)]
  · rw [Nat.min_eq_right (show s.length ≤ p by omega), List.drop_length, List.drop_eq_nil_of_le (by omega)]
    simp
theorem GameAt.keepF {C : Addr} {H : Hp} {a z : Addr} {od : Obj} {u o : HO} {g : Sd46.Game} {F : List Addr} (h : GameAt C H a g F) (hz : H z = some (.frz od u)) : GameAt C (L2.upd H z o) a g F := by
  obtain ⟨Ts, dx, bs, st, tu, bo, to, as, e, hg⟩ := h
  have ks : ∀ b v, H b = some v → isSeq v → L2.upd H z o b = some v := fun b v e hs => upd_lst e (ne_of e hz (by intro y; subst y; exact hs))
  refine ⟨Ts, dx, bs, st, tu, bo, to, as, e, upd_lst hg.ob (ne_of hg.ob hz (by intro y; cases y)), ?_, ?_, ks _ _ hg.brd True.intro, ks _ _ hg.tus True.intro, hg.tn.keep (fun b v e hs _ => ks b v e hs) (fun _ _ _ y => y), upd_lst hg.bds (ne_of hg.bds hz (by intro y; cases y)), upd_lst hg.off (ne_of hg.off hz (by intro y; cases y)), hg.stu, hg.ok⟩
  · obtain ⟨rows, b1, b2, b3⟩ := hg.bes
    exact ⟨rows, ks _ _ b1 True.intro, b2, fun q r e => ks _ _ (b3 q r e) True.intro⟩
  · refine ⟨hg.bst.1, hg.bst.2.1, fun rows e => ?_⟩
    obtain ⟨rows', b1, _⟩ := hg.bes
    rw [ks _ _ b1 True.intro] at e
    rw [← refs_inj (HO.lst.inj (Option.some.inj e))]
    exact hg.bst.2.2 rows' b1
theorem TableAt.keepF {D C : Addr} {H : Hp} {t z : Addr} {od : Obj} {u o : HO} {g : Sd46.Game} {F : List Addr} (h : TableAt D C H t g F) (hz : H z = some (.frz od u)) : TableAt D C (L2.upd H z o) t g F := by
  obtain ⟨dt, ga, Fg, e, h1, h2⟩ := h
  exact ⟨dt, ga, Fg, e, upd_lst h1 (ne_of h1 hz (by intro y; cases y)), h2.keepF hz⟩
def handedL : List (Int × Int) := [(1, 2), (2, 0), (3, 0), (4, 0), (5, 2), (6, 0), (7, 0), (8, 1), (9, 1)]
section
variable {P : Program} {w : World} {K : PySem.W.Frag} {mg : Str → Option Value} {base : Heap} {C D : Addr}
abbrev s_place_behind : Stmt := top 80
theorem sc_place_behind : FnScope ["calls", "place", "behind"] ["calls", "place"] (defScope s_place_behind) := ⟨rfl, rfl, rfl, by decide +kernel, rfl, by decide +kernel, by decide +kernel⟩
def spBehind (K : PySem.W.Frag) : Sp := fun vs H Q _ => ∃ (ca : Addr) (pl : Nat) (ns : List Int) (c : Int) (hs t : List Int) (cl : CL), vs = [.ref ca, nV pl] ∧ SqL K H ca (ns.map V.int) ∧ ns.drop pl = c :: (hs ++ t) ∧ CallH c hs cl ∧ Q (nV (pl + 1 + hs.length)) H
theorem ok_place_behind (T : Txt K mg) (HD : KDict K mg "HANDED" handedL) (F : Fd K mg "place_behind" s_place_behind ["calls", "place"]) : Fx P w K mg base 1 "place_behind" ["calls", "place"] (spBehind K) := by
  refine F.ok sc_place_behind (fun vs H Q E h => ?_) (fun f cdv A outer s H vs Q E hr h => ?_)
  · obtain ⟨ca, pl, ns, c, hs, t, cl, rfl, _⟩ := h; rfl
  · obtain ⟨ca, pl, ns, c, hs, t, cl, rfl, hca, hdr, hc, k⟩ := h
    have hat : ∀ i x, (c :: (hs ++ t))[i]? = some x → ns[pl + i]? = some x := by
      intro i x h
      rw [← hdr, List.getElem?_drop] at h
      exact h
    have h0 : atI (ns.map V.int) (pl : Int) = some (V.int c) := atZ (hat 0 c rfl)
    refine ⟨_, (pss_cons (ps_set (i := 2) sc_place_behind.nd rfl (Or.inl rfl) (pe_op op_add (pe_op op_add (pv 1) pe_int) (pe_kget HD (pe_ix ix_list (pv 0) (pv 1) (fun _ _ => rfl)) (fun _ _ => rfl))))
      (pss_cons (ps_mid (ps_if (pt_cmpR op_eq (pe_ix ix_list (pv 0) (pv 1) (fun _ _ => rfl)) (pk T.LOAD) (nomark _))
        (pss_one (ps_aug (i := 2) sc_place_behind.nd rfl (Or.inl rfl) (pe_ix ix_list (pv 0) (pe_op op_add (pv 1) pe_int) (fun _ _ => rfl)) ip_add))
        pss_nil))
      (pss_one (ps_ret (pv 2))))), ?_⟩
    have step : ∀ (v : Int), handedL.lookup c = some v → ((c = 8 ∧ (pl : Int) + 1 + v + (hs.length - 1 : Int) = ((pl + 1 + hs.length : Nat) : Int) ∧ ns[pl + 1]? = some (hs.length - 1 : Int)) ∨ (c ≠ 8 ∧ (pl : Int) + 1 + v = ((pl + 1 + hs.length : Nat) : Int))) →
        tSeq (tAsg (tOp (rI0 fun i j => V.int (i + j)) (tOp (rI0 fun i j => V.int (i + j)) (tVar 1) (tC (V.int 1))) (tKGet handedL (tOp (rIxL K) (tVar 0) (tVar 1)))) (gName 2))
          (tSeq (tMid (tIfS (tTest (tOp rEq (tOp (rIxL K) (tVar 0) (tVar 1)) (tC (V.int 8)))) (tAug 2 (tOp (rIxL K) (tVar 0) (tOp (rI0 fun i j => V.int (i + j)) (tVar 1) (tC (V.int 1)))) (ipI fun i j => i + j)) tNext)) (tRet (tVar 2))) { nx := fun _ H' => Q .non H', rt := Q } [some (.ref ca), some (nV pl), none] H := by
      intro v hv hh
      refine ⟨_, rfl, _, _, rfl, rfl, _, rfl, _, rfl, ca, _, _, _, rfl, rfl, hca, h0, c, v, rfl, hv, _, _, rfl, rfl, ?_⟩
      refine ⟨fun σ H' => σ = [some (.ref ca), some (nV pl), some (nV (pl + 1 + hs.length))] ∧ H' = H, ?_, ?_⟩
      · refine ⟨_, rfl, _, rfl, ca, _, _, _, rfl, rfl, hca, h0, rfl, _, rfl, ?_⟩
        rcases hh with ⟨rfl, e1, e2⟩ | ⟨e0, e1⟩
        · refine iteT ?_
          refine ⟨_, rfl, _, rfl, _, rfl, _, _, rfl, rfl, ca, _, _, V.int ((hs.length : Int) - 1), rfl, rfl, hca, (by show atI _ ((pl : Int) + 1) = _; rw [show ((pl : Int) + 1) = ((pl + 1 : Nat) : Int) by omega]; exact atZ e2), _, _, rfl, rfl, ?_, rfl⟩
          show [some (.ref ca), some (nV pl), some (V.int ((pl : Int) + 1 + v + ((hs.length : Int) - 1)))] = _
          rw [e1]
        · rw [decide_eq_false (by intro z; exact e0 (V.int.inj z))]
          refine iteF ⟨?_, rfl⟩
          show [some (.ref ca), some (nV pl), some (V.int ((pl : Int) + 1 + v))] = _
          rw [e1]
      · rintro σ H' ⟨rfl, rfl⟩
        exact ⟨_, rfl, k⟩
    have step := fun v h1 h2 => step v h1 h2
    cases hc with
    | play x y => exact step 2 rfl (.inr ⟨by decide, by show _ = ((pl + 1 + 2 : Nat) : Int); omega⟩)
    | pass => exact step 0 rfl (.inr ⟨by decide, by simp⟩)
    | undo => exact step 0 rfl (.inr ⟨by decide, by simp⟩)
    | board => exact step 0 rfl (.inr ⟨by decide, by simp⟩)
    | group x y => exact step 2 rfl (.inr ⟨by decide, by show _ = ((pl + 1 + 2 : Nat) : Int); omega⟩)
    | area => exact step 0 rfl (.inr ⟨by decide, by simp⟩)
    | lives => exact step 0 rfl (.inr ⟨by decide, by simp⟩)
    | load b => exact step 1 rfl (.inl ⟨rfl, by simp; omega, by rw [hat 1 (b.length : Int) rfl]; simp⟩)
    | save m => exact step 1 rfl (.inr ⟨by decide, by simp⟩)
abbrev s_answers : Stmt := top 81
theorem sc_answers : FnScope ["calls", "size", "table", "given", "place", "behind", "answer"] ["calls"] (defScope s_answers) := ⟨rfl, rfl, rfl, by decide +kernel, rfl, by decide +kernel, by decide +kernel⟩
def spAns (K : PySem.W.Frag) : Sp := fun vs H Q _ => ∃ (a : Addr) (ns : List Int), vs = [.ref a] ∧ SqL K H a (ns.map V.int) ∧ ns.length ≤ 30000 ∧ PySd46.answers_asked ns = true ∧ ∀ (H' : Hp) (p : Addr), H' p = some (.lst ((PySd46.answers ns).map V.int)) → Q (.ref p) H'
theorem SqL.keep {K : PySem.W.Frag} {H H' : Hp} {a : Addr} {xs : List V} (h : SqL K H a xs) (k : ∀ o, H a = some o → H' a = some o) : SqL K H' a xs := by
  rcases h with (h | ⟨o, h⟩) | h
  · exact .inl (.inl (k _ h))
  · exact .inl (.inr ⟨o, k _ h⟩)
  · exact .inr h
theorem ok_answers {f : Addr} {fd : FuncData} (T : Txt K mg) (F : Fun K "answers" "answers" s_answers f fd) (G_is_size : Fx P w K mg base 1 "is_size" ["number"] spIsSize) (N_Table : Nx P w K mg base D 4 "Table" ["self", "size"] (spTable D C)) (G_place_behind : Fx P w K mg base 1 "place_behind" ["calls", "place"] (spBehind K))
    (G_call_answer : Fx P w K mg base 7 "call_answer" ["table", "call", "handed"] (spCall D C)) : FnOk P w K mg base CX0 8 f fd ["calls"] (spAns K) := by
  refine F.ok sc_answers (fun vs H Q E h => ?_) (fun cdv A outer s H vs Q E hr h => ?_)
  · obtain ⟨a, ns, rfl, _⟩ := h; rfl
  · obtain ⟨ca, ns, rfl, hca, hnl, hask, k⟩ := h
    obtain ⟨hlen, n, t, rfl, _, _, hbad, hgood⟩ := due_start hask
    refine ⟨_, (pss_cons (ps_set (i := 1) sc_answers.nd rfl (Or.inl rfl) (pe_ix ix_list (pv 0) pe_int (fun _ _ => rfl)))
      (pss_cons (ps_if (pt_not (pt_val (pcall G_is_size (hr.mono (by decide)) (pa_cons (pv 1) pa_nil))))
        (pss_one (ps_ret (pe_lst (pa_cons pe_int (pa_cons (pk T.WRONG_SIZE) pa_nil)))))
        pss_nil)
      (pss_cons (ps_set (i := 2) sc_answers.nd rfl (Or.inl rfl) (pmake N_Table (hr.mono (by decide)) (pa_cons (pv 1) pa_nil)))
      (pss_cons (ps_set (i := 3) sc_answers.nd rfl (Or.inl rfl) (pe_lst (pa_cons pe_int (pa_cons (pk T.DONE) pa_nil))))
      (pss_cons (ps_set (i := 4) sc_answers.nd rfl (Or.inl rfl) pe_int)
      (pss_cons (ps_while PassesOwn.never (pt_cmpR op_lt (pv 4) (pe_callB call_len_seq (by rfl) T.len PySem.boot_len (pa_cons (pv 0) pa_nil)) (nomark _))
        (pss_cons (ps_set (i := 5) sc_answers.nd rfl (Or.inl rfl) (pcall G_place_behind (hr.mono (by decide)) (pa_cons (pv 0) (pa_cons (pv 4) pa_nil))))
      (pss_cons (ps_lock (ps_set (i := 6) sc_answers.nd rfl (Or.inl rfl) (pcall G_call_answer (hr.mono (by decide)) (pa_cons (pv 2) (pa_cons (pe_ix ix_list (pv 0) (pv 4) (fun _ _ => rfl)) (pa_cons (pe_slice sl_list (pv 0) (po_some (pe_op op_add (pv 4) pe_int)) (po_some (pv 5))) pa_nil))))))
      (pss_cons (ps_expr (pe_bm PySem.F.plainAttrs_list PySem.F.slot_list_append PySem.F.type_list_append mt_append (pv 3) (pa_cons (pe_callB call_len_seq (by rfl) T.len PySem.boot_len (pa_cons (pv 6) pa_nil)) pa_nil)))
      (pss_cons (ps_expr (pe_bm PySem.F.plainAttrs_list PySem.F.slot_list_extend PySem.F.type_list_extend mt_extend (pv 3) (pa_cons (pv 6) pa_nil)))
      (pss_one (ps_set (i := 4) sc_answers.nd rfl (Or.inl rfl) (pv 5))))))))
      (pss_one (ps_ret (pv 3))))))))), ?_⟩
    refine ⟨_, rfl, ca, _, _, _, rfl, rfl, hca, atI_nat (j := 1) rfl, ?_⟩
    refine ⟨_, rfl, n, rfl, _, rfl, ?_⟩
    by_cases hn : 2 ≤ n ∧ n ≤ 19
    case neg =>
      rw [decide_eq_false hn]
      refine iteT ⟨(by show 2 ≤ sizeLine; decide), fun q hq => k _ q ?_⟩
      obtain ⟨_, e⟩ := hbad (by omega)
      rw [e]
      exact upd_same
    rw [decide_eq_true hn]
    refine iteF ?_
    have hdue := hgood hn.1 hn.2
    obtain ⟨m, rfl⟩ : ∃ m : Nat, n = (m : Int) := ⟨n.toNat, by omega⟩
    rw [Int.toNat_natCast] at hdue
    refine ⟨_, rfl, fun x dx nx ndx nex => ⟨x, dx, m, rfl, upd_same, by omega, by omega, fun H1 F1 hT hF hk => ⟨rfl, ?_⟩⟩⟩
    obtain ⟨s1, hn1⟩ := made_game nx ndx hF hk
    refine ⟨(by show 2 ≤ sizeLine; decide), fun gv hgv => ?_⟩
    have s2 : Same H1 (L2.upd H1 gv (.lst [V.int 1, V.int 0])) := same_new hgv
    have hgF : gv ∉ F1 := fun z => by obtain ⟨o, ho⟩ := hT.there gv z; rw [hgv] at ho; cases ho
    refine while_by (fun σ H' => ∃ (pl : Nat) (g : Sd46.Game) (F : List Addr) (given : List Int) (v5 v6 : Option V), σ = [some (.ref ca), some (nV m), some (.ref x), some (.ref gv), some (nV pl), v5, v6] ∧ (∀ o, TableAt D C (L2.upd H' gv o) x g F) ∧ (∀ b ∈ F, H b = none) ∧ gv ∉ F ∧ LZ H' gv given ∧ Same H H' ∧ Due (PySd46.answers (0 :: (m : Int) :: t)) (some g) ((0 :: (m : Int) :: t).drop pl) given)
      (mu (30000 + 1) 4) ?_ ?_ mono_lt_len
    · exact ⟨2, _, F1, [1, 0], _, _, rfl, fun o => by rw [upd_upd]; exact hT.same (same_new hgv), hn1, hgF, upd_same, s1.trans s2, hdue⟩
    · rintro σ H2 ⟨pl, g, F, given, v5, v6, rfl, hta, hFn, hgF, hgv2, sm, hD⟩
      have hca2 : SqL K H2 ca ((0 :: (m : Int) :: t).map V.int) := SqL.keep hca fun o e => sm _ _ e
      refine ⟨_, rfl, _, rfl, ca, _, rfl, .inl hca2, _, _, rfl, rfl, _, rfl, ?_⟩
      generalize hns : (0 :: (m : Int) :: t) = ns at *
      rw [List.length_map]
      refine ite2 (fun q => ?_) (fun q => ?_)
      · have q := of_decide_eq_true q
        have hpl : pl < ns.length := by omega
        obtain ⟨c, r, edr⟩ : ∃ c r, ns.drop pl = c :: r := ⟨_, _, List.drop_eq_getElem_cons hpl⟩
        rw [edr] at hD
        obtain ⟨cl, t', hci, hask1, hn0, hD'⟩ := hD.cons
        obtain ⟨hs, hch, rfl⟩ := callH_of hci hn0
        have hat : ns[pl]? = some c := by
          have : (ns.drop pl)[0]? = some c := by rw [edr]; rfl
          rw [List.getElem?_drop] at this
          exact this
        have hhs : pl + 1 + hs.length ≤ ns.length := by
          have := congrArg List.length edr
          rw [List.length_drop, List.length_cons, List.length_append] at this
          omega
        refine ⟨_, rfl, _, rfl, ca, pl, ns, c, hs, t', cl, rfl, hca2, edr, hch, ?_⟩
        refine ⟨gv, _, hgv2, True.intro, fun od => ?_⟩
        have hgv0 : H gv = none := s1.free hgv
        have sL : Same H (L2.upd H2 gv (.frz od (.lst (given.map V.int)))) := sm.upd hgv0
        have htaL : TableAt D C (L2.upd H2 gv (.frz od (.lst (given.map V.int)))) x g F := hta _
        have hgvL : L2.upd H2 gv (.frz od (.lst (given.map V.int))) gv = some (.frz od (.lst (given.map V.int))) := upd_same
        have hcaL : SqL K (L2.upd H2 gv (.frz od (.lst (given.map V.int)))) ca (ns.map V.int) := SqL.keep hca fun o e => sL _ _ e
        generalize L2.upd H2 gv (.frz od (.lst (given.map V.int))) = HL at sL htaL hgvL hcaL ⊢
        refine ⟨_, rfl, _, rfl, _, rfl, ca, _, _, _, rfl, rfl, hcaL, atZ hat, _, rfl, _, rfl, _, _, rfl, rfl, _, rfl, _, rfl, _, rfl, ca, _, rfl, hcaL, fun ha hha => ?_⟩
        have ecut : cutV (ns.map V.int) (some ((pl : Int) + 1)) (some ((pl + 1 + hs.length : Nat) : Int)) = hs.map V.int := by
          rw [show ((pl : Int) + 1) = ((pl + 1 : Nat) : Int) by omega, cut_ints]
          rw [← List.drop_drop, edr]
          simp
        rw [ecut]
        have s3 : Same HL (L2.upd HL ha (.lst (hs.map V.int))) := same_new hha
        refine ⟨x, ha, g, F, c, hs, cl, rfl, htaL.same s3, upd_same, hch, hask1, fun H4 F4 qa g' est hta4 hfr hqn hqF hla => ?_⟩
        have hgv3 := s3 _ _ hgvL
        have hgv4 := hfr.2 _ _ hgv3 hgF
        have hqg : qa ≠ gv := hqn gv _ hgv3 hgF
        have hgF4 : gv ∉ F4 := fun z => by
          rcases hfr.1 gv z with y | y
          · exact hgF y
          · rw [hgv3] at y; cases y
        generalize hans : (stp (some g) (PySd46.whole cl)).2 = ans at hla hD'
        rw [est] at hD'
        have hgl : given.length + 1 + ans.length < 1002000 := by
          obtain ⟨cs, ff, _, e2, _⟩ := hD'.ex
          rw [e2] at hlen
          rw [List.length_append, List.length_append, List.length_cons] at hlen
          omega
        refine ⟨hgv4, ?_⟩
        refine ⟨_, rfl, .inl ⟨rfl, _, SqL.of upd_same⟩, _, rfl, qa, _, rfl, .inl (SqL.of (upd_lst hla hqg)), gv, _, _, rfl, rfl, upd_same, by rw [List.length_map]; exact small (by omega), ?_⟩
        rw [List.length_map, upd_upd]
        refine ⟨_, rfl, .inl ⟨rfl, _, SqL.of upd_same⟩, _, rfl, gv, qa, _, _, rfl, rfl, upd_same, upd_lst hla hqg, by rw [List.length_append, List.length_map, List.length_map]; exact smallE (by simp; omega), ?_⟩
        rw [upd_upd]
        refine ⟨_, rfl, ⟨pl + 1 + hs.length, g', F4, given ++ ((ans.length : Int) :: ans), _, _, rfl, fun o => ?_, fun b hb => ?_, hgF4, ?_, fun b o e => ?_, ?_⟩, ?_⟩
        · rw [upd_upd]; exact hta4.keepF hgv4
        · rcases hfr.1 b hb with y | y
          · exact hFn b y
          · exact (sL.trans s3).free y
        · show L2.upd _ _ _ _ = _
          rw [upd_same]
          simp
        · exact upd_lst (hfr.2 b o (s3 _ _ (sL b o e)) fun z => by rw [hFn b z] at e; cases e) fun z => by rw [z, hgv0] at e; cases e
        · rw [show pl + 1 + hs.length = pl + (1 + hs.length) by omega, ← List.drop_drop, edr]
          rw [show 1 + hs.length = hs.length + 1 by omega, List.drop_succ_cons, List.drop_left]
          exact hD'
        · show 30000 + 1 - ((pl + 1 + hs.length : Nat) : Int).toNat < 30000 + 1 - (pl : Int).toNat
          have : ns.length ≤ 30000 := hnl
          omega
      · have q := of_decide_eq_false (Bool.not_eq_true _ ▸ q)
        rw [List.drop_eq_nil_of_le (by omega)] at hD
        have e := hD.nil
        refine ⟨_, rfl, k _ gv ?_⟩
        rw [e]
        exact hgv2
end
end SG
end
section
set_option Elab.async false
set_option maxRecDepth 100000
set_option maxHeartbeats 2000000
namespace SG
open PySem PySem.Spec L2 GM
open PyProof.Rows hiding St
section
variable {K : PySem.W.Frag} {h : Heap} {mg : Str → Option Value}
theorem fd_mk (X : K.In h) (G : h.Ns mainGlobals mg) (x : Str) (st : Stmt) (ps : List Str) {f : Addr} {oc kV dc pm cd ct : Value} {od an : Option Addr} {sl : Array (Option Value)}
    (hb : ∀ (kV doc pm : Value) (an : Option Addr) (cdv ct : Value) (us : List Value), us.length = ps.length → bindArgs (PySem.W.fnOf x x (defArgs st) (defBody st) (defScope st) .none kV doc pm an cdv ct) ⟨us, []⟩ = pure (ps.zip us))
    (a : PySem.W.nsIn K mainGlobals x = some (some (.ref f))) (l : K.lookup f = some ⟨oc, od, .func (PySem.W.fnOf x x (defArgs st) (defBody st) (defScope st) .none kV dc pm an cd ct), sl⟩) (c : PySem.W.codeIn K cd x = true) (k : PySem.W.keepIn K (.ref f) = true) : Fd K mg x st ps :=
  have F := fun_mk l c k
  ⟨f, _, PySem.W.mg_of X G a, F, F.binds hb⟩
theorem md_mk {C : Addr} (X : K.In h) (cn x q : Str) (st : Stmt) (ps : List Str) {f : Addr} {oc kV dc pm cd ct : Value} {od an : Option Addr} {sl : Array (Option Value)}
    (hb : ∀ (kV doc pm : Value) (an : Option Addr) (cdv ct : Value) (us : List Value), us.length = ps.length → bindArgs (PySem.W.fnOf x q (defArgs st) (defBody st) (defScope st) .none kV doc pm an cdv ct) ⟨us, []⟩ = pure (ps.zip us))
    (_aC : PySem.W.nsIn K mainGlobals cn = some (some (.ref C))) (a : PySem.W.findIn K (.ref C) x = some (some (.ref f))) (i : PySem.W.isFn K (.ref f) = true) (l : K.lookup f = some ⟨oc, od, .func (PySem.W.fnOf x q (defArgs st) (defBody st) (defScope st) .none kV dc pm an cd ct), sl⟩) (c : PySem.W.codeIn K cd q = true) (k : PySem.W.keepIn K (.ref f) = true) : Md K C x q st ps :=
  have F := fun_mk l c k
  ⟨f, _, ⟨a, i, k⟩, F, F.binds hb⟩
theorem nd_mk {C : Addr} (X : K.In h) (G : h.Ns mainGlobals mg) (x q : Str) (st : Stmt) (ps : List Str) {f : Addr} {oc kV dc pm cd ct : Value} {od an : Option Addr} {sl : Array (Option Value)}
    (hb : ∀ (kV doc pm : Value) (an : Option Addr) (cdv ct : Value) (us : List Value), us.length = ps.length → bindArgs (PySem.W.fnOf "__init__" q (defArgs st) (defBody st) (defScope st) .none kV doc pm an cdv ct) ⟨us, []⟩ = pure (ps.zip us))
    (aC : PySem.W.nsIn K mainGlobals x = some (some (.ref C))) (mk : PySem.W.makesIn K C = true) (kc : PySem.W.keepIn K (.ref C) = true)
    (a : PySem.W.findIn K (.ref C) "__init__" = some (some (.ref f))) (i : PySem.W.isFn K (.ref f) = true) (l : K.lookup f = some ⟨oc, od, .func (PySem.W.fnOf "__init__" q (defArgs st) (defBody st) (defScope st) .none kV dc pm an cd ct), sl⟩) (c : PySem.W.codeIn K cd q = true) (k : PySem.W.keepIn K (.ref f) = true) : Nd K mg C x q st ps :=
  have F := fun_mk l c k
  ⟨f, _, PySem.W.mg_of X G aC, ⟨mk, a, i, kc⟩, F, F.binds hb⟩
theorem ki_int (X : K.In h) (G : h.Ns mainGlobals mg) (x : Str) (z : Int) {t : Tok} (a : PySem.W.nsIn K mainGlobals x = some (some (.int z t))) : KI mg x (.int z) := ⟨_, PySem.W.mg_of X G a, t, rfl⟩
theorem ki_str (X : K.In h) (G : h.Ns mainGlobals mg) (x z : Str) {t : Tok} (a : PySem.W.nsIn K mainGlobals x = some (some (.str z t))) : KI mg x (.str z) := ⟨_, PySem.W.mg_of X G a, t, rfl⟩
theorem bl_none (X : K.In h) (G : h.Ns mainGlobals mg) (x : Str) (a : PySem.W.nsIn K mainGlobals x = some none) : mg x = none := PySem.W.mg_none_of X G a
theorem cls_mk {C : Addr} (X : K.In h) (cn : Str) (_aC : PySem.W.nsIn K mainGlobals cn = some (some (.ref C))) (pg : PySem.W.plainGet K C Str.empty = true) (hd : PySem.W.hasDictIn K C = true) (po : PySem.W.plainOver K C = true) (sa : PySem.W.findIn K (.ref C) "__setattr__" = some (some (.builtin "object.__setattr__"))) : Cls K C := ⟨pg, hd, po, sa⟩
theorem na_mk {C : Addr} (X : K.In h) (cn x : Str) (_aC : PySem.W.nsIn K mainGlobals cn = some (some (.ref C))) (a : PySem.W.findIn K (.ref C) x = some none) : NoAttr K C x := a
theorem kd_mk (X : K.In h) (G : h.Ns mainGlobals mg) {d : Addr} {n : Nat} {t1 t2 t3 t4 t5 t6 t7 t8 t9 u1 u2 u3 u4 u5 u6 u7 u8 u9 : Tok} (a : PySem.W.nsIn K mainGlobals "HANDED" = some (some (.ref d)))
    (l : K.lookup d = some ⟨.type "dict", none, .dict #[⟨1, .int 1 t1, .int 2 u1⟩, ⟨2, .int 2 t2, .int 0 u2⟩, ⟨3, .int 3 t3, .int 0 u3⟩, ⟨4, .int 4 t4, .int 0 u4⟩, ⟨5, .int 5 t5, .int 2 u5⟩, ⟨6, .int 6 t6, .int 0 u6⟩, ⟨7, .int 7 t7, .int 0 u7⟩, ⟨8, .int 8 t8, .int 1 u8⟩, ⟨9, .int 9 t9, .int 1 u9⟩] n, #[]⟩) : KDict K mg "HANDED" handedL :=
  ⟨d, n, [(t1, u1), (t2, u2), (t3, u3), (t4, u4), (t5, u5), (t6, u6), (t7, u7), (t8, u8), (t9, u9)], PySem.W.mg_of X G a, l, rfl, by decide +kernel, by decide +kernel⟩
end
structure Facts (K : PySem.W.Frag) (mg : Str → Option Value) (C D : Addr) : Prop where
  T : Txt K mg
  G : CG K C
  GD : CTb K D
  HD : KDict K mg "HANDED" handedL
  f_other : Fd K mg "other" s_other ["colour"]
  f_points_beside : Fd K mg "points_beside" s_points_beside ["size", "point"]
  f_smothered_chain : Fd K mg "smothered_chain" s_smothered_chain ["stones", "beside", "start"]
  f_smothered_beside : Fd K mg "smothered_beside" s_smothered_beside ["stones", "beside", "start", "colour"]
  f_part_at : Fd K mg "part_at" s_part_at ["stones", "beside", "start", "colours"]
  f_all_parts : Fd K mg "all_parts" s_all_parts ["stones", "beside", "colours"]
  f_liberties : Fd K mg "liberties" s_liberties ["stones", "beside", "chain"]
  f_colours_beside : Fd K mg "colours_beside" s_colours_beside ["stones", "beside", "part"]
  f_areas : Fd K mg "areas" s_areas ["stones", "beside"]
  f_is_size : Fd K mg "is_size" s_is_size ["number"]
  f_chain_numbers : Fd K mg "chain_numbers" s_chain_numbers ["points", "chains"]
  f_chains_near : Fd K mg "chains_near" s_chains_near ["chain_of", "beside", "point"]
  f_chains_round : Fd K mg "chains_round" s_chains_round ["near", "piece"]
  f_chains_kept : Fd K mg "chains_kept" s_chains_kept ["stones", "near", "piece"]
  f_pieces_by_chain : Fd K mg "pieces_by_chain" s_pieces_by_chain ["count", "chains_of"]
  f_chains_left : Fd K mg "chains_left" s_chains_left ["count", "kept", "touched"]
  f_living_chains : Fd K mg "living_chains" s_living_chains ["stones", "beside", "colour"]
  f_living_stones : Fd K mg "living_stones" s_living_stones ["stones", "beside"]
  f_codes : Fd K mg "codes" s_codes ["text"]
  f_head : Fd K mg "head" s_head ["size"]
  f_turn_letter : Fd K mg "turn_letter" s_turn_letter ["number"]
  f_turn_text : Fd K mg "turn_text" s_turn_text ["size", "number", "point"]
  f_written : Fd K mg "written" s_written ["size", "points"]
  f_stands_at : Fd K mg "stands_at" s_stands_at ["record", "place", "text"]
  f_size_read : Fd K mg "size_read" s_size_read ["record"]
  f_point_read : Fd K mg "point_read" s_point_read ["size", "letters"]
  f_turn_read : Fd K mg "turn_read" s_turn_read ["size", "record", "place", "number"]
  f_points_read : Fd K mg "points_read" s_points_read ["size", "record"]
  f_full_board : Fd K mg "full_board" s_full_board ["points"]
  f_board_answer : Fd K mg "board_answer" s_board_answer ["game"]
  f_group_answer : Fd K mg "group_answer" s_group_answer ["game", "x", "y"]
  f_area_answer : Fd K mg "area_answer" s_area_answer ["game"]
  f_lives_answer : Fd K mg "lives_answer" s_lives_answer ["game"]
  f_save_answer : Fd K mg "save_answer" s_save_answer ["game", "most"]
  f_told : Fd K mg "told" s_told ["game", "call", "handed"]
  f_call_answer : Fd K mg "call_answer" s_call_answer ["table", "call", "handed"]
  f_place_behind : Fd K mg "place_behind" s_place_behind ["calls", "place"]
  m_whose_turn : Md K C "whose_turn" "Game.whose_turn" s_Game_whose_turn ["self"]
  m_is_on_board : Md K C "is_on_board" "Game.is_on_board" s_Game_is_on_board ["self", "x", "y"]
  m_point_at : Md K C "point_at" "Game.point_at" s_Game_point_at ["self", "x", "y"]
  m_is_at_end : Md K C "is_at_end" "Game.is_at_end" s_Game_is_at_end ["self"]
  m_turn_refusal : Md K C "turn_refusal" "Game.turn_refusal" s_Game_turn_refusal ["self"]
  m_play : Md K C "play" "Game.play" s_Game_play ["self", "x", "y"]
  m_pass_turn : Md K C "pass_turn" "Game.pass_turn" s_Game_pass_turn ["self"]
  m_take_turn : Md K C "take_turn" "Game.take_turn" s_Game_take_turn ["self", "point"]
  m_put_stone : Md K C "put_stone" "Game.put_stone" s_Game_put_stone ["self", "point"]
  m_undo : Md K C "undo" "Game.undo" s_Game_undo ["self"]
  m_lift_stone : Md K C "lift_stone" "Game.lift_stone" s_Game_lift_stone ["self", "point", "taken"]
  m_load : Md K D "load" "Table.load" s_Table_load ["self", "record"]
  n_Game : Nd K mg C "Game" "Game.__init__" s_Game___init__ ["self", "size"]
  n_Table : Nd K mg D "Table" "Table.__init__" s_Table___init__ ["self", "size"]
theorem main_of {P : Program} {w : World} {K : PySem.W.Frag} {h : Heap} {mg : Str → Option Value} {fa C D : Addr} (X : K.In h) (G : h.Ns mainGlobals mg) (hfa : mg "answers" = some (.ref fa)) (A : Facts K mg C D)
    {f : Addr} {oc kV dc pm cd ct : Value} {od an : Option Addr} {sl : Array (Option Value)} (a : PySem.W.nsIn K mainGlobals "answers" = some (some (.ref f))) (l : K.lookup f = some ⟨oc, od, .func (PySem.W.fnOf "answers" "answers" (defArgs s_answers) (defBody s_answers) (defScope s_answers) .none kV dc pm an cd ct), sl⟩) (c : PySem.W.codeIn K cd "answers" = true) (k : PySem.W.keepIn K (.ref f) = true) :
    ∃ fd : FuncData, (∀ (s : Shared) (us : List Value), us.length = (["calls"] : List Str).length → BindsTo s fd ⟨us, []⟩ ((["calls"] : List Str).zip us)) ∧ ∀ base : Heap, K.In base → base.Ns mainGlobals mg → FnOk P w K mg base CX0 8 fa fd ["calls"] (spAns K) := by
  have e := hfa.symm.trans (PySem.W.mg_of X G a)
  cases e
  refine ⟨PySem.W.fnOf "answers" "answers" (defArgs s_answers) (defBody s_answers) (defScope s_answers) .none kV dc pm an cd ct, fun s us hu => match us, hu with | [_], _ => .of_eq rfl, fun base _ _ => ?_⟩
  have F := fun_mk (st := s_answers) l c k
  have T := A.T
  have g_other := ok_other (P := P) (w := w) (base := base) T A.f_other
  have g_points_beside := ok_points_beside (P := P) (w := w) (base := base) T A.f_points_beside
  have g_smothered_chain := ok_smothered_chain (P := P) (w := w) (base := base) T A.f_smothered_chain
  have g_smothered_beside := ok_smothered_beside T A.f_smothered_beside g_smothered_chain
  have g_part_at := ok_part_at (P := P) (w := w) (base := base) T A.f_part_at
  have g_all_parts := ok_all_parts T A.f_all_parts g_part_at
  have g_liberties := ok_liberties (P := P) (w := w) (base := base) T A.f_liberties
  have g_colours_beside := ok_colours_beside (P := P) (w := w) (base := base) T A.f_colours_beside
  have g_areas := ok_areas T A.f_areas g_all_parts g_colours_beside
  have g_is_size := ok_is_size (P := P) (w := w) (base := base) T A.f_is_size
  have g_chain_numbers := ok_chain_numbers (P := P) (w := w) (base := base) T A.f_chain_numbers
  have g_chains_near := ok_chains_near (P := P) (w := w) (base := base) T A.f_chains_near
  have g_chains_round := ok_chains_round (P := P) (w := w) (base := base) T A.f_chains_round
  have g_chains_kept := ok_chains_kept (P := P) (w := w) (base := base) T A.f_chains_kept
  have g_pieces_by_chain := ok_pieces_by_chain (P := P) (w := w) (base := base) T A.f_pieces_by_chain
  have g_chains_left := ok_chains_left T A.f_chains_left g_pieces_by_chain
  have g_living_chains := ok_living_chains T A.f_living_chains g_all_parts g_other g_chain_numbers g_chains_near g_chains_kept g_chains_round g_chains_left
  have g_living_stones := ok_living_stones T A.f_living_stones g_living_chains
  have g_codes := ok_codes (P := P) (w := w) (base := base) T A.f_codes
  have g_head := ok_head (P := P) (w := w) (base := base) T A.f_head
  have g_turn_letter := ok_turn_letter (P := P) (w := w) (base := base) T A.f_turn_letter
  have g_turn_text := ok_turn_text T A.f_turn_text g_turn_letter
  have g_written := ok_written T A.f_written g_codes g_head g_turn_text
  have g_stands_at := ok_stands_at T A.f_stands_at g_codes
  have g_size_read := ok_size_read T A.f_size_read g_stands_at g_head
  have g_point_read := ok_point_read T A.f_point_read g_codes
  have g_turn_read := ok_turn_read T A.f_turn_read g_stands_at g_turn_text g_point_read
  have g_points_read := ok_points_read T A.f_points_read g_head g_stands_at g_turn_read
  have m_whose_turn := ok_whose_turn (P := P) (w := w) (base := base) T A.G A.m_whose_turn
  have m_is_on_board := ok_is_on_board (P := P) (w := w) (base := base) T A.G A.m_is_on_board
  have m_point_at := ok_point_at (P := P) (w := w) (base := base) T A.G A.m_point_at
  have m_is_at_end := ok_is_at_end (P := P) (w := w) (base := base) T A.G A.m_is_at_end
  have m_turn_refusal := ok_turn_refusal T A.G A.m_turn_refusal m_is_at_end
  have m_put_stone := ok_put_stone T A.G A.m_put_stone m_whose_turn g_other g_smothered_beside g_smothered_chain
  have m_take_turn := ok_take_turn T A.G A.m_take_turn m_turn_refusal m_put_stone
  have m_play := ok_play T A.G A.m_play m_is_on_board m_point_at m_take_turn
  have m_pass_turn := ok_pass_turn T A.G A.m_pass_turn m_take_turn
  have m_lift_stone := ok_lift_stone T A.G A.m_lift_stone m_whose_turn g_other
  have m_undo := ok_undo T A.G A.m_undo m_lift_stone
  have n_Game := ok_Game T A.G A.n_Game g_points_beside
  have n_Table := ok_Table T A.GD A.n_Table n_Game
  have m_load := ok_load T A.G A.GD A.m_load g_size_read g_points_read n_Game m_take_turn
  have g_full_board := ok_full_board (P := P) (w := w) (base := base) T A.f_full_board
  have g_board_answer := ok_board_answer T A.G A.f_board_answer g_full_board m_whose_turn m_is_at_end
  have g_group_answer := ok_group_answer T A.G A.f_group_answer m_is_on_board m_point_at g_part_at g_liberties
  have g_area_answer := ok_area_answer T A.G A.f_area_answer g_areas
  have g_lives_answer := ok_lives_answer T A.G A.f_lives_answer g_living_stones g_full_board
  have g_save_answer := ok_save_answer T A.G A.f_save_answer g_written
  have g_told := ok_told T A.f_told g_board_answer g_group_answer g_area_answer g_lives_answer g_save_answer
  have g_call_answer := ok_call_answer T A.G A.GD A.f_call_answer m_play m_pass_turn m_undo m_load g_told
  have g_place_behind := ok_place_behind (P := P) (w := w) (base := base) T A.HD A.f_place_behind
  exact ok_answers T F g_is_size n_Table g_place_behind g_call_answer
end SG
end
set_option Elab.async false
namespace PySem.W.Fast
def tw11573780915171058257 : Unit := ()
def tw9386041461570598654 : Unit := ()
def tw14898687777698989371 : Unit := ()
def tw13949439070372300316 : Unit := ()
def tw17863180465295437871 : Unit := ()
def tw15298582210790627646 : Unit := ()
def tw3079327541166686227 : Unit := ()
def tw13978633826551757272 : Unit := ()
def tw11724087485081556642 : Unit := ()
def tw18251772973277568976 : Unit := ()
def tw2482660811402272079 : Unit := ()
def tw8643090390828612393 : Unit := ()
def tw11509185224655752992 : Unit := ()
def tw2551832292590622043 : Unit := ()
def tw3476474617149217698 : Unit := ()
def tw13005441895330824171 : Unit := ()
def tw9342347528279573652 : Unit := ()
def tw13382203596665637446 : Unit := ()
def tw3088140899796946325 : Unit := ()
def tw5289943732102512368 : Unit := ()
def tw13566605841230346150 : Unit := ()
def tw3128661970045382589 : Unit := ()
def tw8742450122843515558 : Unit := ()
def tw17240563072054711005 : Unit := ()
def tw7630420262238067661 : Unit := ()
def tw1736644753922992547 : Unit := ()
def tw17092687583767266058 : Unit := ()
def tw10640127044610658226 : Unit := ()
def tw4568306644262029974 : Unit := ()
def tw6786478160873885116 : Unit := ()
def tw2068429343399937451 : Unit := ()
def tw9267348685117540355 : Unit := ()
def tw2426936920933847621 : Unit := ()
def tw11570882546933977308 : Unit := ()
def tw312667054679789811 : Unit := ()
def tw7260029538493252251 : Unit := ()
def tw16373294836688213209 : Unit := ()
def tw15477009045366031740 : Unit := ()
def tw6605359158190251707 : Unit := ()
def tw11084042056761517419 : Unit := ()
def tw4477506113493784141 : Unit := ()
def tw11934880437204545486 : Unit := ()
def tw2456979021655201156 : Unit := ()
def tw7862449955933873379 : Unit := ()
def tw10488565182297420786 : Unit := ()
end PySem.W.Fast
open PySem PySem.W PyProof.Rows
set_option maxRecDepth 100000 in
set_option maxHeartbeats 0 in
theorem PySem.Challenge.cw_stonesgame_s01_answers_holds : PySem.Challenge.rw_stonesgame_s01_answers.Holds := by
  w_on; k_headS; (case hw => exact ⟨[.list [.int 0, .int 0]], by decide +kernel, by decide +kernel⟩)
  k_fillS
  refine L2.walk_specK (r := PySem.Challenge.rw_stonesgame_s01_answers) (k := 8) (CX := L2.CX0) (ps := ["calls"]) (sp := SG.spAns) (by decide +kernel) rfl rfl ⟨rfl, by decide, by decide⟩ (fun w h Y => PySem.W.kIn_of Y) ?F ?S (fun _ _ _ _ z => z)
  case F =>
    intro w mg fa h Y KX G hmg
    have c_EMPTY := SG.ki_int KX G "EMPTY" (0) (by k_is)
    have c_BLACK := SG.ki_int KX G "BLACK" (1) (by k_is)
    have c_WHITE := SG.ki_int KX G "WHITE" (2) (by k_is)
    have c_SMALLEST := SG.ki_int KX G "SMALLEST" (2) (by k_is)
    have c_LARGEST := SG.ki_int KX G "LARGEST" (19) (by k_is)
    have c_MOST_TURNS := SG.ki_int KX G "MOST_TURNS" (1024) (by k_is)
    have c_DONE := SG.ki_int KX G "DONE" (0) (by k_is)
    have c_NOT_ON_BOARD := SG.ki_int KX G "NOT_ON_BOARD" (-2) (by k_is)
    have c_AT_END := SG.ki_int KX G "AT_END" (-3) (by k_is)
    have c_NO_TURN_YET := SG.ki_int KX G "NO_TURN_YET" (-3) (by k_is)
    have c_TOO_MANY_TURNS := SG.ki_int KX G "TOO_MANY_TURNS" (-4) (by k_is)
    have c_NOT_EMPTY := SG.ki_int KX G "NOT_EMPTY" (-5) (by k_is)
    have c_NO_LIBERTY := SG.ki_int KX G "NO_LIBERTY" (-6) (by k_is)
    have c_BOARD_TWICE := SG.ki_int KX G "BOARD_TWICE" (-7) (by k_is)
    have c_PASSED := SG.ki_int KX G "PASSED" (-1) (by k_is)
    have c_NO_CHAIN := SG.ki_int KX G "NO_CHAIN" (-1) (by k_is)
    have c_ENOUGH := SG.ki_int KX G "ENOUGH" (2) (by k_is)
    have c_LETTERS := SG.ki_str KX G "LETTERS" "abcdefghijklmnopqrs" (by k_is)
    have c_PASS_LENGTH := SG.ki_int KX G "PASS_LENGTH" (4) (by k_is)
    have c_PLAY_LENGTH := SG.ki_int KX G "PLAY_LENGTH" (6) (by k_is)
    have c_AHEAD_OF_LETTERS := SG.ki_int KX G "AHEAD_OF_LETTERS" (3) (by k_is)
    have c_WRONG_SIZE := SG.ki_int KX G "WRONG_SIZE" (-2) (by k_is)
    have c_WRONG_LENGTH := SG.ki_int KX G "WRONG_LENGTH" (-2) (by k_is)
    have c_NO_RECORD := SG.ki_int KX G "NO_RECORD" (-1) (by k_is)
    have c_RECORD_TOO_LONG := SG.ki_int KX G "RECORD_TOO_LONG" (-1) (by k_is)
    have c_TURN_REFUSED := SG.ki_int KX G "TURN_REFUSED" (-100) (by k_is)
    have c_MOST_BYTES := SG.ki_int KX G "MOST_BYTES" (8192) (by k_is)
    have c_PLAY := SG.ki_int KX G "PLAY" (1) (by k_is)
    have c_PASS := SG.ki_int KX G "PASS" (2) (by k_is)
    have c_UNDO := SG.ki_int KX G "UNDO" (3) (by k_is)
    have c_BOARD := SG.ki_int KX G "BOARD" (4) (by k_is)
    have c_GROUP := SG.ki_int KX G "GROUP" (5) (by k_is)
    have c_AREA := SG.ki_int KX G "AREA" (6) (by k_is)
    have c_LIVES := SG.ki_int KX G "LIVES" (7) (by k_is)
    have c_LOAD := SG.ki_int KX G "LOAD" (8) (by k_is)
    have b_len := SG.bl_none KX G "len" (by k_is)
    have b_list := SG.bl_none KX G "list" (by k_is)
    have b_tuple := SG.bl_none KX G "tuple" (by k_is)
    have b_range := SG.bl_none KX G "range" (by k_is)
    have b_enumerate := SG.bl_none KX G "enumerate" (by k_is)
    have b_ord := SG.bl_none KX G "ord" (by k_is)
    have f_other := SG.fd_mk KX G "other" SG.s_other ["colour"] (fun _ _ _ _ _ _ us hl => match us, hl with | [_], _ => rfl) (by k_is) (by k_is) (by k_is) (by k_is)
    have f_points_beside := SG.fd_mk KX G "points_beside" SG.s_points_beside ["size", "point"] (fun _ _ _ _ _ _ us hl => match us, hl with | [_, _], _ => rfl) (by k_is) (by k_is) (by k_is) (by k_is)
    have f_smothered_chain := SG.fd_mk KX G "smothered_chain" SG.s_smothered_chain ["stones", "beside", "start"] (fun _ _ _ _ _ _ us hl => match us, hl with | [_, _, _], _ => rfl) (by k_is) (by k_is) (by k_is) (by k_is)
    have f_smothered_beside := SG.fd_mk KX G "smothered_beside" SG.s_smothered_beside ["stones", "beside", "start", "colour"] (fun _ _ _ _ _ _ us hl => match us, hl with | [_, _, _, _], _ => rfl) (by k_is) (by k_is) (by k_is) (by k_is)
    have f_part_at := SG.fd_mk KX G "part_at" SG.s_part_at ["stones", "beside", "start", "colours"] (fun _ _ _ _ _ _ us hl => match us, hl with | [_, _, _, _], _ => rfl) (by k_is) (by k_is) (by k_is) (by k_is)
    have f_all_parts := SG.fd_mk KX G "all_parts" SG.s_all_parts ["stones", "beside", "colours"] (fun _ _ _ _ _ _ us hl => match us, hl with | [_, _, _], _ => rfl) (by k_is) (by k_is) (by k_is) (by k_is)
    have f_liberties := SG.fd_mk KX G "liberties" SG.s_liberties ["stones", "beside", "chain"] (fun _ _ _ _ _ _ us hl => match us, hl with | [_, _, _], _ => rfl) (by k_is) (by k_is) (by k_is) (by k_is)
    have f_colours_beside := SG.fd_mk KX G "colours_beside" SG.s_colours_beside ["stones", "beside", "part"] (fun _ _ _ _ _ _ us hl => match us, hl with | [_, _, _], _ => rfl) (by k_is) (by k_is) (by k_is) (by k_is)
    have f_areas := SG.fd_mk KX G "areas" SG.s_areas ["stones", "beside"] (fun _ _ _ _ _ _ us hl => match us, hl with | [_, _], _ => rfl) (by k_is) (by k_is) (by k_is) (by k_is)
    have f_is_size := SG.fd_mk KX G "is_size" SG.s_is_size ["number"] (fun _ _ _ _ _ _ us hl => match us, hl with | [_], _ => rfl) (by k_is) (by k_is) (by k_is) (by k_is)
    have f_chain_numbers := SG.fd_mk KX G "chain_numbers" SG.s_chain_numbers ["points", "chains"] (fun _ _ _ _ _ _ us hl => match us, hl with | [_, _], _ => rfl) (by k_is) (by k_is) (by k_is) (by k_is)
    have f_chains_near := SG.fd_mk KX G "chains_near" SG.s_chains_near ["chain_of", "beside", "point"] (fun _ _ _ _ _ _ us hl => match us, hl with | [_, _, _], _ => rfl) (by k_is) (by k_is) (by k_is) (by k_is)
    have f_chains_round := SG.fd_mk KX G "chains_round" SG.s_chains_round ["near", "piece"] (fun _ _ _ _ _ _ us hl => match us, hl with | [_, _], _ => rfl) (by k_is) (by k_is) (by k_is) (by k_is)
    have f_chains_kept := SG.fd_mk KX G "chains_kept" SG.s_chains_kept ["stones", "near", "piece"] (fun _ _ _ _ _ _ us hl => match us, hl with | [_, _, _], _ => rfl) (by k_is) (by k_is) (by k_is) (by k_is)
    have f_pieces_by_chain := SG.fd_mk KX G "pieces_by_chain" SG.s_pieces_by_chain ["count", "chains_of"] (fun _ _ _ _ _ _ us hl => match us, hl with | [_, _], _ => rfl) (by k_is) (by k_is) (by k_is) (by k_is)
    have f_chains_left := SG.fd_mk KX G "chains_left" SG.s_chains_left ["count", "kept", "touched"] (fun _ _ _ _ _ _ us hl => match us, hl with | [_, _, _], _ => rfl) (by k_is) (by k_is) (by k_is) (by k_is)
    have f_living_chains := SG.fd_mk KX G "living_chains" SG.s_living_chains ["stones", "beside", "colour"] (fun _ _ _ _ _ _ us hl => match us, hl with | [_, _, _], _ => rfl) (by k_is) (by k_is) (by k_is) (by k_is)
    have f_living_stones := SG.fd_mk KX G "living_stones" SG.s_living_stones ["stones", "beside"] (fun _ _ _ _ _ _ us hl => match us, hl with | [_, _], _ => rfl) (by k_is) (by k_is) (by k_is) (by k_is)
    have f_codes := SG.fd_mk KX G "codes" SG.s_codes ["text"] (fun _ _ _ _ _ _ us hl => match us, hl with | [_], _ => rfl) (by k_is) (by k_is) (by k_is) (by k_is)
    have f_head := SG.fd_mk KX G "head" SG.s_head ["size"] (fun _ _ _ _ _ _ us hl => match us, hl with | [_], _ => rfl) (by k_is) (by k_is) (by k_is) (by k_is)
    have f_turn_letter := SG.fd_mk KX G "turn_letter" SG.s_turn_letter ["number"] (fun _ _ _ _ _ _ us hl => match us, hl with | [_], _ => rfl) (by k_is) (by k_is) (by k_is) (by k_is)
    have f_turn_text := SG.fd_mk KX G "turn_text" SG.s_turn_text ["size", "number", "point"] (fun _ _ _ _ _ _ us hl => match us, hl with | [_, _, _], _ => rfl) (by k_is) (by k_is) (by k_is) (by k_is)
    have f_written := SG.fd_mk KX G "written" SG.s_written ["size", "points"] (fun _ _ _ _ _ _ us hl => match us, hl with | [_, _], _ => rfl) (by k_is) (by k_is) (by k_is) (by k_is)
    have f_stands_at := SG.fd_mk KX G "stands_at" SG.s_stands_at ["record", "place", "text"] (fun _ _ _ _ _ _ us hl => match us, hl with | [_, _, _], _ => rfl) (by k_is) (by k_is) (by k_is) (by k_is)
    have f_size_read := SG.fd_mk KX G "size_read" SG.s_size_read ["record"] (fun _ _ _ _ _ _ us hl => match us, hl with | [_], _ => rfl) (by k_is) (by k_is) (by k_is) (by k_is)
    have f_point_read := SG.fd_mk KX G "point_read" SG.s_point_read ["size", "letters"] (fun _ _ _ _ _ _ us hl => match us, hl with | [_, _], _ => rfl) (by k_is) (by k_is) (by k_is) (by k_is)
    have f_turn_read := SG.fd_mk KX G "turn_read" SG.s_turn_read ["size", "record", "place", "number"] (fun _ _ _ _ _ _ us hl => match us, hl with | [_, _, _, _], _ => rfl) (by k_is) (by k_is) (by k_is) (by k_is)
    have f_points_read := SG.fd_mk KX G "points_read" SG.s_points_read ["size", "record"] (fun _ _ _ _ _ _ us hl => match us, hl with | [_, _], _ => rfl) (by k_is) (by k_is) (by k_is) (by k_is)
    have f_full_board := SG.fd_mk KX G "full_board" SG.s_full_board ["points"] (fun _ _ _ _ _ _ us hl => match us, hl with | [_], _ => rfl) (by k_is) (by k_is) (by k_is) (by k_is)
    have f_board_answer := SG.fd_mk KX G "board_answer" SG.s_board_answer ["game"] (fun _ _ _ _ _ _ us hl => match us, hl with | [_], _ => rfl) (by k_is) (by k_is) (by k_is) (by k_is)
    have f_group_answer := SG.fd_mk KX G "group_answer" SG.s_group_answer ["game", "x", "y"] (fun _ _ _ _ _ _ us hl => match us, hl with | [_, _, _], _ => rfl) (by k_is) (by k_is) (by k_is) (by k_is)
    have f_area_answer := SG.fd_mk KX G "area_answer" SG.s_area_answer ["game"] (fun _ _ _ _ _ _ us hl => match us, hl with | [_], _ => rfl) (by k_is) (by k_is) (by k_is) (by k_is)
    have f_lives_answer := SG.fd_mk KX G "lives_answer" SG.s_lives_answer ["game"] (fun _ _ _ _ _ _ us hl => match us, hl with | [_], _ => rfl) (by k_is) (by k_is) (by k_is) (by k_is)
    have f_save_answer := SG.fd_mk KX G "save_answer" SG.s_save_answer ["game", "most"] (fun _ _ _ _ _ _ us hl => match us, hl with | [_, _], _ => rfl) (by k_is) (by k_is) (by k_is) (by k_is)
    have f_told := SG.fd_mk KX G "told" SG.s_told ["game", "call", "handed"] (fun _ _ _ _ _ _ us hl => match us, hl with | [_, _, _], _ => rfl) (by k_is) (by k_is) (by k_is) (by k_is)
    have f_call_answer := SG.fd_mk KX G "call_answer" SG.s_call_answer ["table", "call", "handed"] (fun _ _ _ _ _ _ us hl => match us, hl with | [_, _, _], _ => rfl) (by k_is) (by k_is) (by k_is) (by k_is)
    have f_place_behind := SG.fd_mk KX G "place_behind" SG.s_place_behind ["calls", "place"] (fun _ _ _ _ _ _ us hl => match us, hl with | [_, _], _ => rfl) (by k_is) (by k_is) (by k_is) (by k_is)
    have n_Game := SG.nd_mk KX G "Game" "Game.__init__" SG.s_Game___init__ ["self", "size"] (fun _ _ _ _ _ _ us hl => match us, hl with | [_, _], _ => rfl) (by k_is) (by k_is) (by k_is) (by k_is) (by k_is) (by k_is) (by k_is) (by k_is)
    have n_Table := SG.nd_mk KX G "Table" "Table.__init__" SG.s_Table___init__ ["self", "size"] (fun _ _ _ _ _ _ us hl => match us, hl with | [_, _], _ => rfl) (by k_is) (by k_is) (by k_is) (by k_is) (by k_is) (by k_is) (by k_is) (by k_is)
    have m_whose_turn := SG.md_mk KX "Game" "whose_turn" "Game.whose_turn" SG.s_Game_whose_turn ["self"] (fun _ _ _ _ _ _ us hl => match us, hl with | [_], _ => rfl) (by k_is) (by k_is) (by k_is) (by k_is) (by k_is) (by k_is)
    have m_is_on_board := SG.md_mk KX "Game" "is_on_board" "Game.is_on_board" SG.s_Game_is_on_board ["self", "x", "y"] (fun _ _ _ _ _ _ us hl => match us, hl with | [_, _, _], _ => rfl) (by k_is) (by k_is) (by k_is) (by k_is) (by k_is) (by k_is)
    have m_point_at := SG.md_mk KX "Game" "point_at" "Game.point_at" SG.s_Game_point_at ["self", "x", "y"] (fun _ _ _ _ _ _ us hl => match us, hl with | [_, _, _], _ => rfl) (by k_is) (by k_is) (by k_is) (by k_is) (by k_is) (by k_is)
    have m_is_at_end := SG.md_mk KX "Game" "is_at_end" "Game.is_at_end" SG.s_Game_is_at_end ["self"] (fun _ _ _ _ _ _ us hl => match us, hl with | [_], _ => rfl) (by k_is) (by k_is) (by k_is) (by k_is) (by k_is) (by k_is)
    have m_turn_refusal := SG.md_mk KX "Game" "turn_refusal" "Game.turn_refusal" SG.s_Game_turn_refusal ["self"] (fun _ _ _ _ _ _ us hl => match us, hl with | [_], _ => rfl) (by k_is) (by k_is) (by k_is) (by k_is) (by k_is) (by k_is)
    have m_play := SG.md_mk KX "Game" "play" "Game.play" SG.s_Game_play ["self", "x", "y"] (fun _ _ _ _ _ _ us hl => match us, hl with | [_, _, _], _ => rfl) (by k_is) (by k_is) (by k_is) (by k_is) (by k_is) (by k_is)
    have m_pass_turn := SG.md_mk KX "Game" "pass_turn" "Game.pass_turn" SG.s_Game_pass_turn ["self"] (fun _ _ _ _ _ _ us hl => match us, hl with | [_], _ => rfl) (by k_is) (by k_is) (by k_is) (by k_is) (by k_is) (by k_is)
    have m_take_turn := SG.md_mk KX "Game" "take_turn" "Game.take_turn" SG.s_Game_take_turn ["self", "point"] (fun _ _ _ _ _ _ us hl => match us, hl with | [_, _], _ => rfl) (by k_is) (by k_is) (by k_is) (by k_is) (by k_is) (by k_is)
    have m_put_stone := SG.md_mk KX "Game" "put_stone" "Game.put_stone" SG.s_Game_put_stone ["self", "point"] (fun _ _ _ _ _ _ us hl => match us, hl with | [_, _], _ => rfl) (by k_is) (by k_is) (by k_is) (by k_is) (by k_is) (by k_is)
    have m_undo := SG.md_mk KX "Game" "undo" "Game.undo" SG.s_Game_undo ["self"] (fun _ _ _ _ _ _ us hl => match us, hl with | [_], _ => rfl) (by k_is) (by k_is) (by k_is) (by k_is) (by k_is) (by k_is)
    have m_lift_stone := SG.md_mk KX "Game" "lift_stone" "Game.lift_stone" SG.s_Game_lift_stone ["self", "point", "taken"] (fun _ _ _ _ _ _ us hl => match us, hl with | [_, _, _], _ => rfl) (by k_is) (by k_is) (by k_is) (by k_is) (by k_is) (by k_is)
    have m_load := SG.md_mk KX "Table" "load" "Table.load" SG.s_Table_load ["self", "record"] (fun _ _ _ _ _ _ us hl => match us, hl with | [_, _], _ => rfl) (by k_is) (by k_is) (by k_is) (by k_is) (by k_is) (by k_is)
    have k_Game := SG.cls_mk KX "Game" (by k_is) (by k_is) (by k_is) (by k_is) (by k_is)
    have k_Table := SG.cls_mk KX "Table" (by k_is) (by k_is) (by k_is) (by k_is) (by k_is)
    have a_Game_size := SG.na_mk KX "Game" "size" (by k_is) (by k_is)
    have a_Game_beside := SG.na_mk KX "Game" "beside" (by k_is) (by k_is)
    have a_Game_stones := SG.na_mk KX "Game" "stones" (by k_is) (by k_is)
    have a_Game_turns := SG.na_mk KX "Game" "turns" (by k_is) (by k_is)
    have a_Game_boards := SG.na_mk KX "Game" "boards" (by k_is) (by k_is)
    have a_Game_taken_off := SG.na_mk KX "Game" "taken_off" (by k_is) (by k_is)
    have a_Table_game := SG.na_mk KX "Table" "game" (by k_is) (by k_is)
    have d_HANDED := SG.kd_mk KX G (by k_is) (by k_is)
    exact SG.main_of KX G hmg ⟨⟨c_EMPTY, c_BLACK, c_WHITE, c_SMALLEST, c_LARGEST, c_MOST_TURNS, c_DONE, c_NOT_ON_BOARD, c_AT_END, c_NO_TURN_YET, c_TOO_MANY_TURNS, c_NOT_EMPTY, c_NO_LIBERTY, c_BOARD_TWICE, c_PASSED, c_NO_CHAIN, c_ENOUGH, c_LETTERS, c_PASS_LENGTH, c_PLAY_LENGTH, c_AHEAD_OF_LETTERS, c_WRONG_SIZE, c_WRONG_LENGTH, c_NO_RECORD, c_RECORD_TOO_LONG, c_TURN_REFUSED, c_MOST_BYTES, c_PLAY, c_PASS, c_UNDO, c_BOARD, c_GROUP, c_AREA, c_LIVES, c_LOAD, b_len, b_list, b_tuple, b_range, b_enumerate, b_ord⟩, ⟨k_Game, a_Game_size, a_Game_beside, a_Game_stones, a_Game_turns, a_Game_boards, a_Game_taken_off⟩, ⟨k_Table, a_Table_game⟩, d_HANDED, f_other, f_points_beside, f_smothered_chain, f_smothered_beside, f_part_at, f_all_parts, f_liberties, f_colours_beside, f_areas, f_is_size, f_chain_numbers, f_chains_near, f_chains_round, f_chains_kept, f_pieces_by_chain, f_chains_left, f_living_chains, f_living_stones, f_codes, f_head, f_turn_letter, f_turn_text, f_written, f_stands_at, f_size_read, f_point_read, f_turn_read, f_points_read, f_full_board, f_board_answer, f_group_answer, f_area_answer, f_lives_answer, f_save_answer, f_told, f_call_answer, f_place_behind, m_whose_turn, m_is_on_board, m_point_at, m_is_at_end, m_turn_refusal, m_play, m_pass_turn, m_take_turn, m_put_stone, m_undo, m_lift_stone, m_load, n_Game, n_Table⟩ (by k_is) (by k_is) (by k_is) (by k_is)
  case S =>
    intro K H xs a hO hwi hask hx
    cases hx with
    | cons h1 h2 =>
      cases h2
      cases h1 with
      | lst hs ha =>
        have e := L2.ints_dw a.1 _ ha
        subst e
        have q : ((Codec.inLen 0 30000 a.1 && a.1.all (Codec.inInt (-2147483648) 2147483647)) && true) = true := hwi
        rw [Bool.and_eq_true, Bool.and_eq_true] at q
        exact ⟨_, a.1, rfl, hs, (Codec.inNat_iff.mp q.1.1).2, hask, fun H' p hp => .lst (L2.SqL.of hp) (L2.dw_ints _)⟩
