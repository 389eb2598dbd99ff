import PyProof.Rows.All
import Wide.All
import OpenK.AllK
import Wide.FinOn
import PyProof.EqAt
import PyProof.EqKinds
import PyProof.TupleCall
import KE.BitLaws
import Open.SpecLaws
import KE.OsHead
import KE.OsGo
import KE.KMinKey
import PyFlatLaws
import PySem.Challenge.RW_stringdeeds_s01_answers
set_option Elab.async false
set_option linter.all false
set_option maxRecDepth 100000
set_option maxHeartbeats 4000000
def Mq (P : Prop) := P
theorem mq {P : Prop} (h : Mq P) : P := h
theorem mr {P : Prop} (h : P) : Mq P := h
theorem mz {P : Prop} (h : P) : P := h
set_option genSizeOf false
set_option bootstrap.genMatcherCode false
set_option compiler.extract_closed false
namespace L2
open PySem PySem.Spec PyProof.Rows
abbrev Key := Sum Int Str
def keyIs : Key → Value → Bool
 | .inl k, v => Value.isInt k v
 | .inr x, v => Value.isStrOf x v
def keyH (w : World) : Key → Int
 | .inl k => hashInt k
 | .inr x => hashStr w x
theorem keyIs_shape : ∀ {k : Key} {v : Value}, keyIs k v = true → (∃ i t, k = Sum.inl i ∧ v = Value.int i t) ∨ (∃ x t, k = Sum.inr x ∧ v = Value.str x t)
 | .inl i, v, h => by
   obtain ⟨t, e⟩ := Value.isInt_shape (k := i) (v := v) h
   exact .inl ⟨i, t, rfl, e⟩
 | .inr x, v, h => by
   obtain ⟨t, e⟩ := Value.isStrOf_shape (x := x) (v := v) h
   exact .inr ⟨x, t, rfl, e⟩
theorem keyIs_int (i : Int) (t : Tok) : keyIs (.inl i) (.int i t) = true := by simp [keyIs, Value.isInt]
theorem keyIs_str (x : Str) (t : Tok) : keyIs (.inr x) (.str x t) = true := by simp [keyIs, Value.isStrOf]
theorem key_ll (a b : Int) : decide ((Sum.inl a : Key) = Sum.inl b) = (a == b) := by
 by_cases e : a = b
 · subst e; simp
 · have h : ¬ (Sum.inl a : Key) = Sum.inl b := fun q => e (Sum.inl.inj q)
   rw [decide_eq_false h]
   exact (beq_eq_false_iff_ne.mpr e).symm
theorem key_rr (a b : Str) : decide ((Sum.inr a : Key) = Sum.inr b) = decide (a = b) := by
 by_cases e : a = b
 · subst e; simp
 · have h : ¬ (Sum.inr a : Key) = Sum.inr b := fun q => e (Sum.inr.inj q)
   rw [decide_eq_false h, decide_eq_false e]
theorem key_lr (a : Int) (b : Str) : decide ((Sum.inl a : Key) = Sum.inr b) = false := decide_eq_false (fun q => nomatch q)
theorem key_rl (a : Str) (b : Int) : decide ((Sum.inr a : Key) = Sum.inl b) = false := decide_eq_false (fun q => nomatch q)
def mixKind (prog : Program) (w : World) : PySem.KeyKind prog w Key where
 is := keyIs
 hash := keyH w
 inj := fun v a b ha hb => by
   rcases keyIs_shape ha with ⟨i, t, rfl, rfl⟩ | ⟨x, t, rfl, rfl⟩
   · rcases keyIs_shape hb with ⟨j, u, rfl, e⟩ | ⟨y, u, rfl, e⟩
     · injection e with e1 _; rw [e1]
     · exact nomatch e
   · rcases keyIs_shape hb with ⟨j, u, rfl, e⟩ | ⟨y, u, rfl, e⟩
     · exact nomatch e
     · injection e with e1 _; rw [e1]
 byValue := fun k v h => by
   rcases keyIs_shape h with ⟨i, t, rfl, rfl⟩ | ⟨x, t, rfl, rfl⟩ <;> rfl
 pyHash := fun hv h => by
   rcases keyIs_shape hv with ⟨i, t, rfl, rfl⟩ | ⟨x, t, rfl, rfl⟩
   · exact wpAny_pyHash_int h
   · exact wpAny_pyHash_str h
 eqBool := fun hu hv h => by
   rcases keyIs_shape hu with ⟨i, t, rfl, rfl⟩ | ⟨x, t, rfl, rfl⟩
   · rcases keyIs_shape hv with ⟨j, u, rfl, rfl⟩ | ⟨y, u, rfl, rfl⟩
     · rw [key_ll] at h; exact wpAny_eqBool_int h
     · rw [key_lr] at h; exact SeqAt.EqAt.int_str i t y u _ _ _ _ h
   · rcases keyIs_shape hv with ⟨j, u, rfl, rfl⟩ | ⟨y, u, rfl, rfl⟩
     · rw [key_rl] at h; exact SeqAt.EqAt.str_int x t j u _ _ _ _ h
     · rw [key_rr] at h; exact wpAny_eqBool_str h
 «strs» := fun k x t v h => by
   rcases keyIs_shape h with ⟨i, u, rfl, e⟩ | ⟨y, u, rfl, e⟩
   · exact nomatch e
   · injection e with e1 _
     subst e1
     cases v <;> rfl
theorem mixKind_int (prog : Program) (w : World) (i : Int) (t : Tok) : (mixKind prog w).is (.inl i) (.int i t) = true := keyIs_int i t
theorem mixKind_str (prog : Program) (w : World) (x : Str) (t : Tok) : (mixKind prog w).is (.inr x) (.str x t) = true := keyIs_str x t
end L2
namespace L2
open PySem PySem.Spec PyProof.Rows
inductive V where
 | non | bl (b : Bool) | int (i : Int) | str (x : Str) | byt (b : Array UInt8) | flt (b : UInt64) | ref (a : Addr) | ty (n : String)
 deriving DecidableEq
def RelV : V → Value → Prop
 | .non, u => u = Value.none
 | .bl b, u => u = Value.bool b
 | .int i, u => ∃ t, u = Value.int i t
 | .str x, u => ∃ t, u = Value.str x t
 | .byt b, u => ∃ t, u = Value.bytes b t
 | .flt b, u => ∃ t, u = Value.float b t
 | .ref a, u => u = Value.ref a
 | .ty n, u => u = Value.type n
abbrev Vals : List V → List Value → Prop := Paired RelV
theorem Vals.length {xs : List V} {us : List Value} (r : Vals xs us) : xs.length = us.length := Paired.length r
theorem Vals.get : ∀ {xs : List V} {us : List Value} {i : Nat} {x : V}, Vals xs us → xs[i]? = some x → ∃ u, us[i]? = some u ∧ RelV x u
 | _, _, _, _, .nil, e => by simp at e
 | _, _, 0, _, .cons r _, e => by simp at e; subst e; exact ⟨_, rfl, r⟩
 | _, _, i + 1, x, .cons _ t, e => by
   obtain ⟨u, h1, h2⟩ := Vals.get (i := i) (x := x) t (by simpa using e)
   exact ⟨u, by simpa using h1, h2⟩
theorem Vals.set {x : V} {u : Value} (r : RelV x u) : ∀ {xs : List V} {us : List Value} (i : Nat), Vals xs us → Vals (xs.set i x) (us.set i u)
 | _, _, _, .nil => .nil
 | _, _, 0, .cons _ t => .cons r t
 | _, _, i + 1, .cons q t => .cons q (Vals.set r i t)
theorem Vals.append : ∀ {xs ys : List V} {us ws : List Value}, Vals xs us → Vals ys ws → Vals (xs ++ ys) (us ++ ws)
 | _, _, _, _, .nil, s => s
 | _, _, _, _, .cons r t, s => .cons r (Vals.append t s)
theorem Vals.take : ∀ {xs : List V} {us : List Value} (n : Nat), Vals xs us → Vals (xs.take n) (us.take n)
 | _, _, 0, _ => .nil
 | _, _, _ + 1, .nil => .nil
 | _, _, n + 1, .cons r t => .cons r (Vals.take n t)
theorem Vals.drop : ∀ {xs : List V} {us : List Value} (n : Nat), Vals xs us → Vals (xs.drop n) (us.drop n)
 | _, _, 0, r => r
 | _, _, _ + 1, .nil => .nil
 | _, _, n + 1, .cons _ t => Vals.drop n t
def RelO : Option V → Option Value → Prop
 | some v, some u => RelV v u
 | none, none => True
 | _, _ => False
def KV {κ : Type} : List (κ × V) → List (κ × Value) → Prop := Paired fun (p : κ × V) (q : κ × Value) => p.1 = q.1 ∧ RelV p.2 q.2
def kV : Key → V
 | .inl i => .int i
 | .inr x => .str x
inductive HO where
 | lst (xs : List V)
 | tup (xs : List V)
 | dK (kvs : List (Key × V)) | dT (kvs : List (List Key × V))
 | set (S : Int → Bool) (n : Nat)
 | ins (C dx : Addr) (fs : List (Str × V))
 | own (x : Addr)
 | xd (fs : List (Str × V))
 | met (f x : Addr)
 | rng (lo hi : Int)
 | frz (o : Obj) (u : HO)
 | tbl (ps : Array Value)
 | ext (φ : Heap → Prop)
set_option genInjectivity false
abbrev Hp := Addr → Option HO
def upd (H : Hp) (a : Addr) (o : HO) : Hp := fun b => if b = a then some o else H b
theorem upd_same {H : Hp} {a : Addr} {o : HO} : upd H a o a = some o := by unfold upd; rw [if_pos rfl]
theorem upd_ne {H : Hp} {a b : Addr} {o : HO} (h : b ≠ a) : upd H a o b = H b := by unfold upd; rw [if_neg h]
theorem upd_upd {H : Hp} {a : Addr} {o u : HO} : upd (upd H a o) a u = upd H a u := by
 funext b; unfold upd; split <;> rfl
theorem ne_of {H : Hp} {a b : Addr} {o u : HO} (h : H a = some o) (h' : H b = some u) (d : o ≠ u) : a ≠ b := by
 intro e; subst e; rw [h] at h'; exact d (Option.some.inj h')
theorem ne_of_none {H : Hp} {a b : Addr} {o : HO} (h : H a = some o) (h' : H b = none) : a ≠ b := by
 intro e; subst e; rw [h] at h'; cases h'
section
variable (P : Program) (w : World)
def ObjOk (H : Hp) (h : Heap) (a : Addr) : HO → Prop
 | .lst xs => xs.length ≤ sizeLine ∧ ∃ (its : List Value) (n : Nat), Vals xs its ∧ h.get? a = some { cls := .type "list", data := .seq its.toArray n }
 | .tup xs => xs.length ≤ sizeLine ∧ ∃ its : List Value, Vals xs its ∧ IsTup h a its.toArray
 | .dK kvs => kvs.length ≤ sizeLine ∧ (a == sysModules) = false ∧ ∃ vs, KV kvs vs ∧ h.DictOf (mixKind P w) a vs
 | .dT kvs => kvs.length ≤ sizeLine ∧ (a == sysModules) = false ∧ ∃ xs : List (List Key × Addr × Value),
     Paired (fun (p : List Key × V) (q : List Key × Addr × Value) => p.1 = q.1 ∧ H q.2.1 = some (.tup (p.1.map kV)) ∧ RelV p.2 q.2.2) kvs xs ∧
     ∃ o es ep, h.get? a = some o ∧ o.ExactDict ∧ o.data = .dict es ep ∧ es.toList = xs.map (entryOfKey (tupleKind (mixKind P w))) ∧ (xs.map (·.1)).Nodup
 | .set S n => h.SetOf (intKind P w) a S n
 | .ins C dx fs => H dx = some (.own a) ∧ fs.length ≤ 1000 ∧ dx ≠ a ∧ h.get? a = some (PySem.W.instObj C dx) ∧
     ∃ mA, h.Ns1 dx mA ∧ (∀ f, RelO (fs.lookup f) (mA f)) ∧ PySem.Within mA (fs.map (·.1))
 | .own _ => ∃ o, h.get? a = some o
 | .xd fs => ∃ mA, h.Ns1 a mA ∧ ∀ f, RelO (fs.lookup f) (mA f)
 | .rng lo hi => ∃ t u v, h.get? a = some { cls := .type "range", data := .fields #[.int lo t, .int hi u, .int 1 v] }
 | .frz o u => h.get? a = some o ∧ ObjOk H h a u
 | .tbl ps => h.get? a = some { cls := .none, data := .fields ps }
 | .met f x => h.get? a = some (PySem.W.methodObj (.ref f) (.ref x))
 | .ext φ => φ h ∧ (∃ o, h.get? a = some o) ∧ ∀ h1 h2 : Heap, φ h1 → (∀ o, h1.get? a = some o → h2.get? a = some o) → φ h2
def HOk (H : Hp) (h : Heap) : Prop := ∀ a o, H a = some o → ObjOk P w H h a o
end
section
variable {P : Program} {w : World} {H H' : Hp} {h h' : Heap} {a : Addr} {o : HO}
theorem ObjOk.lt (x : ObjOk P w H h a o) : a < h.objs.size := by
 refine mq ?_; simp (disch := k_dflt (
 refine mz ?_
 cases o with
 | lst xs => obtain ⟨_, _, _, _, e⟩ := x; exact Heap.lt_size e
 | tup xs => obtain ⟨_, _, _, p⟩ := x; exact p.lt
 | dK kvs => obtain ⟨_, _, _, _, o, _, _, e, _⟩ := x; exact Heap.lt_size e
 | dT kvs => obtain ⟨_, _, _, _, o, _, _, e, _⟩ := x; exact Heap.lt_size e
 | set S n => obtain ⟨o, _, _, _, e, _⟩ := x; exact Heap.lt_size e
 | ins C dx fs => obtain ⟨_, _, _, e, _⟩ := x; exact Heap.lt_size e
 | own y => obtain ⟨_, e⟩ := x; exact Heap.lt_size e
 | xd fs => obtain ⟨_, ⟨_, _, _, e, _⟩, _⟩ := x; exact Heap.lt_size e
 | rng lo hi => obtain ⟨_, _, _, e⟩ := x; exact Heap.lt_size e
 | frz ob u => obtain ⟨e, _⟩ := x; exact Heap.lt_size e
 | tbl ps => exact Heap.lt_size (show h.get? a = some _ from x)
 | met f y => exact Heap.lt_size (show h.get? a = some _ from x)
 | ext φ => obtain ⟨_, ⟨_, e⟩, _⟩ := x; exact Heap.lt_size e)) only [↓mr]
theorem Paired.mapP {α β : Type} {F G : α → β → Prop} : ∀ {l₁ : List α} {l₂ : List β}, Paired F l₁ l₂ → (∀ a b, F a b → G a b) → Paired G l₁ l₂
 | _, _, .nil, _ => .nil
 | _, _, .cons r t, f => .cons (f _ _ r) (Paired.mapP t f)
theorem ObjOk.stay (x : ObjOk P w H h a o) (k : ∀ b u, (b = a ∨ H b = some (.own a)) → h.get? b = some u → h'.get? b = some u)
   (ho : ∀ b, H b = some (.own a) → H' b = some (.own a)) (ht : ∀ b xs, H b = some (.tup xs) → H' b = some (.tup xs)) : ObjOk P w H' h' a o := by
 refine mq ?_; simp (disch := k_dflt (
 refine mz ?_
 induction o with
 | lst xs => obtain ⟨z, its, n, r, e⟩ := x; exact ⟨z, its, n, r, k _ _ (.inl rfl) e⟩
 | tup xs => obtain ⟨z, its, r, ob, e, c⟩ := x; exact ⟨z, its, r, ob, k _ _ (.inl rfl) e, c⟩
 | dK kvs => obtain ⟨z, y, vs, r, ob, es, ep, e, c⟩ := x; exact ⟨z, y, vs, r, ob, es, ep, k _ _ (.inl rfl) e, c⟩
 | dT kvs =>
   obtain ⟨z, y, xs, r, ob, es, ep, e, c⟩ := x
   exact ⟨z, y, xs, Paired.mapP r fun p q z => ⟨z.1, ht _ _ z.2.1, z.2.2⟩, ob, es, ep, k _ _ (.inl rfl) e, c⟩
 | set S n => obtain ⟨ob, es, ep, t, e, c⟩ := x; exact ⟨ob, es, ep, t, k _ _ (.inl rfl) e, c⟩
 | ins C dx fs =>
   obtain ⟨d, z, ne, e, mA, ⟨od, es, ep, e2, c⟩, r⟩ := x
   exact ⟨ho _ d, z, ne, k _ _ (.inl rfl) e, mA, ⟨od, es, ep, k _ _ (.inr d) e2, c⟩, r⟩
 | own y => obtain ⟨ob, e⟩ := x; exact ⟨ob, k _ _ (.inl rfl) e⟩
 | xd fs => obtain ⟨mA, ⟨od, es, ep, e, c⟩, r⟩ := x; exact ⟨mA, ⟨od, es, ep, k _ _ (.inl rfl) e, c⟩, r⟩
 | rng lo hi => obtain ⟨t, u, v, e⟩ := x; exact ⟨t, u, v, k _ _ (.inl rfl) e⟩
 | frz ob u ih => obtain ⟨e, q⟩ := x; exact ⟨k _ _ (.inl rfl) e, ih q⟩
 | tbl ps =>
   have e : h.get? a = some { cls := .none, data := .fields ps } := x
   show h'.get? a = some { cls := .none, data := .fields ps }
   exact k a _ (.inl rfl) e
 | met f y =>
   have e : h.get? a = some (PySem.W.methodObj (.ref f) (.ref y)) := x
   show h'.get? a = some (PySem.W.methodObj (.ref f) (.ref y))
   exact k a _ (.inl rfl) e
 | ext φ => obtain ⟨p, ⟨o, e⟩, st⟩ := x; exact ⟨st _ _ p fun o q => k _ _ (.inl rfl) q, ⟨o, k _ _ (.inl rfl) e⟩, st⟩)) only [↓mr]
theorem HOk.lt (x : HOk P w H h) (e : H a = some o) : a < h.objs.size := (x a o e).lt
theorem HOk.fresh (x : HOk P w H h) (e : h.objs.size ≤ a) : H a = none := by
 cases q : H a with
 | none => rfl
 | some u => exact absurd (Nat.lt_of_lt_of_le (x.lt q) e) (Nat.lt_irrefl _)
theorem HOk.kept (x : HOk P w H h) (k : ∀ b u, h.get? b = some u → h'.get? b = some u) : HOk P w H h' := fun a o e =>
 (x a o e).stay (fun b u _ q => k b u q) (fun _ q => q) fun _ _ q => q
theorem HOk.laid (x : HOk P w H h) (k : ∀ b u, h.get? b = some u → h'.get? b = some u) (hp : h.objs.size ≤ a) (new : ObjOk P w (upd H a o) h' a o) : HOk P w (upd H a o) h' := fun b u e => by
 have hn := x.fresh hp
 by_cases hb : b = a
 · subst hb; rw [upd_same] at e; cases e; exact new
 · rw [upd_ne hb] at e
   exact (x b u e).stay (fun c v _ q => k c v q) (fun c q => by rw [upd_ne (ne_of_none q hn)]; exact q) fun c xs q => by rw [upd_ne (ne_of_none q hn)]; exact q
end
def Rd (H : Hp) (a : Addr) (u : HO) : Prop := H a = some u ∨ ∃ o, H a = some (.frz o u)
theorem Rd.ok {P : Program} {w : World} {H : Hp} {h : Heap} {a : Addr} {u : HO} (r : Rd H a u) (x : HOk P w H h) : ObjOk P w H h a u := by
 rcases r with r | ⟨o, r⟩
 · exact x a u r
 · obtain ⟨_, q⟩ := x a _ r
   exact q
def Mut : Option HO → Prop
 | some (.lst _) => True
 | some (.dK _) => True
 | some (.dT _) => True
 | some (.set _ _) => True
 | some (.ins _ _ _) => True
 | some (.ext _) => True
 | _ => False
section
variable {P : Program} {w : World} {H : Hp} {h h' : Heap} {x e : Addr} {o' : HO}
theorem HOk.write (ok : HOk P w H h) (mu : Mut (H x)) (he : e = x ∨ H e = some (.own x)) (k : ∀ b u, b ≠ e → h.get? b = some u → h'.get? b = some u) (heo : ∃ u, h'.get? e = some u)
   (new : ObjOk P w (upd H x o') h' x o') : HOk P w (upd H x o') h' := fun b u q => by
 refine mq ?_; simp (disch := k_dflt (
 refine mz ?_
 have nown : ∀ c y, H c = some (.own y) → c ≠ x := fun c y r z => by subst z; rw [r] at mu; exact mu
 have ntup : ∀ c xs, H c = some (.tup xs) → c ≠ x := fun c xs r z => by subst z; rw [r] at mu; exact mu
 by_cases hb : b = x
 · subst hb; rw [upd_same] at q; cases q; exact new
 · rw [upd_ne hb] at q
   by_cases hbe : b = e
   · have q' : H b = some (.own x) := by
       rcases he with z | z
       · exact absurd (hbe.trans z) hb
       · rw [hbe]; exact z
     rw [q] at q'; cases q'
     obtain ⟨v, hv⟩ := heo
     exact ⟨v, by rw [hbe]; exact hv⟩
   · refine (ok b u q).stay (fun c v hc r => k c v ?_ r) (fun c r => by rw [upd_ne (nown c b r)]; exact r) fun c xs r => by rw [upd_ne (ntup c xs r)]; exact r
     rcases hc with rfl | hc
     · exact hbe
     · rintro rfl
       rcases he with z | z
       · exact nown c b hc z
       · rw [hc] at z; cases z; exact hb rfl)) only [↓mr]
end
structure Un (fs ex : List Addr) (H H' : Hp) (h h' : Heap) : Prop where
 keep : ∀ b o, h.get? b = some o → H b = none → b ∉ fs → b ∉ ex → h'.get? b = some o
 slot : ∀ b o, h.get? b = some o → H b = none → b ∈ fs → b ∉ ex → ∃ sl, h'.get? b = some { o with slots := sl }
 free : ∀ b o, h.get? b = some o → H b = none → b ∉ ex → H' b = none
 there : ∀ b o, h.get? b = some o → b ∉ ex → ∃ o', h'.get? b = some o'
 tups : ∀ b xs, H b = some (.tup xs) → H' b = some (.tup xs)
 frzs : ∀ b o u, H b = some (.frz o u) → H' b = some (.frz o u)
 tbls : ∀ b ps, H b = some (.tbl ps) → ∃ more, H' b = some (.tbl (ps ++ more))
section
variable {fs fs' ex ex' : List Addr} {H H1 H2 : Hp} {h h1 h2 h' : Heap} {a x e : Addr} {o : HO}
theorem Un.any (u : Un fs ex H H1 h h1) {b : Addr} {ob : Obj} (q : h.get? b = some ob) (n : H b = none) (hx : b ∉ ex) : ∃ sl, h1.get? b = some { ob with slots := sl } := by
 by_cases hb : b ∈ fs
 · exact u.slot b ob q n hb hx
 · exact ⟨ob.slots, u.keep b ob q n hb hx⟩
theorem Un.kept (k : ∀ b u, h.get? b = some u → h'.get? b = some u) : Un fs ex H H h h' :=
 ⟨fun b ob q _ _ _ => k b ob q, fun b ob q _ _ _ => ⟨ob.slots, k b ob q⟩, fun _ _ _ n _ => n, fun b ob q _ => ⟨ob, k b ob q⟩, fun _ _ q => q, fun _ _ _ q => q, fun _ ps q => ⟨#[], by rw [q]; simp⟩⟩
theorem Un.refl : Un fs ex H H h h := Un.kept fun _ _ q => q
theorem Un.laid (k : ∀ b u, h.get? b = some u → h'.get? b = some u) (hp : h.objs.size ≤ a) (hn : H a = none) : Un fs ex H (upd H a o) h h' where
 keep := fun b u q _ _ _ => k b u q
 slot := fun b u q _ _ _ => ⟨u.slots, k b u q⟩
 free := fun b u q n _ => by rw [upd_ne (Nat.ne_of_lt (Nat.lt_of_lt_of_le (Heap.lt_size q) hp))]; exact n
 there := fun b u q _ => ⟨u, k b u q⟩
 tups := fun b xs q => by rw [upd_ne (ne_of_none q hn)]; exact q
 frzs := fun b u xs q => by rw [upd_ne (ne_of_none q hn)]; exact q
 tbls := fun b ps q => ⟨#[], by rw [upd_ne (ne_of_none q hn), q]; simp⟩
theorem Un.write (mu : Mut (H x)) (he : e = x ∨ H e = some (.own x)) (k : ∀ b u, b ≠ e → h.get? b = some u → h'.get? b = some u) (heo : ∃ u, h'.get? e = some u) : Un fs ex H (upd H x o) h h' := by
 refine mq ?_; simp (disch := k_dflt (
 refine mz ?_
 have hx : ∀ b, H b = none → b ≠ x := fun b n z => by subst z; rw [n] at mu; exact mu
 have hb : ∀ b, H b = none → b ≠ e := fun b n z => by
   subst z
   rcases he with r | r
   · exact hx b n r
   · rw [n] at r; cases r
 have hm : ∀ b u, H b = some u → ¬ Mut (some u) → b ≠ x := fun b u q nm z => by subst z; rw [q] at mu; exact nm mu
 refine ⟨fun b u q n _ _ => k b u (hb b n) q, fun b u q n _ _ => ⟨u.slots, k b u (hb b n) q⟩, fun b u q n _ => by rw [upd_ne (hx b n)]; exact n, fun b u q _ => ?_,
   fun b xs q => by rw [upd_ne (hm b _ q fun z => z)]; exact q, fun b u xs q => by rw [upd_ne (hm b _ q fun z => z)]; exact q, fun b ps q => ⟨#[], by rw [upd_ne (hm b _ q fun z => z), q]; simp⟩⟩
 by_cases hbe : b = e
 · subst hbe; exact heo
 · exact ⟨u, k b u hbe q⟩)) only [↓mr]
end
def trk (h : Heap) (H : Hp) : List Addr := (List.range h.objs.size).filter fun a => (H a).isSome
def hidT (h : Heap) (H : Hp) : Heap := PySem.W.hideAll h (trk h H)
theorem hidT_size (h : Heap) (H : Hp) : (hidT h H).objs.size = h.objs.size := PySem.W.hideAll_size _ _
theorem hidT_get {h : Heap} {H : Hp} {b : Addr} {o : Obj} (e : h.get? b = some o) (n : H b = none) : (hidT h H).get? b = some o :=
 PySem.W.hideAll_get _ e fun hm => by
   have q : (H b).isSome = true := (List.mem_filter.mp hm).2
   rw [n] at q; simp at q
theorem of_hidT {h : Heap} {H : Hp} {b : Addr} {o : Obj} (e : (hidT h H).get? b = some o) : h.get? b = some o ∧ H b = none := by
 have e' : h.get? b = some o := PySem.W.of_hideAll (trk h H) e
 refine ⟨e', ?_⟩
 cases q : H b with
 | none => rfl
 | some x =>
   have hm : b ∈ trk h H := List.mem_filter.mpr ⟨List.mem_range.mpr (Heap.lt_size e'), by simp [q]⟩
   have z : (hidT h H).get? b = none := PySem.W.hideAll_none (trk h H) hm
   rw [z] at e; cases e
end L2
namespace L2
open PySem PySem.Spec PyProof.Rows
structure Mod (K : PySem.W.Frag) (mg : Str → Option Value) (base : Heap) : Prop where
 kin : K.In base
 glob : base.Ns mainGlobals mg
 blt : ∃ mb, base.Ns builtinsNs mb ∧ ∀ x : Str, x ≠ "__name__" → mb x = bootBuiltins x
 nolimit : base.NoLimit
structure Cx where
 prog : Program
 w : World
 K : PySem.W.Frag
 mg : Str → Option Value
 base : Heap
 A : Around
 N : List Str
 s_0 : Shared
 H_0 : Hp
 env : Env
 outer : List Env
 stack : List Env
 ex : List Addr
 fn : Str → Bool
 calm : Bool
 pn : List (Addr × Obj)
 xe : Value → Shared → Prop
def frs (l : List Env) : List Addr := l.filterMap (·.frame)
abbrev Cx.fs (X : Cx) : List Addr := frs X.outer
def Vis (sc : Scope) (x : Str) : Prop := sc.names.lookup x = some .local ∨ sc.names.lookup x = some .cell ∨ sc.names.lookup x = some .free
def Loc (sc : Scope) (x : Str) : Prop := sc.names.lookup x = some .local ∨ sc.names.lookup x = some .cell
def Look (env : Env) (h : Heap) (m : Str → Option Value) (x : Str) (u : Value) : Prop :=
 (env.kindOf x = some .local ∧ m x = some u) ∨ ((env.kindOf x = some .cell ∨ env.kindOf x = some .free) ∧ ∃ c, env.cells.lookup x = some c ∧ h.IsCell c (some u))
structure Cx.Ok (X : Cx) : Prop where
 mod : Mod X.K X.mg X.base
 kind : X.env.scope.kind = .function
 glob : X.env.globals = mainGlobals
 blt : X.env.builtins = builtinsNs
 above : X.s_0.heap.objs.size ≤ X.env.locals
 inj : ∀ x y c, X.env.cells.lookup x = some c → X.env.cells.lookup y = some c → x = y
 has : ∀ x, (X.env.kindOf x = some .cell ∨ X.env.kindOf x = some .free) → ∃ c, X.env.cells.lookup x = some c
 cab : ∀ x c, X.fn x = true → X.env.cells.lookup x = some c → X.s_0.heap.objs.size ≤ c
 hd : X.calm = true → X.A.handled = none
 frames : X.A.frames = some X.stack
 stk : X.stack = X.outer ∨ (X.stack = X.env :: X.outer ∧ X.env.frame = some X.env.locals)
 exf : ∀ b ∈ X.ex, b ≠ X.env.locals ∧ ∀ x c, X.env.cells.lookup x = some c → c ≠ b
 bs : ∀ b o, X.base.get? b = some o → X.s_0.heap.get? b = some o ∧ X.H_0 b = none
 bsz : X.base.objs.size ≤ X.s_0.heap.objs.size
 noex : ∀ b o, X.base.get? b = some o → b ∉ X.ex
 exfs : ∀ b ∈ X.ex, b ∉ X.fs
 funs : X.s_0.heap.FunFrames X.base X.outer
 frf : ∀ b ∈ X.fs, X.H_0 b = none
structure Inv (X : Cx) (pins : List (Addr × Obj)) (σ : List (Option V)) (H : Hp) (s : Shared) : Prop where
 ok : X.Ok
 os : s.os = X.s_0.os
 bare : AllBare s.gens
 base : Un X.fs X.ex X.H_0 H X.s_0.heap s.heap
 loc : ∃ m, s.heap.Ns X.env.locals m ∧ ∀ (i : Nat) (x : Str) (v : V), X.N[i]? = some x → σ[i]? = some (some v) → Vis X.env.scope x → ∃ u, RelV v u ∧ Look X.env s.heap m x u
 cell : ∀ x c, X.env.cells.lookup x = some c → ∃ v, s.heap.IsCell c v
 free : H X.env.locals = none
 freeC : ∀ x c, X.env.cells.lookup x = some c → H c = none
 pin : ∀ p ∈ X.pn ++ pins, s.heap.get? p.1 = some p.2 ∧ H p.1 = none ∧ p.1 ≠ X.env.locals ∧ p.1 ∉ X.fs ∧ ∀ v, p.2.data ≠ .cell v
 hok : HOk X.prog X.w H s.heap
 len : σ.length = X.N.length
section
variable {X : Cx} {pins : List (Addr × Obj)} {σ : List (Option V)} {H H' : Hp} {s : Shared} {h' : Heap}
theorem Cx.Ok.nofr (ok : X.Ok) {b : Addr} {o : Obj} (e : X.base.get? b = some o) : b ∉ X.fs := fun hb => by
 have := (ok.funs.mem hb).1
 rw [e] at this; cases this
theorem Inv.bs (I : Inv X pins σ H s) : ∀ b o, X.base.get? b = some o → s.heap.get? b = some o ∧ H b = none := fun b o e =>
 ⟨I.base.keep b o (I.ok.bs b o e).1 (I.ok.bs b o e).2 (I.ok.nofr e) (I.ok.noex b o e), I.base.free b o (I.ok.bs b o e).1 (I.ok.bs b o e).2 (I.ok.noex b o e)⟩
theorem Inv.bk (I : Inv X pins σ H s) : ∀ b o, X.base.get? b = some o → s.heap.get? b = some o := fun b o e => (I.bs b o e).1
theorem Inv.mod (I : Inv X pins σ H s) : Mod X.K X.mg X.base := I.ok.mod
theorem Inv.kIn (I : Inv X pins σ H s) : X.K.In s.heap := I.ok.mod.kin.keeps I.bk
theorem Inv.lt (I : Inv X pins σ H s) : X.env.locals < s.heap.objs.size := let ⟨_, hn, _⟩ := I.loc; hn.lt
theorem Inv.sz (I : Inv X pins σ H s) : X.s_0.heap.objs.size ≤ s.heap.objs.size := Nat.le_trans I.ok.above (Nat.le_of_lt I.lt)
theorem Inv.nofs (I : Inv X pins σ H s) {a : Addr} (h : s.heap.objs.size ≤ a) : a ∉ X.fs := fun hb => by
 obtain ⟨_, o, ho, _⟩ := I.ok.funs.mem hb
 exact absurd (Nat.lt_of_lt_of_le (Heap.lt_size ho) (Nat.le_trans I.sz h)) (Nat.lt_irrefl _)
theorem Inv.cne (I : Inv X pins σ H s) : ∀ x c, X.env.cells.lookup x = some c → c ≠ X.env.locals := fun x c e z => by
 obtain ⟨v, o, ho, hd⟩ := I.cell x c e
 obtain ⟨m, ⟨o', es, ep, ho', hd', _⟩, _⟩ := I.loc
 rw [z, ho'] at ho; cases ho; rw [hd'] at hd; cases hd
theorem Inv.funs (I : Inv X pins σ H s) : s.heap.FunFrames X.base X.outer := by
 refine mq ?_; simp (disch := k_dflt (
 refine mz ?_
 have all : ∀ (l : List Env), (∀ b ∈ frs l, b ∈ X.fs) → X.s_0.heap.FunFrames X.base l → s.heap.FunFrames X.base l := by
   intro l
   induction l with
   | nil => intro _ _; trivial
   | cons env r ih =>
     intro hs hl
     obtain ⟨hk, ⟨L, o, hf, hn, ho, hd⟩, hr⟩ := hl
     have hL : L ∈ X.fs := hs L (by unfold frs; rw [List.filterMap_cons, hf]; exact List.mem_cons_self)
     obtain ⟨sl, e⟩ := I.base.slot L o ho (I.ok.frf L hL) hL fun z => I.ok.exfs L z hL
     exact ⟨hk, ⟨L, _, hf, hn, e, hd⟩, ih (fun b hb => hs b (by unfold frs; rw [List.filterMap_cons, hf]; exact List.mem_cons_of_mem _ hb)) hr⟩
 exact all X.outer (fun _ hb => hb) I.ok.funs)) only [↓mr]
theorem Inv.stack (I : Inv X pins σ H s) : s.heap.FunFrames X.base X.stack := by
 rcases I.ok.stk with e | ⟨e, hf⟩
 · rw [e]; exact I.funs
 · rw [e]
   obtain ⟨m, hn, _⟩ := I.loc
   refine .cons (by rw [I.ok.kind]; decide) hf hn ?_ I.funs
   exact Heap.get?_none_of_le (Nat.le_trans I.ok.bsz I.ok.above)
theorem Inv.stkSub (I : Inv X pins σ H s) : ∀ b ∈ frs X.stack, b ∈ X.env.locals :: X.fs := fun b hb => by
 rcases I.ok.stk with e | ⟨e, hf⟩
 · rw [e] at hb; exact List.mem_cons_of_mem _ hb
 · rw [e] at hb
   unfold frs at hb
   rw [List.filterMap_cons, hf] at hb
   exact hb
theorem Inv.stkFree (I : Inv X pins σ H s) : ∀ b ∈ frs X.stack, H b = none := fun b hb => by
 rcases List.mem_cons.mp (I.stkSub b hb) with e | hb
 · rw [e]; exact I.free
 · obtain ⟨_, o, ho, _⟩ := I.ok.funs.mem hb
   exact I.base.free b o ho (I.ok.frf b hb) fun z => I.ok.exfs b z hb
theorem Inv.step {g' : Array GenState} {t' : Nat} {d' : Drawn} {ch : List Addr} (I : Inv X pins σ H s)
   (hch : ∀ b ∈ ch, (b ∈ X.ex ∨ X.s_0.heap.objs.size ≤ b) ∧ b ≠ X.env.locals ∧ (∀ x c, X.env.cells.lookup x = some c → c ≠ b) ∧ ∀ p ∈ X.pn ++ pins, p.1 ≠ b)
   (keep : ∀ b o, b ≠ X.env.locals → b ∉ X.fs → b ∉ ch → s.heap.get? b = some o → H b = none → h'.get? b = some o)
   (slot : ∀ b o, b ≠ X.env.locals → b ∈ X.fs → b ∉ ch → s.heap.get? b = some o → H b = none → ∃ sl, h'.get? b = some { o with slots := sl }) (free : ∀ b o, b ∉ ch → s.heap.get? b = some o → H b = none → H' b = none)
   (there : ∀ b o, b ∉ ch → s.heap.get? b = some o → ∃ o', h'.get? b = some o')
   (tups : ∀ b xs, H b = some (.tup xs) → H' b = some (.tup xs)) (frzs : ∀ b o u, H b = some (.frz o u) → H' b = some (.frz o u)) (tbls : ∀ b ps, H b = some (.tbl ps) → ∃ more, H' b = some (.tbl (ps ++ more)))
   (ns : ∀ m, s.heap.Ns X.env.locals m → h'.Ns X.env.locals m) (hok : HOk X.prog X.w H' h') (hg : AllBare g') :
   Inv X pins σ H' { s with heap := h', gens := g', drawn := d', toks := t' } := by
 refine mq ?_; simp (disch := k_dflt (
 refine mz ?_
 have neL : ∀ b o, X.s_0.heap.get? b = some o → b ≠ X.env.locals := fun b o e => Nat.ne_of_lt (Nat.lt_of_lt_of_le (Heap.lt_size e) I.ok.above)
 have neC : ∀ b o, X.s_0.heap.get? b = some o → b ∉ X.ex → b ∉ ch := fun b o e hx hb => by
   rcases (hch b hb).1 with z | z
   · exact hx z
   · exact absurd (Nat.lt_of_lt_of_le (Heap.lt_size e) z) (Nat.lt_irrefl _)
 have cellK : ∀ x c, X.env.cells.lookup x = some c → ∀ v, s.heap.IsCell c v → h'.IsCell c v := fun x c e v ⟨o, ho, hd⟩ => by
   have nch : c ∉ ch := fun z => (hch c z).2.2.1 x c e rfl
   by_cases hc : c ∈ X.fs
   · obtain ⟨sl, q⟩ := slot c o (I.cne x c e) hc nch ho (I.freeC x c e)
     exact ⟨_, q, hd⟩
   · exact ⟨o, keep c o (I.cne x c e) hc nch ho (I.freeC x c e), hd⟩
 refine ⟨I.ok, I.os, hg, ⟨fun b o e n hb hx => ?_, fun b o e n hb hx => ?_, fun b o e n hx => ?_, fun b o e hx => ?_, fun b xs e => tups b xs (I.base.tups b xs e), fun b o xs e => frzs b o xs (I.base.frzs b o xs e), fun b ps e => ?_⟩, ?_, fun x c e => ?_, ?_, fun x c e => ?_, fun p hp => ?_, hok, I.len⟩
 · exact keep b o (neL b o e) hb (neC b o e hx) (I.base.keep b o e n hb hx) (I.base.free b o e n hx)
 · obtain ⟨sl, e1⟩ := I.base.slot b o e n hb hx
   obtain ⟨sl', e2⟩ := slot b _ (neL b o e) hb (neC b o e hx) e1 (I.base.free b o e n hx)
   exact ⟨sl', e2⟩
 · obtain ⟨o', e1⟩ := I.base.there b o e hx
   exact free b o' (neC b o e hx) e1 (I.base.free b o e n hx)
 · obtain ⟨o', e1⟩ := I.base.there b o e hx
   exact there b o' (neC b o e hx) e1
 · obtain ⟨m1, e1⟩ := I.base.tbls b ps e
   obtain ⟨m2, e2⟩ := tbls b _ e1
   exact ⟨m1 ++ m2, by rw [e2, Array.append_assoc]⟩
 · obtain ⟨m, hn, hl⟩ := I.loc
   refine ⟨m, ns m hn, fun i x v e1 e2 e3 => ?_⟩
   obtain ⟨u, r, l⟩ := hl i x v e1 e2 e3
   refine ⟨u, r, ?_⟩
   rcases l with l | ⟨k, c, e, z⟩
   · exact .inl l
   · exact .inr ⟨k, c, e, cellK x c e _ z⟩
 · obtain ⟨v, z⟩ := I.cell x c e
   exact ⟨v, cellK x c e v z⟩
 · obtain ⟨m, ⟨o, _, _, ho, _⟩, _⟩ := I.loc
   exact free _ o (fun z => (hch _ z).2.1 rfl) ho I.free
 · obtain ⟨v, o, ho, hd⟩ := I.cell x c e
   exact free c o (fun z => (hch c z).2.2.1 x c e rfl) ho (I.freeC x c e)
 · obtain ⟨e, n, ne, nf, d⟩ := I.pin p hp
   have nch : p.1 ∉ ch := fun z => (hch p.1 z).2.2.2 p hp rfl
   exact ⟨keep p.1 p.2 ne nf nch e n, free p.1 p.2 nch e n, ne, nf, d⟩)) only [↓mr]
theorem Inv.un {t' : Nat} (I : Inv X pins σ H s) (u : Un X.fs [] H H' s.heap h') (hok : HOk X.prog X.w H' h') : Inv X pins σ H' { s with heap := h', toks := t' } := by
 refine mq ?_; simp (disch := k_dflt (
 refine mz ?_
 obtain ⟨m, ⟨o, es, ep, ho, r⟩, _⟩ := id I.loc
 obtain ⟨sl, hL⟩ := u.any ho I.free (by simp)
 exact I.step (g' := s.gens) (d' := s.drawn) (ch := []) (fun _ z => nomatch z) (fun b o _ hb _ e n => u.keep b o e n hb (by simp)) (fun b o _ hb _ e n => u.slot b o e n hb (by simp)) (fun b o _ e n => u.free b o e n (by simp)) (fun b o _ e => u.there b o e (by simp)) u.tups u.frzs u.tbls (fun m' hm => by
   obtain ⟨o', es', ep', ho', r'⟩ := hm
   rw [ho] at ho'; cases ho'
   exact ⟨_, es', ep', hL, r'⟩) hok I.bare)) only [↓mr]
theorem Inv.call {g' : Array GenState} {t' : Nat} {d' : Drawn} {ch : List Addr} (I : Inv X pins σ H s) (u : Un (frs X.stack) ch H H' s.heap h') (hok : HOk X.prog X.w H' h') (hg : AllBare g')
   (hch : ∀ b ∈ ch, (b ∈ X.ex ∨ X.s_0.heap.objs.size ≤ b) ∧ b ≠ X.env.locals ∧ (∀ x c, X.env.cells.lookup x = some c → c ≠ b) ∧ ∀ p ∈ X.pn ++ pins, p.1 ≠ b) :
   Inv X pins σ H' { s with heap := h', gens := g', drawn := d', toks := t' } := by
 refine mq ?_; simp (disch := k_dflt (
 refine mz ?_
 obtain ⟨m, ⟨o, es, ep, ho, r⟩, _⟩ := id I.loc
 obtain ⟨sl, hL⟩ := u.any ho I.free fun z => (hch _ z).2.1 rfl
 exact I.step (ch := ch) hch (fun b o hL hb hc e n => u.keep b o e n (fun z => (List.mem_cons.mp (I.stkSub b z)).elim hL hb) hc) (fun b o _ _ hc e n => u.any e n hc) (fun b o hc e n => u.free b o e n hc) (fun b o hc e => u.there b o e hc) u.tups u.frzs u.tbls (fun m' hm => by
   obtain ⟨o', es', ep', ho', r'⟩ := hm
   rw [ho] at ho'; cases ho'
   exact ⟨_, es', ep', hL, r'⟩) hok hg)) only [↓mr]
theorem Inv.turned {t' : Nat} {it : Addr} (I : Inv X pins σ H s) (k : ∀ b o, b ≠ it → s.heap.get? b = some o → h'.get? b = some o) (hn : H it = none) (hL : it ≠ X.env.locals)
   (h1 : it ∈ X.ex ∨ X.s_0.heap.objs.size ≤ it) (h2 : ∀ x c, X.env.cells.lookup x = some c → c ≠ it) (h3 : ∀ p ∈ X.pn ++ pins, p.1 ≠ it) : Inv X pins σ H { s with heap := h', toks := t' } := by
 refine mq ?_; simp (disch := k_dflt (
 refine mz ?_
 have nit : ∀ b u, H b = some u → b ≠ it := fun b u e z => by rw [z, hn] at e; cases e
 refine I.step (g' := s.gens) (d' := s.drawn) (ch := [it]) (fun b hb => ?_) (fun b o _ _ hc e _ => k b o (fun z => hc (by simp [z])) e) (fun b o _ _ hc e _ => ⟨o.slots, k b o (fun z => hc (by simp [z])) e⟩) (fun _ _ _ _ n => n)
   (fun b o hc e => ⟨o, k b o (fun z => hc (by simp [z])) e⟩) (fun _ _ e => e) (fun _ _ _ e => e) (fun b ps e => ⟨#[], by rw [e]; simp⟩) (fun m hm => ?_) (fun b u e => ?_) I.bare
 · have e : b = it := by simpa using hb
   subst e
   exact ⟨h1, hL, h2, h3⟩
 · obtain ⟨o, es, ep, ho, r⟩ := hm
   exact ⟨o, es, ep, k _ o (Ne.symm hL) ho, r⟩
 · refine (I.hok b u e).stay (fun c v hc q => k c v ?_ q) (fun _ q => q) fun _ _ q => q
   rcases hc with z | z
   · rw [z]; exact nit b u e
   · exact nit c _ z)) only [↓mr]
theorem Inv.tok (I : Inv X pins σ H s) (t : Nat) : Inv X pins σ H { s with toks := t } := I.un (h' := s.heap) (t' := t) Un.refl I.hok
theorem Inv.kept {t' : Nat} (I : Inv X pins σ H s) (k : ∀ b u, s.heap.get? b = some u → h'.get? b = some u) : Inv X pins σ H { s with heap := h', toks := t' } := I.un (Un.kept k) (I.hok.kept k)
theorem Inv.laid {a : Addr} {o : HO} {t' : Nat} (I : Inv X pins σ H s) (k : ∀ b u, s.heap.get? b = some u → h'.get? b = some u) (hp : s.heap.objs.size ≤ a) (new : ObjOk X.prog X.w (upd H a o) h' a o) :
   Inv X pins σ (upd H a o) { s with heap := h', toks := t' } := I.un (Un.laid k hp (I.hok.fresh hp)) (I.hok.laid k hp new)
theorem Inv.write {x e : Addr} {o : HO} {t' : Nat} (I : Inv X pins σ H s) (mu : Mut (H x)) (he : e = x ∨ H e = some (.own x)) (k : ∀ b u, b ≠ e → s.heap.get? b = some u → h'.get? b = some u) (heo : ∃ u, h'.get? e = some u)
   (new : ObjOk X.prog X.w (upd H x o) h' x o) : Inv X pins σ (upd H x o) { s with heap := h', toks := t' } := I.un (Un.write mu he k heo) (I.hok.write mu he k heo new)
theorem Inv.weak {σ' : List (Option V)} (I : Inv X pins σ H s) (hl : σ'.length = σ.length) (w : ∀ (i : Nat) v, σ'[i]? = some (some v) → σ[i]? = some (some v)) : Inv X pins σ' H s :=
 ⟨I.ok, I.os, I.bare, I.base, let ⟨m, hn, hl'⟩ := I.loc; ⟨m, hn, fun i x v e1 e2 e3 => hl' i x v e1 (w i v e2) e3⟩, I.cell, I.free, I.freeC, I.pin, I.hok, hl.trans I.len⟩
theorem Inv.pins_of {pins' : List (Addr × Obj)} (I : Inv X pins σ H s) (h : ∀ p ∈ pins', s.heap.get? p.1 = some p.2 ∧ H p.1 = none ∧ p.1 ≠ X.env.locals ∧ p.1 ∉ X.fs ∧ ∀ v, p.2.data ≠ .cell v) : Inv X pins' σ H s :=
 ⟨I.ok, I.os, I.bare, I.base, I.loc, I.cell, I.free, I.freeC, fun p hp => (List.mem_append.mp hp).elim (fun z => I.pin p (List.mem_append_left _ z)) (h p), I.hok, I.len⟩
theorem nodup_ix {N : List Str} (hN : N.Nodup) {i j : Nat} {x : Str} (a : N[i]? = some x) (b : N[j]? = some x) : i = j := by
 obtain ⟨h1, e1⟩ := List.getElem?_eq_some_iff.mp a
 obtain ⟨h2, e2⟩ := List.getElem?_eq_some_iff.mp b
 exact (List.getElem_inj hN).mp (e1.trans e2.symm)
theorem store_ok2 {M : Model} {A : Around} {E : Value → Shared → Prop} {i : Nat} {x : Str} {v : V} {u : Value} {Q : Unit → Shared → Prop} (I : Inv X pins σ H s) (hN : X.N.Nodup) (hi : X.N[i]? = some x) (hx : Loc X.env.scope x) (r : RelV v u)
   (h : ∀ s', Inv X pins (σ.set i (some v)) H s' → (∃ a, Heap.SameBut a s.heap s'.heap ∧ (a = X.env.locals ∨ X.env.cells.lookup x = some a)) → Q () s') (hf : X.fn x = true ∨ X.env.scope.names.lookup x = some .local := by first | exact .inl rfl | exact .inr rfl | assumption) : wpAny M A (storeName X.env x u) Q E s := by
 refine mq ?_; simp (disch := k_dflt (
 refine mz ?_
 obtain ⟨m, hn, hl⟩ := id I.loc
 have hcls : (X.env.scope.kind == .class || (X.env.scope.kind == .module && X.env.locals != X.env.globals)) = false := by rw [I.ok.kind]; rfl
 have hiσ : i < σ.length := by rw [I.len]; exact (List.getElem?_eq_some_iff.mp hi).1
 have cne := I.cne
 have tracked : ∀ {a : Addr} {h' : Heap}, (∃ o, s.heap.get? a = some o ∧ H a = none) → Heap.SameBut a s.heap h' → HOk X.prog X.w H h' := fun {a h'} ha hs b ob e => by
   obtain ⟨_, _, hfree⟩ := ha
   refine (I.hok b ob e).stay (fun c w' hc q => (hs.2 c ?_).trans q) (fun _ q => q) fun _ _ q => q
   rintro rfl
   rcases hc with rfl | hc
   · rw [hfree] at e; cases e
   · rw [hfree] at hc; cases hc
 rcases hx with hk | hk
 · refine wpAny_storeName_local hk hn (fun h' hn' hs => ?_) hcls
   obtain ⟨oL, _, _, hoL, _⟩ := id hn
   refine h _ ⟨I.ok, I.os, I.bare, ⟨fun b o e n hb hx => ?_, fun b o e n hb hx => ?_, I.base.free, fun b o e hx => ?_, I.base.tups, I.base.frzs, I.base.tbls⟩, ⟨_, hn', fun j y v' e1 e2 e3 => ?_⟩, fun y c e => ?_, I.free, I.freeC, fun p hp => ?_, tracked ⟨oL, hoL, I.free⟩ hs, by simpa using I.len⟩ ⟨_, hs, .inl rfl⟩
   · exact (hs.2 b (Nat.ne_of_lt (Nat.lt_of_lt_of_le (Heap.lt_size e) I.ok.above))).trans (I.base.keep b o e n hb hx)
   · obtain ⟨sl, e1⟩ := I.base.slot b o e n hb hx
     exact ⟨sl, (hs.2 b (Nat.ne_of_lt (Nat.lt_of_lt_of_le (Heap.lt_size e) I.ok.above))).trans e1⟩
   · obtain ⟨o', e1⟩ := I.base.there b o e hx
     exact ⟨o', (hs.2 b (Nat.ne_of_lt (Nat.lt_of_lt_of_le (Heap.lt_size e) I.ok.above))).trans e1⟩
   · by_cases hj : j = i
     · subst hj
       rw [hi] at e1; cases e1
       rw [List.getElem?_set_self hiσ] at e2
       cases e2
       exact ⟨u, r, .inl ⟨hk, by simp⟩⟩
     · rw [List.getElem?_set_ne (Ne.symm hj)] at e2
       obtain ⟨u', r', q⟩ := hl j y v' e1 e2 e3
       refine ⟨u', r', ?_⟩
       rcases q with ⟨k, e⟩ | ⟨k, c, e, z⟩
       · refine .inl ⟨k, ?_⟩
         have : y ≠ x := fun e => hj (nodup_ix hN e1 (e ▸ hi))
         simp [this, e]
       · exact .inr ⟨k, c, e, z.sameBut hs (cne y c e)⟩
   · obtain ⟨w', z⟩ := I.cell y c e
     exact ⟨w', z.sameBut hs (cne y c e)⟩
   · obtain ⟨e, n, ne, nf, d⟩ := I.pin p hp
     exact ⟨(hs.2 p.1 ne).trans e, n, ne, nf, d⟩
 · have hfn : X.fn x = true := by
     rcases hf with z | z
     · exact z
     · rw [z] at hk; cases hk
   obtain ⟨c, hc⟩ := I.ok.has x (.inl hk)
   obtain ⟨w', z⟩ := I.cell x c hc
   refine wpAny_storeName_cell I.ok.kind hk hc z (fun h' hc' hs => ?_)
   obtain ⟨oc, hoc, hocd⟩ := id z
   refine h { s with heap := h' } ⟨I.ok, I.os, I.bare, ⟨fun b o e n hb hx => ?_, fun b o e n hb hx => ?_, I.base.free, fun b o e hx => ?_, I.base.tups, I.base.frzs, I.base.tbls⟩, ⟨m, hn.sameBut hs (Ne.symm (cne x c hc)), fun j y v' e1 e2 e3 => ?_⟩, fun y c' e => ?_, I.free, I.freeC, fun p hp => ?_, tracked ⟨oc, hoc, I.freeC x c hc⟩ hs, by simpa using I.len⟩ ⟨c, hs, .inr hc⟩
   · exact (hs.2 b (Nat.ne_of_lt (Nat.lt_of_lt_of_le (Heap.lt_size e) (I.ok.cab x c hfn hc)))).trans (I.base.keep b o e n hb hx)
   · obtain ⟨sl, e1⟩ := I.base.slot b o e n hb hx
     exact ⟨sl, (hs.2 b (Nat.ne_of_lt (Nat.lt_of_lt_of_le (Heap.lt_size e) (I.ok.cab x c hfn hc)))).trans e1⟩
   · obtain ⟨o', e1⟩ := I.base.there b o e hx
     exact ⟨o', (hs.2 b (Nat.ne_of_lt (Nat.lt_of_lt_of_le (Heap.lt_size e) (I.ok.cab x c hfn hc)))).trans e1⟩
   · by_cases hj : j = i
     · subst hj
       rw [hi] at e1; cases e1
       rw [List.getElem?_set_self hiσ] at e2
       cases e2
       exact ⟨u, r, .inr ⟨.inl hk, c, hc, hc'⟩⟩
     · rw [List.getElem?_set_ne (Ne.symm hj)] at e2
       obtain ⟨u', r', q⟩ := hl j y v' e1 e2 e3
       refine ⟨u', r', ?_⟩
       rcases q with q | ⟨k, c', e, z'⟩
       · exact .inl q
       · refine .inr ⟨k, c', e, z'.sameBut hs ?_⟩
         rintro rfl
         exact hj (nodup_ix hN e1 (I.ok.inj _ _ _ e hc ▸ hi))
   · by_cases hcc : c' = c
     · subst hcc; exact ⟨_, hc'⟩
     · obtain ⟨w2, z2⟩ := I.cell y c' e
       exact ⟨w2, z2.sameBut hs hcc⟩
   · obtain ⟨e, n, ne, nf, d⟩ := I.pin p hp
     refine ⟨(hs.2 p.1 ?_).trans e, n, ne, nf, d⟩
     intro q
     rw [q, hoc] at e
     have q' : oc = p.2 := Option.some.inj e
     exact d w' (by rw [← q']; exact hocd))) only [↓mr]
theorem store_ok {M : Model} {A : Around} {E : Value → Shared → Prop} {i : Nat} {x : Str} {v : V} {u : Value} {Q : Unit → Shared → Prop} (I : Inv X pins σ H s) (hN : X.N.Nodup) (hi : X.N[i]? = some x) (hx : Loc X.env.scope x) (r : RelV v u)
   (h : ∀ s', Inv X pins (σ.set i (some v)) H s' → Q () s') (hf : X.fn x = true ∨ X.env.scope.names.lookup x = some .local := by first | exact .inl rfl | exact .inr rfl | assumption) : wpAny M A (storeName X.env x u) Q E s :=
 store_ok2 I hN hi hx r (fun s' I' _ => h s' I') hf
theorem Inv.call' {s' : Shared} {ch : List Addr} (I : Inv X pins σ H s) (ho : s'.os = s.os) (u : Un (frs X.stack) ch H H' s.heap s'.heap) (hok : HOk X.prog X.w H' s'.heap) (hg : AllBare s'.gens)
   (hch : ∀ b ∈ ch, (b ∈ X.ex ∨ X.s_0.heap.objs.size ≤ b) ∧ b ≠ X.env.locals ∧ (∀ x c, X.env.cells.lookup x = some c → c ≠ b) ∧ ∀ p ∈ X.pn ++ pins, p.1 ≠ b) : Inv X pins σ H' s' := by
 obtain ⟨h', g', d', t', o'⟩ := s'
 have e : o' = s.os := ho
 subst e
 exact I.call (g' := g') (t' := t') (d' := d') u hok hg hch
end
abbrev XK := Value → Option Addr → Hp → Prop
abbrev St := List (Option V)
abbrev VK := V → Hp → Prop
abbrev TE := St → Hp → VK → Prop
abbrev TT := St → Hp → (Bool → Hp → Prop) → Prop
abbrev TA := St → Hp → (List V → Hp → Prop) → Prop
structure Ends where
 nx : St → Hp → Prop
 rt : VK
 bk : St → Hp → Prop := fun _ _ => False
 ct : St → Hp → Prop := fun _ _ => False
abbrev TS := Ends → St → Hp → Prop
def EP (X : Cx) (pins : List (Addr × Obj)) (σ : St) (Q : VK) (u : Value) (s' : Shared) : Prop := ∃ v H', Inv X pins σ H' s' ∧ RelV v u ∧ Q v H'
def TP (X : Cx) (pins : List (Addr × Obj)) (σ : St) (Q : Bool → Hp → Prop) (b : Bool) (s' : Shared) : Prop := ∃ H', Inv X pins σ H' s' ∧ Q b H'
def AP (X : Cx) (pins : List (Addr × Obj)) (σ : St) (Q : List V → Hp → Prop) (us : List Value) (s' : Shared) : Prop := ∃ vs H', Inv X pins σ H' s' ∧ Vals vs us ∧ Q vs H'
def SP (X : Cx) (pins : List (Addr × Obj)) (D : Ends) (f : Flow) (s' : Shared) : Prop :=
 match f with
 | .next => ∃ σ' H', Inv X pins σ' H' s' ∧ D.nx σ' H'
 | .brk => ∃ σ' H', Inv X pins σ' H' s' ∧ D.bk σ' H'
 | .cont => ∃ σ' H', Inv X pins σ' H' s' ∧ D.ct σ' H'
 | .ret u => ∃ v σ' H', Inv X pins σ' H' s' ∧ RelV v u ∧ D.rt v H'
def PE (X : Cx) (e : Expr) (t : TE) : Prop :=
 ∀ (pins : List (Addr × Obj)) (s : Shared) (σ : St) (H : Hp) (Q : VK), Inv X pins σ H s → t σ H Q → wpAny (model X.prog X.w) X.A (eval e X.env) (EP X pins σ Q) X.xe s
def PT (X : Cx) (e : Expr) (t : TT) : Prop :=
 ∀ (pins : List (Addr × Obj)) (s : Shared) (σ : St) (H : Hp) (Q : Bool → Hp → Prop), Inv X pins σ H s → t σ H Q → wpAny (model X.prog X.w) X.A (isTrue e X.env (eval e X.env)) (TP X pins σ Q) X.xe s
def PW (X : Cx) (e : Expr) (t : TT) : Prop :=
 ∀ (whole : Sem Value) (pins : List (Addr × Obj)) (s : Shared) (σ : St) (H : Hp) (Q : Bool → Hp → Prop), Inv X pins σ H s → t σ H Q → wpAny (model X.prog X.w) X.A (isTrue e X.env whole) (TP X pins σ Q) X.xe s
theorem PW.pt {X : Cx} {e : Expr} {t : TT} (h : PW X e t) : PT X e t := h _
def PA (X : Cx) (es : List Expr) (t : TA) : Prop :=
 ∀ (pos : Pos) (pins : List (Addr × Obj)) (s : Shared) (σ : St) (H : Hp) (Q : List V → Hp → Prop), Inv X pins σ H s → t σ H Q → wpAny (model X.prog X.w) X.A (spliced (backTo pos (starEach es X.env))) (AP X pins σ Q) X.xe s
def PS (X : Cx) (st : Stmt) (t : TS) : Prop :=
 ∀ (pins : List (Addr × Obj)) (s : Shared) (σ : St) (H : Hp) (D : Ends), Inv X pins σ H s → t D σ H → wpAny (model X.prog X.w) X.A (exec st X.env) (SP X pins D) X.xe s
def PSs (X : Cx) (st : List Stmt) (t : TS) : Prop :=
 ∀ (pins : List (Addr × Obj)) (s : Shared) (σ : St) (H : Hp) (D : Ends), Inv X pins σ H s → t D σ H → wpAny (model X.prog X.w) X.A (execs st X.env) (SP X pins D) X.xe s
theorem thn {α : Type} {t : Sem α} {Q Q' : α → Shared → Prop} {M : Model} {A : Around} {E : Value → Shared → Prop} {s : Shared} (h : wpAny M A t Q E s) (hQ : ∀ a s, Q a s → Q' a s) : wpAny M A t Q' E s := wpAny_mono h hQ fun _ _ x => x
end L2
namespace L2
open PySem PySem.Spec PyProof.Rows
section
variable {X : Cx}
def tVar (i : Nat) : TE := fun σ H Q => ∃ v, σ[i]? = some (some v) ∧ Q v H
def tC (v : V) : TE := fun _ H Q => Q v H
theorem pe_var {i : Nat} {x : Str} {pos : Pos} (hN : X.N[i]? = some x) (hv : Vis X.env.scope x) (hd : (x == ("__debug__" : Str)) = false := by decide) (hcd : (x == ("__classdict__" : Str)) = false := by decide) : PE X (.Name x pos) (tVar i) := by
 refine mq ?_; simp (disch := k_dflt (
 refine mz ?_
 intro pins s σ H Q I h
 obtain ⟨v, e, h⟩ := h
 obtain ⟨m, hn, hl⟩ := I.loc
 obtain ⟨u, r, l⟩ := hl i x v hN e hv
 have fin : EP X pins σ Q u s := ⟨v, H, I, r, h⟩
 rcases l with ⟨hk, hm⟩ | ⟨hk, c, hc, hcell⟩
 · exact wpAny_Name (wpAny_loadName_local I.ok.kind hk hn hm fin) hd
 · rcases hk with hk | hk
   · exact wpAny_Name (wpAny_loadName_cell I.ok.kind hk hc hcell fin) hd
   · exact wpAny_Name (wpAny_loadName_free I.ok.kind hk hc hcell fin hcd) hd)) only [↓mr]
theorem pe_int {i j pos} : PE X (.Constant (.int i) j pos) (tC (.int i)) := fun _ _ _ H _ I h => wpAny_Constant_int ⟨.int i, H, I.tok _, ⟨_, rfl⟩, h⟩
theorem pe_bl {b j pos} : PE X (.Constant (.bool b) j pos) (tC (.bl b)) := fun _ _ _ H _ I h => Constant_bool ⟨.bl b, H, I, rfl, h⟩
theorem pe_non {j pos} : PE X (.Constant .none j pos) (tC .non) := fun _ _ _ H _ I h => Constant_none ⟨.non, H, I, rfl, h⟩
def Gl (X : Cx) (x : Str) : Prop := X.env.kindOf x = some .globalImplicit
theorem ld_glob {E : Value → Shared → Prop} {pins : List (Addr × Obj)} {s : Shared} {σ : St} {H : Hp} {x : Str} {u : Value} {pos : Pos} {Q : Value → Shared → Prop} (I : Inv X pins σ H s) (hg : Gl X x) (hm : X.mg x = some u) (h : Q u s)
   (hd : (x == ("__debug__" : Str)) = false := by decide) : wpAny (model X.prog X.w) X.A (eval (.Name x pos) X.env) Q E s :=
 Calls.Name_function_global I.ok.kind hg (Calls.loadGlobal_global (by rw [I.ok.glob]; exact I.mod.glob.keeps I.bk) hm h) hd
theorem ld_blt {E : Value → Shared → Prop} {pins : List (Addr × Obj)} {s : Shared} {σ : St} {H : Hp} {x : Str} {u : Value} {pos : Pos} {Q : Value → Shared → Prop} (I : Inv X pins σ H s) (hg : Gl X x) (hm : X.mg x = none) (hv : bootBuiltins x = some u) (h : Q u s)
   (hn : x ≠ "__name__" := by decide) (hd : (x == ("__debug__" : Str)) = false := by decide) : wpAny (model X.prog X.w) X.A (eval (.Name x pos) X.env) Q E s := by
 obtain ⟨mb, h1, h2⟩ := I.mod.blt
 exact Calls.Name_function_global I.ok.kind hg (Calls.loadGlobal_builtin (by rw [I.ok.glob]; exact I.mod.glob.keeps I.bk) hm (by rw [I.ok.blt]; exact h1.keeps I.bk) ((h2 x hn).trans hv) h) hd
theorem pe_glob {x : Str} {v : V} {u : Value} {pos : Pos} (hg : Gl X x) (hm : X.mg x = some u) (r : RelV v u) (hd : (x == ("__debug__" : Str)) = false := by decide) : PE X (.Name x pos) (tC v) :=
 fun _ _ _ H _ I h => ld_glob I hg hm ⟨v, H, I, r, h⟩ hd
def t2I (ta tb : TE) (k : Int → Int → Hp → Prop) : St → Hp → Prop := fun σ H => ta σ H fun x H1 => tb σ H1 fun y H2 => ∃ i j, x = .int i ∧ y = .int j ∧ k i j H2
variable {a b : Expr} {ta tb : TE} {pos : Pos}
def PC (X : Cx) (op : CmpOp) (a b : Expr) (t : TE) : Prop :=
 ∀ (pins : List (Addr × Obj)) (s : Shared) (σ : St) (H : Hp) (Q : VK), Inv X pins σ H s → t σ H Q →
   wpAny (model X.prog X.w) X.A (eval a X.env) (fun v s₁ => wpAny (model X.prog X.w) X.A (eval b X.env) (fun u s₂ => wpAny (model X.prog X.w) X.A (compareOp op v u) (EP X pins σ Q) X.xe s₂) X.xe s₁) X.xe s
theorem nobehind (b : Expr) {op : CmpOp} (h : op ≠ .In) (h2 : op ≠ .NotIn) : behindInMarks op b = false := by
 have e1 : (op == CmpOp.In) = false := by cases op <;> first | rfl | exact absurd rfl h
 have e2 : (op == CmpOp.NotIn) = false := by cases op <;> first | rfl | exact absurd rfl h2
 cases b <;> simp [behindInMarks, e1, e2]
def tIsN (ta : TE) : TE := fun σ H Q => ta σ H fun x H1 => Q (.bl (decide (x = .non))) H1
def tNotN (ta : TE) : TE := fun σ H Q => ta σ H fun x H1 => Q (.bl (!decide (x = .non))) H1
theorem RelV.none_iff {x : V} {v : Value} (r : RelV x v) : (v == Value.none) = decide (x = .non) := by
 cases x with
 | non => cases r; rfl
 | bl _ => cases r; rfl
 | int _ => obtain ⟨t, rfl⟩ := r; rfl
 | str _ => obtain ⟨t, rfl⟩ := r; rfl
 | byt _ => obtain ⟨t, rfl⟩ := r; rfl
 | flt _ => obtain ⟨t, rfl⟩ := r; rfl
 | ref _ => cases r; rfl
 | ty _ => cases r; rfl
theorem pc_notN {j pos'} (ha : PE X a ta) : PC X .IsNot a (.Constant .none j pos') (tNotN ta) := by
 intro pins s σ H Q I h
 refine thn (ha pins s σ H _ I h) fun v s1 ⟨x, H1, I1, r1, q1⟩ => ?_
 exact Constant_none (isnot_none_gen ⟨.bl _, H1, I1, by rw [r1.none_iff]; rfl, q1⟩)
def tB (t : TE) : TT := fun σ H Q => t σ H fun x H1 => ∃ c, x = .bl c ∧ Q c H1
theorem pt_cmp {op : CmpOp} {t : TE} (h : PC X op a b t) (h1 : behindInMarks op b = false := by first | exact nobehind _ (by decide) (by decide) | rfl) : PT X (.Compare a [op] [b] pos) (tB t) := by
 intro pins s σ H Q I hw
 refine wpAny_isTrue_Compare1 (thn (h pins s σ H _ I hw) fun v s1 h1 => thn h1 fun u s2 h2 => thn h2 fun c s3 ⟨x, H1, I1, r1, q1⟩ => ?_) h1
 obtain ⟨d, rfl, q⟩ := q1
 cases r1
 exact wpAny_truthy_bool ⟨H1, I1, q⟩
theorem pt_val {e : Expr} {t : TE} (h : PE X e t) (he : ∀ whole, isTrue e X.env whole = (do let v ← whole; standAt e.pos; holding [v] (truthy v)) := by intro _; rfl) : PT X e (tB t) := by
 intro pins s σ H Q I hw
 refine isTrue_plain (thn (h pins s σ H _ I hw) fun v s1 ⟨x, H1, I1, r1, q1⟩ => ?_) (he _)
 obtain ⟨d, rfl, q⟩ := q1
 cases r1
 exact wpAny_truthy_bool ⟨H1, I1, q⟩
variable {tA tB' : TT} {rest : List Expr}
def tAnd (t u : TT) : TT := fun σ H Q => t σ H fun c H1 => if c = true then u σ H1 Q else Q false H1
def tOr (t u : TT) : TT := fun σ H Q => t σ H fun c H1 => if c = true then Q true H1 else u σ H1 Q
def tNot (t : TT) : TT := fun σ H Q => t σ H fun c H1 => Q (!c) H1
theorem pw_and1 (ha : PT X a tA) : PW X (.BoolOp .And [a] pos) tA := by
 intro wh pins s σ H Q I h
 refine isTrue_and (thn (ha pins s σ H Q I h) fun c s1 e => ?_)
 cases c with
 | true => exact isTrue_and_nil e
 | false => exact e
theorem pw_or1 (ha : PT X a tA) : PW X (.BoolOp .Or [a] pos) tA := by
 intro wh pins s σ H Q I h
 refine isTrue_or (thn (ha pins s σ H Q I h) fun c s1 e => ?_)
 cases c with
 | false => exact isTrue_or_nil e
 | true => exact e
theorem pw_and (ha : PT X a tA) (hb : PW X (.BoolOp .And (b :: rest) pos) tB') : PW X (.BoolOp .And (a :: b :: rest) pos) (tAnd tA tB') := by
 intro wh pins s σ H Q I h
 refine isTrue_and (thn (ha pins s σ H _ I h) fun c s1 ⟨H1, I1, q1⟩ => ?_)
 cases c with
 | true => exact hb wh pins s1 σ H1 Q I1 q1
 | false => exact ⟨H1, I1, q1⟩
theorem pw_or (ha : PT X a tA) (hb : PW X (.BoolOp .Or (b :: rest) pos) tB') : PW X (.BoolOp .Or (a :: b :: rest) pos) (tOr tA tB') := by
 intro wh pins s σ H Q I h
 refine isTrue_or (thn (ha pins s σ H _ I h) fun c s1 ⟨H1, I1, q1⟩ => ?_)
 cases c with
 | true => exact ⟨H1, I1, q1⟩
 | false => exact hb wh pins s1 σ H1 Q I1 q1
theorem pt_not (ha : PT X a tA) : PT X (.UnaryOp .Not a pos) (tNot tA) := by
 intro pins s σ H Q I h
 exact isTrue_not (ha pins s σ H (fun c H1 => Q (!c) H1) I h)
def tAndV (ta tb : TE) : TE := fun σ H Q => ta σ H fun x H1 => ∃ c, x = .bl c ∧ if c = true then tb σ H1 Q else Q (.bl false) H1
def tOrV (ta tb : TE) : TE := fun σ H Q => ta σ H fun x H1 => ∃ c, x = .bl c ∧ if c = true then Q (.bl true) H1 else tb σ H1 Q
def tNotV (ta : TE) : TE := fun σ H Q => ta σ H fun x H1 => ∃ c, x = .bl c ∧ Q (.bl (!c)) H1
theorem pe_one {op} {t : TE} (h : PE X a t) : PE X (.BoolOp op [a] pos) t := fun pins s σ H Q I hw => BoolOp_one (h pins s σ H Q I hw)
theorem pe_and (ha : PE X a ta) (hb : PE X (.BoolOp .And (b :: rest) pos) tb) : PE X (.BoolOp .And (a :: b :: rest) pos) (tAndV ta tb) := by
 intro pins s σ H Q I h
 refine BoolOp_and (thn (ha pins s σ H _ I h) fun v s1 ⟨x, H1, I1, r1, q1⟩ => ?_)
 obtain ⟨c, rfl, q1⟩ := q1
 cases r1
 refine wpAny_truthy_bool ?_
 cases c with
 | true => exact hb pins s1 σ H1 Q I1 q1
 | false => exact ⟨.bl false, H1, I1, rfl, q1⟩
theorem pe_or (ha : PE X a ta) (hb : PE X (.BoolOp .Or (b :: rest) pos) tb) : PE X (.BoolOp .Or (a :: b :: rest) pos) (tOrV ta tb) := by
 intro pins s σ H Q I h
 refine BoolOp_or (thn (ha pins s σ H _ I h) fun v s1 ⟨x, H1, I1, r1, q1⟩ => ?_)
 obtain ⟨c, rfl, q1⟩ := q1
 cases r1
 refine wpAny_truthy_bool ?_
 cases c with
 | false => exact hb pins s1 σ H1 Q I1 q1
 | true => exact ⟨.bl true, H1, I1, rfl, q1⟩
theorem pe_not (ha : PE X a ta) : PE X (.UnaryOp .Not a pos) (tNotV ta) := by
 intro pins s σ H Q I h
 refine UnaryOp_ (thn (ha pins s σ H _ I h) fun v s1 ⟨x, H1, I1, r1, q1⟩ => ?_)
 obtain ⟨c, rfl, q1⟩ := q1
 cases r1
 exact not_of (wpAny_truthy_bool ⟨.bl (!c), H1, I1, rfl, q1⟩)
def tIf (t : TT) (ta tb : TE) : TE := fun σ H Q => t σ H fun c H1 => if c = true then ta σ H1 Q else tb σ H1 Q
theorem pe_ifExp {c : Expr} (hc : PT X c tA) (ha : PE X a ta) (hb : PE X b tb) : PE X (.IfExp c a b pos) (tIf tA ta tb) := by
 intro pins s σ H Q I h
 refine wpAny_IfExp (thn (hc pins s σ H _ I h) fun d s1 ⟨H1, I1, q1⟩ => ?_)
 cases d with
 | true => exact ha pins s1 σ H1 Q I1 q1
 | false => exact hb pins s1 σ H1 Q I1 q1
end
end L2
namespace L2
open PySem PySem.Spec PyProof.Rows
def SqL (K : PySem.W.Frag) (H : Hp) (a : Addr) (xs : List V) : Prop :=
 Rd H a (.lst xs) ∨
   ∃ (o : Obj) (its : Array Value) (n : Nat), K.lookup a = some o ∧ o.cls = .type "list" ∧ o.dict = none ∧ o.data = .seq its n ∧ its.size ≤ sizeLine ∧ Vals xs its.toList
def SqT (K : PySem.W.Frag) (H : Hp) (a : Addr) (xs : List V) : Prop :=
 Rd H a (.tup xs) ∨
   ∃ (o : Obj) (its : Array Value) (n : Nat), K.lookup a = some o ∧ o.cls = .type "tuple" ∧ o.data = .seq its n ∧ its.size ≤ sizeLine ∧ Vals xs its.toList
def absV : Value → Option V
 | .none => some .non
 | .bool b => some (.bl b)
 | .int i _ => some (.int i)
 | .str x _ => some (.str x)
 | .bytes b _ => some (.byt b)
 | .float b _ => some (.flt b)
 | .ref a => some (.ref a)
 | .type n => some (.ty n)
 | _ => none
theorem RelV.abs {x : V} {u : Value} (r : RelV x u) : absV u = some x := by
 cases x with
 | non => cases r; rfl
 | bl _ => cases r; rfl
 | int _ => obtain ⟨t, rfl⟩ := r; rfl
 | str _ => obtain ⟨t, rfl⟩ := r; rfl
 | byt _ => obtain ⟨t, rfl⟩ := r; rfl
 | flt _ => obtain ⟨t, rfl⟩ := r; rfl
 | ref _ => cases r; rfl
 | ty _ => cases r; rfl
theorem RelV.inj {x y : V} {u : Value} (r : RelV x u) (q : RelV y u) : x = y := Option.some.inj (r.abs.symm.trans q.abs)
theorem Vals.inj : ∀ {xs ys : List V} {us : List Value}, Vals xs us → Vals ys us → xs = ys
 | _, _, _, .nil, .nil => rfl
 | _, _, _, .cons r t, .cons r' t' => by rw [r.inj r', Vals.inj t t']
section
variable {X : Cx} {pins : List (Addr × Obj)} {σ : St} {H : Hp} {s : Shared} {a : Addr} {xs ys : List V}
theorem SqL.of {K : PySem.W.Frag} (h : H a = some (.lst xs)) : SqL K H a xs := .inl (.inl h)
theorem SqT.of {K : PySem.W.Frag} (h : H a = some (.tup xs)) : SqT K H a xs := .inl (.inl h)
theorem Inv.list (I : Inv X pins σ H s) (h : SqL X.K H a xs) : ∃ its : List Value, Vals xs its ∧ PlainL s.heap a its.toArray ∧ xs.length ≤ sizeLine := by
 rcases h with h | ⟨o, its, n, hk, hc, hd, hs, hz, r⟩
 · obtain ⟨z, its, n, r, e⟩ := h.ok I.hok
   exact ⟨its, r, ⟨_, n, e, rfl, rfl, rfl⟩, z⟩
 · refine ⟨its.toList, r, ⟨o, n, I.kIn a o hk, hc, hd, by simpa using hs⟩, ?_⟩
   have e := r.length
   simp only [Array.length_toList] at e
   omega
theorem Inv.tuple (I : Inv X pins σ H s) (h : SqT X.K H a xs) : ∃ its : List Value, Vals xs its ∧ IsTup s.heap a its.toArray ∧ xs.length ≤ sizeLine := by
 rcases h with h | ⟨o, its, n, hk, hc, hs, hz, r⟩
 · obtain ⟨z, its, r, p⟩ := h.ok I.hok
   exact ⟨its, r, p, z⟩
 · refine ⟨its.toList, r, ⟨o, I.kIn a o hk, hc, n, by simpa using hs⟩, ?_⟩
   have e := r.length
   simp only [Array.length_toList] at e
   omega
theorem Inv.list_inj (I : Inv X pins σ H s) (h : SqL X.K H a xs) (h' : SqL X.K H a ys) : xs = ys := by
 obtain ⟨its, r, ⟨o, n, e, _, _, d⟩, _⟩ := I.list h
 obtain ⟨its', r', ⟨o', n', e', _, _, d'⟩, _⟩ := I.list h'
 rw [e] at e'; cases e'
 rw [d] at d'
 injection d' with d1 _
 have : its = its' := by simpa using congrArg Array.toList d1
 subst this
 exact r.inj r'
end
abbrev Cx.wish (X : Cx) (E : Value → Shared → Prop) : Cx := { X with xe := E }
abbrev Cx.nox (X : Cx) : Cx := X.wish fun _ _ => False
theorem Cx.Ok.wish {X : Cx} (ok : X.Ok) (E : Value → Shared → Prop) : (X.wish E).Ok :=
 ⟨ok.mod, ok.kind, ok.glob, ok.blt, ok.above, ok.inj, ok.has, ok.cab, ok.hd, ok.frames, ok.stk, ok.exf, ok.bs, ok.bsz, ok.noex, ok.exfs, ok.funs, ok.frf⟩
theorem Cx.Ok.unwish {X : Cx} {E : Value → Shared → Prop} (ok : (X.wish E).Ok) : X.Ok :=
 ⟨ok.mod, ok.kind, ok.glob, ok.blt, ok.above, ok.inj, ok.has, ok.cab, ok.hd, ok.frames, ok.stk, ok.exf, ok.bs, ok.bsz, ok.noex, ok.exfs, ok.funs, ok.frf⟩
section
variable {X : Cx} {pins : List (Addr × Obj)} {σ : St} {H : Hp} {s : Shared} {E : Value → Shared → Prop}
theorem Inv.wish (I : Inv X pins σ H s) (E : Value → Shared → Prop) : Inv (X.wish E) pins σ H s := ⟨I.ok.wish E, I.os, I.bare, I.base, I.loc, I.cell, I.free, I.freeC, I.pin, I.hok, I.len⟩
theorem Inv.unwish (I : Inv (X.wish E) pins σ H s) : Inv X pins σ H s := ⟨I.ok.unwish, I.os, I.bare, I.base, I.loc, I.cell, I.free, I.freeC, I.pin, I.hok, I.len⟩
theorem SP.unwish {D : Ends} {f : Flow} {s' : Shared} (h : SP (X.wish E) pins D f s') : SP X pins D f s' := by
 cases f with
 | next => obtain ⟨σ', H', I, q⟩ := h; exact ⟨σ', H', I.unwish, q⟩
 | brk => obtain ⟨σ', H', I, q⟩ := h; exact ⟨σ', H', I.unwish, q⟩
 | cont => obtain ⟨σ', H', I, q⟩ := h; exact ⟨σ', H', I.unwish, q⟩
 | ret u => obtain ⟨v, σ', H', I, r, q⟩ := h; exact ⟨v, σ', H', I.unwish, r, q⟩
theorem PSs.nox {st : List Stmt} {t : TS} (h : PSs X.nox st t) : PSs X st t := fun pins s σ H D I hw =>
 wpAny_mono (h pins s σ H D (I.wish _) hw) (fun _ _ q => q.unwish) fun _ _ z => False.elim z
end
section
variable {X : Cx} {st : Stmt} {rest : List Stmt} {t u : TS} {e : Expr} {te : TE} {pos : Pos}
def tNext : TS := fun D σ H => D.nx σ H
def tSeq (t u : TS) : TS := fun D σ H => t { D with nx := u D } σ H
theorem pss_nil : PSs X [] tNext := fun _ _ σ H _ I h => wpAny_execs_nil ⟨σ, H, I, h⟩
theorem pss_cons (h1 : PS X st t) (h2 : PSs X rest u) : PSs X (st :: rest) (tSeq t u) := by
 intro pins s σ H D I h
 refine wpAny_execs_cons (thn (h1 pins s σ H { D with nx := u D } I h) fun f s1 q => ?_)
 cases f with
 | next =>
   obtain ⟨σ', H', I', q⟩ := q
   exact h2 pins s1 σ' H' D I' q
 | ret v => exact q
 | brk => exact q
 | cont => exact q
theorem pss_one (h1 : PS X st t) : PSs X [st] t := by
 intro pins s σ H D I h
 refine wpAny_execs_cons (thn (h1 pins s σ H D I h) fun f s1 q => ?_)
 cases f with
 | next => exact wpAny_execs_nil q
 | ret v => exact q
 | brk => exact q
 | cont => exact q
theorem Inv.quiet {pins : List (Addr × Obj)} {σ : St} {H : Hp} {s : Shared} (I : Inv X pins σ H s) : interactive X.env = false := by simp [interactive, I.ok.kind]
def tDrop (te : TE) : TS := fun D σ H => te σ H fun _ H1 => D.nx σ H1
theorem ps_expr (he : PE X e te) (hs : swapsWith e none pos.line X.env = pure false := by rfl) : PS X (.Expr e pos) (tDrop te) := by
 intro pins s σ H D I h
 exact wpAny_Expr_any (thn (he pins s σ H _ I h) fun v s1 ⟨x, H1, I1, r1, q1⟩ => ⟨σ, H1, I1, q1⟩) I.quiet hs
def tRet (te : TE) : TS := fun D σ H => te σ H D.rt
theorem ps_ret (he : PE X e te) : PS X (.Return (some e) pos) (tRet te) := by
 intro pins s σ H D I h
 exact wpAny_Return_some (thn (he pins s σ H _ I h) fun v s1 ⟨x, H1, I1, r1, q1⟩ => ⟨x, σ, H1, I1, r1, q1⟩)
def tRetN : TS := fun D _ H => D.rt .non H
def tIfS (c : TT) (t u : TS) : TS := fun D σ H => c σ H fun b H1 => if b = true then t D σ H1 else u D σ H1
theorem ps_if {c : Expr} {a b : List Stmt} {tc : TT} (hc : PT X c tc) (ha : PSs X a t) (hb : PSs X b u) : PS X (.If c a b pos) (tIfS tc t u) := by
 intro pins s σ H D I h
 refine wpAny_If (thn (hc pins s σ H _ I h) fun d s1 ⟨H1, I1, q1⟩ => ?_)
 cases d with
 | true => exact ha pins s1 σ H1 D I1 q1
 | false => exact hb pins s1 σ H1 D I1 q1
def tNever : TS := fun _ _ _ => False
theorem ps_never : PS X st tNever := fun _ _ _ _ _ _ h => h.elim
end
abbrev TG := V → St → Hp → (St → Hp → Prop) → Prop
def PG (X : Cx) (target : Expr) (t : TG) : Prop :=
 ∀ (pins : List (Addr × Obj)) (s : Shared) (σ : St) (H : Hp) (v : V) (u : Value) (Q : St → Hp → Prop), Inv X pins σ H s → RelV v u → t v σ H Q →
   wpAny (model X.prog X.w) X.A (assign target X.env u) (fun _ s' => ∃ σ' H', Inv X pins σ' H' s' ∧ Q σ' H') X.xe s
abbrev TSet := V → V → V → Hp → (Hp → Prop) → Prop
def PSet (X : Cx) (t : TSet) : Prop :=
 ∀ (pins : List (Addr × Obj)) (s : Shared) (σ : St) (H : Hp) (o i v : V) (ov iv u : Value) (Q : Hp → Prop), Inv X pins σ H s → RelV o ov → RelV i iv → RelV v u → t o i v H Q →
   wpAny (model X.prog X.w) X.A (setItem ov iv u) (fun _ s' => ∃ H', Inv X pins σ H' s' ∧ Q H') X.xe s
abbrev TIp := V → V → Hp → VK → Prop
def PIp (X : Cx) (op : Operator) (t : TIp) : Prop :=
 ∀ (pins : List (Addr × Obj)) (s : Shared) (σ : St) (H : Hp) (x y : V) (v u : Value) (Q : VK), Inv X pins σ H s → RelV x v → RelV y u → t x y H Q →
   wpAny (model X.prog X.w) X.A (inplaceOp op v u) (EP X pins σ Q) X.xe s
section
variable {X : Cx} {pos : Pos}
def gName (i : Nat) : TG := fun v σ H Q => Q (σ.set i (some v)) H
theorem pg_name {i : Nat} {x : Str} (hN : X.N.Nodup) (hi : X.N[i]? = some x) (hx : Loc X.env.scope x) (hf : X.fn x = true ∨ X.env.scope.names.lookup x = some .local := by first | exact .inl rfl | exact .inr rfl | assumption) : PG X (.Name x pos) (gName i) := by
 intro pins s σ H v u Q I r h
 exact wpAny_assign_Name (store_ok I hN hi hx r (fun s' I' => ⟨_, H, I', h⟩) hf)
def gSub (to ti : TE) (t : TSet) : TG := fun v σ H Q => to σ H fun o H1 => ti σ H1 fun i H2 => t o i v H2 fun H3 => Q σ H3
theorem pg_sub {o i : Expr} {to ti : TE} {t : TSet} (ho : PE X o to) (hi : PE X i ti) (hs : PSet X t)
   (ha : ∀ v, assign (.Subscript o i pos) X.env v = (do
     let ov ← holding [v] (eval o X.env)
     let iv ← holding [v, ov] (eval i X.env)
     standAt pos
     holding [v, ov, iv] (setItem ov iv v)
     release [v, ov, iv] []) := by intro _; rfl) : PG X (.Subscript o i pos) (gSub to ti t) := by
 refine mq ?_; simp (disch := k_dflt (
 refine mz ?_
 intro pins s σ H v u Q I r h
 rw [ha]
 refine wpAny_bind (wpAny_holding (thn (ho pins s σ H _ I h) fun ov s1 ⟨x, H1, I1, r1, q1⟩ => ?_))
 refine wpAny_bind (wpAny_holding (thn (hi pins s1 σ H1 _ I1 q1) fun iv s2 ⟨y, H2, I2, r2, q2⟩ => ?_))
 refine wpAny_bind (wpAny_standAt (wpAny_bind (wpAny_holding (thn (hs pins s2 σ H2 x y v ov iv u _ I2 r1 r2 r q2) fun _ s3 ⟨H3, I3, q3⟩ => ?_))))
 exact wpAny_release ⟨σ, H3, I3, q3⟩)) only [↓mr]
def tAsg (te : TE) (g : TG) : TS := fun D σ H => te σ H fun x H1 => g x σ H1 D.nx
theorem ps_asg {tg e : Expr} {te : TE} {g : TG} (he : PE X e te) (hg : PG X tg g) (hs : swapsWithSole [tg] e pos.line X.env = pure false := by rfl) (hw : swappedStores [tg] e X.env = pure none := by rfl)
   (h1 : (assignEach [tg] X.env).map (·.2) = [assign tg X.env] := by rfl) : PS X (.Assign [tg] e pos) (tAsg te g) := by
 intro pins s σ H D I h
 refine wpAny_Assign_stores (thn (he pins s σ H _ I h) fun v s1 ⟨x, H1, I1, r1, q1⟩ => ?_) hs hw
 rw [h1]
 exact thn (hg pins s1 σ H1 x v _ I1 r1 q1) fun _ s2 q => q
theorem ps_set {i : Nat} {x : Str} {e : Expr} {te : TE} {pos' : Pos} (hN : X.N.Nodup) (hi : X.N[i]? = some x) (hx : Loc X.env.scope x) (he : PE X e te) (hs : swapsWith e (some (.Name x pos')) pos.line X.env = pure false := by rfl) (hf : X.fn x = true ∨ X.env.scope.names.lookup x = some .local := by first | exact .inl rfl | exact .inr rfl | assumption) :
   PS X (.Assign [.Name x pos'] e pos) (tAsg te (gName i)) := by
 intro pins s σ H D I h
 refine wpAny_Assign_Name (thn (he pins s σ H _ I h) fun v s1 ⟨y, H1, I1, r1, q1⟩ => ?_) hs
 exact store_ok I1 hN hi hx r1 (fun s2 I2 => ⟨_, H1, I2, q1⟩) hf
def tAug (i : Nat) (te : TE) (ti : TIp) : TS := fun D σ H => ∃ x, σ[i]? = some (some x) ∧ te σ H fun y H1 => ti x y H1 fun z H2 => D.nx (σ.set i (some z)) H2
theorem ps_aug {i : Nat} {x : Str} {e : Expr} {te : TE} {op : Operator} {ti : TIp} {pos' : Pos} (hN : X.N.Nodup) (hi : X.N[i]? = some x) (hx : Loc X.env.scope x) (he : PE X e te) (ho : PIp X op ti) (hf : X.fn x = true ∨ X.env.scope.names.lookup x = some .local := by first | exact .inl rfl | exact .inr rfl | assumption) :
   PS X (.AugAssign (.Name x pos') op e pos) (tAug i te ti) := by
 refine mq ?_; simp (disch := k_dflt (
 refine mz ?_
 intro pins s σ H D I h
 obtain ⟨v, e1, h⟩ := h
 obtain ⟨m, hn, hl⟩ := I.loc
 have vis : Vis X.env.scope x := by rcases hx with k | k; exact .inl k; exact .inr (.inl k)
 obtain ⟨u, r, l⟩ := hl i x v hi e1 vis
 refine wpAny_AugAssign_Name ?_
 have go : wpAny (model X.prog X.w) X.A (eval e X.env) (fun w s₂ => wpAny (model X.prog X.w) X.A (inplaceOp op u w) (fun r s₃ => wpAny (model X.prog X.w) X.A (storeName X.env x r) (fun _ => SP X pins D .next) X.xe s₃) X.xe s₂) X.xe s := by
   refine thn (he pins s σ H _ I h) fun w s1 ⟨y, H1, I1, r1, q1⟩ => ?_
   refine thn (ho pins s1 σ H1 v y u w _ I1 r r1 q1) fun z s2 ⟨zv, H2, I2, r2, q2⟩ => ?_
   exact store_ok I2 hN hi hx r2 (fun s3 I3 => ⟨_, H2, I3, q2⟩) hf
 rcases l with ⟨hk, hm⟩ | ⟨hk, c, hc, hcell⟩
 · exact wpAny_loadName_local I.ok.kind hk hn hm go
 · rcases hk with hk | hk
   · exact wpAny_loadName_cell I.ok.kind hk hc hcell go
   · rcases hx with k | k
     · have : X.env.scope.names.lookup x = some .free := hk
       rw [k] at this; cases this
     · have : X.env.scope.names.lookup x = some .free := hk
       rw [k] at this; cases this)) only [↓mr]
def tAugS (to ti te : TE) (tget : V → V → Hp → VK → Prop) (tip : TIp) (tset : TSet) : TS := fun D σ H => to σ H fun o H1 => ti σ H1 fun i H2 => tget o i H2 fun x H3 => te σ H3 fun y H4 => tip x y H4 fun z H5 => tset o i z H5 fun H6 => D.nx σ H6
def PGet (X : Cx) (t : V → V → Hp → VK → Prop) : Prop :=
 ∀ (pins : List (Addr × Obj)) (s : Shared) (σ : St) (H : Hp) (o i : V) (ov iv : Value) (Q : VK), Inv X pins σ H s → RelV o ov → RelV i iv → t o i H Q →
   wpAny (model X.prog X.w) X.A (getItem ov iv) (EP X pins σ Q) X.xe s
theorem ps_augS {o i e : Expr} {to ti te : TE} {tget : V → V → Hp → VK → Prop} {tip : TIp} {tset : TSet} {op : Operator} {tpos : Pos} (ho : PE X o to) (hi : PE X i ti) (hg : PGet X tget) (he : PE X e te) (hp : PIp X op tip) (hs : PSet X tset)
   (ha : ∀ ov iv new, augStore i ov iv new = (do holding [new, ov, iv] (setItem ov iv new); release [new, ov, iv] []; pure .next) := by intros; rfl) : PS X (.AugAssign (.Subscript o i tpos) op e pos) (tAugS to ti te tget tip tset) := by
 refine mq ?_; simp (disch := k_dflt (
 refine mz ?_
 intro pins s σ H D I h
 refine wpAny_AugAssign_SubscriptAny (thn (ho pins s σ H _ I h) fun ov s1 ⟨x1, H1, I1, r1, q1⟩ => ?_) ha
 refine thn (hi pins s1 σ H1 _ I1 q1) fun iv s2 ⟨x2, H2, I2, r2, q2⟩ => ?_
 refine thn (hg pins s2 σ H2 x1 x2 ov iv _ I2 r1 r2 q2) fun old s3 ⟨x3, H3, I3, r3, q3⟩ => ?_
 refine thn (he pins s3 σ H3 _ I3 q3) fun v s4 ⟨x4, H4, I4, r4, q4⟩ => ?_
 refine thn (hp pins s4 σ H4 x3 x4 old v _ I4 r3 r4 q4) fun new s5 ⟨x5, H5, I5, r5, q5⟩ => ?_
 exact thn (hs pins s5 σ H5 x1 x2 x5 ov iv new _ I5 r1 r2 r5 q5) fun _ s6 ⟨H6, I6, q6⟩ => ⟨σ, H6, I6, q6⟩)) only [↓mr]
def ipI (f : Int → Int → Int) : TIp := fun x y H Q => ∃ i j, x = .int i ∧ y = .int j ∧ Q (.int (f i j)) H
theorem ip_add : PIp X .Add (ipI fun i j => i + j) := by
 intro pins s σ H x y v u Q I r1 r2 h
 obtain ⟨i, j, e1, e2, q⟩ := h
 subst e1; subst e2
 obtain ⟨t, rfl⟩ := r1
 obtain ⟨t', rfl⟩ := r2
 exact iadd_int ⟨.int _, H, I.tok _, ⟨_, rfl⟩, q⟩
theorem ip_sub : PIp X .Sub (ipI fun i j => i - j) := by
 intro pins s σ H x y v u Q I r1 r2 h
 obtain ⟨i, j, e1, e2, q⟩ := h
 subst e1; subst e2
 obtain ⟨t, rfl⟩ := r1
 obtain ⟨t', rfl⟩ := r2
 exact isub_int ⟨.int _, H, I.tok _, ⟨_, rfl⟩, q⟩
end
section
variable {X : Cx} {pos : Pos}
def tWhile (c : TT) (tb : TS) : TS := fun D σ H => ∃ W : Nat → St → Hp → Prop, (∃ m, W m σ H) ∧ ∀ m σ H, W m σ H →
 c σ H fun b H1 => if b = true then ∃ N : St → Hp → Prop, (∀ σ' H', N σ' H' → ∃ m', m' < m ∧ W m' σ' H') ∧ tb { D with nx := N, ct := N, bk := D.nx } σ H1 else D.nx σ H1
theorem ps_while {c : Expr} {body : List Stmt} {tc : TT} {tb : TS} (hp : PassesOwn (model X.prog X.w) X.A X.env X.xe) (hc : PT X c tc) (hb : PSs X body tb) : PS X (.While c body [] pos) (tWhile tc tb) := by
 refine mq ?_; simp (disch := k_dflt (
 refine mz ?_
 intro pins s σ H D I h
 obtain ⟨W, ⟨m0, w0⟩, turn⟩ := h
 refine wpAny_While (codeAny_whileLoop (fun n s' => ∃ σ' H', Inv X pins σ' H' s' ∧ W n σ' H') ?_ m0 ⟨σ, H, I, w0⟩)
 rintro n s1 ⟨σ1, H1, I1, w1⟩
 refine wpAny_passesOwn hp (thn (hc pins s1 σ1 H1 _ I1 (turn n σ1 H1 w1)) fun b s2 ⟨H2, I2, q2⟩ => ?_)
 cases b with
 | true =>
   obtain ⟨N, hN, q2⟩ := q2
   rw [if_pos rfl]
   refine wpAny_passesOwn hp (thn (hb pins s2 σ1 H2 _ I2 q2) fun f s3 q3 => ?_)
   cases f with
   | next =>
     obtain ⟨σ3, H3, I3, n3⟩ := q3
     obtain ⟨m', hm, w3⟩ := hN σ3 H3 n3
     exact ⟨m', hm, σ3, H3, I3, w3⟩
   | cont =>
     obtain ⟨σ3, H3, I3, n3⟩ := q3
     obtain ⟨m', hm, w3⟩ := hN σ3 H3 n3
     exact ⟨m', hm, σ3, H3, I3, w3⟩
   | brk => exact q3
   | ret v => exact q3
 | false =>
   rw [if_neg Bool.false_ne_true]
   exact wpAny_execs_nil ⟨σ1, H2, I2, q2⟩)) only [↓mr]
end
structure It where
 go : Nat → Hp → Prop
 yld : Nat → Hp → V → Hp → Prop
 stop : Nat → Hp → Prop
def FpOk (X : Cx) (pins : List (Addr × Obj)) (H : Hp) (b : Addr) : Prop :=
 H b = none ∧ b ≠ X.env.locals ∧ b ∉ X.fs ∧ (b ∈ X.ex ∨ X.s_0.heap.objs.size ≤ b) ∧ (∀ x c, X.env.cells.lookup x = some c → c ≠ b) ∧ ∀ p ∈ X.pn ++ pins, p.1 ≠ b
theorem Inv.fpOk {X : Cx} {pins : List (Addr × Obj)} {σ : St} {H H' : Hp} {s : Shared} {b : Addr} (I : Inv X pins σ H s) (hb : s.heap.objs.size ≤ b) (hn : H' b = none) : FpOk X pins H' b := by
 refine ⟨hn, Nat.ne_of_gt (Nat.lt_of_lt_of_le I.lt hb), I.nofs hb, .inr (Nat.le_trans I.sz hb), fun x c e z => ?_, fun p hp z => ?_⟩
 · obtain ⟨v, q⟩ := I.cell x c e
   exact absurd (Nat.lt_of_lt_of_le q.lt (by rw [z]; exact hb)) (Nat.lt_irrefl _)
 · exact absurd (Nat.lt_of_lt_of_le (Heap.lt_size (I.pin p hp).1) (by rw [z]; exact hb)) (Nat.lt_irrefl _)
structure Turn (P : Program) (w : World) (K : PySem.W.Frag) (tg : Expr) (J : It) (fp : List Addr) (it : Addr) (tn : Nat → Heap → Prop) : Prop where
 mem : it ∈ fp
 obj : ∀ i h, tn i h → ∀ b ∈ fp, ∃ o, h.get? b = some o ∧ ∀ v, o.data ≠ .cell v
 keep : ∀ i h h', tn i h → (∀ b ∈ fp, ∀ o, h.get? b = some o → h'.get? b = some o) → tn i h'
 item : ∀ (X : Cx), X.prog = P → X.w = w → X.K = K → X.calm = true → ∀ (i : Nat) (pins : List (Addr × Obj)) (s : Shared) (σ : St) (H : Hp) (E : Value → Shared → Prop), Inv X pins σ H s → (∀ b ∈ fp, FpOk X pins H b) → tn i s.heap → J.go i H →
   wpAny (model P w) X.A (pyNext (.ref it)) (fun r s1 => ∃ u, r = some u ∧
     wpAny (model P w) X.A (letOwnedTupleGo tg (.ref it) u) (fun _ s2 => ∃ x H', Inv X pins σ H' s2 ∧ RelV x u ∧ J.yld i H x H' ∧ tn (i + 1) s2.heap ∧ ∀ b ∈ fp, H' b = none) E s1) E s
 done : ∀ (X : Cx), X.prog = P → X.w = w → X.K = K → X.calm = true → ∀ (i : Nat) (pins : List (Addr × Obj)) (s : Shared) (σ : St) (H : Hp) (E : Value → Shared → Prop), Inv X pins σ H s → (∀ b ∈ fp, FpOk X pins H b) → tn i s.heap → J.stop i H →
   wpAny (model P w) X.A (pyNext (.ref it)) (fun r s1 => r = none ∧ Inv X pins σ H s1) E s
 self : ∀ (A : Around) (i : Nat) (s : Shared) (Q : Value → Shared → Prop) (E : Value → Shared → Prop), tn i s.heap → Q (.ref it) s → wpAny (model P w) A (pyIter (.ref it)) Q E s
abbrev TI := St → Hp → (It → Hp → Prop) → Prop
def PIE (X : Cx) (pins : List (Addr × Obj)) (σ : St) (tg : Expr) (R : It → Hp → Prop) (itv : Value) (s2 : Shared) : Prop :=
 ∃ (it : Addr) (fp : List Addr) (tn : Nat → Heap → Prop) (J : It) (H' : Hp), itv = .ref it ∧ Inv X pins σ H' s2 ∧ Turn X.prog X.w X.K tg J fp it tn ∧ tn 0 s2.heap ∧ (∀ b ∈ fp, FpOk X pins H' b) ∧ R J H'
def PI (X : Cx) (tg iter : Expr) (wi : TI) : Prop :=
 ∀ (pins : List (Addr × Obj)) (s : Shared) (σ : St) (H : Hp) (R : It → Hp → Prop), Inv X pins σ H s → wi σ H R →
   wpAny (model X.prog X.w) X.A (eval iter X.env) (fun v s1 => wpAny (model X.prog X.w) X.A (pyIter v) (PIE X pins σ tg R) X.xe s1) X.xe s
theorem go_of {M : Model} {A : Around} {E : Value → Shared → Prop} {s : Shared} {tg : Expr} {it : Addr} {u : Value} {o : Obj} {n : String} {vs : Array Value} {Q : Unit → Shared → Prop} (ho : s.heap.get? it = some o) (hc : o.cls = .type n) (hd : o.data = .fields vs)
   (hn : ["enumerate", "zip", "dict_itemiterator", "dict_reverseitemiterator", "odict_iterator", "itertools.zip_longest", "itertools.pairwise"].contains n = false) (hQ : Q () s) : wpAny M A (letOwnedTupleGo tg (.ref it) u) Q E s := by
 refine mq ?_; simp (disch := k_dflt (
 refine mz ?_
 unfold letOwnedTupleGo
 cases tg <;> first
   | exact wpAny_pure hQ
   | (cases u <;> first
       | exact wpAny_pure hQ
       | (refine wpAny_bind (wpAny_load ho ?_)
          rw [hc, hd]
          show wpAny M A (if (["enumerate", "zip", "dict_itemiterator", "dict_reverseitemiterator", "odict_iterator", "itertools.zip_longest", "itertools.pairwise"].contains n && vs[0]? == some (rawInt _)) = true then _ else _) Q E s
          rw [if_neg (by intro h; rw [hn, Bool.false_and] at h; cases h)]
          exact wpAny_pure hQ)))) only [↓mr]
def Itl (K : PySem.W.Frag) (a : Addr) : It :=
 ⟨fun i H => ∃ xs x, SqL K H a xs ∧ xs[i]? = some x, fun i H x H' => H' = H ∧ ∀ xs, SqL K H a xs → xs[i]? = some x, fun i H => ∃ xs, SqL K H a xs ∧ xs.length ≤ i⟩
def Itr (lo : Int) (n : Nat) : It := ⟨fun i _ => i < n, fun i H x H' => H' = H ∧ x = .int (lo + i), fun i _ => n ≤ i⟩
theorem turn_list {P : Program} {w : World} {K : PySem.W.Frag} {tg : Expr} (a it : Addr) : Turn P w K tg (Itl K a) [it] it (fun i h => h.IsListIter it a i) where
 mem := by simp
 obj := fun i h st b hb => by
   have e : b = it := by simpa using hb
   subst e
   obtain ⟨o, e, c, d⟩ := st
   exact ⟨o, e, fun v z => by rw [d] at z; cases z⟩
 keep := fun i h h' st k => st.at fun o e => k it (by simp) o e
 item := by
   intro X hP hw hK hc i pins s σ H E I hf st hg
   subst hP hw hK
   obtain ⟨xs, x, hq, hx⟩ := hg
   obtain ⟨its, rv, p, hz⟩ := I.list hq
   obtain ⟨u, hu, ru⟩ := rv.get hx
   obtain ⟨f0, f1, f2, f3, f4, f5⟩ := hf it (by simp)
   refine wpAny_pyNext_list_item st p.isList (x := u) (by simpa using hu) fun h' st' sb => ?_
   have I1 : Inv X pins σ H { s with heap := h' } := I.turned (t' := s.toks) (fun b o hb e => (sb.2 b hb).trans e) f0 f1 f3 f4 f5
   obtain ⟨o, e, c, d⟩ := id st'
   exact ⟨u, rfl, go_of (s := { s with heap := h' }) e c d (by decide) ⟨x, H, I1, ru, ⟨rfl, fun ys hy => by rw [I.list_inj hy hq]; exact hx⟩, st', fun b hb => (hf b hb).1⟩⟩
 done := by
   intro X hP hw hK hc i pins s σ H E I hf st hg
   subst hP hw hK
   obtain ⟨xs, hq, hx⟩ := hg
   obtain ⟨its, rv, p, hz⟩ := I.list hq
   obtain ⟨f0, f1, f2, f3, f4, f5⟩ := hf it (by simp)
   have hl := rv.length
   exact wpAny_pyNext_list_end (I.ok.hd hc) st p.isList (by simp; omega) fun h' eb => ⟨rfl, I.turned (t' := s.toks) (fun b o hb e => eb b o hb e) f0 f1 f3 f4 f5⟩
 self := fun _ _ _ _ _ st h => wpAny_pyIter_listiter st h
theorem turn_range {P : Program} {w : World} {K : PySem.W.Frag} {tg : Expr} (it : Addr) (lo : Int) (n : Nat) : Turn P w K tg (Itr lo n) [it] it (fun i h => IsRangeIter h it (lo + (i : Nat) * 1) ((n : Int) - (i : Nat)) 1) where
 mem := by simp
 obj := fun i h st b hb => by
   have e : b = it := by simpa using hb
   subst e
   exact ⟨_, st, fun v z => by
     have z' : Data.fields _ = Data.cell v := z
     cases z'⟩
 keep := fun i h h' st k => k it (by simp) _ st
 item := by
   intro X hP hw hK hc i pins s σ H E I hf st hg
   subst hP hw hK
   obtain ⟨f0, f1, f2, f3, f4, f5⟩ := hf it (by simp)
   have W := Walks.range (prog := X.prog) (w := X.w) (I.ok.hd hc) it lo 1 n
   refine W.item i s _ _ hg st fun v h' tk hv st' kk => ?_
   obtain ⟨t, rfl⟩ := hv
   have I1 : Inv X pins σ H { s with heap := h', toks := tk } := I.turned (fun b o hb e => kk b o (by simpa using hb) e) f0 f1 f3 f4 f5
   refine ⟨_, rfl, go_of (s := { s with heap := h', toks := tk }) (n := "range_iterator") st' rfl rfl (by decide) ⟨.int (lo + i), H, I1, ⟨t, ?_⟩, ⟨rfl, rfl⟩, st', fun b hb => (hf b hb).1⟩⟩
   rw [Int.mul_one]
 done := by
   intro X hP hw hK hc i pins s σ H E I hf st hg
   subst hP hw hK
   obtain ⟨f0, f1, f2, f3, f4, f5⟩ := hf it (by simp)
   exact wpAny_pyNext_range_end (I.ok.hd hc) st (by have : n ≤ i := hg; omega) fun h' eb => ⟨rfl, I.turned (t' := s.toks) (fun b o hb e => eb b o hb e) f0 f1 f3 f4 f5⟩
 self := fun _ _ _ _ _ st h => wpAny_pyIter_rangeiter st h
end L2
namespace L2
open PySem PySem.Spec PyProof.Rows
section
variable {X : Cx} {tg : Expr}
def iList (K : PySem.W.Frag) (tl : TE) : TI := fun σ H R => tl σ H fun x H1 => ∃ a, x = .ref a ∧ (∃ xs, SqL K H1 a xs) ∧ R (Itl K a) H1
theorem pi_list {l : Expr} {tl : TE} (hl : PE X l tl) : PI X tg l (iList X.K tl) := by
 refine mq ?_; simp (disch := k_dflt (
 refine mz ?_
 intro pins s σ H R I h
 refine thn (hl pins s σ H _ I h) fun v s1 ⟨x, H1, I1, r1, q1⟩ => ?_
 obtain ⟨a, e, ⟨xs, hq⟩, q⟩ := q1
 subst e
 cases r1
 obtain ⟨its, rv, p, hz⟩ := I1.list hq
 refine wpAny_pyIter_list p.isList ?_
 refine ⟨s1.heap.objs.size, [s1.heap.objs.size], _, _, H1, rfl, I1.kept (t' := s1.toks) fun b o e => Heap.get?_push_of_some _ e, turn_list a _, ⟨_, Heap.get?_push_size _ rfl, rfl, rfl⟩, fun b hb => ?_, q⟩
 have e : b = s1.heap.objs.size := by simpa using hb
 subst e
 exact I1.fpOk (Nat.le_refl _) (I1.hok.fresh (Nat.le_refl _)))) only [↓mr]
theorem range_it {pins : List (Addr × Obj)} {σ : St} {H : Hp} {s : Shared} {R : It → Hp → Prop} {E : Value → Shared → Prop} {lo hi : Int} {t u v : Tok} {tk : Nat} (I : Inv X pins σ H s) (h1 : -(2 ^ 62) ≤ lo) (h2 : lo < 2 ^ 62) (h3 : -(2 ^ 62) ≤ hi) (h4 : hi < 2 ^ 62)
   (q : R (Itr lo (hi - lo).toNat) H) : wpAny (model X.prog X.w) X.A (pyIter (.ref s.heap.objs.size)) (PIE X pins σ tg R) E { s with heap := s.heap.push { cls := .type "range", data := .fields #[.int lo t, .int hi u, .int 1 v] }, toks := tk } := by
 refine mq ?_; simp (disch := k_dflt (
 refine mz ?_
 refine wpAny_pyIter_range (IsRange.new ..) (small_one h1 h2 h3 h4) ?_
 have I1 : Inv X pins σ H { s with heap := s.heap.push { cls := .type "range", data := .fields #[.int lo t, .int hi u, .int 1 v] }, toks := tk } := I.kept fun b o e => Heap.get?_push_of_some _ e
 refine ⟨(s.heap.push { cls := .type "range", data := .fields #[.int lo t, .int hi u, .int 1 v] }).objs.size, [(s.heap.push { cls := .type "range", data := .fields #[.int lo t, .int hi u, .int 1 v] }).objs.size], _, _, H, rfl,
   I1.kept (t' := tk) fun b o e => Heap.get?_push_of_some _ e, turn_range _ lo (hi - lo).toNat, ?_, fun b hb => ?_, q⟩
 · have e1 : lo + ((0 : Nat) : Int) * 1 = lo := by simp
   have e2 : (((hi - lo).toNat : Nat) : Int) - ((0 : Nat) : Int) = Builtin.Range.rangeSize lo hi 1 := by rw [rangeSize_one]; split <;> omega
   show IsRangeIter _ _ (lo + ((0 : Nat) : Int) * 1) ((((hi - lo).toNat : Nat) : Int) - ((0 : Nat) : Int)) 1
   rw [e1, e2]
   exact Heap.get?_push_size _ rfl
 · have e : b = (s.heap.push { cls := .type "range", data := .fields #[.int lo t, .int hi u, .int 1 v] }).objs.size := by simpa using hb
   subst e
   exact I1.fpOk (Nat.le_refl _) (I1.hok.fresh (Nat.le_refl _)))) only [↓mr]
def iRng1 (ta : TA) : TI := fun σ H R => ta σ H fun vs H1 => ∃ j : Int, vs = [.int j] ∧ -(2 ^ 62) ≤ j ∧ j < 2 ^ 62 ∧ R (Itr 0 j.toNat) H1
def iRng2 (ta : TA) : TI := fun σ H R => ta σ H fun vs H1 => ∃ i j : Int, vs = [.int i, .int j] ∧ (-(2 ^ 62) ≤ i ∧ i < 2 ^ 62 ∧ -(2 ^ 62) ≤ j ∧ j < 2 ^ 62) ∧ R (Itr i (j - i).toNat) H1
theorem pi_range1 {a : Expr} {ta : TA} {p pos : Pos} (hg : Gl X "range") (hm : X.mg "range" = none) (ha : PA X [a] ta) (hs : starEach [a] X.env = [(false, eval a X.env)] := by rfl) : PI X tg (.Call (.Name "range" p) [a] [] pos) (iRng1 ta) := by
 intro pins s σ H R I h
 refine Call_ (ld_blt I hg hm boot_range (PyProof.Rows.callWith_type1 (thn (ha pos pins s σ H _ I h) fun us s1 ⟨vs, H1, I1, r1, q1⟩ => ?_) hs rfl))
 obtain ⟨j, e, q1, q2, q⟩ := q1
 subst e
 cases r1 with
 | cons r rr =>
   cases rr
   obtain ⟨t, rfl⟩ := r
   exact call_range_1 (range_it I1 (by omega) (by omega) q1 q2 (by simpa using q))
theorem pi_range2 {a b : Expr} {ta : TA} {p pos : Pos} (hg : Gl X "range") (hm : X.mg "range" = none) (ha : PA X [a, b] ta) (hs : starEach [a, b] X.env = [(false, eval a X.env), (false, eval b X.env)] := by rfl) (hs2 : starEach [b] X.env = [(false, eval b X.env)] := by rfl) :
   PI X tg (.Call (.Name "range" p) [a, b] [] pos) (iRng2 ta) := by
 refine mq ?_; simp (disch := k_dflt (
 refine mz ?_
 intro pins s σ H R I h
 refine Call_ (ld_blt I hg hm boot_range (PyProof.Rows.callWith_type1 (thn (ha pos pins s σ H _ I h) fun us s1 ⟨vs, H1, I1, r1, q1⟩ => ?_) (by rw [hs, hs2]) (by rw [hs2]; rfl)))
 obtain ⟨i, j, e, ⟨q1, q2, q3, q4⟩, q⟩ := q1
 subst e
 cases r1 with
 | cons r rr =>
   cases rr with
   | cons r' rr =>
     cases rr
     obtain ⟨t, rfl⟩ := r
     obtain ⟨t', rfl⟩ := r'
     exact call_range_2 (range_it I1 q1 q2 q3 q4 q))) only [↓mr]
def tFor (wi : TI) (g : TG) (tb : TS) : TS := fun D σ H => wi σ H fun J H1 => ∃ W : Nat → Nat → St → Hp → Prop, (∃ m, W 0 m σ H1) ∧ ∀ i m σ H, W i m σ H →
 (J.stop i H ∧ D.nx σ H) ∨ (J.go i H ∧ ∃ N : St → Hp → Prop, (∀ σ' H', N σ' H' → ∃ m', m' < m ∧ W (i + 1) m' σ' H') ∧ ∀ x H', J.yld i H x H' → g x σ H' fun σ2 H2 => tb { D with nx := N, ct := N, bk := D.nx } σ2 H2)
def pinsAt (fp : List Addr) (h : Heap) : List (Addr × Obj) := fp.filterMap fun b => (h.get? b).map fun o => (b, o)
theorem mem_pinsAt {fp : List Addr} {h : Heap} {b : Addr} {o : Obj} (hb : b ∈ fp) (e : h.get? b = some o) : (b, o) ∈ pinsAt fp h := List.mem_filterMap.mpr ⟨b, hb, by rw [e]; rfl⟩
theorem of_pinsAt {fp : List Addr} {h : Heap} {p : Addr × Obj} (hp : p ∈ pinsAt fp h) : p.1 ∈ fp ∧ h.get? p.1 = some p.2 := by
 obtain ⟨b, hb, e⟩ := List.mem_filterMap.mp hp
 cases q : h.get? b with
 | none => rw [q] at e; cases e
 | some o =>
   rw [q] at e
   have e' : (b, o) = p := Option.some.inj e
   subst e'
   exact ⟨hb, q⟩
theorem Inv.pinned {pins : List (Addr × Obj)} {σ : St} {H : Hp} {s : Shared} {fp : List Addr} (I : Inv X pins σ H s) (hf : ∀ b ∈ fp, FpOk X pins H b) (ho : ∀ b ∈ fp, ∃ o, s.heap.get? b = some o ∧ ∀ v, o.data ≠ .cell v) : Inv X (pins ++ pinsAt fp s.heap) σ H s :=
 I.pins_of fun p hp => (List.mem_append.mp hp).elim (fun z => I.pin p (List.mem_append_right _ z)) fun z => by
   obtain ⟨hb, e⟩ := of_pinsAt z
   obtain ⟨f0, f1, f2, _⟩ := hf p.1 hb
   obtain ⟨o, e', d⟩ := ho p.1 hb
   rw [e] at e'; cases e'
   exact ⟨e, f0, f1, f2, d⟩
theorem Inv.unpinned {pins pl : List (Addr × Obj)} {σ : St} {H : Hp} {s : Shared} (I : Inv X (pins ++ pl) σ H s) : Inv X pins σ H s := I.pins_of fun p hp => I.pin p (List.mem_append_right _ (List.mem_append_left _ hp))
theorem ps_for {iter : Expr} {body : List Stmt} {wi : TI} {g : TG} {tb : TS} {pos : Pos} (hp : PassesOwn (model X.prog X.w) X.A X.env X.xe) (hc : X.calm = true) (hi : PI X tg iter wi) (hg : PG X tg g) (hb : PSs X body tb)
   (hs : ∀ x, foldedSetIterable iter X.env x = pure x := by intro _; rfl) : PS X (.For tg iter body [] pos) (tFor wi g tb) := by
 refine mq ?_; simp (disch := k_dflt (
 refine mz ?_
 intro pins s σ H D I h
 refine wpAny_For (thn (hi pins s σ H _ I h) fun v s1 h1 => thn h1 fun itv s2 h2 => ?_) hs
 obtain ⟨it, fp, tn, J, H2, e, I2, T, st2, f2, W, ⟨m0, w0⟩, turn⟩ := h2
 subst e
 have stat : ∀ {H' : Hp}, (∀ b ∈ fp, H' b = none) → ∀ b ∈ fp, FpOk X pins H' b := fun hn b hb => ⟨hn b hb, (f2 b hb).2⟩
 refine codeAny_forLoop_any (fun n s' => ∃ i σ' H', Inv X pins σ' H' s' ∧ tn i s'.heap ∧ (∀ b ∈ fp, H' b = none) ∧ W i n σ' H') ?_ m0 ⟨0, σ, H2, I2, st2, fun b hb => (f2 b hb).1, w0⟩
 rintro n s3 ⟨i, σ3, H3, I3, st3, fr3, w3⟩
 rcases turn i n σ3 H3 w3 with ⟨stop, qn⟩ | ⟨go, N, hN, step⟩
 · refine wpAny_passesOwn hp (thn (T.done X rfl rfl rfl hc i pins s3 σ3 H3 X.xe I3 (stat fr3) st3 stop) fun r s4 ⟨hr, I4⟩ => ?_)
   subst hr
   exact wpAny_execs_nil ⟨σ3, H3, I4, qn⟩
 · refine wpAny_passesOwn hp (thn (T.item X rfl rfl rfl hc i pins s3 σ3 H3 X.xe I3 (stat fr3) st3 go) fun r s4 ⟨u, hr, h4⟩ => ?_)
   subst hr
   refine wpAny_passesOwn hp (thn h4 fun _ s5 ⟨x, H5, I5, r5, y5, st5, fr5⟩ => ?_)
   have I5' := I5.pinned (stat fr5) (T.obj _ _ st5)
   refine wpAny_passesOwn hp (thn (hg _ s5 σ3 H5 x u _ I5' r5 (step x H5 y5)) fun _ s6 ⟨σ6, H6, I6, q6⟩ => ?_)
   refine wpAny_passesOwn hp (thn (hb _ s6 σ6 H6 _ I6 q6) fun f s7 q7 => ?_)
   have again : ∀ {σ7 : St} {H7 : Hp}, Inv X (pins ++ pinsAt fp s5.heap) σ7 H7 s7 → N σ7 H7 → ∃ m, m < n ∧ ∃ i σ' H', Inv X pins σ' H' s7 ∧ tn i s7.heap ∧ (∀ b ∈ fp, H' b = none) ∧ W i m σ' H' := fun {σ7 H7} I7 n7 => by
     obtain ⟨m', hm, w7⟩ := hN σ7 H7 n7
     refine ⟨m', hm, i + 1, σ7, H7, I7.unpinned, T.keep _ _ _ st5 fun b hb o e => (I7.pin (b, o) (List.mem_append_right _ (List.mem_append_right _ (mem_pinsAt hb e)))).1, fun b hb => ?_, w7⟩
     obtain ⟨o, e, d⟩ := T.obj _ _ st5 b hb
     exact (I7.pin (b, o) (List.mem_append_right _ (List.mem_append_right _ (mem_pinsAt hb e)))).2.1
   cases f with
   | next => obtain ⟨σ7, H7, I7, n7⟩ := q7; exact again I7 n7
   | cont => obtain ⟨σ7, H7, I7, n7⟩ := q7; exact again I7 n7
   | brk => obtain ⟨σ7, H7, I7, q7⟩ := q7; exact ⟨σ7, H7, I7.unpinned, q7⟩
   | ret v => obtain ⟨x7, σ7, H7, I7, r7, q7⟩ := q7; exact ⟨x7, σ7, H7, I7.unpinned, r7, q7⟩)) only [↓mr]
end
theorem for_list {K : PySem.W.Frag} {a : Addr} {xs : List V} {g : TG} {tb : TS} {D : Ends} {σ : St} {H : Hp} (Pv : Nat → St → Hp → Prop) (h0 : Pv 0 σ H) (hl : ∀ i σ H, i ≤ xs.length → Pv i σ H → SqL K H a xs)
   (hs : ∀ i x σ H, xs[i]? = some x → Pv i σ H → g x σ H fun σ2 H2 => tb { D with nx := Pv (i + 1), ct := Pv (i + 1), bk := D.nx } σ2 H2) (hd : ∀ σ H, Pv xs.length σ H → D.nx σ H) :
   ∃ W : Nat → Nat → St → Hp → Prop, (∃ m, W 0 m σ H) ∧ ∀ i m σ H, W i m σ H →
     ((Itl K a).stop i H ∧ D.nx σ H) ∨ ((Itl K a).go i H ∧ ∃ N : St → Hp → Prop, (∀ σ' H', N σ' H' → ∃ m', m' < m ∧ W (i + 1) m' σ' H') ∧ ∀ x H', (Itl K a).yld i H x H' → g x σ H' fun σ2 H2 => tb { D with nx := N, ct := N, bk := D.nx } σ2 H2) := by
 refine mq ?_; simp (disch := k_dflt (
 refine mz ?_
 refine ⟨fun i m σ H => m = xs.length - i ∧ i ≤ xs.length ∧ Pv i σ H, ⟨xs.length, by simp, Nat.zero_le _, h0⟩, ?_⟩
 rintro i m σ H ⟨rfl, hi, p⟩
 have q := hl i σ H hi p
 by_cases hlt : i < xs.length
 · refine .inr ⟨⟨xs, xs[i], q, by simp [hlt]⟩, Pv (i + 1), fun σ' H' p' => ⟨xs.length - (i + 1), by omega, rfl, hlt, p'⟩, fun x H' y => ?_⟩
   obtain ⟨e, y⟩ := y
   subst e
   exact hs i x σ _ (y xs q) p
 · have e : i = xs.length := by omega
   subst e
   exact .inl ⟨⟨xs, q, Nat.le_refl _⟩, hd σ H p⟩)) only [↓mr]
theorem for_range {lo : Int} {n : Nat} {g : TG} {tb : TS} {D : Ends} {σ : St} {H : Hp} (Pv : Nat → St → Hp → Prop) (h0 : Pv 0 σ H)
   (hs : ∀ i σ H, i < n → Pv i σ H → g (.int (lo + i)) σ H fun σ2 H2 => tb { D with nx := Pv (i + 1), ct := Pv (i + 1), bk := D.nx } σ2 H2) (hd : ∀ σ H, Pv n σ H → D.nx σ H) :
   ∃ W : Nat → Nat → St → Hp → Prop, (∃ m, W 0 m σ H) ∧ ∀ i m σ H, W i m σ H →
     ((Itr lo n).stop i H ∧ D.nx σ H) ∨ ((Itr lo n).go i H ∧ ∃ N : St → Hp → Prop, (∀ σ' H', N σ' H' → ∃ m', m' < m ∧ W (i + 1) m' σ' H') ∧ ∀ x H', (Itr lo n).yld i H x H' → g x σ H' fun σ2 H2 => tb { D with nx := N, ct := N, bk := D.nx } σ2 H2) := by
 refine mq ?_; simp (disch := k_dflt (
 refine mz ?_
 refine ⟨fun i m σ H => m = n - i ∧ i ≤ n ∧ Pv i σ H, ⟨n, by simp, Nat.zero_le _, h0⟩, ?_⟩
 rintro i m σ H ⟨rfl, hi, p⟩
 by_cases hlt : i < n
 · refine .inr ⟨hlt, Pv (i + 1), fun σ' H' p' => ⟨n - (i + 1), by omega, rfl, hlt, p'⟩, fun x H' y => ?_⟩
   obtain ⟨e, y⟩ := y
   subst e y
   exact hs i σ _ hlt p
 · have e : i = n := by omega
   subst e
   exact .inl ⟨Nat.le_refl _, hd σ H p⟩)) only [↓mr]
theorem while_by {c : TT} {tb : TS} {D : Ends} {σ : St} {H : Hp} (Pv : St → Hp → Prop) (μ : St → Hp → Nat) (h0 : Pv σ H)
   (hs : ∀ σ H, Pv σ H → c σ H fun b H1 => if b = true then tb { D with nx := fun σ' H' => Pv σ' H' ∧ μ σ' H' < μ σ H, ct := fun σ' H' => Pv σ' H' ∧ μ σ' H' < μ σ H, bk := D.nx } σ H1 else D.nx σ H1)
   (mono : ∀ σ H Q Q', (∀ b H1, Q b H1 → Q' b H1) → c σ H Q → c σ H Q') : tWhile c tb D σ H := by
 refine ⟨fun m σ H => m = μ σ H ∧ Pv σ H, ⟨_, rfl, h0⟩, ?_⟩
 rintro m σ H ⟨rfl, p⟩
 refine mono σ H _ _ (fun b H1 q => ?_) (hs σ H p)
 cases b with
 | true => exact ⟨_, fun σ' H' ⟨p', l⟩ => ⟨_, l, rfl, p'⟩, q⟩
 | false => exact q
end L2
namespace L2
open PySem PySem.Spec PyProof.Rows
abbrev R2 := V → V → Hp → VK → Prop
def OpR (X : Cx) (f : Value → Value → Sem Value) (r : R2) : Prop :=
 ∀ (pins : List (Addr × Obj)) (s : Shared) (σ : St) (H : Hp) (x y : V) (v u : Value) (Q : VK), Inv X pins σ H s → RelV x v → RelV y u → r x y H Q →
   wpAny (model X.prog X.w) X.A (f v u) (EP X pins σ Q) X.xe s
def UnR (X : Cx) (f : Value → Sem Value) (r : V → Hp → VK → Prop) : Prop :=
 ∀ (pins : List (Addr × Obj)) (s : Shared) (σ : St) (H : Hp) (x : V) (v : Value) (Q : VK), Inv X pins σ H s → RelV x v → r x H Q →
   wpAny (model X.prog X.w) X.A (f v) (EP X pins σ Q) X.xe s
def CallR (X : Cx) (f : Value) (r : List V → Hp → VK → Prop) : Prop :=
 ∀ (pins : List (Addr × Obj)) (s : Shared) (σ : St) (H : Hp) (xs : List V) (us : List Value) (Q : VK), Inv X pins σ H s → Vals xs us → r xs H Q →
   wpAny (model X.prog X.w) X.A (call f us) (EP X pins σ Q) X.xe s
def tOp (r : R2) (ta tb : TE) : TE := fun σ H Q => ta σ H fun x H1 => tb σ H1 fun y H2 => r x y H2 Q
def tUn (r : V → Hp → VK → Prop) (ta : TE) : TE := fun σ H Q => ta σ H fun x H1 => r x H1 Q
def rI (C : Int → Int → Prop) (g : Int → Int → V) : R2 := fun x y H Q => ∃ i j, x = .int i ∧ y = .int j ∧ C i j ∧ Q (g i j) H
def rI0 (g : Int → Int → V) : R2 := fun x y H Q => ∃ i j, x = .int i ∧ y = .int j ∧ Q (g i j) H
def rU (g : Int → V) : V → Hp → VK → Prop := fun x H Q => ∃ i, x = .int i ∧ Q (g i) H
section
variable {X : Cx} {a b c : Expr} {ta tb tc : TE} {pos : Pos}
theorem binT (ha : PE X a ta) (hb : PE X b tb) {pins : List (Addr × Obj)} {s : Shared} {σ : St} {H : Hp} {R : V → V → Hp → Prop} (I : Inv X pins σ H s)
   (h : ta σ H fun x H1 => tb σ H1 fun y H2 => R x y H2) {Q : Value → Shared → Prop} {f : Value → Value → Sem Value}
   (hf : ∀ v u s2 x y H2, Inv X pins σ H2 s2 → RelV x v → RelV y u → R x y H2 → wpAny (model X.prog X.w) X.A (f v u) Q X.xe s2) :
   wpAny (model X.prog X.w) X.A (eval a X.env) (fun v s₁ => wpAny (model X.prog X.w) X.A (eval b X.env) (fun u s₂ => wpAny (model X.prog X.w) X.A (f v u) Q X.xe s₂) X.xe s₁) X.xe s := by
 refine thn (ha pins s σ H _ I h) fun v s1 ⟨x, H1, I1, r1, q1⟩ => ?_
 refine thn (hb pins s1 σ H1 _ I1 q1) fun u s2 ⟨y, H2, I2, r2, q2⟩ => ?_
 exact hf v u s2 x y H2 I2 r1 r2 q2
theorem pe_op {op : Operator} {r : R2} (ho : OpR X (binaryOp op) r) (ha : PE X a ta) (hb : PE X b tb) : PE X (.BinOp a op b pos) (tOp r ta tb) := by
 intro pins s σ H Q I h
 exact wpAny_BinOp (binT ha hb I h fun v u s2 x y H2 I2 rx ry q => ho pins s2 σ H2 x y v u Q I2 rx ry q)
theorem pe_un {op : UnaryOp} {r : V → Hp → VK → Prop} (ho : UnR X (unaryOp op) r) (ha : PE X a ta) : PE X (.UnaryOp op a pos) (tUn r ta) := by
 intro pins s σ H Q I h
 exact UnaryOp_ (thn (ha pins s σ H _ I h) fun v s1 ⟨x, H1, I1, r1, q1⟩ => ho pins s1 σ H1 x v Q I1 r1 q1)
theorem opI {f : Value → Value → Sem Value} {C : Int → Int → Prop} {g : Int → Int → Int}
   (rule : ∀ (i j : Int) (t u : Tok) (s : Shared) (Q : Value → Shared → Prop) (E : Value → Shared → Prop), C i j → Q (.int (g i j) s.toks) { s with toks := s.toks + 1 } → wpAny (model X.prog X.w) X.A (f (.int i t) (.int j u)) Q E s) :
   OpR X f (rI C fun i j => .int (g i j)) := by
 intro pins s σ H x y v u Q I rx ry h
 obtain ⟨i, j, rfl, rfl, hc, q⟩ := h
 obtain ⟨t, rfl⟩ := rx
 obtain ⟨t', rfl⟩ := ry
 exact rule i j t t' s _ _ hc ⟨.int (g i j), H, I.tok _, ⟨_, rfl⟩, q⟩
theorem opI0 {f : Value → Value → Sem Value} {g : Int → Int → Int}
   (rule : ∀ (i j : Int) (t u : Tok) (s : Shared) (Q : Value → Shared → Prop) (E : Value → Shared → Prop), Q (.int (g i j) s.toks) { s with toks := s.toks + 1 } → wpAny (model X.prog X.w) X.A (f (.int i t) (.int j u)) Q E s) :
   OpR X f (rI0 fun i j => .int (g i j)) := by
 intro pins s σ H x y v u Q I rx ry h
 obtain ⟨i, j, rfl, rfl, q⟩ := h
 obtain ⟨t, rfl⟩ := rx
 obtain ⟨t', rfl⟩ := ry
 exact rule i j t t' s _ _ ⟨.int (g i j), H, I.tok _, ⟨_, rfl⟩, q⟩
theorem opB0 {f : Value → Value → Sem Value} {g : Int → Int → Bool}
   (rule : ∀ (i j : Int) (t u : Tok) (s : Shared) (Q : Value → Shared → Prop) (E : Value → Shared → Prop), Q (.bool (g i j)) s → wpAny (model X.prog X.w) X.A (f (.int i t) (.int j u)) Q E s) :
   OpR X f (rI0 fun i j => .bl (g i j)) := by
 intro pins s σ H x y v u Q I rx ry h
 obtain ⟨i, j, rfl, rfl, q⟩ := h
 obtain ⟨t, rfl⟩ := rx
 obtain ⟨t', rfl⟩ := ry
 exact rule i j t t' s _ _ ⟨.bl (g i j), H, I, rfl, q⟩
def CDiv (i j : Int) : Prop := 0 < j ∧ j < 1073741824
def CMul (i j : Int) : Prop := (-(2 ^ 64) < i ∧ i < 2 ^ 64) ∨ (-(2 ^ 64) < j ∧ j < 2 ^ 64)
theorem CMul.ok {i j : Int} (h : CMul i j) : IntMulOk i j := by
 rcases h with ⟨h1, h2⟩ | ⟨h1, h2⟩
 · exact .of_left (intBits_le_64 h1 h2)
 · exact .of_right (intBits_le_64 h1 h2)
theorem two_pow_nn (k : Nat) : (0 : Int) ≤ 2 ^ k := by
 rw [two_pow_cast]
 exact Int.natCast_nonneg _
theorem op_add : OpR X (binaryOp .Add) (rI0 fun i j => .int (i + j)) := opI0 fun _ _ _ _ _ _ _ q => add_int q
theorem op_sub : OpR X (binaryOp .Sub) (rI0 fun i j => .int (i - j)) := opI0 fun _ _ _ _ _ _ _ q => sub_int q
theorem op_mul : OpR X (binaryOp .Mult) (rI CMul fun i j => .int (i * j)) := opI fun _ _ _ _ _ _ _ hc q => mul_int q hc.ok
theorem op_fdiv : OpR X (binaryOp .FloorDiv) (rI CDiv fun i j => .int (i / j)) := opI fun i j _ _ _ _ _ hc q => by
 have h1 : (0 : Int) < j := hc.1
 have h2 : j < 1073741824 := hc.2
 exact floordiv_int (by omega) (by rw [Int.fdiv_eq_ediv_of_nonneg i (by omega)]; exact q) (.inl (PyProof.noPylong_small (by omega)))
theorem op_mod : OpR X (binaryOp .Mod) (rI (fun _ j => 0 < j) fun i j => .int (i % j)) := opI fun i j _ _ _ _ _ hc q => by
 have h1 : (0 : Int) < j := hc
 exact mod_int' (by omega) (by rw [Int.fmod_eq_emod_of_nonneg i (by omega)]; exact q)
theorem op_shr : OpR X (binaryOp .RShift) (rI (fun _ j => 0 ≤ j) fun i j => .int (i / 2 ^ j.toNat)) := opI fun i j _ _ _ _ _ hc q =>
 rshift_int hc (by rw [Int.fdiv_eq_ediv_of_nonneg i (two_pow_nn _)]; exact q)
theorem op_and : OpR X (binaryOp .BitAnd) (rI0 fun i j => .int (Builtin.bitAnd i j)) := opI0 fun _ _ _ _ _ _ _ q => and_int q
theorem op_or : OpR X (binaryOp .BitOr) (rI0 fun i j => .int (Builtin.bitOr i j)) := opI0 fun _ _ _ _ _ _ _ q => or_int q
theorem op_xor : OpR X (binaryOp .BitXor) (rI0 fun i j => .int (Builtin.bitXor i j)) := opI0 fun _ _ _ _ _ _ _ q => xor_int q
theorem unI {f : Value → Sem Value} {g : Int → Int}
   (rule : ∀ (i : Int) (t : Tok) (s : Shared) (Q : Value → Shared → Prop) (E : Value → Shared → Prop), Q (.int (g i) s.toks) { s with toks := s.toks + 1 } → wpAny (model X.prog X.w) X.A (f (.int i t)) Q E s) :
   UnR X f (rU fun i => .int (g i)) := by
 intro pins s σ H x v Q I rx h
 obtain ⟨i, rfl, q⟩ := h
 obtain ⟨t, rfl⟩ := rx
 exact rule i t s _ _ ⟨.int (g i), H, I.tok _, ⟨_, rfl⟩, q⟩
theorem un_neg : UnR X (unaryOp .USub) (rU fun i => .int (-i)) := unI fun _ _ _ _ _ q => neg_int q
theorem un_inv : UnR X (unaryOp .Invert) (rU fun i => .int (Builtin.bitNot i)) := unI fun _ _ _ _ _ q => invert_int q
end
def scal : V → V → Bool
 | .non, .non => true | .non, .int _ => true | .int _, .non => true | .non, .bl _ => true | .bl _, .non => true | .non, .str _ => true | .str _, .non => true
 | .int _, .int _ => true | .bl _, .bl _ => true | .str _, .str _ => true | .byt _, .byt _ => true
 | .int _, .str _ => true | .str _, .int _ => true | .bl _, .str _ => true | .str _, .bl _ => true
 | _, _ => false
def rEq : R2 := fun x y H Q => scal x y = true ∧ Q (.bl (decide (x = y))) H
def rNe : R2 := fun x y H Q => scal x y = true ∧ Q (.bl (!decide (x = y))) H
theorem dec_int {i j : Int} : decide (V.int i = V.int j) = (i == j) := by
 rw [Bool.eq_iff_iff]
 simp
theorem dec_bl {i j : Bool} : decide (V.bl i = V.bl j) = (i == j) := by
 rw [Bool.eq_iff_iff]
 simp
theorem dec_str {i j : Str} : decide (V.str i = V.str j) = (i == j) := by
 rw [Bool.eq_iff_iff]
 simp
theorem dec_byt {i j : Array UInt8} : decide (V.byt i = V.byt j) = (i.toList == j.toList) := by
 rw [Bool.eq_iff_iff]
 cases i
 cases j
 simp
section
variable {X : Cx} {a b c : Expr} {ta tb tc : TE} {pos : Pos}
theorem fin_bl {pins : List (Addr × Obj)} {σ : St} {H : Hp} {s : Shared} {Q : VK} {k k' : Bool} (I : Inv X pins σ H s) (q : Q (.bl k) H) (e : k = k') : EP X pins σ Q (.bool k') s := by
 subst e
 exact ⟨.bl k, H, I, rfl, q⟩
theorem op_eq : OpR X (compareOp .Eq) rEq := by
 refine mq ?_; simp (disch := k_dflt (
 refine mz ?_
 intro pins s σ H x y v u Q I rx ry h
 obtain ⟨hs, q⟩ := h
 cases x with
 | non =>
   cases rx
   cases y with
   | non => cases ry; exact PySem.EqNone.eq_none_none (fin_bl I q (by simp))
   | bl j => cases ry; exact PySem.EqNone.eq_none_bool (fin_bl I q (by simp))
   | int j => obtain ⟨t', rfl⟩ := ry; exact PySem.EqNone.eq_none_int (fin_bl I q (by simp))
   | str j => obtain ⟨t', rfl⟩ := ry; exact PySem.EqNone.eq_none_str (fin_bl I q (by simp))
   | _ => exact absurd (show false = true from hs) Bool.false_ne_true
 | bl i =>
   cases rx
   cases y with
   | non => cases ry; exact PySem.EqNone.eq_bool_none (fin_bl I q (by simp))
   | bl j => cases ry; exact eq_bool (fin_bl I q dec_bl)
   | str j => obtain ⟨t', rfl⟩ := ry; exact PySem.EqMixed.eq_bool_str (fin_bl I q (by simp))
   | _ => exact absurd (show false = true from hs) Bool.false_ne_true
 | int i =>
   obtain ⟨t, rfl⟩ := rx
   cases y with
   | non => cases ry; exact PySem.EqNone.eq_int_none (fin_bl I q (by simp))
   | int j => obtain ⟨t', rfl⟩ := ry; exact eq_int (fin_bl I q dec_int)
   | str j => obtain ⟨t', rfl⟩ := ry; exact PySem.EqMixed.eq_int_str (fin_bl I q (by simp))
   | _ => exact absurd (show false = true from hs) Bool.false_ne_true
 | str i =>
   obtain ⟨t, rfl⟩ := rx
   cases y with
   | non => cases ry; exact PySem.EqNone.eq_str_none (fin_bl I q (by simp))
   | bl j => cases ry; exact PySem.EqMixed.eq_str_bool (fin_bl I q (by simp))
   | int j => obtain ⟨t', rfl⟩ := ry; exact PySem.EqMixed.eq_str_int (fin_bl I q (by simp))
   | str j => obtain ⟨t', rfl⟩ := ry; exact eq_str (fin_bl I q dec_str)
   | _ => exact absurd (show false = true from hs) Bool.false_ne_true
 | byt i =>
   obtain ⟨t, rfl⟩ := rx
   cases y with
   | byt j => obtain ⟨t', rfl⟩ := ry; exact PySem.W.eq_bytes (fin_bl I q dec_byt)
   | _ => exact absurd (show false = true from hs) Bool.false_ne_true
 | _ => cases y <;> exact absurd (show false = true from hs) Bool.false_ne_true)) only [↓mr]
theorem op_ne : OpR X (compareOp .NotEq) rNe := by
 refine mq ?_; simp (disch := k_dflt (
 refine mz ?_
 intro pins s σ H x y v u Q I rx ry h
 obtain ⟨hs, q⟩ := h
 cases x with
 | non =>
   cases rx
   cases y with
   | non => cases ry; exact PySem.EqNone.ne_none_none (fin_bl I q (by simp))
   | bl j => cases ry; exact PySem.EqNone.ne_none_bool (fin_bl I q (by simp))
   | int j => obtain ⟨t', rfl⟩ := ry; exact PySem.EqNone.ne_none_int (fin_bl I q (by simp))
   | str j => obtain ⟨t', rfl⟩ := ry; exact PySem.EqNone.ne_none_str (fin_bl I q (by simp))
   | _ => exact absurd (show false = true from hs) Bool.false_ne_true
 | bl i =>
   cases rx
   cases y with
   | non => cases ry; exact PySem.EqNone.ne_bool_none (fin_bl I q (by simp))
   | bl j => cases ry; exact ne_bool (fin_bl I q (congrArg not dec_bl))
   | str j => obtain ⟨t', rfl⟩ := ry; exact PySem.EqMixed.ne_bool_str (fin_bl I q (by simp))
   | _ => exact absurd (show false = true from hs) Bool.false_ne_true
 | int i =>
   obtain ⟨t, rfl⟩ := rx
   cases y with
   | non => cases ry; exact PySem.EqNone.ne_int_none (fin_bl I q (by simp))
   | int j => obtain ⟨t', rfl⟩ := ry; exact ne_int (fin_bl I q (congrArg not dec_int))
   | str j => obtain ⟨t', rfl⟩ := ry; exact PySem.EqMixed.ne_int_str (fin_bl I q (by simp))
   | _ => exact absurd (show false = true from hs) Bool.false_ne_true
 | str i =>
   obtain ⟨t, rfl⟩ := rx
   cases y with
   | non => cases ry; exact PySem.EqNone.ne_str_none (fin_bl I q (by simp))
   | bl j => cases ry; exact PySem.EqMixed.ne_str_bool (fin_bl I q (by simp))
   | int j => obtain ⟨t', rfl⟩ := ry; exact PySem.EqMixed.ne_str_int (fin_bl I q (by simp))
   | str j => obtain ⟨t', rfl⟩ := ry; exact ne_str (fin_bl I q (congrArg not dec_str))
   | _ => exact absurd (show false = true from hs) Bool.false_ne_true
 | byt i =>
   obtain ⟨t, rfl⟩ := rx
   cases y with
   | byt j => obtain ⟨t', rfl⟩ := ry; exact PySem.W.ne_bytes (fin_bl I q (congrArg not dec_byt))
   | _ => exact absurd (show false = true from hs) Bool.false_ne_true
 | _ => cases y <;> exact absurd (show false = true from hs) Bool.false_ne_true)) only [↓mr]
theorem op_lt : OpR X (compareOp .Lt) (rI0 fun i j => .bl (decide (i < j))) := opB0 fun _ _ _ _ _ _ _ q => lt_int q
theorem op_le : OpR X (compareOp .LtE) (rI0 fun i j => .bl (decide (i ≤ j))) := opB0 fun _ _ _ _ _ _ _ q => le_int q
theorem op_gt : OpR X (compareOp .Gt) (rI0 fun i j => .bl (decide (j < i))) := opB0 fun _ _ _ _ _ _ _ q => gt_int q
theorem op_ge : OpR X (compareOp .GtE) (rI0 fun i j => .bl (decide (j ≤ i))) := opB0 fun _ _ _ _ _ _ _ q => ge_int q
theorem nomark (b : Expr) {op : CmpOp} (h : op ≠ .In := by decide) (h2 : op ≠ .NotIn := by decide) : behindInMarks op b = false := by
 have e1 : (op == CmpOp.In) = false := by cases op <;> first | rfl | exact absurd rfl h
 have e2 : (op == CmpOp.NotIn) = false := by cases op <;> first | rfl | exact absurd rfl h2
 cases b <;> simp [behindInMarks, e1, e2]
theorem pe_cmpR {op : CmpOp} {r : R2} (ho : OpR X (compareOp op) r) (ha : PE X a ta) (hb : PE X b tb) (hm : behindInMarks op b = false) : PE X (.Compare a [op] [b] pos) (tOp r ta tb) := by
 intro pins s σ H Q I h
 exact wpAny_Compare1 (binT ha hb I h fun v u s2 x y H2 I2 rx ry q => ho pins s2 σ H2 x y v u Q I2 rx ry q) hm
def tTest (t : TE) : TT := fun σ H Q => t σ H fun x H' => ∃ k, x = .bl k ∧ Q k H'
theorem pt_cmpR {op : CmpOp} {r : R2} (ho : OpR X (compareOp op) r) (ha : PE X a ta) (hb : PE X b tb) (hm : behindInMarks op b = false) : PT X (.Compare a [op] [b] pos) (tTest (tOp r ta tb)) := by
 intro pins s σ H Q I h
 refine wpAny_isTrue_Compare1 (thn (ha pins s σ H _ I h) fun v s1 ⟨x, H1, I1, r1, q1⟩ => thn (hb pins s1 σ H1 _ I1 q1) fun u s2 ⟨y, H2, I2, r2, q2⟩ =>
   thn (ho pins s2 σ H2 x y v u _ I2 r1 r2 q2) fun c s3 ⟨z, H3, I3, r3, k, e, q3⟩ => ?_) hm
 subst e
 cases r3
 exact wpAny_truthy_bool ⟨H3, I3, q3⟩
def tChain (r r' : R2) (ta tb tc : TE) : TE := fun σ H Q => ta σ H fun x H1 => tb σ H1 fun y H2 => r x y H2 fun z H3 => ∃ k, z = .bl k ∧
 (if k = true then tc σ H3 fun w' H4 => r' y w' H4 Q else Q (.bl false) H3)
theorem pe_chain {op op' : CmpOp} {r r' : R2} (ho : OpR X (compareOp op) r) (ho' : OpR X (compareOp op') r') (ha : PE X a ta) (hb : PE X b tb) (hc : PE X c tc)
   (hm : lastMarks [op, op'] [b, c] = false := by with_unfolding_all rfl) : PE X (.Compare a [op, op'] [b, c] pos) (tChain r r' ta tb tc) := by
 refine mq ?_; simp (disch := k_dflt (
 refine mz ?_
 intro pins s σ H Q I h
 refine Compare_chain (thn (ha pins s σ H _ I h) fun v s1 ⟨x, H1, I1, r1, q1⟩ => chain_link (thn (hb pins s1 σ H1 _ I1 q1) fun u s2 ⟨y, H2, I2, r2, q2⟩ =>
   thn (ho pins s2 σ H2 x y v u _ I2 r1 r2 q2) fun d s3 ⟨z, H3, I3, r3, k, e, q3⟩ => ?_)) hm
 subst e
 cases r3
 refine wpAny_truthy_bool ?_
 cases k with
 | false => exact ite_ff ⟨.bl false, H3, I3, rfl, q3⟩
 | true => exact ite_tt (chain_last (thn (hc pins s3 σ H3 _ I3 q3) fun w' s4 ⟨z', H4, I4, r4, q4⟩ => ho' pins s4 σ H4 y z' u w' Q I4 r2 r4 q4)))) only [↓mr]
theorem pt_chain {op op' : CmpOp} {r r' : R2} (ho : OpR X (compareOp op) r) (ho' : OpR X (compareOp op') r') (ha : PE X a ta) (hb : PE X b tb) (hc : PE X c tc)
   (hm : lastMarks [op, op'] [b, c] = false := by with_unfolding_all rfl) : PT X (.Compare a [op, op'] [b, c] pos) (tTest (tChain r r' ta tb tc)) := by
 refine mq ?_; simp (disch := k_dflt (
 refine mz ?_
 intro pins s σ H Q I h
 refine isTrue_chain (thn (ha pins s σ H _ I h) fun v s1 ⟨x, H1, I1, r1, q1⟩ => test_link (thn (hb pins s1 σ H1 _ I1 q1) fun u s2 ⟨y, H2, I2, r2, q2⟩ =>
   thn (ho pins s2 σ H2 x y v u _ I2 r1 r2 q2) fun d s3 ⟨z, H3, I3, r3, k, e, q3⟩ => ?_)) hm
 subst e
 cases r3
 refine wpAny_truthy_bool ?_
 cases k with
 | false =>
   obtain ⟨k', e', q'⟩ := q3
   cases e'
   exact ite_ff ⟨H3, I3, q'⟩
 | true =>
   refine ite_tt (test_last (thn (hc pins s3 σ H3 _ I3 q3) fun w' s4 ⟨z', H4, I4, r4, q4⟩ => thn (ho' pins s4 σ H4 y z' u w' _ I4 r2 r4 q4) fun d' s5 ⟨z2, H5, I5, r5, k2, e2, q5⟩ => ?_))
   subst e2
   cases r5
   exact wpAny_truthy_bool ⟨H5, I5, q5⟩)) only [↓mr]
theorem line63 : (sizeLine : Nat) < 2 ^ 63 := by rw [sizeLine_eq]; decide
theorem vals1 {x : V} {us : List Value} (r : Vals [x] us) : ∃ u, us = [u] ∧ RelV x u := by
 cases r with
 | cons r1 r2 => cases r2; exact ⟨_, rfl, r1⟩
theorem vals2 {x y : V} {us : List Value} (r : Vals [x, y] us) : ∃ u w', us = [u, w'] ∧ RelV x u ∧ RelV y w' := by
 cases r with
 | cons r1 r2 =>
   cases r2 with
   | cons r3 r4 => cases r4; exact ⟨_, _, rfl, r1, r3⟩
theorem call_max2 (hc : X.calm = true) : CallR X (.builtin "max") (fun xs H Q => ∃ i j, xs = [.int i, .int j] ∧ Q (.int (if j > i then j else i)) H) := by
 intro pins s σ H xs us Q I r h
 obtain ⟨i, j, rfl, q⟩ := h
 obtain ⟨u, w', rfl, ⟨t, rfl⟩, ⟨t', rfl⟩⟩ := vals2 r
 refine max_two_ints (I.ok.hd hc) fun h' tk k => ⟨_, H, I.kept k, ?_, q⟩
 by_cases hj : j > i
 · rw [if_pos hj, if_pos hj]; exact ⟨_, rfl⟩
 · rw [if_neg hj, if_neg hj]; exact ⟨_, rfl⟩
end
end L2
namespace L2
open PySem PySem.Spec PyProof.Rows
structure ObjM (h : Heap) (x dx C : Addr) (mA : Str → Option Value) : Prop where
 obj : h.get? x = some (PySem.W.instObj C dx)
 ns : h.Ns1 dx mA
 ne : dx ≠ x
theorem lookIn_ns {h : Heap} {dx : Addr} {mA : Str → Option Value} (n : h.Ns1 dx mA) : ∃ od, h.get? dx = some od ∧ ∀ name, PySem.W.lookIn name od = some (mA name) := by
 refine mq ?_; simp (disch := k_dflt (
 refine mz ?_
 obtain ⟨o, es, ep, ho, hd, hk, _, hm⟩ := n
 refine ⟨o, ho, fun name => ?_⟩
 have e := hm name
 unfold nsFind findBy at e
 rw [← Array.find?_toList] at e
 unfold PySem.W.lookIn
 rw [hd]
 dsimp only
 split
 · rename_i y q
   rw [q] at e
   exact congrArg some e
 · rename_i q
   rw [q] at e
   have a : es.toList.any (·.refKey) = false := by
     rw [List.any_eq_false]
     intro y hy
     obtain ⟨z, t, hkey⟩ := hk y (Array.mem_toList_iff.mp hy)
     simp [DictEntry.refKey, hkey]
   have a' : ¬ es.toList.any (·.refKey) = true := by rw [a]; exact Bool.false_ne_true
   rw [if_neg a']
   exact congrArg some e)) only [↓mr]
theorem ObjM.look {h : Heap} {x dx C : Addr} {mA : Str → Option Value} (I : ObjM h x dx C mA) : ∃ od, PySem.W.InstAt h x (PySem.W.instObj C dx) C (some od) ∧ ∀ name, PySem.W.lookIn name od = some (mA name) :=
 let ⟨od, ho, hl⟩ := lookIn_ns I.ns
 ⟨od, ⟨I.obj, rfl, rfl, ho⟩, hl⟩
section
variable {prog : Program} {w : World} {A : Around} {E : Value → Shared → Prop} {s : Shared} {K : PySem.W.Frag} {x dx C f : Addr} {mA : Str → Option Value} {name : Str} {v : Value}
theorem get_map {expr : Bool} {Q : Value → Shared → Prop} (X : K.In s.heap) (I : ObjM s.heap x dx C mA) (hg : PySem.W.plainGet K C name = true) (hh : PySem.W.hasDictIn K C = true)
   (ha : PySem.W.findIn K (.ref C) name = some none) (hv : mA name = some v) (hv' : PySem.W.handedIn v = true) (h : Q v { s with toks := s.toks + 1 }) :
   wpAny (model prog w) A (getAttr (.ref x) name expr) Q E s := by
 obtain ⟨od, J, hl⟩ := I.look
 exact PySem.W.get_value X J (PySem.W.plainGet_of hg).1 (PySem.W.findObj_own hh ha rfl (by rw [hl, hv])) hv' h
theorem get_meth {pl : Sem Bool} {Q : Value × List Value → Shared → Prop} (X : K.In s.heap) (I : ObjM s.heap x dx C mA) (hg : PySem.W.plainGet K C name = true)
   (hf : PySem.W.findIn K (.ref C) name = some (some (.ref f))) (ht : PySem.W.isFn K (.ref f) = true) (hv : mA name = none) (h : Q (.ref f, [.ref x]) s) :
   wpAny (model prog w) A (getMethod (.ref x) name pl) Q E s := by
 obtain ⟨od, J, hl⟩ := I.look
 exact PySem.W.method_fn X J (PySem.W.plainGet_of hg).1 (PySem.W.plainGet_of hg).2 hf (beq_iff_eq.mp ht) (by show (PySem.W.lookIn name od).map (·.isSome) = some false; rw [hl, hv]; rfl) h
theorem set_map {ns : List Str} {Q : Unit → Shared → Prop} (X : K.In s.heap) (I : ObjM s.heap x dx C mA)
   (hs : PySem.W.findIn K (.ref C) "__setattr__" = some (some (.builtin "object.__setattr__"))) (hp : PySem.W.plainOver K C = true) (ht : PySem.W.takerIn K C name = some none) (hh : PySem.W.hasDictIn K C = true)
   (hw : PySem.Within mA ns) (hsz : ns.length ≤ sizeLine)
   (h : ∀ h', ObjM h' x dx C (fun y => if y = name then some v else mA y) → Heap.SameBut dx s.heap h' → Q () { s with heap := h', toks := s.toks + 2 }) :
   wpAny (model prog w) A (setAttr (.ref x) name v) Q E s := by
 refine mq ?_; simp (disch := k_dflt (
 refine mz ?_
 obtain ⟨od, J, hl⟩ := I.look
 refine PySem.W.set_plain X J hs (PySem.W.osa_open (s := { s with toks := s.toks + 1 }) (r := none) X J hp ht fun b => ?_)
 obtain ⟨cd, hc, hd'⟩ := PySem.W.any_some hh
 have hx : s.heap.get? x = some ⟨.ref C, some dx, .plain, #[]⟩ := I.obj
 refine wpAny_bind (wpAny_pure (wpAny_bind (wpAny_bind (wpAny_loadPart hx (wpAny_bind (PySem.W.Looks.here (s := { s with toks := s.toks + 1 }) (PySem.W.looks_clsIn X hc) ?_))))))
 rw [hd']
 refine wpAny_pure (a := some dx) (wpAny_bind (wpAny_pure (wpAny_bind ?_)))
 refine wpAny_nsSet1 (s := { s with toks := s.toks + 1 }) I.ns fun h' hn2 hs2 => ?_
 obtain ⟨oD, esD, epD, hoD, hdD, hcD⟩ := hn2.count (PySem.Within.cons name v hw)
 refine wpAny_bind (wpAny_lookBehind hoD (by rw [hdD]; exact pastItsLine_dict (Nat.le_trans hcD (by rw [List.length_cons]; omega))) ?_)
 exact wpAny_pure (h _ ⟨(hs2.2 _ (Ne.symm I.ne)).trans I.obj, hn2, I.ne⟩ hs2))) only [↓mr]
theorem make_map {R : Result → Shared → Prop} {vs : List Value} {kw : List (Str × Value)} (X : K.In s.heap) (hm : PySem.W.makesIn K C = true)
   (hi : PySem.W.findIn K (.ref C) "__init__" = some (some (.ref f))) (hf : PySem.W.typeIn K (.ref f) = some (.type "function"))
   (h : codeAny (model prog w) (A.under (.builtin "type.__call__" ⟨.ref C :: vs, kw⟩)) (.call (.ref f) ⟨.ref (s.heap.objs.size + 1) :: vs, kw⟩) (PySem.W.InitBack (s.heap.objs.size + 1) R)
     { s with heap := (s.heap.push PySem.W.emptyDict).push (PySem.W.instObj C s.heap.objs.size) }) :
   codeAny (model prog w) A (.call (.ref C) ⟨vs, kw⟩) R s := by
 obtain ⟨hh, g, d, t, os⟩ := s
 exact PySem.W.make_core (PySem.W.makes_of X hm) (PySem.W.looks_findIn X hi) (fun self => PySem.W.bind_fn X self hf) (.inl rfl) h
end
def putF (f : Str) (v : V) : List (Str × V) → List (Str × V)
 | [] => [(f, v)]
 | (g, x) :: r => if g = f then (g, v) :: r else (g, x) :: putF f v r
theorem lookup_putF (f g : Str) (v : V) : ∀ fs : List (Str × V), (putF f v fs).lookup g = if g = f then some v else fs.lookup g
 | [] => by
   show List.lookup g [(f, v)] = _
   by_cases h : g = f
   · have hb : (g == f) = true := beq_iff_eq.mpr h
     simp only [List.lookup, hb, if_pos h]
   · have hb : (g == f) = false := beq_eq_false_iff_ne.mpr h
     simp only [List.lookup, hb, if_neg h]
 | (k, x) :: r => by
   have ih := lookup_putF f g v r
   rw [show putF f v ((k, x) :: r) = (if k = f then (k, v) :: r else (k, x) :: putF f v r) from rfl]
   by_cases hk : k = f
   · rw [if_pos hk]
     by_cases h : g = k
     · have hb : (g == k) = true := beq_iff_eq.mpr h
       simp only [List.lookup, hb, if_pos (h.trans hk)]
     · have hb : (g == k) = false := beq_eq_false_iff_ne.mpr h
       simp only [List.lookup, hb, if_neg (fun e : g = f => h (e.trans hk.symm))]
   · rw [if_neg hk]
     by_cases h : g = k
     · have hb : (g == k) = true := beq_iff_eq.mpr h
       simp only [List.lookup, hb, if_neg (fun e : g = f => hk (h.symm.trans e))]
     · have hb : (g == k) = false := beq_eq_false_iff_ne.mpr h
       simp only [List.lookup, hb]
       exact ih
theorem keys_putF (f : Str) (v : V) : ∀ fs : List (Str × V), f ∈ (putF f v fs).map (·.1) ∧ ∀ g, g ∈ fs.map (·.1) → g ∈ (putF f v fs).map (·.1)
 | [] => ⟨by simp [putF], fun g h => by simp at h⟩
 | (k, x) :: r => by
   obtain ⟨i1, i2⟩ := keys_putF f v r
   rw [show putF f v ((k, x) :: r) = (if k = f then (k, v) :: r else (k, x) :: putF f v r) from rfl]
   by_cases hk : k = f
   · rw [if_pos hk]
     subst hk
     exact ⟨by simp, fun g h => by simpa using h⟩
   · rw [if_neg hk]
     refine ⟨?_, fun g h => ?_⟩
     · rw [List.map_cons]
       exact List.mem_cons_of_mem _ i1
     · rw [List.map_cons] at h ⊢
       rcases List.mem_cons.mp h with e | e
       · exact List.mem_cons.mpr (.inl e)
       · exact List.mem_cons_of_mem _ (i2 g e)
theorem length_putF (f : Str) (v : V) : ∀ fs : List (Str × V), (putF f v fs).length ≤ fs.length + 1
 | [] => by simp [putF]
 | (k, x) :: r => by
   have ih := length_putF f v r
   rw [show putF f v ((k, x) :: r) = (if k = f then (k, v) :: r else (k, x) :: putF f v r) from rfl]
   by_cases hk : k = f
   · rw [if_pos hk, List.length_cons, List.length_cons]; omega
   · rw [if_neg hk, List.length_cons, List.length_cons]; omega
theorem RelO.some_of {v : V} {o : Option Value} (r : RelO (some v) o) : ∃ u, o = some u ∧ RelV v u := by
 cases o with
 | none => exact (show False from r).elim
 | some u => exact ⟨u, rfl, r⟩
theorem RelO.none_of {o : Option Value} (r : RelO none o) : o = none := by
 cases o with
 | none => rfl
 | some u => exact (show False from r).elim
theorem handed_of {v : V} {u : Value} (r : RelV v u) : PySem.W.handedIn u = true := by
 refine mq ?_; simp (disch := k_dflt (
 refine mz ?_
 cases v with
 | non => cases (show u = Value.none from r); rfl
 | bl b => cases (show u = Value.bool b from r); rfl
 | int i => obtain ⟨t, e⟩ := (show ∃ t, u = Value.int i t from r); cases e; rfl
 | str x => obtain ⟨t, e⟩ := (show ∃ t, u = Value.str x t from r); cases e; rfl
 | byt b => obtain ⟨t, e⟩ := (show ∃ t, u = Value.bytes b t from r); cases e; rfl
 | flt b => obtain ⟨t, e⟩ := (show ∃ t, u = Value.float b t from r); cases e; rfl
 | ref a => cases (show u = Value.ref a from r); rfl
 | ty n => cases (show u = Value.type n from r); rfl)) only [↓mr]
section
variable {P : Program} {w : World} {H H' : Hp} {h h' : Heap} {a C dx : Addr} {fs fs' : List (Str × V)}
theorem ins_get (hok : HOk P w H h) (e : H a = some (.ins C dx fs)) : ∃ mA, ObjM h a dx C mA ∧ (∀ f, RelO (fs.lookup f) (mA f)) ∧ PySem.Within mA (fs.map (·.1)) ∧ fs.length ≤ 1000 ∧ H dx = some (.own a) := by
 obtain ⟨d, z, ne, ob, mA, n, r, q⟩ := (show ObjOk P w H h a (.ins C dx fs) from hok a _ e)
 exact ⟨mA, ⟨ob, n, ne⟩, r, q, z, d⟩
end
structure Cls (K : PySem.W.Frag) (C : Addr) : Prop where
 pg : PySem.W.plainGet K C Str.empty = true
 hd : PySem.W.hasDictIn K C = true
 po : PySem.W.plainOver K C = true
 sa : PySem.W.findIn K (.ref C) "__setattr__" = some (some (.builtin "object.__setattr__"))
theorem Cls.get {K : PySem.W.Frag} {C : Addr} (c : Cls K C) (f : Str) : PySem.W.plainGet K C f = true := c.pg
def NoAttr (K : PySem.W.Frag) (C : Addr) (f : Str) : Prop := PySem.W.findIn K (.ref C) f = some none
theorem NoAttr.taker {K : PySem.W.Frag} {C : Addr} {f : Str} (n : NoAttr K C f) : PySem.W.takerIn K C f = some none := by
 unfold PySem.W.takerIn
 rw [show PySem.W.findIn K (.ref C) f = some none from n]
 rfl
structure Meth (K : PySem.W.Frag) (C : Addr) (m : Str) (f : Addr) : Prop where
 at_ : PySem.W.findIn K (.ref C) m = some (some (.ref f))
 fn : PySem.W.isFn K (.ref f) = true
 kp : PySem.W.keepIn K (.ref f) = true
section
variable {X : Cx} {pins : List (Addr × Obj)} {σ : St} {H : Hp} {s : Shared} {a C dx : Addr} {fs : List (Str × V)} {f : Str} {v : V} {A : Around} {E : Value → Shared → Prop}
theorem getattr_ok {b : Bool} {Q : Value → Shared → Prop} (I : Inv X pins σ H s) (e : H a = some (.ins C dx fs)) (c : Cls X.K C) (n : NoAttr X.K C f) (l : fs.lookup f = some v)
   (h : ∀ u s', Inv X pins σ H s' → RelV v u → Q u s') : wpAny (model X.prog X.w) A (getAttr (.ref a) f b) Q E s := by
 obtain ⟨mA, O, r, _, _, _⟩ := ins_get I.hok e
 obtain ⟨u, hu, ru⟩ := RelO.some_of (v := v) (o := mA f) (by rw [← l]; exact r f)
 exact get_map I.kIn O (c.get f) c.hd n hu (handed_of ru) (h u _ (I.tok _) ru)
theorem getmeth_ok {m : Str} {g : Addr} {pl : Sem Bool} {Q : Value × List Value → Shared → Prop} (I : Inv X pins σ H s) (e : H a = some (.ins C dx fs)) (c : Cls X.K C) (k : Meth X.K C m g) (l : fs.lookup m = none)
   (h : Q (.ref g, [.ref a]) s) : wpAny (model X.prog X.w) A (getMethod (.ref a) m pl) Q E s := by
 obtain ⟨mA, O, r, _, _, _⟩ := ins_get I.hok e
 have hn : mA m = none := RelO.none_of (by rw [← l]; exact r m)
 exact get_meth I.kIn O (c.get m) k.at_ k.fn hn h
theorem setattr_ok {y : V} {u : Value} {Q : Unit → Shared → Prop} (I : Inv X pins σ H s) (e : H a = some (.ins C dx fs)) (c : Cls X.K C) (n : NoAttr X.K C f) (hl : fs.length < 1000) (ry : RelV y u)
   (h : ∀ s', Inv X pins σ (upd H a (.ins C dx (putF f y fs))) s' → Q () s') : wpAny (model X.prog X.w) A (setAttr (.ref a) f u) Q E s := by
 refine mq ?_; simp (disch := k_dflt (
 refine mz ?_
 obtain ⟨mA, O, r, wi, _, ho⟩ := ins_get I.hok e
 have hz : (fs.map (·.1)).length ≤ sizeLine := by rw [List.length_map, sizeLine_eq]; omega
 refine set_map I.kIn O c.sa c.po n.taker c.hd wi hz fun h' O' sb => h _ ?_
 have hd : ∃ o, h'.get? dx = some o := let ⟨o, _, _, e', _⟩ := O'.ns; ⟨o, e'⟩
 refine I.write (x := a) (e := dx) (by rw [e]; exact True.intro) (.inr ho) (fun b q hb z => (sb.2 b hb).trans z) hd ?_
 refine ⟨by rw [upd_ne O.ne]; exact ho, ?_, O.ne, O'.obj, _, O'.ns, fun g => ?_, fun g hg => ?_⟩
 · have := length_putF f y fs; omega
 · show RelO ((putF f y fs).lookup g) (if g = f then some u else mA g)
   rw [lookup_putF]
   by_cases q : g = f
   · rw [if_pos q, if_pos q]; exact ry
   · rw [if_neg q, if_neg q]; exact r g
 · by_cases q : g = f
   · rw [q]; exact (keys_putF f y fs).1
   · refine (keys_putF f y fs).2 g (wi g fun z => hg ?_)
     show (if g = f then some u else mA g) = none
     rw [if_neg q]; exact z)) only [↓mr]
theorem Inv.made (I : Inv X pins σ H s) : Inv X pins σ (upd (upd H s.heap.objs.size (.own (s.heap.objs.size + 1))) (s.heap.objs.size + 1) (.ins C s.heap.objs.size []))
   { s with heap := (s.heap.push PySem.W.emptyDict).push (PySem.W.instObj C s.heap.objs.size) } := by
 refine mq ?_; simp (disch := k_dflt (
 refine mz ?_
 have e1 : (s.heap.push PySem.W.emptyDict).get? s.heap.objs.size = some PySem.W.emptyDict := Heap.get?_push_size s.heap rfl
 have e2 : ((s.heap.push PySem.W.emptyDict).push (PySem.W.instObj C s.heap.objs.size)).get? (s.heap.objs.size + 1) = some (PySem.W.instObj C s.heap.objs.size) := by
   have := Heap.get?_push_size (s.heap.push PySem.W.emptyDict) (o := PySem.W.instObj C s.heap.objs.size) rfl
   rwa [Heap.size_push] at this
 have e3 : (s.heap.push PySem.W.emptyDict).Ns s.heap.objs.size (fun _ => none) := ⟨PySem.W.emptyDict, #[], _, e1, rfl, (fun e he => absurd he (by simp)), fun _ => rfl⟩
 have I1 := I.laid (a := s.heap.objs.size) (o := .own (s.heap.objs.size + 1)) (h' := s.heap.push PySem.W.emptyDict) (t' := s.toks) (fun b u q => Heap.get?_push_of_some _ q) (Nat.le_refl _) ⟨_, e1⟩
 refine I1.laid (a := s.heap.objs.size + 1) (o := .ins C s.heap.objs.size []) (t' := s.toks) (fun b u q => Heap.get?_push_of_some _ q) (Nat.le_of_eq (Heap.size_push _ _)) ?_
 have ne : s.heap.objs.size ≠ s.heap.objs.size + 1 := Nat.ne_of_lt (Nat.lt_succ_self _)
 refine ⟨by rw [upd_ne ne, upd_same], Nat.zero_le _, ne, e2, fun _ => none, (Heap.Ns1.of_empty e3).at fun o q => Heap.get?_push_of_some _ q, fun _ => True.intro, fun y hy => absurd rfl hy⟩)) only [↓mr]
theorem attr_of {prog : Program} {w : World} {env : Env} {e : Expr} {f : Str} {pos : Pos} {s : Shared} {Q : Value → Shared → Prop} (hb : attributeBase e f env (eval e env) = eval e env)
   (h : wpAny (model prog w) A (eval e env) (fun o s₁ => wpAny (model prog w) A (getAttr o f true) Q E s₁) E s) : wpAny (model prog w) A (eval (.Attribute e f pos) env) Q E s :=
 Attribute_any_ h (by rw [arm_eval_Attribute, hb])
end
def tFld (K : PySem.W.Frag) (ta : TE) (f : Str) : TE := fun σ H Q => ta σ H fun x H1 => ∃ a C dx fs v, x = .ref a ∧ H1 a = some (.ins C dx fs) ∧ Cls K C ∧ NoAttr K C f ∧ fs.lookup f = some v ∧ Q v H1
def sFld (K : PySem.W.Frag) (ta tv : TE) (f : Str) : TS := fun D σ H => tv σ H fun y H1 => ta σ H1 fun x H2 => ∃ a C dx fs, x = .ref a ∧ H2 a = some (.ins C dx fs) ∧ Cls K C ∧ NoAttr K C f ∧ fs.length < 1000 ∧
 D.nx σ (upd H2 a (.ins C dx (putF f y fs)))
def InOp (X : Cx) (op : Operator) (rd : V → V → Hp → VK → Prop) : Prop :=
 ∀ (pins : List (Addr × Obj)) (s : Shared) (σ : St) (H : Hp) (x y : V) (u v : Value) (Q : VK), Inv X pins σ H s → RelV x u → RelV y v → rd x y H Q → wpAny (model X.prog X.w) X.A (inplaceOp op u v) (EP X pins σ Q) X.xe s
def sFldAug (K : PySem.W.Frag) (ta tv : TE) (rd : V → V → Hp → VK → Prop) (f : Str) : TS := fun D σ H => ta σ H fun x H1 => ∃ a C dx fs v, x = .ref a ∧ H1 a = some (.ins C dx fs) ∧ Cls K C ∧ NoAttr K C f ∧ fs.lookup f = some v ∧
 tv σ H1 fun y H2 => rd v y H2 fun z H3 => ∃ dx' fs', H3 a = some (.ins C dx' fs') ∧ fs'.length < 1000 ∧ D.nx σ (upd H3 a (.ins C dx' (putF f z fs')))
section
variable {X : Cx} {o e value : Expr} {f : Str} {pos pos' tpos : Pos} {ta tv : TE}
theorem pe_fld (he : PE X e ta) (hb : attributeBase e f X.env (eval e X.env) = eval e X.env) : PE X (.Attribute e f pos) (tFld X.K ta f) := by
 intro pins s σ H Q I h
 refine attr_of hb (thn (he pins s σ H _ I h) fun u s1 ⟨x, H1, I1, rx, a, C, dx, fs, v, ex, ea, c, n, l, q⟩ => ?_)
 subst ex
 obtain rfl : u = Value.ref a := rx
 exact getattr_ok I1 ea c n l fun u' s2 I2 ru => ⟨v, H1, I2, ru, q⟩
theorem ps_fld (ha : PE X o ta) (hv : PE X value tv) (hs : swapsWith value (some (.Attribute o f pos')) pos.line X.env = pure false) : PS X (.Assign [.Attribute o f pos'] value pos) (sFld X.K ta tv f) := by
 intro pins s σ H D I h
 refine plainObj_wpAny_Assign_Attribute (thn (hv pins s σ H _ I h) fun u s1 ⟨y, H1, I1, ry, q⟩ => thn (ha pins s1 σ H1 _ I1 q) fun ov s2 ⟨x, H2, I2, rx, a, C, dx, fs, ex, ea, c, n, l, q2⟩ => ?_) hs
 subst ex
 obtain rfl : ov = Value.ref a := rx
 exact setattr_ok I2 ea c n l ry fun s3 I3 => ⟨σ, _, I3, q2⟩
theorem ps_fldaug {op : Operator} {rd : V → V → Hp → VK → Prop} (ha : PE X o ta) (hv : PE X value tv) (hop : InOp X op rd) : PS X (.AugAssign (.Attribute o f tpos) op value pos) (sFldAug X.K ta tv rd f) := by
 refine mq ?_; simp (disch := k_dflt (
 refine mz ?_
 intro pins s σ H D I h
 refine wpAny_AugAssign_AttributeAny (thn (ha pins s σ H _ I h) fun ov s1 ⟨x, H1, I1, rx, a, C, dx, fs, v, ex, ea, c, n, l, q⟩ => ?_)
 subst ex
 obtain rfl : ov = Value.ref a := rx
 refine getattr_ok I1 ea c n l fun u s2 I2 ru => thn (hv pins s2 σ H1 _ I2 q) fun w3 s3 ⟨y, H2, I3, ry, q3⟩ => thn (hop pins s3 σ H2 v y u w3 _ I3 ru ry q3) fun w4 s4 ⟨z, H3, I4, rz, dx', fs', ea', l', q4⟩ => ?_
 exact setattr_ok I4 ea' c n l' rz fun s5 I5 => ⟨σ, _, I5, q4⟩)) only [↓mr]
def rAdd : V → V → Hp → VK → Prop := fun x y H Q => ∃ i j, x = .int i ∧ y = .int j ∧ Q (.int (i + j)) H
def rSub : V → V → Hp → VK → Prop := fun x y H Q => ∃ i j, x = .int i ∧ y = .int j ∧ Q (.int (i - j)) H
theorem in_add : InOp X .Add rAdd := by
 rintro pins s σ H x y u v Q I rx ry ⟨i, j, rfl, rfl, q⟩
 obtain ⟨t, rfl⟩ := (show ∃ t, u = Value.int i t from rx)
 obtain ⟨t', rfl⟩ := (show ∃ t', v = Value.int j t' from ry)
 exact PyProof.Rows.iadd_int ⟨.int (i + j), H, I.tok _, ⟨_, rfl⟩, q⟩
end
end L2
namespace L2
open PySem PySem.Spec PyProof.Rows
structure Room (k : Nat) (A : Around) : Prop where
 hd : A.handled = none
 dp : A.depth + 3 * k + 5 < recursionLimit
 un : A.units + 16 * k + 200 < cLine
theorem Room.mono {j k : Nat} {A : Around} (r : Room k A) (h : j ≤ k) : Room j A := ⟨r.hd, by have := r.dp; omega, by have := r.un; omega⟩
theorem Room.deeper {k : Nat} {A : Around} (r : Room (k + 1) A) (env : Env) : Room k (A.deeper env) :=
 ⟨r.hd, by have := r.dp; show A.depth + 1 + 3 * k + 5 < _; omega, by have := r.un; show A.units + 3 + 16 * k + 200 < _; omega⟩
theorem Room.in1 {k : Nat} {A : Around} (r : Room (k + 1) A) : Room k A.in1 :=
 ⟨r.hd, by have := r.dp; show A.depth + 3 * k + 5 < _; omega, by have := r.un; show A.units + 1 + 16 * k + 200 < _; omega⟩
theorem make_depth {A : Around} {C : Addr} {us : List Value} {kw : List (Str × Value)} : (A.under (.builtin "type.__call__" ⟨.ref C :: us, kw⟩)).depth = A.depth + 1 := by
 first | rfl | simp [Around.under, Code.weight, Code.isCreation, Code.isGuard, Code.isCaller, Code.frames, Code.isFrame, guardIds]
theorem make_units {A : Around} {C : Addr} {us : List Value} {kw : List (Str × Value)} : (A.under (.builtin "type.__call__" ⟨.ref C :: us, kw⟩)).units = A.units + 1 := by
 first | rfl | simp [Around.under, Code.cUnits, Code.frames, Code.isFrame]
theorem Room.make {k : Nat} {A : Around} (r : Room (k + 1) A) (C : Addr) (us : List Value) (kw : List (Str × Value)) : Room k (A.under (.builtin "type.__call__" ⟨.ref C :: us, kw⟩)) :=
 ⟨r.hd, by have := r.dp; rw [make_depth]; omega, by have := r.un; rw [make_units]; omega⟩
theorem Room.depth {k : Nat} {A : Around} (r : Room k A) : A.depth < recursionLimit := by have := r.dp; omega
def tNil : TA := fun _ H Q => Q [] H
def tCons (ta : TE) (tr : TA) : TA := fun σ H Q => ta σ H fun x H1 => tr σ H1 fun xs H2 => Q (x :: xs) H2
section
variable {X : Cx} {e : Expr} {es : List Expr} {te : TE} {t : TA} {pos : Pos}
theorem pa_nil : PA X [] tNil := fun _ _ _ _ H Q I h => Calls.spliced_nil ⟨[], H, I, .nil, h⟩
theorem pa_cons (ha : PE X e te) (hr : PA X es t) (hs : starEach (e :: es) X.env = (false, eval e X.env) :: starEach es X.env := by rfl) : PA X (e :: es) (tCons te t) := by
 intro pos pins s σ H Q I h
 rw [hs]
 show wpAny _ _ (spliced ((false, eval e X.env) :: backTo pos (starEach es X.env))) _ _ s
 refine Calls.spliced_cons (thn (ha pins s σ H _ I h) fun u s1 ⟨x, H1, I1, r1, q1⟩ => ?_)
 exact thn (hr pos pins s1 σ H1 _ I1 q1) fun us s2 ⟨xs, H2, I2, r2, q2⟩ => ⟨x :: xs, H2, I2, .cons r1 r2, q2⟩
def tTup (t : TA) : TE := fun σ H Q => t σ H fun xs H1 => xs.length ≤ sizeLine ∧ ∀ p, H1 p = none → Q (.ref p) (upd H1 p (.tup xs))
def tLst (t : TA) : TE := fun σ H Q => t σ H fun xs H1 => xs.length ≤ sizeLine ∧ ∀ p, H1 p = none → Q (.ref p) (upd H1 p (.lst xs))
theorem pe_tup {x1} (h : PA X es t) : PE X (.Tuple es x1 pos) (tTup t) := by
 refine mq ?_; simp (disch := k_dflt (
 refine mz ?_
 intro pins s σ H Q I hq
 refine wpAny_Tuple_spliced (thn (h pos pins s σ H _ I hq) fun us s1 ⟨xs, H1, I1, r, z, q⟩ => ⟨by rw [← r.length]; exact z, ?_⟩)
 have hf : H1 s1.heap.objs.size = none := I1.hok.fresh (Nat.le_refl _)
 refine ⟨.ref s1.heap.objs.size, upd H1 s1.heap.objs.size (.tup xs), I1.laid (t' := s1.toks) (fun b u e => Heap.get?_push_of_some _ e) (Nat.le_refl _) ?_, rfl, q _ hf⟩
 exact ⟨z, us, r, ⟨_, Heap.get?_push_size _ rfl, rfl, _, rfl⟩⟩)) only [↓mr]
theorem pe_lst (h : PA X es t) : PE X (.List es pos) (tLst t) := by
 refine mq ?_; simp (disch := k_dflt (
 refine mz ?_
 intro pins s σ H Q I hq
 refine wpAny_List_spliced (thn (h pos pins s σ H _ I hq) fun us s1 ⟨xs, H1, I1, r, z, q⟩ => ⟨by rw [← r.length]; exact z, ?_⟩)
 have hf : H1 s1.heap.objs.size = none := I1.hok.fresh (Nat.le_refl _)
 refine ⟨.ref s1.heap.objs.size, upd H1 s1.heap.objs.size (.lst xs), I1.laid (t' := s1.toks) (fun b u e => Heap.get?_push_of_some _ e) (Nat.le_refl _) ?_, rfl, q _ hf⟩
 exact ⟨z, us, 0, r, Heap.get?_push_size _ rfl⟩)) only [↓mr]
end
abbrev Sp := List V → Hp → VK → XK → Prop
abbrev CXT := List Env → Hp → Shared → XK → Value → Shared → Prop
structure Env0 (P : Program) (w : World) (K : PySem.W.Frag) (mg : Str → Option Value) (base : Heap) (A : Around) (outer : List Env) (s : Shared) (H : Hp) : Prop where
 frames : A.frames = some outer
 mod : Mod K mg base
 bs : ∀ b o, base.get? b = some o → s.heap.get? b = some o ∧ H b = none
 bsz : base.objs.size ≤ s.heap.objs.size
 funs : s.heap.FunFrames base outer
 frf : ∀ b ∈ frs outer, H b = none
 hok : HOk P w H s.heap
 bare : AllBare s.gens
def CE (outer : List Env) (P : Program) (w : World) (H : Hp) (s : Shared) (Q : VK) (u : Value) (s' : Shared) : Prop :=
 ∃ v H', s'.os = s.os ∧ AllBare s'.gens ∧ Un (frs outer) [] H H' s.heap s'.heap ∧ HOk P w H' s'.heap ∧ RelV v u ∧ Q v H'
def CR (CX : CXT) (outer : List Env) (P : Program) (w : World) (H : Hp) (s : Shared) (Q : VK) (E : XK) (r : Result) (s' : Shared) : Prop :=
 match r with
 | .ok (.ret u) => CE outer P w H s Q u s'
 | .ok _ => False
 | .error e => CX outer H s E e s'
structure FnOk (P : Program) (w : World) (K : PySem.W.Frag) (mg : Str → Option Value) (base : Heap) (CX : CXT) (k : Nat) (f : Addr) (fd : FuncData) (ps : List Str) (sp : Sp) : Prop where
 len : ∀ vs H Q E, sp vs H Q E → vs.length = ps.length
 run : ∀ (A : Around) (outer : List Env) (s : Shared) (H : Hp) (args : Args) (us : List Value) (vs : List V) (Q : VK) (E : XK), Room k A → Env0 P w K mg base A outer s H → BindsTo s fd args (ps.zip us) → Vals vs us → sp vs H Q E →
   codeAny (model P w) A (.call (.ref f) args) (CR CX outer P w H s Q E) s
theorem Env0.make {P : Program} {w : World} {K : PySem.W.Frag} {mg : Str → Option Value} {base : Heap} {A : Around} {outer : List Env} {s : Shared} {H : Hp} (e : Env0 P w K mg base A outer s H) (C : Addr) (us : List Value) (kw : List (Str × Value)) :
   Env0 P w K mg base (A.under (.builtin "type.__call__" ⟨.ref C :: us, kw⟩)) outer s H := ⟨by first | exact e.frames | (simpa [Around.under, Code.envs, Code.isFrame, pushEnvs] using e.frames), e.mod, e.bs, e.bsz, e.funs, e.frf, e.hok, e.bare⟩
theorem Env0.in1 {P : Program} {w : World} {K : PySem.W.Frag} {mg : Str → Option Value} {base : Heap} {A : Around} {outer : List Env} {s : Shared} {H : Hp} (e : Env0 P w K mg base A outer s H) :
   Env0 P w K mg base A.in1 outer s H := ⟨e.frames, e.mod, e.bs, e.bsz, e.funs, e.frf, e.hok, e.bare⟩
section
variable {X : Cx} {pins : List (Addr × Obj)} {σ : St} {H : Hp} {s s' : Shared}
theorem Inv.env0 (I : Inv X pins σ H s) : Env0 X.prog X.w X.K X.mg X.base X.A X.stack s H :=
 ⟨I.ok.frames, I.ok.mod, I.bs, Nat.le_trans I.ok.bsz I.sz, I.stack, I.stkFree, I.hok, I.bare⟩
theorem Inv.after {Q : VK} {u : Value} (I : Inv X pins σ H s) (h : CE X.stack X.prog X.w H s Q u s') : EP X pins σ Q u s' := by
 obtain ⟨v, H', os, bare, un, hok, r, q⟩ := h
 obtain ⟨hh, g, d, t, os'⟩ := s'
 obtain rfl : os' = s.os := os
 exact ⟨v, H', I.call (h' := hh) (g' := g) (d' := d) (t' := t) (ch := []) un hok bare (fun b z => absurd z (by simp)), r, q⟩
end
def tCall (sp : Sp) (dvs : List V) (E : XK) (t : TA) : TE := fun σ H Q => t σ H fun vs H1 => sp (vs ++ dvs) H1 Q E
def tMeth (C : Addr) (m : Str) (sp : Sp) (dvs : List V) (E : XK) (ta : TE) (t : TA) : TE := fun σ H Q => ta σ H fun x H1 => ∃ a dx fs, x = .ref a ∧ H1 a = some (.ins C dx fs) ∧ fs.lookup m = none ∧
 t σ H1 fun vs H2 => sp (x :: (vs ++ dvs)) H2 Q E
def tMake (C : Addr) (sp : Sp) (dvs : List V) (E : XK) (t : TA) : TE := fun σ H Q => t σ H fun vs H1 => ∀ x dx, H1 x = none → H1 dx = none → dx ≠ x →
 sp (.ref x :: (vs ++ dvs)) (upd (upd H1 dx (.own x)) x (.ins C dx [])) (fun v H2 => v = .non ∧ Q (.ref x) H2) E
def Binds (K : PySem.W.Frag) (fd : FuncData) (ps : List Str) (ds : List Value) : Prop :=
 ∀ (s : Shared) (us : List Value), K.In s.heap → (us ++ ds).length = ps.length → BindsTo s fd ⟨us, []⟩ (ps.zip (us ++ ds))
theorem Binds.all {K : PySem.W.Frag} {fd : FuncData} {ps : List Str} (h : ∀ us : List Value, us.length = ps.length → bindArgs fd ⟨us, []⟩ = pure (ps.zip us)) : Binds K fd ps [] := fun s us _ hl => by
 rw [List.append_nil] at hl ⊢
 exact .of_eq (h us hl)
def Passes (CX : CXT) (X : Cx) (E : XK) : Prop := ∀ (pins : List (Addr × Obj)) (σ : St) (H : Hp) (s : Shared) (e : Value) (s' : Shared), Inv X pins σ H s → CX X.stack H s E e s' → X.xe e s'
section
variable {X : Cx} {CX : CXT} {k : Nat} {f C : Addr} {fd : FuncData} {ps : List Str} {sp : Sp} {dvs : List V} {ds : List Value} {E : XK} {x m : Str} {p pos apos : Pos} {e o : Expr} {es : List Expr} {ta : TE} {t : TA}
theorem run_fn {pins : List (Addr × Obj)} {σ : St} {H : Hp} {s : Shared} {Q : VK} {us : List Value} {vs : List V} (F : FnOk X.prog X.w X.K X.mg X.base CX k f fd ps sp) (hr : Room k X.A) (hb : Binds X.K fd ps ds) (hd : Vals dvs ds) (hx : Passes CX X E)
   (I : Inv X pins σ H s) (r : Vals vs us) (h : sp (vs ++ dvs) H Q E) : wpAny (model X.prog X.w) X.A (call (.ref f) us) (EP X pins σ Q) X.xe s := by
 refine mq ?_; simp (disch := k_dflt (
 refine mz ?_
 have r2 : Vals (vs ++ dvs) (us ++ ds) := r.append hd
 have hl : (us ++ ds).length = ps.length := by rw [← r2.length]; exact F.len _ _ _ _ h
 refine wpAny_call (codeAny_mono (F.run X.A X.stack s H ⟨us, []⟩ (us ++ ds) (vs ++ dvs) Q E hr I.env0 (hb s us I.kIn hl) r2 h) fun r s' hq => ?_)
 cases r with
 | error e => exact hx pins σ H s e s' I hq
 | ok fl =>
   cases fl with
   | ret u => exact I.after hq
   | next => exact False.elim hq
   | brk => exact False.elim hq
   | cont => exact False.elim hq)) only [↓mr]
theorem pe_call (F : FnOk X.prog X.w X.K X.mg X.base CX k f fd ps sp) (hr : Room k X.A) (hg : Gl X x) (hm : X.mg x = some (.ref f)) (hk : PySem.W.keepIn X.K (.ref f) = true) (hb : Binds X.K fd ps ds) (hd : Vals dvs ds) (hx : Passes CX X E)
   (ha : PA X (e :: es) t) (hdb : (x == ("__debug__" : Str)) = false := by decide) (he : starEach (e :: es) X.env = (false, eval e X.env) :: starEach es X.env := by rfl) (hpl : (backTo pos (starEach es X.env)).any (·.1) = false := by rfl) :
   PE X (.Call (.Name x p) (e :: es) [] pos) (tCall sp dvs E t) := by
 intro pins s σ H Q I h
 refine wpAny_Call_Name_kw (ld_glob I hg hm ?_ hdb)
 refine PySem.W.callWith_K (h₀ := X.base) I.ok.mod.kin hk (thn (ha pos pins s σ H _ I h) fun us s1 ⟨vs, H1, I1, r, q⟩ => ⟨I1.kIn, ?_⟩) he hpl
 exact run_fn F hr hb hd hx I1 r q
theorem pe_meth {pl : Sem Bool} (he : PE X o ta) (c : Cls X.K C) (hm : Meth X.K C m f) (F : FnOk X.prog X.w X.K X.mg X.base CX k f fd ps sp) (hr : Room k X.A) (hb : Binds X.K fd ps ds) (hd : Vals dvs ds) (hx : Passes CX X E) (ha : PA X (e :: es) t)
   (hst : starEach (e :: es) X.env = (false, eval e X.env) :: starEach es X.env := by rfl) (hpl : (backTo pos (starEach es X.env)).any (·.1) = false := by rfl)
   (ht : eval (.Call (.Attribute o m apos) (e :: es) [] pos) X.env = (do
     let ov ← eval o X.env
     standAt apos.atName
     let (f, first) ← holding [ov] (getMethod ov m pl)
     callWith pos f first (backTo pos (starEach (e :: es) X.env)) (backToKw pos (keywordEach [] X.env))) := by rfl) :
   PE X (.Call (.Attribute o m apos) (e :: es) [] pos) (tMeth C m sp dvs E ta t) := by
 refine mq ?_; simp (disch := k_dflt (
 refine mz ?_
 intro pins s σ H Q I h
 refine PySem.W.methodCall_KW (pl := pl) (thn (he pins s σ H _ I h) fun u s1 ⟨x, H1, I1, rx, a, dx, fs, ex, ea, l, q⟩ => ?_) ht
 subst ex
 obtain rfl : u = Value.ref a := rx
 refine getmeth_ok I1 ea c hm l ?_
 refine PySem.W.callWith_K (first := [.ref a]) (h₀ := X.base) I.ok.mod.kin hm.kp (thn (ha pos pins s1 σ H1 _ I1 q) fun us s2 ⟨vs, H2, I2, r, q2⟩ => ⟨I2.kIn, ?_⟩) hst hpl
 exact run_fn (us := .ref a :: us) (vs := .ref a :: vs) F hr hb hd hx I2 (.cons rfl r) q2)) only [↓mr]
theorem pe_meth0 {pl : Sem Bool} (he : PE X o ta) (c : Cls X.K C) (hm : Meth X.K C m f) (F : FnOk X.prog X.w X.K X.mg X.base CX k f fd ps sp) (hr : Room k X.A) (hb : Binds X.K fd ps ds) (hd : Vals dvs ds) (hx : Passes CX X E)
   (ht : eval (.Call (.Attribute o m apos) [] [] pos) X.env = (do
     let ov ← eval o X.env
     standAt apos.atName
     let (f, first) ← holding [ov] (getMethod ov m pl)
     callWith pos f first (backTo pos (starEach [] X.env)) (backToKw pos (keywordEach [] X.env))) := by rfl) :
   PE X (.Call (.Attribute o m apos) [] [] pos) (tMeth C m sp dvs E ta tNil) := by
 intro pins s σ H Q I h
 refine PySem.W.methodCall_KW (pl := pl) (thn (he pins s σ H _ I h) fun u s1 ⟨x, H1, I1, rx, a, dx, fs, ex, ea, l, q⟩ => ?_) ht
 subst ex
 obtain rfl : u = Value.ref a := rx
 refine getmeth_ok I1 ea c hm l ?_
 exact PySem.W.callWith_K0 (first := [.ref a]) I1.kIn hm.kp (run_fn (us := [.ref a]) (vs := [.ref a]) F hr hb hd hx I1 (.cons rfl .nil) q)
structure Mk (K : PySem.W.Frag) (C f : Addr) : Prop where
 makes : PySem.W.makesIn K C = true
 init : PySem.W.findIn K (.ref C) "__init__" = some (some (.ref f))
 fn : PySem.W.isFn K (.ref f) = true
 kp : PySem.W.keepIn K (.ref C) = true
theorem run_make {pins : List (Addr × Obj)} {σ : St} {H : Hp} {s : Shared} {Q : VK} {us : List Value} {vs : List V} (M : Mk X.K C f) (F : FnOk X.prog X.w X.K X.mg X.base CX k f fd ps sp) (hr : Room (k + 1) X.A) (hb : Binds X.K fd ps ds) (hd : Vals dvs ds)
   (hx : Passes CX X E) (I : Inv X pins σ H s) (r : Vals vs us)
   (h : ∀ x dx, H x = none → H dx = none → dx ≠ x → sp (.ref x :: (vs ++ dvs)) (upd (upd H dx (.own x)) x (.ins C dx [])) (fun v H2 => v = .non ∧ Q (.ref x) H2) E) :
   wpAny (model X.prog X.w) X.A (call (.ref C) us) (EP X pins σ Q) X.xe s := by
 refine mq ?_; simp (disch := k_dflt (
 refine mz ?_
 have hq := h (s.heap.objs.size + 1) s.heap.objs.size (I.hok.fresh (Nat.le_succ _)) (I.hok.fresh (Nat.le_refl _)) (Nat.ne_of_lt (Nat.lt_succ_self _))
 have I2 := Inv.made (C := C) I
 have r2 : Vals (V.ref (s.heap.objs.size + 1) :: (vs ++ dvs)) (Value.ref (s.heap.objs.size + 1) :: (us ++ ds)) := .cons rfl (r.append hd)
 have hl : (Value.ref (s.heap.objs.size + 1) :: us ++ ds).length = ps.length := by
   have e := r2.length
   rw [F.len _ _ _ _ hq] at e
   exact e.symm
 refine wpAny_call (make_map (f := f) I.kIn M.makes M.init (beq_iff_eq.mp M.fn) (codeAny_mono (F.run _ X.stack _ _ ⟨Value.ref (s.heap.objs.size + 1) :: us, []⟩ (Value.ref (s.heap.objs.size + 1) :: (us ++ ds)) _ _ E (hr.make C us [])
   (I2.env0.make C us []) (hb _ (Value.ref (s.heap.objs.size + 1) :: us) I2.kIn hl) r2 hq) fun r s' hq' => ?_))
 cases r with
 | error e => exact hx pins σ _ _ e s' I2 hq'
 | ok fl =>
   cases fl with
   | ret u =>
     obtain ⟨v, H', I3, rv, ev, q3⟩ := I2.after hq'
     subst ev
     exact ⟨rv, ⟨V.ref (s.heap.objs.size + 1), H', I3, rfl, q3⟩⟩
   | next => exact False.elim hq'
   | brk => exact False.elim hq'
   | cont => exact False.elim hq')) only [↓mr]
theorem pe_make (M : Mk X.K C f) (F : FnOk X.prog X.w X.K X.mg X.base CX k f fd ps sp) (hr : Room (k + 1) X.A) (hg : Gl X x) (hm : X.mg x = some (.ref C)) (hb : Binds X.K fd ps ds) (hd : Vals dvs ds) (hx : Passes CX X E)
   (ha : PA X (e :: es) t) (hdb : (x == ("__debug__" : Str)) = false := by decide) (he : starEach (e :: es) X.env = (false, eval e X.env) :: starEach es X.env := by rfl) (hpl : (backTo pos (starEach es X.env)).any (·.1) = false := by rfl) :
   PE X (.Call (.Name x p) (e :: es) [] pos) (tMake C sp dvs E t) := by
 intro pins s σ H Q I h
 refine wpAny_Call_Name_kw (ld_glob I hg hm ?_ hdb)
 refine PySem.W.callWith_K (h₀ := X.base) I.ok.mod.kin M.kp (thn (ha pos pins s σ H _ I h) fun us s1 ⟨vs, H1, I1, r, q⟩ => ⟨I1.kIn, ?_⟩) he hpl
 exact run_make M F hr hb hd hx I1 r q
theorem pe_make0 (M : Mk X.K C f) (F : FnOk X.prog X.w X.K X.mg X.base CX k f fd ps sp) (hr : Room (k + 1) X.A) (hg : Gl X x) (hm : X.mg x = some (.ref C)) (hb : Binds X.K fd ps ds) (hd : Vals dvs ds) (hx : Passes CX X E)
   (hdb : (x == ("__debug__" : Str)) = false := by decide) : PE X (.Call (.Name x p) [] [] pos) (tMake C sp dvs E tNil) := by
 intro pins s σ H Q I h
 refine wpAny_Call_Name_kw (ld_glob I hg hm ?_ hdb)
 exact PySem.W.callWith_K0 I.kIn M.kp (run_make (us := []) M F hr hb hd hx I .nil h)
end
def PK (X : Cx) (kws : List Keyword) (t : TA) : Prop :=
 ∀ (pos : Pos) (pins : List (Addr × Obj)) (s : Shared) (σ : St) (H : Hp) (Q : List V → Hp → Prop), Inv X pins σ H s → t σ H Q → wpAny (model X.prog X.w) X.A (evalAll ((backToKw pos (keywordEach kws X.env)).map (·.2))) (AP X pins σ Q) X.xe s
section
variable {X : Cx} {CX : CXT} {k : Nat} {f C : Addr} {fd : FuncData} {ps ks : List Str} {sp : Sp} {E : XK} {x m : Str} {p pos apos kpos : Pos} {e o : Expr} {es : List Expr} {kws : List Keyword} {te ta : TE} {t tk : TA} {nm : Option Str}
theorem pk_nil : PK X [] tNil := fun _ _ _ _ H Q I h => wpAny_evalAll_nil ⟨[], H, I, .nil, h⟩
theorem pk_cons (ha : PE X e te) (hr : PK X kws t) : PK X (⟨nm, e, kpos⟩ :: kws) (tCons te t) := by
 refine mq ?_; simp (disch := k_dflt (
 refine mz ?_
 intro pos pins s σ H Q I h
 show wpAny _ _ (evalAll ((do let v ← eval e X.env; standAt pos; pure v) :: (backToKw pos (keywordEach kws X.env)).map (·.2))) _ _ s
 refine wpAny_evalAll_cons (wpAny_bind (thn (ha pins s σ H _ I h) fun u s1 ⟨x, H1, I1, r1, q1⟩ => wpAny_bind (wpAny_standAt (wpAny_pure ?_))))
 exact thn (hr pos pins s1 σ H1 _ I1 q1) fun us s2 ⟨xs, H2, I2, r2, q2⟩ => ⟨x :: xs, H2, I2, .cons r1 r2, q2⟩)) only [↓mr]
variable {g : List Value → List Value → List Value} {gV : List V → List V → List V}
end
structure FnScope (N P : List Str) (sc : Scope) : Prop where
 kind : sc.kind = .function
 co : sc.isCoroutine = false
 gen : sc.isGenerator = false
 nd : N.Nodup
 pre : N.take P.length = P
 par : ∀ x ∈ P, sc.names.lookup x = some .local ∨ sc.names.lookup x = some .cell
 nofree : ∀ y ∈ sc.names, y.2 ≠ .free
theorem bindL_out {kindOf : Str → Option NameKind} {x : Str} : ∀ {binds : List (Str × Value)} {m : Str → Option Value}, (∀ v, (x, v) ∉ binds) → bindL kindOf binds m x = m x
 | [], _, _ => rfl
 | (n, v) :: r, m, h => by
   unfold bindL
   rw [bindL_out fun w hw => h w (List.mem_cons_of_mem _ hw)]
   split
   · have : x ≠ n := by rintro rfl; exact h v List.mem_cons_self
     simp [this]
   · rfl
theorem bindC_out {kindOf : Str → Option NameKind} {x : Str} : ∀ {binds : List (Str × Value)} {m : Str → Option Value}, (∀ v, (x, v) ∉ binds) → bindC kindOf binds m x = m x
 | [], _, _ => rfl
 | (n, v) :: r, m, h => by
   unfold bindC
   rw [bindC_out fun w hw => h w (List.mem_cons_of_mem _ hw)]
   split
   · rfl
   · have : x ≠ n := by rintro rfl; exact h v List.mem_cons_self
     simp [this]
theorem bindL_get {kindOf : Str → Option NameKind} {x : Str} {v : Value} : ∀ {P : List Str} {vs : List Value} {i : Nat} {m : Str → Option Value}, P.Nodup → P[i]? = some x → vs[i]? = some v → kindOf x = some .local →
   bindL kindOf (P.zip vs) m x = some v
 | [], _, _, _, _, h, _, _ => by simp at h
 | _ :: _, [], _, _, _, _, h, _ => by simp at h
 | p :: P, w :: vs, 0, m, nd, h1, h2, hk => by
   simp at h1 h2; subst h1; subst h2
   show bindL kindOf ((p, w) :: P.zip vs) m p = _
   unfold bindL
   rw [bindL_out fun v hv => (List.nodup_cons.mp nd).1 (List.of_mem_zip hv).1, if_pos hk]
   simp
 | p :: P, w :: vs, i + 1, m, nd, h1, h2, hk => by
   show bindL kindOf ((p, w) :: P.zip vs) m x = _
   unfold bindL
   exact bindL_get (i := i) (List.nodup_cons.mp nd).2 (by simpa using h1) (by simpa using h2) hk
theorem bindC_get {kindOf : Str → Option NameKind} {x : Str} {v : Value} : ∀ {P : List Str} {vs : List Value} {i : Nat} {m : Str → Option Value}, P.Nodup → P[i]? = some x → vs[i]? = some v → kindOf x ≠ some .local →
   bindC kindOf (P.zip vs) m x = some v
 | [], _, _, _, _, h, _, _ => by simp at h
 | _ :: _, [], _, _, _, _, h, _ => by simp at h
 | p :: P, w :: vs, 0, m, nd, h1, h2, hk => by
   simp at h1 h2; subst h1; subst h2
   show bindC kindOf ((p, w) :: P.zip vs) m p = _
   unfold bindC
   rw [bindC_out fun v hv => (List.nodup_cons.mp nd).1 (List.of_mem_zip hv).1, if_neg hk]
   simp
 | p :: P, w :: vs, i + 1, m, nd, h1, h2, hk => by
   show bindC kindOf ((p, w) :: P.zip vs) m x = _
   unfold bindC
   exact bindC_get (i := i) (List.nodup_cons.mp nd).2 (by simpa using h1) (by simpa using h2) hk
def start (N : List Str) (vs : List V) : St := vs.map some ++ List.replicate (N.length - vs.length) none
def cxOf (CX : CXT) (P : Program) (w : World) (K : PySem.W.Frag) (mg : Str → Option Value) (base : Heap) (N : List Str) (qual : Str) (scope : Scope) (f : Addr) (cd : Value) (A : Around) (outer : List Env) (s : Shared) (H : Hp) (E : XK) : Cx where
 prog := P
 w := w
 K := K
 mg := mg
 base := base
 A := A.deeper (envOfC qual scope s.heap.objs.size f cd)
 N := N
 s_0 := s
 H_0 := H
 env := envOfC qual scope s.heap.objs.size f cd
 outer := outer
 stack := envOfC qual scope s.heap.objs.size f cd :: outer
 ex := []
 calm := true
 fn := fun _ => true
 pn := []
 xe := fun e s' => wpAny (model P w) (A.deeper (envOfC qual scope s.heap.objs.size f cd)) (leaving (envOfC qual scope s.heap.objs.size f cd) e) (fun _ s'' => CX outer H s E e s'') (fun e' s'' => CX outer H s E e' s'') s'
theorem cell_has {sc : Scope} {n : Nat} {x : Str} (h : sc.names.lookup x = some .cell) : ∃ c, (cellsFrom n sc.names []).lookup x = some c := by
 have q := PySem.W.cellsFrom_some sc.names n [] (.inl h)
 exact Option.isSome_iff_exists.mp q
theorem inv_start {CX : CXT} {P : Program} {w : World} {K : PySem.W.Frag} {mg : Str → Option Value} {base : Heap} {N ps : List Str} {qual : Str} {scope : Scope} {f : Addr} {cd : Value} {A : Around} {outer : List Env} {s s1 : Shared} {H : Hp} {E : XK} {us : List Value} {vs : List V}
   (S : FnScope N ps scope) (hd : A.handled = none) (e0 : Env0 P w K mg base A outer s H) (hl : vs.length = ps.length) (r : Vals vs us)
   (x : InCallC s s.heap.objs.size (bindL (envOfC qual scope s.heap.objs.size f cd).kindOf (ps.zip us) fun _ => none) (cellsFrom (s.heap.objs.size + 1) scope.names []) (bindC (envOfC qual scope s.heap.objs.size f cd).kindOf (ps.zip us) fun _ => none) s1) :
   Inv (cxOf CX P w K mg base N qual scope f cd A outer s H E) [] (start N vs) H s1 := by
 refine mq ?_; simp (disch := k_dflt (
 refine mz ?_
 have hpl : ps.length ≤ N.length := by have := congrArg List.length S.pre; rw [List.length_take] at this; omega
 obtain ⟨h1, tk, rfl, hk⟩ := x.done
 have noA : ∀ b : Addr, b ∉ (cxOf CX P w K mg base N qual scope f cd A outer s H E).ex := fun b z => absurd (show b ∈ ([] : List Addr) from z) (by simp)
 refine ⟨⟨e0.mod, S.kind, rfl, rfl, Nat.le_refl _, fun y z c h1 h2 => ?_, fun y hy => ?_, fun y c _ h => ?_, fun _ => hd, Around.frames_deeper e0.frames, .inr ⟨rfl, rfl⟩, fun b z => absurd z (noA b), e0.bs, e0.bsz, fun b _ _ => noA b, fun b z => absurd z (noA b), e0.funs, e0.frf⟩,
   rfl, e0.bare, Un.kept hk, ⟨_, x.toInCall.ns, fun i y v h1 h2 h3 => ?_⟩, fun y c h => ⟨_, x.cell y c h⟩, e0.hok.fresh (Nat.le_refl _), fun y c h => ?_, fun p hp => absurd (show p ∈ ([] : List (Addr × Obj)) from hp) (by simp), e0.hok.kept hk, ?_⟩
 · exact name_of_addr x.apart (PySem.mem_of_lookup h1) (PySem.mem_of_lookup h2)
 · have hy : scope.names.lookup y = some .cell ∨ scope.names.lookup y = some .free := hy
   rcases hy with hy | hy
   · exact cell_has hy
   · exact absurd rfl (S.nofree _ (PySem.mem_of_lookup hy))
 · exact Nat.le_of_lt (x.above y c (PySem.mem_of_lookup h))
 · have hi : i < vs.length := by
     unfold start at h2
     by_cases hi : i < vs.length
     · exact hi
     · rw [List.getElem?_append_right (by simpa using hi)] at h2
       rw [List.getElem?_replicate] at h2
       split at h2 <;> cases h2
   have ha : vs[i]? = some v := by
     unfold start at h2
     rw [List.getElem?_append_left (by simpa using hi), List.getElem?_map] at h2
     cases e : vs[i]? with
     | none => rw [e] at h2; cases h2
     | some a => rw [e] at h2; cases h2; rfl
   obtain ⟨u, hu, rv⟩ := r.get ha
   have hp : ps[i]? = some y := by
     rw [← S.pre, List.getElem?_take_of_lt (by omega)]; exact h1
   have ndP : ps.Nodup := by rw [← S.pre]; exact S.nd.sublist (List.take_sublist _ _)
   refine ⟨u, rv, ?_⟩
   rcases S.par y (List.mem_of_getElem? hp) with k | k
   · exact .inl ⟨k, bindL_get ndP hp hu k⟩
   · obtain ⟨c, e⟩ := cell_has (n := s.heap.objs.size + 1) k
     refine .inr ⟨.inl k, c, e, ?_⟩
     have q := x.cell y c e
     rw [bindC_get ndP hp hu (by show scope.names.lookup y ≠ _; rw [k]; decide)] at q
     exact q
 · exact e0.hok.fresh (Nat.le_of_lt (x.above y c (PySem.mem_of_lookup h)))
 · unfold start
   show _ = N.length
   rw [List.length_append, List.length_map, List.length_replicate]
   omega)) only [↓mr]
theorem fn_of {CX : CXT} {P : Program} {w : World} {K : PySem.W.Frag} {mg : Str → Option Value} {base : Heap} {k : Nat} {f : Addr} {name qual : Str} {params : Arguments} {body : List Stmt} {scope : Scope} {dV kV doc pm cdv ct oc : Value} {an od : Option Addr}
   {osl : Array (Option Value)} {N ps : List Str} {sp : Sp} (lk : K.lookup f = some ⟨oc, od, .func (PySem.W.fnOf name qual params body scope dV kV doc pm an cdv ct), osl⟩) (hcd : PySem.W.codeIn K cdv qual = true) (S : FnScope N ps scope)
   (len : ∀ vs H Q E, sp vs H Q E → vs.length = ps.length)
   (hbody : ∀ (A : Around) (outer : List Env) (s : Shared) (H : Hp) (vs : List V) (Q : VK) (E : XK), Room k (A.deeper (envOfC qual scope s.heap.objs.size f cdv)) → sp vs H Q E →
     ∃ t, PSs (cxOf CX P w K mg base N qual scope f cdv A outer s H E) body t ∧ t { nx := fun _ H' => Q .non H', rt := Q } (start N vs) H) :
   FnOk P w K mg base CX (k + 1) f (PySem.W.fnOf name qual params body scope dV kV doc pm an cdv ct) ps sp := by
 refine mq ?_; simp (disch := k_dflt (
 refine mz ?_
 refine ⟨len, fun A outer s H args us vs Q E hr e0 hb r hsp => ?_⟩
 have hl := len _ _ _ _ hsp
 have KX : K.In s.heap := e0.mod.kin.keeps fun b o e => (e0.bs b o e).1
 have lim : s.heap.NoLimit := e0.mod.nolimit.keeps fun b o e => (e0.bs b o e).1
 have hkind : ∀ y ∈ ps.zip us, scope.names.lookup y.1 = some .local ∨ (scope.names.lookup y.1 = some .cell ∧ ((cellsFrom (s.heap.objs.size + 1) scope.names []).lookup y.1).isSome = true) := fun ⟨n, v⟩ hy => by
   rcases S.par n (List.of_mem_zip hy).1 with q | q
   · exact .inl q
   · exact .inr ⟨q, PySem.W.cellsFrom_some _ _ _ (.inl q)⟩
 refine codeAny_call_function hr.depth (KX _ _ lk) rfl S.co S.gen rfl (PySem.W.codeRec_of KX hcd) (hb _ _ _ _ ?_)
 refine wpAny_newFunctionEnv_cells S.kind hkind fun env he s1 x => ?_
 subst he
 refine ⟨lim.keeps x.toInCall.keep, codeAny_func ?_⟩
 obtain ⟨t, ht, hq⟩ := hbody A outer s H vs Q E (hr.deeper _) hsp
 have I : Inv (cxOf CX P w K mg base N qual scope f cdv A outer s H E) [] (start N vs) H s1 := inv_start S hr.hd e0 hl r x
 refine wpAny_mono (ht [] s1 (start N vs) H _ I hq) (fun fl s' hs => ?_) fun e s' hs => hs
 have fin : ∀ {σ' : St} {H' : Hp} {v : V} {u : Value}, Inv (cxOf CX P w K mg base N qual scope f cdv A outer s H E) [] σ' H' s' → RelV v u → Q v H' → CE outer P w H s Q u s' :=
   fun {σ' H' v u} J rv q => ⟨v, H', J.os, J.bare, J.base, J.hok, rv, q⟩
 cases fl with
 | ret u =>
   obtain ⟨v, σ', H', J, rv, q⟩ := hs
   exact fin J rv q
 | next =>
   obtain ⟨σ', H', J, q⟩ := hs
   exact fin (v := V.non) (u := Value.none) J rfl q
 | brk =>
   obtain ⟨_, _, _, q⟩ := hs
   exact False.elim q
 | cont =>
   obtain ⟨_, _, _, q⟩ := hs
   exact False.elim q)) only [↓mr]
end L2
namespace L2
open PySem PySem.Spec PyProof.Rows
section
variable {X : Cx} {x : Str} {p pos : Pos} {e : Expr} {es : List Expr} {t : TA} {id T : String} {r : List V → Hp → VK → Prop}
def tCB (r : List V → Hp → VK → Prop) (t : TA) : TE := fun σ H Q => t σ H fun vs H1 => r vs H1 Q
theorem pe_callB (hc : CallR X (.builtin id) r) (hg : Gl X x) (hm : X.mg x = none) (hv : bootBuiltins x = some (.builtin id)) (ha : PA X (e :: es) t) (hn : x ≠ "__name__" := by decide) (hdb : (x == ("__debug__" : Str)) = false := by decide)
   (he : starEach (e :: es) X.env = (false, eval e X.env) :: starEach es X.env := by rfl) (hpl : (backTo pos (starEach es X.env)).any (·.1) = false := by rfl) : PE X (.Call (.Name x p) (e :: es) [] pos) (tCB r t) := by
 intro pins s σ H Q I h
 refine wpAny_Call_Name_kw (ld_blt I hg hm hv ?_ hn hdb)
 exact PyProof.Rows.callWith_builtin1 (thn (ha pos pins s σ H _ I h) fun us s1 ⟨vs, H1, I1, r1, q1⟩ => hc pins s1 σ H1 vs us Q I1 r1 q1) he hpl
theorem pe_callTy (hc : CallR X (.type T) r) (hg : Gl X x) (hm : X.mg x = none) (hv : bootBuiltins x = some (.type T)) (ha : PA X (e :: es) t) (hn : x ≠ "__name__" := by decide) (hdb : (x == ("__debug__" : Str)) = false := by decide)
   (he : starEach (e :: es) X.env = (false, eval e X.env) :: starEach es X.env := by rfl) (hpl : (backTo pos (starEach es X.env)).any (·.1) = false := by rfl) : PE X (.Call (.Name x p) (e :: es) [] pos) (tCB r t) := by
 intro pins s σ H Q I h
 refine wpAny_Call_Name_kw (ld_blt I hg hm hv ?_ hn hdb)
 exact PyProof.Rows.callWith_type1 (thn (ha pos pins s σ H _ I h) fun us s1 ⟨vs, H1, I1, r1, q1⟩ => hc pins s1 σ H1 vs us Q I1 r1 q1) he hpl
end
end L2
namespace HT
open PySem PyProof.Rows
def lexLt : List Int → List Int → Bool
 | [], [] => false
 | [], _ :: _ => true
 | _ :: _, [] => false
 | x :: xs, y :: ys => if x = y then lexLt xs ys else decide (x < y)
theorem lexLt_cons (x y : Int) (xs ys : List Int) : lexLt (x :: xs) (y :: ys) = if x = y then lexLt xs ys else decide (x < y) := rfl
theorem lexLt_nil_nil : lexLt [] [] = false := rfl
theorem lexLt_nil_cons (y : Int) (ys : List Int) : lexLt [] (y :: ys) = true := rfl
theorem lexLt_cons_nil (x : Int) (xs : List Int) : lexLt (x :: xs) [] = false := rfl
theorem eqAt_int (A : Around) (s : Shared) (a : Int) (t : Tok) (c : Int) (u : Tok) : ∃ e, SeqAt.EqAt A s (.int a t) (.int c u) e ∧ (e = true ↔ a = c) :=
 ⟨(a == c), SeqAt.EqAt.int_int a t c u, by simp⟩
theorem rcLt_int (A : Around) (s : Shared) (a : Int) (t : Tok) (c : Int) (u : Tok) (prog : Program) (w : World) (E : Value → Shared → Prop) (Q : Value → Shared → Prop) (h : Q (.bool (decide (a < c))) s) :
   wpAny (model prog w) A (richCompare .Lt (.int a t) (.int c u)) Q E s :=
 (PyProof.Rows.lt_int h : wpAny (model prog w) A (compareOp .Lt (.int a t) (.int c u)) Q E s)
section
open PySem.SeqAt
open PySem.AutoSeq1 (wpAny_loadPart')
open PySem.MeetsSeq PySem.MeetsSeq2 PySem.MeetsSeq3
end
section
variable {prog : Program} {w : World} {A : Around} {E : Value → Shared → Prop} {s : Shared}
def sIx (n d : Nat) : Option Int → Nat
 | none => d
 | some v => if v < 0 then (v + (n : Int)).toNat else min v.toNat n
theorem sIx_nat (n d k : Nat) : sIx n d (some (k : Int)) = min k n := by
 show (if (k : Int) < 0 then ((k : Int) + (n : Int)).toNat else min (k : Int).toNat n) = min k n
 rw [if_neg (by omega), Int.toNat_natCast]
end
end HT
namespace L2
open PySem PySem.Spec PyProof.Rows
abbrev TO := St → Hp → (Option Int → Hp → Prop) → Prop
def PO (X : Cx) (e : Option Expr) (t : TO) : Prop :=
 ∀ (pins : List (Addr × Obj)) (s : Shared) (σ : St) (H : Hp) (Q : Option Int → Hp → Prop), Inv X pins σ H s → t σ H Q →
   wpAny (model X.prog X.w) X.A (evalPart e X.env) (fun u s' => ∃ o H', Inv X pins σ H' s' ∧ IsPart u o ∧ Q o H') X.xe s
def tNoPart : TO := fun _ H Q => Q none H
def tPart (t : TE) : TO := fun σ H Q => t σ H fun x H1 => ∃ i, x = .int i ∧ Q (some i) H1
section
variable {X : Cx} {e : Expr} {te : TE} {lo hi : Option Expr} {tl th : TO} {pos p2 : Pos}
theorem po_none : PO X none tNoPart := by
 intro pins s σ H Q I h
 rw [evalPart_none]
 exact wpAny_pure ⟨none, H, I, .none, h⟩
theorem po_some (h : PE X e te) : PO X (some e) (tPart te) := by
 intro pins s σ H Q I hw
 rw [evalPart_some]
 refine thn (h pins s σ H _ I hw) fun u s1 ⟨x, H1, I1, r1, q1⟩ => ?_
 obtain ⟨i, rfl, q⟩ := q1
 obtain ⟨t, rfl⟩ := r1
 exact ⟨some i, H1, I1, .int i t, q⟩
def SlR (X : Cx) (r : V → Option Int → Option Int → Hp → VK → Prop) : Prop :=
 ∀ (pins : List (Addr × Obj)) (s : Shared) (σ : St) (H : Hp) (x : V) (v vl vu : Value) (lo hi : Option Int) (sl : Addr) (Q : VK), Inv X pins σ H s → RelV x v → s.heap.IsSliceOf sl vl vu .none → IsPart vl lo → IsPart vu hi → r x lo hi H Q →
   ∃ T id, typeLookup (.type T) "__getitem__" = pure (some (.builtin id)) ∧ s.TypeIs v T ∧ wpAny (model X.prog X.w) X.A (getItem v (.ref sl)) (EP X pins σ Q) X.xe s
def tSl (r : V → Option Int → Option Int → Hp → VK → Prop) (te : TE) (tl th : TO) : TE := fun σ H Q => te σ H fun x H1 => tl σ H1 fun l H2 => th σ H2 fun u H3 => r x l u H3 Q
theorem pe_slice {r : V → Option Int → Option Int → Hp → VK → Prop} (hr : SlR X r) (he : PE X e te) (hl : PO X lo tl) (hu : PO X hi th) : PE X (.Subscript e (.Slice lo hi none p2) pos) (tSl r te tl th) := by
 refine mq ?_; simp (disch := k_dflt (
 refine mz ?_
 intro pins s σ H Q I h
 refine Subscript_ (thn (he pins s σ H _ I h) fun v s1 ⟨x, H1, I1, r1, q1⟩ => ?_)
 refine wpAny_Slice (thn (hl pins s1 σ H1 _ I1 q1) fun vl s2 ⟨l, H2, I2, pl, q2⟩ => thn (hu pins s2 σ H2 _ I2 q2) fun vu s3 ⟨u, H3, I3, pu, q3⟩ => ?_)
 rw [evalPart_none]
 refine wpAny_pure ?_
 have I4 : Inv X pins σ H3 { s3 with heap := s3.heap.push { cls := .type "slice", data := .fields #[vl, vu, .none] } } := I3.kept (t' := s3.toks) fun b ob q => Heap.get?_push_of_some _ q
 obtain ⟨T, id, hT, ht, hg⟩ := hr pins { s3 with heap := s3.heap.push { cls := .type "slice", data := .fields #[vl, vu, .none] } } σ H3 x v vl vu l u s3.heap.objs.size Q I4 r1 (Heap.IsSliceOf.new ..) pl pu q3
 show wpAny (model X.prog X.w) X.A (subscriptTail e (.Slice lo hi none p2) v (.ref s3.heap.objs.size)) (EP X pins σ Q) X.xe { s3 with heap := s3.heap.push { cls := .type "slice", data := .fields #[vl, vu, .none] } }
 exact tail_any (ops := [.ref s3.heap.objs.size, v]) ht hT hg (by with_unfolding_all rfl))) only [↓mr]
def cutV (xs : List V) (lo hi : Option Int) : List V := (xs.drop (HT.sIx xs.length 0 lo)).take (HT.sIx xs.length xs.length hi - HT.sIx xs.length 0 lo)
theorem cutV_length (xs : List V) (lo hi : Option Int) : (cutV xs lo hi).length ≤ xs.length := by
 unfold cutV
 rw [List.length_take, List.length_drop]
 omega
end
end L2
namespace L2
open PySem PySem.Spec PyProof.Rows
def ixN (n : Nat) (i : Int) : Option Nat := if 0 ≤ i then (if i < n then some i.toNat else none) else if -(n : Int) ≤ i then some (i + n).toNat else none
def atI {α : Type} (xs : List α) (i : Int) : Option α := (ixN xs.length i).bind fun j => xs[j]?
theorem ixN_seq {n : Nat} {i : Int} {j : Nat} (h : ixN n i = some j) : seqIndex? i n = some j ∧ j < n ∧ -(n : Int) ≤ i ∧ i < n := by
 refine mq ?_; simp (disch := k_dflt (
 refine mz ?_
 unfold ixN at h
 by_cases h0 : 0 ≤ i
 · rw [if_pos h0] at h
   by_cases h1 : i < n
   · rw [if_pos h1] at h
     have e : i.toNat = j := Option.some.inj h
     exact ⟨by rw [seqIndex_of h0 h1, e], by omega, by omega, h1⟩
   · rw [if_neg h1] at h; cases h
 · rw [if_neg h0] at h
   by_cases h1 : -(n : Int) ≤ i
   · rw [if_pos h1] at h
     have e : (i + n).toNat = j := Option.some.inj h
     exact ⟨by rw [seqIndex_neg (by omega) h1, e], by omega, h1, by omega⟩
   · rw [if_neg h1] at h; cases h)) only [↓mr]
theorem atI_get {α : Type} {xs : List α} {i : Int} {v : α} (h : atI xs i = some v) : ∃ j, seqIndex? i xs.length = some j ∧ xs[j]? = some v ∧ j < xs.length ∧ -(xs.length : Int) ≤ i ∧ i < xs.length := by
 unfold atI at h
 cases e : ixN xs.length i with
 | none => rw [e] at h; cases h
 | some j =>
   rw [e] at h
   obtain ⟨h1, h2, h3, h4⟩ := ixN_seq e
   exact ⟨j, h1, h, h2, h3, h4⟩
theorem atI_nat {α : Type} {xs : List α} {j : Nat} {v : α} (h : xs[j]? = some v) : atI xs (j : Int) = some v := by
 have hj : j < xs.length := (List.getElem?_eq_some_iff.mp h).1
 have e : ixN xs.length (j : Int) = some j := by
   unfold ixN
   rw [if_pos (by omega), if_pos (by omega)]; simp
 unfold atI; rw [e]; exact h
def PlainIx (b : Expr) : Prop := ∀ o i, subscripted b false o i = operate [o, i] (getItem o i)
def IxR (X : Cx) (r : R2) : Prop :=
 ∀ (value slice : Expr) (pins : List (Addr × Obj)) (s : Shared) (σ : St) (H : Hp) (x y : V) (v u : Value) (Q : VK), Inv X pins σ H s → RelV x v → RelV y u → r x y H Q →
   subscripted slice false v u = operate [v, u] (getItem v u) → wpAny (model X.prog X.w) X.A (subscriptTail value slice v u) (EP X pins σ Q) X.xe s
def MtR (X : Cx) (id : String) (r : V → List V → Hp → VK → Prop) : Prop :=
 ∀ (pins : List (Addr × Obj)) (s : Shared) (σ : St) (H : Hp) (x : V) (xs : List V) (v : Value) (us : List Value) (Q : VK), Inv X pins σ H s → RelV x v → Vals xs us → r x xs H Q →
   wpAny (model X.prog X.w) X.A (call (.builtin id) (v :: us)) (EP X pins σ Q) X.xe s
section
variable {X : Cx} {a b : Expr} {ta tb : TE} {pos : Pos}
theorem pe_ix {r : R2} (hr : IxR X r) (ha : PE X a ta) (hb : PE X b tb) (hs : PlainIx b) : PE X (.Subscript a b pos) (tOp r ta tb) := by
 intro pins s σ H Q I h
 exact Subscript_ (binT ha hb I h fun v u s2 x y H2 I2 rx ry q => hr a b pins s2 σ H2 x y v u Q I2 rx ry q (hs _ _))
def rIxL (K : PySem.W.Frag) : R2 := fun x y H Q => ∃ p xs i v, x = .ref p ∧ y = .int i ∧ SqL K H p xs ∧ atI xs i = some v ∧ Q v H
def rIxT (K : PySem.W.Frag) : R2 := fun x y H Q => ∃ p xs i v, x = .ref p ∧ y = .int i ∧ SqT K H p xs ∧ atI xs i = some v ∧ Q v H
theorem ix_list : IxR X (rIxL X.K) := by
 refine mq ?_; simp (disch := k_dflt (
 refine mz ?_
 intro value slice pins s σ H x y v u Q I rx ry h hs
 obtain ⟨p, xs, i, z, rfl, rfl, hq, he, q⟩ := h
 cases rx
 obtain ⟨t, rfl⟩ := ry
 obtain ⟨its, r, pl, hz⟩ := I.list hq
 obtain ⟨j, h1, h2, h3, h4, h5⟩ := atI_get he
 obtain ⟨w, ew, rw'⟩ := r.get h2
 have hl := r.length
 have hn := line63
 have fin : EP X pins σ Q w s := ⟨z, H, I, rw', q⟩
 by_cases h0 : 0 ≤ i
 · have hj : i.toNat = j := by
     rw [seqIndex_of h0 h5] at h1
     exact Option.some.inj h1
   exact item_listR pl.isList h0 (by omega) (by rw [hj]; simpa using ew) fin hs
 · have hj : (i + (its.toArray.size : Int)).toNat = j := by
     rw [seqIndex_neg (by omega) h4] at h1
     rw [List.size_toArray, ← hl]
     exact Option.some.inj h1
   exact subscriptTail_builtinR (x := w) pl.isList.typeIs slot_list_getitem.lookup
     (wpAny_getItem_list_neg (Q := fun r s' => r = w ∧ EP X pins σ Q r s') pl.isList (by omega) (by rw [List.size_toArray] <;> omega) (by omega) (by rw [hj]; simpa using ew) ⟨rfl, fin⟩) hs)) only [↓mr]
theorem ix_tup : IxR X (rIxT X.K) := by
 refine mq ?_; simp (disch := k_dflt (
 refine mz ?_
 intro value slice pins s σ H x y v u Q I rx ry h hs
 obtain ⟨p, xs, i, z, rfl, rfl, hq, he, q⟩ := h
 cases rx
 obtain ⟨t, rfl⟩ := ry
 obtain ⟨its, r, pl, hz⟩ := I.tuple hq
 obtain ⟨j, h1, h2, h3, h4, h5⟩ := atI_get he
 obtain ⟨w, ew, rw'⟩ := r.get h2
 have hl := r.length
 have hn := line63
 have fin : EP X pins σ Q w s := ⟨z, H, I, rw', q⟩
 exact subscriptTail_builtinR (x := w) pl.typeIs slot_tuple_getitem.lookup
   (getItem_tuple (j := j) (Q := fun r s' => r = w ∧ EP X pins σ Q r s') pl (by omega) (by omega) (by rw [List.size_toArray, ← hl]; exact h1) (by simpa using ew) ⟨rfl, fin⟩) hs)) only [↓mr]
theorem mapSeq_set (its : List Value) (n j : Nat) (u : Value) : Obj.mapSeq (·.setIfInBounds j u) { cls := .type "list", data := .seq its.toArray n } = { cls := .type "list", data := .seq (its.set j u).toArray n } := by
 simp [Obj.mapSeq]
theorem Inv.lst {pins : List (Addr × Obj)} {σ : St} {H : Hp} {s : Shared} {p : Addr} {xs : List V} (I : Inv X pins σ H s) (h : H p = some (.lst xs)) :
   ∃ (its : List Value) (n : Nat), Vals xs its ∧ s.heap.get? p = some { cls := .type "list", data := .seq its.toArray n } ∧ xs.length ≤ sizeLine := by
 obtain ⟨z, its, n, r, e⟩ := I.hok p _ h
 exact ⟨its, n, r, e, z⟩
theorem Inv.lstUpd {pins : List (Addr × Obj)} {σ : St} {H : Hp} {s : Shared} {p : Addr} {xs ys : List V} {its its' : List Value} {n n' : Nat} {f : Obj → Obj} (I : Inv X pins σ H s) (h : H p = some (.lst xs))
   (ho : s.heap.get? p = some { cls := .type "list", data := .seq its.toArray n }) (hf : f { cls := .type "list", data := .seq its.toArray n } = { cls := .type "list", data := .seq its'.toArray n' }) (r : Vals ys its') (hz : ys.length ≤ sizeLine) (t : Nat) :
   Inv X pins σ (upd H p (.lst ys)) { s with heap := s.heap.update p f, toks := t } := by
 have e : (s.heap.update p f).get? p = some { cls := .type "list", data := .seq its'.toArray n' } := by
   rw [Heap.get?_update_self f ho (by rw [hf] <;> rfl), hf]
 refine I.write (x := p) (e := p) (by rw [h]; trivial) (.inl rfl) (fun b u hb q => (Heap.get?_update_other _ _ (Ne.symm hb)).trans q) ⟨_, e⟩ ?_
 exact ⟨hz, its', n', r, e⟩
def rSetL : V → V → V → Hp → (Hp → Prop) → Prop := fun o i v H Q => ∃ p xs k j, o = .ref p ∧ i = .int k ∧ H p = some (.lst xs) ∧ ixN xs.length k = some j ∧ Q (upd H p (.lst (xs.set j v)))
theorem set_list : PSet X rSetL := by
 refine mq ?_; simp (disch := k_dflt (
 refine mz ?_
 intro pins s σ H o i v ov iv u Q I ro ri rv h
 obtain ⟨p, xs, k, j, rfl, rfl, hp, hj, q⟩ := h
 cases ro
 obtain ⟨t, rfl⟩ := ri
 obtain ⟨its, n, r, ho, hz⟩ := I.lst hp
 obtain ⟨h1, h2, h3, h4⟩ := ixN_seq hj
 have hl := r.length
 have hn := line63
 have I' : Inv X pins σ (upd H p (.lst (xs.set j v))) { s with heap := s.heap.update p (Obj.mapSeq (·.setIfInBounds j u)) } :=
   I.lstUpd hp ho (mapSeq_set its n j u) (r.set rv j) (by rw [List.length_set]; exact hz) s.toks
 by_cases h0 : 0 ≤ k
 · have hk : k.toNat = j := by
     rw [seqIndex_of h0 h4] at h1
     exact Option.some.inj h1
   exact PySem.W.ki_setAt ho h0 (by omega) (by rw [List.size_toArray, ← hl]; exact h4) (by rw [hk]; exact ⟨_, I', q⟩)
 · have hk : (k + (its.toArray.size : Int)).toNat = j := by
     rw [seqIndex_neg (by omega) h3] at h1
     rw [List.size_toArray, ← hl]
     exact Option.some.inj h1
   exact PySem.W.ki_setBack ho (by omega) (by rw [List.size_toArray, ← hl]; exact h3) (by omega) (by rw [hk]; exact ⟨_, I', q⟩))) only [↓mr]
theorem slice_bounds (lo hi : Option Int) (n : Nat) : (sliceBounds lo hi none n).1 = ((HT.sIx n 0 lo : Nat) : Int) ∧ (sliceBounds lo hi none n).2.1 = ((HT.sIx n n hi : Nat) : Int) ∧ (sliceBounds lo hi none n).2.2 = 1 := by
 refine mq ?_; simp (disch := k_dflt (
 refine mz ?_
 refine ⟨?_, ?_, rfl⟩
 · cases lo with
   | none => simp [sliceBounds, HT.sIx]
   | some i =>
     simp only [sliceBounds, HT.sIx, Option.getD_none, show (1 : Int) > 0 by decide, if_true]
     by_cases h : i < 0
     · simp only [h, if_true] <;> omega
     · simp only [h, if_false] <;> omega
 · cases hi with
   | none => simp [sliceBounds, HT.sIx]
   | some i =>
     simp only [sliceBounds, HT.sIx, Option.getD_none, show (1 : Int) > 0 by decide, if_true]
     by_cases h : i < 0
     · simp only [h, if_true] <;> omega
     · simp only [h, if_false] <;> omega)) only [↓mr]
theorem slicePick_cut (its : List Value) (lo hi : Option Int) : slicePick its.toArray lo hi none = ((its.drop (HT.sIx its.length 0 lo)).take (HT.sIx its.length its.length hi - HT.sIx its.length 0 lo)).toArray := by
 obtain ⟨h1, h2, h3⟩ := slice_bounds lo hi its.toArray.size
 unfold slicePick
 rw [h1, h2, h3]
 simp only [sliceRange_one, pick_run, List.size_toArray] <;> rfl
def rSlL (K : PySem.W.Frag) : V → Option Int → Option Int → Hp → VK → Prop := fun x lo hi H Q => ∃ a xs, x = .ref a ∧ SqL K H a xs ∧ ∀ p, H p = none → Q (.ref p) (upd H p (.lst (cutV xs lo hi)))
theorem sl_list : SlR X (rSlL X.K) := by
 refine mq ?_; simp (disch := k_dflt (
 refine mz ?_
 intro pins s σ H x v vl vu lo hi sl Q I rx hs pl pu h
 obtain ⟨a, xs, rfl, hx, q⟩ := h
 cases rx
 obtain ⟨its, r, ht, hz⟩ := I.list hx
 have hlen := r.length
 refine ⟨"list", _, slot_list_getitem.lookup, ht.isList.typeIs, ?_⟩
 refine wpAny_getItem_list_slice ht.isList hs pl pu .none (by simp) ?_ (by rw [List.size_toArray] <;> omega)
 rw [slicePick_cut, ← hlen]
 refine ⟨.ref s.heap.objs.size, _, I.laid (t' := s.toks) (o := .lst (cutV xs lo hi)) (fun b ob q => Heap.get?_push_of_some _ q) (Nat.le_refl _) ?_, rfl, q _ (I.hok.fresh (Nat.le_refl _))⟩
 exact ⟨Nat.le_trans (cutV_length xs lo hi) hz, _, 0, (r.drop (HT.sIx xs.length 0 lo)).take (HT.sIx xs.length xs.length hi - HT.sIx xs.length 0 lo), Heap.get?_push_size _ rfl⟩)) only [↓mr]
def flatV : V → Bool
 | .non => true
 | .bl _ => true
 | .int _ => true
 | .str _ => true
 | _ => false
def eqV : V → V → Bool
 | .non, .non => true
 | .bl a, .bl b => a == b
 | .bl a, .int b => (if a then 1 else 0) == b
 | .int a, .bl b => a == (if b then 1 else 0)
 | .int a, .int b => a == b
 | .str a, .str b => a == b
 | _, _ => false
theorem eqAt_V {A : Around} {s : Shared} {y x : V} {u v : Value} (ry : RelV y u) (rx : RelV x v) (fy : flatV y = true) (fx : flatV x = true) : SeqAt.EqAt A s u v (eqV y x) := by
 refine mq ?_; simp (disch := k_dflt (
 refine mz ?_
 cases y with
 | non =>
   cases ry
   cases x with
   | non => cases rx; exact SeqAt.EqAt.same _
   | bl b => cases rx; exact SeqAt.EqAt.none_bool b
   | int b => obtain ⟨t, rfl⟩ := rx; exact SeqAt.EqAt.none_int b t
   | str b => obtain ⟨t, rfl⟩ := rx; exact SeqAt.EqAt.none_str b t
   | _ => exact absurd (show false = true from fx) Bool.false_ne_true
 | bl a =>
   cases ry
   cases x with
   | non => cases rx; exact SeqAt.EqAt.bool_none a
   | bl b => cases rx; exact SeqAt.EqAt.bool_bool a b
   | int b => obtain ⟨t, rfl⟩ := rx; exact SeqAt.EqAt.bool_int a b t
   | str b => obtain ⟨t, rfl⟩ := rx; exact SeqAt.EqAt.bool_str a b t
   | _ => exact absurd (show false = true from fx) Bool.false_ne_true
 | int a =>
   obtain ⟨t', rfl⟩ := ry
   cases x with
   | non => cases rx; exact SeqAt.EqAt.int_none a t'
   | bl b => cases rx; exact SeqAt.EqAt.int_bool a t' b
   | int b => obtain ⟨t, rfl⟩ := rx; exact SeqAt.EqAt.int_int a t' b t
   | str b => obtain ⟨t, rfl⟩ := rx; exact SeqAt.EqAt.int_str a t' b t
   | _ => exact absurd (show false = true from fx) Bool.false_ne_true
 | str a =>
   obtain ⟨t', rfl⟩ := ry
   cases x with
   | non => cases rx; exact SeqAt.EqAt.str_none a t'
   | bl b => cases rx; exact SeqAt.EqAt.str_bool a t' b
   | int b => obtain ⟨t, rfl⟩ := rx; exact SeqAt.EqAt.str_int a t' b t
   | str b => obtain ⟨t, rfl⟩ := rx; exact SeqAt.EqAt.str_str a t' b t
   | _ => exact absurd (show false = true from fx) Bool.false_ne_true
 | _ => exact absurd (show false = true from fy) Bool.false_ne_true)) only [↓mr]
def eqU (x : V) (u : Value) : Bool := match u with
 | .none => eqV .non x
 | .bool b => eqV (.bl b) x
 | .int i _ => eqV (.int i) x
 | .str z _ => eqV (.str z) x
 | _ => false
theorem eqU_of {x y : V} {u : Value} (r : RelV y u) (f : flatV y = true) : eqU x u = eqV y x := by
 cases y with
 | non => cases r; rfl
 | bl b => cases r; rfl
 | int i => obtain ⟨t, rfl⟩ := r; rfl
 | str z => obtain ⟨t, rfl⟩ := r; rfl
 | _ => exact absurd (show false = true from f) Bool.false_ne_true
theorem any_eqU {x : V} : ∀ {xs : List V} {us : List Value}, Vals xs us → xs.all flatV = true → us.any (eqU x) = xs.any fun y => eqV y x
 | _, _, .nil, _ => rfl
 | y :: xs, u :: us, .cons r t, f => by
   rw [List.all_cons, Bool.and_eq_true] at f
   rw [List.any_cons, List.any_cons, eqU_of r f.1, any_eqU t f.2]
theorem mem_eqAt {A : Around} {s : Shared} {x : V} {v : Value} (rx : RelV x v) (fx : flatV x = true) : ∀ {xs : List V} {us : List Value}, Vals xs us → xs.all flatV = true → ∀ u ∈ us, SeqAt.EqAt A s u v (eqU x u)
 | _, _, .nil, _ => fun u hu => by cases hu
 | y :: xs, u :: us, .cons r t, f => fun u' hu => by
   rw [List.all_cons, Bool.and_eq_true] at f
   rcases List.mem_cons.mp hu with rfl | hu
   · rw [eqU_of r f.1]; exact eqAt_V r rx f.1 fx
   · exact mem_eqAt rx fx t f.2 u' hu
def inV (x : V) (xs : List V) : Bool := xs.any fun y => eqV y x
def rIn (K : PySem.W.Frag) (neg : Bool) : R2 := fun x y H Q => ∃ p xs, y = .ref p ∧ (SqL K H p xs ∨ SqT K H p xs) ∧ flatV x = true ∧ xs.all flatV = true ∧ Q (.bl (if neg then !inV x xs else inV x xs)) H
theorem op_in_seq : OpR X (compareOp .In) (rIn X.K false) := by
 refine mq ?_; simp (disch := k_dflt (
 refine mz ?_
 intro pins s σ H x y v u Q I rx ry h
 obtain ⟨p, xs, rfl, hq, fx, fs, q⟩ := h
 cases ry
 rcases hq with hq | hq
 · obtain ⟨its, r, pl, hz⟩ := I.list hq
   refine SeqAt.in_listAt (eqU x) pl.isList (fun w hw => mem_eqAt rx fx r fs w (by simpa using hw)) ⟨.bl _, H, I, rfl, ?_⟩
   rw [show its.toArray.any (eqU x) = its.any (eqU x) by simp, any_eqU r fs]
   exact q
 · obtain ⟨its, r, pl, hz⟩ := I.tuple hq
   refine SeqAt.in_tupleAt (eqU x) pl (fun w hw => mem_eqAt rx fx r fs w (by simpa using hw)) ⟨.bl _, H, I, rfl, ?_⟩
   rw [show its.toArray.any (eqU x) = its.any (eqU x) by simp, any_eqU r fs]
   exact q)) only [↓mr]
theorem op_notIn_seq : OpR X (compareOp .NotIn) (rIn X.K true) := by
 refine mq ?_; simp (disch := k_dflt (
 refine mz ?_
 intro pins s σ H x y v u Q I rx ry h
 obtain ⟨p, xs, rfl, hq, fx, fs, q⟩ := h
 cases ry
 rcases hq with hq | hq
 · obtain ⟨its, r, pl, hz⟩ := I.list hq
   refine SeqAt.notIn_listAt (eqU x) pl.isList (fun w hw => mem_eqAt rx fx r fs w (by simpa using hw)) ⟨.bl _, H, I, rfl, ?_⟩
   rw [show its.toArray.any (eqU x) = its.any (eqU x) by simp, any_eqU r fs]
   exact q
 · obtain ⟨its, r, pl, hz⟩ := I.tuple hq
   refine SeqAt.notIn_tupleAt (eqU x) pl (fun w hw => mem_eqAt rx fx r fs w (by simpa using hw)) ⟨.bl _, H, I, rfl, ?_⟩
   rw [show its.toArray.any (eqU x) = its.any (eqU x) by simp, any_eqU r fs]
   exact q)) only [↓mr]
theorem call_len_seq : CallR X (.builtin "len") (fun xs H Q => ∃ p ys, xs = [.ref p] ∧ (SqL X.K H p ys ∨ SqT X.K H p ys) ∧ Q (.int ys.length) H) := by
 refine mq ?_; simp (disch := k_dflt (
 refine mz ?_
 intro pins s σ H xs us Q I r h
 obtain ⟨p, ys, rfl, hq, q⟩ := h
 obtain ⟨u, rfl, rx⟩ := vals1 r
 cases rx
 have hn := line63
 rcases hq with hq | hq
 · obtain ⟨its, r', pl, hz⟩ := I.list hq
   have hlen := r'.length
   exact Calls.call_len_list pl.isList (by simp only [List.size_toArray] <;> omega) ⟨.int ys.length, H, I.tok _, ⟨s.toks + 1, by rw [List.size_toArray, hlen]⟩, q⟩
 · obtain ⟨its, r', pl, hz⟩ := I.tuple hq
   have hlen := r'.length
   exact len_tuple pl (by simp only [List.size_toArray] <;> omega) ⟨.int ys.length, H, I.tok _, ⟨s.toks + 1, by rw [List.size_toArray, hlen]⟩, q⟩)) only [↓mr]
theorem call_list_of : CallR X (.type "list") (fun xs H Q => ∃ p ys, xs = [.ref p] ∧ (SqL X.K H p ys ∨ SqT X.K H p ys) ∧ ∀ l, H l = none → Q (.ref l) (upd H l (.lst ys))) := by
 refine mq ?_; simp (disch := k_dflt (
 refine mz ?_
 intro pins s σ H xs us Q I r h
 obtain ⟨p, ys, rfl, hq, q⟩ := h
 obtain ⟨u, rfl, rx⟩ := vals1 r
 cases rx
 have fin : ∀ (its : List Value), Vals ys its → ys.length ≤ sizeLine → ∀ (h' : Heap) (c' : Nat), (∀ b o', s.heap.get? b = some o' → h'.get? b = some o') →
     h'.get? s.heap.objs.size = some { cls := .type "list", dict := none, data := .seq its.toArray c', slots := #[] } → EP X pins σ Q (.ref s.heap.objs.size) { s with heap := h' } := fun its r' hz h' c' kp e =>
   ⟨.ref s.heap.objs.size, _, I.laid (t' := s.toks) kp (Nat.le_refl _) (show ObjOk X.prog X.w _ h' _ (.lst ys) from ⟨hz, its, c', r', e⟩), rfl, q _ (I.hok.fresh (Nat.le_refl _))⟩
 rcases hq with hq | hq
 · obtain ⟨its, r', pl, hz⟩ := I.list hq
   have hlen := r'.length
   obtain ⟨o, ho, hc, n, hd⟩ := pl.isList
   exact call_list_seq p (.inl rfl) ho hc hd (fun h' c' kp e => fin its r' hz h' c' kp e) (by simp only [List.size_toArray] <;> omega)
 · obtain ⟨its, r', pl, hz⟩ := I.tuple hq
   have hlen := r'.length
   obtain ⟨o, ho, hc, n, hd⟩ := pl
   exact call_list_seq p (.inr rfl) ho hc hd (fun h' c' kp e => fin its r' hz h' c' kp e) (by simp only [List.size_toArray] <;> omega))) only [↓mr]
def tyV (K : PySem.W.Frag) (T : String) (x : V) (H : Hp) : Prop := match x with
 | .str _ => T = "str"
 | .int _ => T = "int"
 | .ref p => (T = "list" ∧ ∃ xs, SqL K H p xs) ∨ (T = "tuple" ∧ ∃ o, K.lookup p = some o ∧ o.cls = .type "tuple" ∧ o.dict = none) ∨
     (T = "dict" ∧ ((∃ kvs, H p = some (.dK kvs)) ∨ ∃ kvs, H p = some (.dT kvs))) ∨ (T = "set" ∧ ∃ S n, H p = some (.set S n))
 | _ => False
theorem tyV_is {pins : List (Addr × Obj)} {σ : St} {H : Hp} {s : Shared} {T : String} {x : V} {v : Value} (I : Inv X pins σ H s) (r : RelV x v) (ty : tyV X.K T x H) :
   s.TypeIs v T ∧ ∀ a, v = .ref a → ∃ ob, s.heap.get? a = some ob ∧ ob.dict = none := by
 refine mq ?_; simp (disch := k_dflt (
 refine mz ?_
 cases x with
 | str z =>
   obtain ⟨t, rfl⟩ := r
   cases (show T = "str" from ty)
   exact ⟨typeIs_str s z t, fun _ e => nomatch e⟩
 | int i =>
   obtain ⟨t, rfl⟩ := r
   cases (show T = "int" from ty)
   exact ⟨typeIs_int s i t, fun _ e => nomatch e⟩
 | ref p =>
   cases r
   rcases ty with ⟨rfl, xs, hq⟩ | ⟨rfl, o, hk, hc, hd⟩ | ⟨rfl, hk⟩ | ⟨rfl, S, n, hk⟩
   · obtain ⟨its, _, pl, _⟩ := I.list hq
     refine ⟨pl.isList.typeIs, fun a e => ?_⟩
     cases e
     obtain ⟨o, n, e, c, hd, _⟩ := pl
     exact ⟨o, e, hd⟩
   · refine ⟨⟨o, I.kIn p o hk, hc⟩, fun a e => ?_⟩
     cases e
     exact ⟨o, I.kIn _ o hk, hd⟩
   · have z : ∃ o, s.heap.get? p = some o ∧ o.ExactDict := by
       rcases hk with ⟨kvs, hk⟩ | ⟨kvs, hk⟩
       · obtain ⟨_, _, _, _, o, _, _, e, ex, _⟩ := I.hok p _ hk
         exact ⟨o, e, ex⟩
       · obtain ⟨_, _, _, _, o, _, _, e, ex, _⟩ := I.hok p _ hk
         exact ⟨o, e, ex⟩
     obtain ⟨o, e, ex⟩ := z
     refine ⟨⟨o, e, ex.1⟩, fun a e2 => ?_⟩
     cases e2
     exact ⟨o, e, ex.2.1⟩
   · obtain ⟨o, _, _, _, e, ex, _⟩ := I.hok p _ hk
     refine ⟨⟨o, e, ex.1⟩, fun a e2 => ?_⟩
     cases e2
     exact ⟨o, e, ex.2.1⟩
 | _ => exact False.elim ty)) only [↓mr]
def tBM (K : PySem.W.Frag) (T : String) (r : V → List V → Hp → VK → Prop) (to : TE) (t : TA) : TE := fun σ H Q => to σ H fun x H1 => tyV K T x H1 ∧ t σ H1 fun xs H2 => r x xs H2 Q
variable {o e : Expr} {es : List Expr} {to : TE} {t : TA} {name : Str} {apos cpos : Pos} {T id : String} {r : V → List V → Hp → VK → Prop}
theorem pe_bm (pa : PlainAttrs T) (slot : Slot T name id) (hty : typeOf (.builtin id) = pure (.type "method_descriptor")) (hm : MtR X id r) (ho : PE X o to) (ha : PA X (e :: es) t)
   (hbase : attributeBase o name X.env (eval o X.env) = eval o X.env := by rfl)
   (hfew : ((backTo cpos (starEach (e :: es) X.env)).all (fun x => !x.1) && (backToKw cpos (keywordEach [] X.env)).all (fun x => x.1.isSome)
     && decide ((e :: es).length + ([] : List Keyword).length + (if ([] : List Keyword).isEmpty then 0 else 1) < 30)) = true := by rfl)
   (hline : (apos.endLine == cpos.line) = true := by rfl) (hs : starEach (e :: es) X.env = (false, eval e X.env) :: starEach es X.env := by rfl) (hplain : (backTo cpos (starEach es X.env)).any (·.1) = false := by rfl) :
   PE X (.Call (.Attribute o name apos) (e :: es) [] cpos) (tBM X.K T r to t) := by
 refine mq ?_; simp (disch := k_dflt (
 refine mz ?_
 intro pins s σ H Q I h
 refine wpAny_Call_method_late hbase hfew hline rfl (thn (ho pins s σ H _ I h) fun v s1 ⟨x, H1, I1, r1, ty, q1⟩ => ?_)
 obtain ⟨h1, h2⟩ := tyV_is I1 r1 ty
 refine ⟨T, id, pa, slot, hty, h1, h2, ?_⟩
 have hA := ha cpos pins s1 σ H1 _ I1 q1
 rw [hs] at hA ⊢
 refine Calls.callWith_builtin (by show (false || (backTo cpos (starEach es X.env)).any (·.1)) = false; rw [hplain] <;> rfl) (Calls.evalArgs_plain ?_)
 exact thn hA fun us s2 ⟨vs, H2, I2, r2, q2⟩ => hm pins s2 σ H2 x vs v us Q I2 r1 r2 q2)) only [↓mr]
end
end L2
namespace L2
open PySem PySem.Spec PyProof.Rows
def MtM (X : Cx) (id : String) (r : V → List V → Hp → VK → Prop) : Prop :=
 ∀ (pins : List (Addr × Obj)) (s : Shared) (σ : St) (H : Hp) (x : V) (xs : List V) (v : Value) (us : List Value) (Q : VK), Inv X pins σ H s → RelV x v → Vals xs us → r x xs H Q →
   wpAny (model X.prog X.w) X.A (call (.builtin id) (v :: us)) (EP X pins σ Q) X.xe s
theorem Vals.one : ∀ {x : V} {us : List Value}, Vals [x] us → ∃ u, us = [u] ∧ RelV x u
 | _, _, .cons r .nil => ⟨_, rfl, r⟩
theorem Vals.reverse {xs : List V} {us : List Value} (h : Vals xs us) : Vals xs.reverse us.reverse := by
 induction h with
 | nil => exact .nil
 | cons r t ih => rw [List.reverse_cons, List.reverse_cons]; exact Vals.append ih (.cons r .nil)
theorem Vals.rep {xs : List V} {us : List Value} (h : Vals xs us) : ∀ k : Nat, Vals (List.replicate k xs).flatten (List.replicate k us).flatten
 | 0 => .nil
 | k + 1 => by
   rw [List.replicate_succ, List.replicate_succ, List.flatten_cons, List.flatten_cons]
   exact Vals.append h (Vals.rep h k)
theorem foldl_rep (its : List Value) : ∀ (k : Nat) (acc : List Value),
   List.foldl (fun x1 x2 => x1 ++ x2) acc.toArray (List.replicate k its.toArray) = (acc ++ (List.replicate k its).flatten).toArray
 | 0, acc => by simp
 | k + 1, acc => by
   have e : acc.toArray ++ its.toArray = (acc ++ its).toArray := by simp
   have e2 : (acc ++ its) ++ (List.replicate k its).flatten = acc ++ (List.replicate (k + 1) its).flatten := by
     rw [List.replicate_succ, List.flatten_cons, List.append_assoc]
   rw [← e2, ← foldl_rep its k (acc ++ its), ← e, List.replicate_succ, List.foldl_cons]
section
variable {X : Cx} {pins : List (Addr × Obj)} {σ : St} {H : Hp} {s : Shared} {l b : Addr} {xs ys zs : List V}
theorem Inv.lset {its its' : List Value} {n : Nat} {f : Array Value → Array Value} {t' : Nat} (I : Inv X pins σ H s) (hH : H l = some (.lst xs))
   (e : s.heap.get? l = some { cls := .type "list", data := .seq its.toArray n }) (hf : f its.toArray = its'.toArray) (hv : Vals ys its') (hz : ys.length ≤ sizeLine) :
   Inv X pins σ (upd H l (.lst ys)) { s with heap := s.heap.update l (Obj.mapSeq f), toks := t' } := by
 have q := PySem.IsL.update e f
 rw [hf] at q
 refine I.write (x := l) (e := l) (by rw [hH]; exact trivial) (.inl rfl) (fun b' u hb hu => (Heap.get?_update_other s.heap (Obj.mapSeq f) (Ne.symm hb)).trans hu) ⟨_, q⟩ ?_
 exact ⟨hz, its', _, hv, q⟩
theorem Inv.lnew {its : List Value} {t' : Nat} (I : Inv X pins σ H s) (hv : Vals ys its) (hz : ys.length ≤ sizeLine) :
   Inv X pins σ (upd H s.heap.objs.size (.lst ys)) { s with heap := s.heap.push { cls := .type "list", data := .seq its.toArray }, toks := t' } :=
 I.laid (fun _ _ q => Heap.get?_push_of_some _ q) (Nat.le_refl _) ⟨hz, its, 0, hv, Heap.get?_push_size _ rfl⟩
theorem Inv.fresh (I : Inv X pins σ H s) : H s.heap.objs.size = none := I.hok.fresh (Nat.le_refl _)
theorem Inv.lstM (I : Inv X pins σ H s) (hH : H l = some (.lst xs)) : xs.length ≤ sizeLine ∧ ∃ (its : List Value) (n : Nat), Vals xs its ∧ xs.length = its.length ∧ s.heap.get? l = some { cls := .type "list", data := .seq its.toArray n } := by
 obtain ⟨z, its, n, r, e⟩ := I.hok l _ hH
 exact ⟨z, its, n, r, r.length, e⟩
theorem notLongL {n : Nat} (h : n ≤ sizeLine) : Builtin.List.listTooLong n = false := by
 unfold Builtin.List.listTooLong
 exact decide_eq_false (by omega)
end
section
variable {X : Cx}
def rAppend : V → List V → Hp → VK → Prop := fun x vs H Q => ∃ l xs y, x = .ref l ∧ vs = [y] ∧ H l = some (.lst xs) ∧ xs.length < sizeLine ∧ Q .non (upd H l (.lst (xs ++ [y])))
theorem mt_append : MtM X "list.append" rAppend := by
 refine mq ?_; simp (disch := k_dflt (
 refine mz ?_
 intro pins s σ H x vs v us Q I rx rv h
 obtain ⟨l, xs, y, rfl, rfl, hH, hz, q⟩ := h
 cases rx
 obtain ⟨u, rfl, ru⟩ := rv.one
 obtain ⟨z, its, n, r, hl, e⟩ := I.lstM hH
 refine call_meets F.slot_list_append ⟨_, e, rfl⟩ F.entry_list_append (F.args_list_append_2 _ _) (PySem.list_append l its.toArray n u (by rw [List.size_toArray]; omega)) ⟨e, ?_⟩
 refine ⟨.non, _, I.lset (its' := its ++ [u]) hH e (by simp) (r.append (.cons ru .nil)) ?_, rfl, q⟩
 rw [List.length_append, List.length_singleton]
 omega)) only [↓mr]
def rExtend : V → List V → Hp → VK → Prop := fun x vs H Q => ∃ l b xs zs, x = .ref l ∧ vs = [.ref b] ∧ H l = some (.lst xs) ∧ H b = some (.lst zs) ∧ xs.length + zs.length ≤ sizeLine ∧ Q .non (upd H l (.lst (xs ++ zs)))
theorem mt_extend : MtM X "list.extend" rExtend := by
 refine mq ?_; simp (disch := k_dflt (
 refine mz ?_
 intro pins s σ H x vs v us Q I rx rv h
 obtain ⟨l, b, xs, zs, rfl, rfl, hH, hB, hz, q⟩ := h
 cases rx
 obtain ⟨u, rfl, ru⟩ := rv.one
 cases ru
 obtain ⟨z, its, n, r, hl, e⟩ := I.lstM hH
 obtain ⟨z2, its2, n2, r2, hl2, e2⟩ := I.lstM hB
 have hsz : its.toArray.size + its2.toArray.size ≤ sizeLine := by rw [List.size_toArray, List.size_toArray]; omega
 have hlong : ¬ (!its.toArray.isEmpty && Builtin.List.listTooLong (its.toArray.size + its2.toArray.size)) = true := by
   rw [notLongL hsz, Bool.and_false]
   exact Bool.false_ne_true
 refine call_meets F.slot_list_extend ⟨_, e, rfl⟩ F.entry_list_extend (F.args_list_extend_2 _ _)
   (AutoSeq1.list_extend_list_list_0 l its.toArray n b its2.toArray n2 hlong (by rw [List.size_toArray]; omega) (by omega)) ⟨e, e2, ?_⟩
 refine ⟨.non, _, I.lset (its' := its ++ its2) hH e (by simp) (r.append r2) ?_, rfl, q⟩
 rw [List.length_append]
 omega)) only [↓mr]
def rCat : R2 := fun x y H Q => ∃ l b xs zs, x = .ref l ∧ y = .ref b ∧ H l = some (.lst xs) ∧ H b = some (.lst zs) ∧ xs.length + zs.length ≤ sizeLine ∧ ∀ p, H p = none → Q (.ref p) (upd H p (.lst (xs ++ zs)))
theorem op_cat : OpR X (binaryOp .Add) rCat := by
 refine mq ?_; simp (disch := k_dflt (
 refine mz ?_
 intro pins s σ H x y v u Q I rx ry h
 obtain ⟨l, b, xs, zs, rfl, rfl, hH, hB, hz, q⟩ := h
 cases rx
 cases ry
 obtain ⟨z, its, n, r, hl, e⟩ := I.lstM hH
 obtain ⟨z2, its2, n2, r2, hl2, e2⟩ := I.lstM hB
 refine PySem.P.add_list e e2 ?_ (by rw [List.size_toArray, List.size_toArray]; omega)
 have ea : its.toArray ++ its2.toArray = (its ++ its2).toArray := by simp
 rw [ea]
 exact ⟨.ref _, _, I.lnew (t' := s.toks) (r.append r2) (by rw [List.length_append]; omega), rfl, q _ I.fresh⟩)) only [↓mr]
def rRep : R2 := fun x y H Q => ∃ l k xs, x = .ref l ∧ y = .int k ∧ H l = some (.lst xs) ∧ -(2 ^ 63) ≤ k ∧ k < 2 ^ 63 ∧ xs.length * k.toNat ≤ sizeLine ∧
 ∀ p, H p = none → Q (.ref p) (upd H p (.lst (List.replicate k.toNat xs).flatten))
theorem len_rep {α : Type} (xs : List α) (k : Nat) : (List.replicate k xs).flatten.length = k * xs.length := by
 induction k with
 | zero => simp
 | succ k ih => rw [List.replicate_succ, List.flatten_cons, List.length_append, ih, Nat.succ_mul, Nat.add_comm]
theorem op_rep : OpR X (binaryOp .Mult) rRep := by
 refine mq ?_; simp (disch := k_dflt (
 refine mz ?_
 intro pins s σ H x y v u Q I rx ry h
 obtain ⟨l, k, xs, rfl, rfl, hH, h1, h2, hz, q⟩ := h
 cases rx
 obtain ⟨t, rfl⟩ := ry
 obtain ⟨z, its, n, r, hl, e⟩ := I.lstM hH
 have hlen : its.toArray.size * k.toNat ≤ sizeLine := by rw [List.size_toArray, ← hl]; exact hz
 have hcap : ¬ its.toArray.size * k.toNat > (2 ^ 63 - 1) / 8 := by
   have : (sizeLine : Nat) ≤ (2 ^ 63 - 1) / 8 := by decide
   omega
 have hfit : ¬ (!Builtin.List.listFitsIndex k) = true := by
   rw [fitsIndex_both h1 h2]
   exact Bool.false_ne_true
 have hlong : ¬ Builtin.List.listTooLong (its.toArray.size * k.toNat) = true := by
   rw [notLongL hlen]
   exact Bool.false_ne_true
 have hnew : List.foldl (fun x1 x2 => x1 ++ x2) #[] (List.replicate (if its.toArray.isEmpty = true then 0 else k.toNat) its.toArray) = (List.replicate k.toNat its).flatten.toArray := by
   have f0 : ∀ m : Nat, List.foldl (fun x1 x2 => x1 ++ x2) #[] (List.replicate m its.toArray) = (List.replicate m its).flatten.toArray := fun m => by
     have := foldl_rep its m []
     rw [List.nil_append] at this
     exact this
   rw [f0]
   cases its with
   | nil => simp
   | cons a r' => rw [if_neg (by simp)]
 refine wpAny_binaryOp_repeat_ref (T := "list") (U := "int") (by decide) ⟨_, e, rfl⟩ (fun s' => typeIs_int s' k t) noFill_list_mul F.fills_int_mul F.slot_int_rmul repeat_list F.slot_int_index.lookup
   (call_meets F.slot_int_rmul (typeIs_int s k t) F.entry_int_rmul (F.args_int_rmul_2 _ _) (int___rmul___int_list k t l its.toArray n)
     ⟨e, rfl, ⟨_, e, rfl⟩, call_meets F.slot_list_mul ⟨_, e, rfl⟩ F.entry_list_mul (F.args_list_mul_2 _ _) (AutoListH.list___mul___list_int_3 l its.toArray n k t hfit hcap hlong) ⟨e, ?_⟩⟩)
 rw [hnew]
 exact ⟨.ref _, _, I.lnew (t' := s.toks) (r.rep k.toNat) (by rw [len_rep, Nat.mul_comm]; exact hz), rfl, q _ I.fresh⟩)) only [↓mr]
end
end L2
namespace L2
open PySem PySem.Spec PyProof.Rows
theorem Vals.ints : ∀ {ns : List Int} {us : List Value}, Vals (ns.map V.int) us → IntsAre us ns
 | [], us, h => by
   rw [List.map_nil] at h
   cases h
   exact IntsAre.nil
 | n :: ns, us, h => by
   rw [List.map_cons] at h
   cases h with
   | cons r t =>
     obtain ⟨k, rfl⟩ := r
     exact IntsAre.cons n k (Vals.ints t)
theorem Vals.bls : ∀ {bs : List Bool} {us : List Value}, Vals (bs.map V.bl) us → us = bs.map Value.bool
 | [], us, h => by
   rw [List.map_nil] at h
   cases h
   rfl
 | b :: bs, us, h => by
   rw [List.map_cons] at h
   cases h with
   | cons r t =>
     cases r
     rw [Vals.bls t, List.map_cons]
theorem Vals.ref1 {a : Addr} {us : List Value} (r : Vals [V.ref a] us) : us = [Value.ref a] := by
 cases r with
 | cons r t =>
   cases t
   cases r
   rfl
theorem iter_any {prog : Program} {w : World} {A : Around} {E : Value → Shared → Prop} {s : Shared} {l : Addr} {items : Array Value} {Q : Value → Shared → Prop} (hl : s.heap.IsList l items)
   (h : ∀ s₂ : Shared, s₂ = { s with heap := s.heap.push { cls := .type "list_iterator", data := .fields #[.ref l, .int 0 0] } } →
     (s₂.heap.IsListIter s.heap.objs.size l 0 ∧ s₂.heap.IsList l items) → l ≠ s.heap.objs.size → Q (.ref s.heap.objs.size) s₂) : wpAny (model prog w) A (pyIter (.ref l)) Q E s := by
 have hlt : l < s.heap.objs.size := by obtain ⟨_, e, _⟩ := hl; exact Heap.lt_size e
 exact wpAny_pyIter_list hl (h _ rfl ⟨⟨_, Heap.get?_push_size _ rfl, rfl, rfl⟩, hl.push _⟩ (Nat.ne_of_lt hlt))
theorem truth_bools {prog : Program} {w : World} {A : Around} {bs : List Bool} {its : List Value} (e : its = bs.map Value.bool) :
   TruthOf prog w A (fun i v => its.toArray[i]? = some v) (fun i => bs.getD i false) := fun i v s Q E hv hq => by
 have hv' : its[i]? = some v := by simpa using hv
 rw [e, List.getElem?_map] at hv'
 obtain ⟨b, hb, rfl⟩ := Option.map_eq_some_iff.mp hv'
 have hg : bs.getD i false = b := by rw [List.getD_eq_getElem?_getD, hb] <;> rfl
 have hq' : Q (bs.getD i false) s := hq
 rw [hg] at hq'
 exact wpAny_truthy_bool hq'
theorem all_range : ∀ bs : List Bool, (List.range bs.length).all (fun i => bs.getD i false) = bs.all id
 | [] => rfl
 | b :: bs => by
   rw [List.length_cons, List.range_succ_eq_map, List.all_cons, List.all_map, List.all_cons, ← all_range bs]
   all_goals rfl
section
variable {X : Cx}
def rAll (K : PySem.W.Frag) : List V → Hp → VK → Prop := fun vs H Q => ∃ (a : Addr) (bs : List Bool), vs = [V.ref a] ∧ SqL K H a (bs.map V.bl) ∧ Q (.bl (bs.all id)) H
theorem cr_all (hc : X.calm = true) : CallR X (.builtin "all") (rAll X.K) := by
 refine mq ?_; simp (disch := k_dflt (
 refine mz ?_
 intro pins s σ H vs us Q I r h
 obtain ⟨a, bs, rfl, hs, q⟩ := h
 obtain ⟨its, rv, hl, _⟩ := I.list hs
 rw [Vals.ref1 r]
 have hb := rv.bls
 refine call_all_walk (iter_any hl.isList fun s₂ e2 st hne => ?_)
 subst e2
 refine ⟨_, _, _, _, _, _, _, rfl, Walks.list (A := X.A.in1) (I.ok.hd hc) _ a hne its.toArray, st, truth_bools hb, fun h' tk hk => ?_⟩
 refine ⟨.bl _, H, I.kept fun b o eo => hk b o (fun hmem => ?_) (Heap.get?_push_of_some _ eo), ?_, q⟩
 · rcases List.mem_cons.mp hmem with e1 | hmem
   · exact absurd (e1 ▸ Heap.lt_size eo) (Nat.lt_irrefl _)
   · cases hmem
 · show Value.bool _ = Value.bool _
   rw [← all_range, hb, List.size_toArray, List.length_map])) only [↓mr]
end
end L2
namespace L2
open PySem PySem.Spec PyProof.Rows
abbrev CellAt (h : Heap) (c : Addr) (v : Option Value) : Prop := h.IsCell c v
def relS (scope sc : Scope) : Scope :=
 { scope with names := scope.names.map fun (n, k) => if (k == .free && sc.kind == .function && sc.names.lookup n == some .cell) then (n, .cell) else (n, k) }
def cloFrom (cells : List (Str × Addr)) : List (Str × NameKind) → List (Str × Addr) → List (Str × Addr)
 | [], acc => acc
 | (n, k) :: r, acc => if k == .free then cloFrom cells r ((n, (cells.lookup n).getD 0) :: acc) else cloFrom cells r acc
theorem closure_loop (env : Env) (f : Str × NameKind → List (Str × Addr) → Sem (ForInStep (List (Str × Addr))))
   (hf : ∀ n k c, f (n, k) c = if k == .free then (do let a ← cellOf env n; pure (.yield ((n, a) :: c))) else pure (.yield c)) :
   ∀ (names : List (Str × NameKind)) (acc : List (Str × Addr)), (∀ y ∈ names, y.2 = .free → ∃ c, env.cells.lookup y.1 = some c) → forIn names acc f = pure (cloFrom env.cells names acc)
 | [], acc, _ => by rw [List.forIn_nil]; rfl
 | (n, k) :: r, acc, h => by
   rw [List.forIn_cons, hf]
   have ih := fun acc => closure_loop env f hf r acc fun y hy => h y (List.mem_cons_of_mem _ hy)
   unfold cloFrom
   by_cases hk : (k == NameKind.free) = true
   · rw [if_pos hk, if_pos hk]
     obtain ⟨c, hc⟩ := h (n, k) List.mem_cons_self (by simpa using hk)
     have e : cellOf env n = pure c := by unfold cellOf; rw [hc]
     rw [e]
     have e2 : (env.cells.lookup n).getD 0 = c := by rw [hc]; rfl
     rw [e2]
     exact ih _
   · rw [if_neg hk, if_neg hk]
     exact ih _
theorem closure_ok {scope : Scope} {env : Env} (h : ∀ y ∈ scope.names, y.2 = .free → ∃ c, env.cells.lookup y.1 = some c) : closureFor scope env = pure (cloFrom env.cells scope.names []) := by
 simp only [closureFor]
 rw [closure_loop env _ (fun n k c => rfl) scope.names [] h]
 rfl
theorem mem_lookup {α : Type} : ∀ {l : List (Str × α)} {n : Str} {c : α}, (n, c) ∈ l → ∃ c', l.lookup n = some c'
 | (k, v) :: r, n, c, h => by
   rw [List.lookup_cons]
   cases hb : n == k with
   | true => exact ⟨_, rfl⟩
   | false =>
     rcases List.mem_cons.mp h with e | h
     · cases e; simp at hb
     · exact mem_lookup h
theorem cloFrom_mem {cells : List (Str × Addr)} : ∀ {names : List (Str × NameKind)} {acc : List (Str × Addr)} {n : Str} {c : Addr}, (n, c) ∈ cloFrom cells names acc → (n, c) ∈ acc ∨ ((n, .free) ∈ names ∧ c = (cells.lookup n).getD 0)
 | [], _, _, _, h => .inl h
 | (m, k) :: r, acc, n, c, h => by
   unfold cloFrom at h
   split at h
   · rename_i hk
     have hk : k = .free := by simpa using hk
     rcases cloFrom_mem h with h | ⟨h1, h2⟩
     · rcases List.mem_cons.mp h with e | h
       · cases e; exact .inr ⟨hk ▸ List.mem_cons_self, rfl⟩
       · exact .inl h
     · exact .inr ⟨List.mem_cons_of_mem _ h1, h2⟩
   · rcases cloFrom_mem h with h | ⟨h1, h2⟩
     · exact .inl h
     · exact .inr ⟨List.mem_cons_of_mem _ h1, h2⟩
theorem cloFrom_acc {cells : List (Str × Addr)} : ∀ {names : List (Str × NameKind)} {acc : List (Str × Addr)} {p : Str × Addr}, p ∈ acc → p ∈ cloFrom cells names acc
 | [], _, _, h => h
 | (m, k) :: r, acc, p, h => by
   unfold cloFrom
   split
   · exact cloFrom_acc (List.mem_cons_of_mem _ h)
   · exact cloFrom_acc h
theorem cloFrom_has {cells : List (Str × Addr)} : ∀ {names : List (Str × NameKind)} {acc : List (Str × Addr)} {n : Str}, (n, .free) ∈ names → (n, (cells.lookup n).getD 0) ∈ cloFrom cells names acc
 | (m, k) :: r, acc, n, h => by
   unfold cloFrom
   rcases List.mem_cons.mp h with e | h
   · cases e
     exact cloFrom_acc List.mem_cons_self
   · split
     · exact cloFrom_has h
     · exact cloFrom_has h
theorem cells_mem : ∀ {names : List (Str × NameKind)} {h : Heap} {acc : List (Str × Addr)} {x : Str} {c : Addr}, (x, c) ∈ cellsFrom h.objs.size names acc →
   (x, c) ∈ acc ∨ ((x, .cell) ∈ names ∧ h.objs.size ≤ c ∧ CellAt (pushCells h names) c none)
 | [], _, _, _, _, h => .inl h
 | (n, k) :: r, h, acc, x, c, hm => by
   unfold cellsFrom at hm
   unfold pushCells
   split at hm
   · rename_i hk
     rw [if_pos hk]
     have hk : k = .cell := by simpa using hk
     rw [← Heap.size_push h { cls := .type "cell", data := .cell none }] at hm
     rcases cells_mem hm with hm | ⟨h1, h2, h3⟩
     · rcases List.mem_cons.mp hm with e | hm
       · cases e
         exact .inr ⟨hk ▸ List.mem_cons_self, Nat.le_refl _, _, pushCells_keeps r _ _ _ (Heap.get?_push_size _ rfl), rfl⟩
       · exact .inl hm
     · rw [Heap.size_push] at h2
       exact .inr ⟨List.mem_cons_of_mem _ h1, Nat.le_of_succ_le h2, h3⟩
   · rename_i hk
     rw [if_neg hk]
     rcases cells_mem hm with hm | ⟨h1, h2, h3⟩
     · exact .inl hm
     · exact .inr ⟨List.mem_cons_of_mem _ h1, h2, h3⟩
theorem cells_acc : ∀ {names : List (Str × NameKind)} {n : Nat} {acc : List (Str × Addr)} {p : Str × Addr}, p ∈ acc → p ∈ cellsFrom n names acc
 | [], _, _, _, h => h
 | (m, k) :: r, n, acc, p, h => by
   unfold cellsFrom
   split
   · exact cells_acc (List.mem_cons_of_mem _ h)
   · exact cells_acc h
theorem cells_has : ∀ {names : List (Str × NameKind)} {n : Nat} {acc : List (Str × Addr)} {x : Str}, (x, .cell) ∈ names → ∃ c, (x, c) ∈ cellsFrom n names acc
 | (m, k) :: r, n, acc, x, h => by
   unfold cellsFrom
   rcases List.mem_cons.mp h with e | h
   · cases e
     exact ⟨n, cells_acc List.mem_cons_self⟩
   · split
     · exact cells_has h
     · exact cells_has h
theorem cells_inj : ∀ {names : List (Str × NameKind)} {h : Heap} {acc : List (Str × Addr)} {x y : Str} {c : Addr}, (∀ p ∈ acc, p.2 < h.objs.size) → (∀ x y c, (x, c) ∈ acc → (y, c) ∈ acc → x = y) →
   (x, c) ∈ cellsFrom h.objs.size names acc → (y, c) ∈ cellsFrom h.objs.size names acc → x = y
 | [], _, _, _, _, _, _, hi, h1, h2 => hi _ _ _ h1 h2
 | (n, k) :: r, h, acc, x, y, c, hl, hi, h1, h2 => by
   unfold cellsFrom at h1 h2
   split at h1
   · rename_i hk
     rw [if_pos hk] at h2
     rw [← Heap.size_push h { cls := .type "cell", data := .cell none }] at h1 h2
     refine cells_inj (h := h.push _) (fun p hp => ?_) (fun x y c a b => ?_) h1 h2
     · rw [Heap.size_push]
       rcases List.mem_cons.mp hp with rfl | hp
       · exact Nat.lt_succ_self _
       · exact Nat.lt_succ_of_lt (hl p hp)
     · rcases List.mem_cons.mp a with e | a <;> rcases List.mem_cons.mp b with e' | b
       · cases e; cases e'; rfl
       · cases e; exact absurd (hl _ b) (Nat.lt_irrefl _)
       · cases e'; exact absurd (hl _ a) (Nat.lt_irrefl _)
       · exact hi _ _ _ a b
   · rename_i hk
     rw [if_neg hk] at h2
     exact cells_inj hl hi h1 h2
theorem newEnv_comp {M : Model} {A : Around} {E : Value → Shared → Prop} {s : Shared} {scope : Scope} {globals : Addr} {closure : List (Str × Addr)} {qual : Str} {func : Option Addr} {code : Value} {around : Env} {builtins : Addr} {Q : Env → Shared → Prop}
   (h : Q (newEnv scope s.heap.objs.size globals (cellsFrom (s.heap.objs.size + 1) scope.names closure) qual func code (some around) builtins)
     { s with heap := pushCells (s.heap.push { cls := .type "dict", data := .dict #[] }) scope.names }) :
   wpAny M A (newFunctionEnv scope globals closure [] qual func code (some around) builtins) Q E s := by
 refine mq ?_; simp (disch := k_dflt (
 refine mz ?_
 simp only [newFunctionEnv, Option.isSome_some, if_true]
 refine wpAny_bind (wpAny_alloc ?_)
 refine wpAny_bind (wpAny_layCells _ (fun n k c => rfl) scope.names closure _ _ ?_)
 rw [show ({ s with heap := s.heap.push { cls := .type "dict", data := .dict #[] } } : Shared).heap.objs.size = s.heap.objs.size + 1 from Heap.size_push ..]
 rw [List.forIn_nil]
 exact wpAny_bind (wpAny_pure (wpAny_pure h)))) only [↓mr]
theorem lookup_relS {sc : Scope} : ∀ {names : List (Str × NameKind)} {x : Str} {k : NameKind},
   (names.map fun (n, k) => if (k == NameKind.free && sc.kind == .function && sc.names.lookup n == some .cell) then (n, NameKind.cell) else (n, k)).lookup x = some k →
   ∃ k', names.lookup x = some k' ∧ (k = k' ∨ (k' = .free ∧ k = .cell))
 | [], _, _, h => by simp at h
 | (n, k₀) :: r, x, k, h => by
   have ih := @lookup_relS sc r x k
   have h' : List.lookup x ((if (k₀ == NameKind.free && sc.kind == .function && sc.names.lookup n == some .cell) = true then (n, NameKind.cell) else (n, k₀)) :: (r.map _)) = some k := h
   cases hx : x == n with
   | true =>
     simp only [List.lookup_cons, hx]
     by_cases hc : (k₀ == NameKind.free && sc.kind == .function && sc.names.lookup n == some .cell) = true
     · rw [if_pos hc] at h'
       simp only [List.lookup_cons, hx] at h'
       cases h'
       simp only [Bool.and_eq_true, beq_iff_eq] at hc
       exact ⟨k₀, rfl, .inr ⟨hc.1.1, rfl⟩⟩
     · rw [if_neg hc] at h'
       simp only [List.lookup_cons, hx] at h'
       cases h'
       exact ⟨_, rfl, .inl rfl⟩
   | false =>
     simp only [List.lookup_cons, hx]
     by_cases hc : (k₀ == NameKind.free && sc.kind == .function && sc.names.lookup n == some .cell) = true
     · rw [if_pos hc] at h'
       simp only [List.lookup_cons, hx] at h'
       exact ih h'
     · rw [if_neg hc] at h'
       simp only [List.lookup_cons, hx] at h'
       exact ih h'
structure BlkOk (N : List Str) (sc scope : Scope) (own : List (Str × Nat)) : Prop where
 kind : scope.kind = .function
 uniq : ∀ y ∈ scope.names, scope.names.lookup y.1 = some y.2
 ix : ∀ p ∈ own, N[p.2]? = some p.1
 free : ∀ y ∈ scope.names, y.2 = .free → sc.names.lookup y.1 = some .cell ∨ sc.names.lookup y.1 = some .free
 own : ∀ y ∈ scope.names, y.2 = .local ∨ y.2 = .cell → y.1 ∈ own.map (·.1) ∨ y.1 ∉ N
def wipe (σ : St) : List Nat → St
 | [] => σ
 | v :: vs => (wipe σ vs).set v none
theorem wipe_length (σ : St) : ∀ vs : List Nat, (wipe σ vs).length = σ.length
 | [] => rfl
 | v :: vs => by unfold wipe; rw [List.length_set, wipe_length σ vs]
theorem wipe_some {σ : St} {i : Nat} {x : V} : ∀ {vs : List Nat}, (wipe σ vs)[i]? = some (some x) → σ[i]? = some (some x) ∧ i ∉ vs
 | [], h => ⟨h, by simp⟩
 | v :: vs, h => by
   unfold wipe at h
   by_cases hi : v = i
   · subst hi
     by_cases hv : v < (wipe σ vs).length
     · rw [List.getElem?_set_self hv] at h; cases h
     · rw [List.getElem?_eq_none (by simpa using hv)] at h; cases h
   · rw [List.getElem?_set_ne hi] at h
     obtain ⟨h1, h2⟩ := wipe_some h
     exact ⟨h1, by simp only [List.mem_cons, not_or]; exact ⟨fun e => hi e.symm, h2⟩⟩
abbrev Cx.blk (X : Cx) (s : Shared) (H : Hp) (scope : Scope) (cenv : Env) (fp : List Addr) : Cx := { X with s_0 := s, H_0 := H, env := cenv, outer := X.stack, ex := fp, fn := fun x => scope.names.lookup x == some .cell, pn := [], xe := fun _ _ => False }
section
variable {X : Cx} {pins : List (Addr × Obj)} {σ : St} {H : Hp} {s : Shared}
theorem block_start {scope : Scope} {own : List (Str × Nat)} {fp : List Addr} (I : Inv X pins σ H s) (ok : BlkOk X.N X.env.scope scope own) (hN : X.N.Nodup) (hfp : ∀ b ∈ fp, FpOk X pins H b ∧ b < s.heap.objs.size) :
   Inv (X.blk s H scope (compEnvC scope (cellsFrom (s.heap.objs.size + 1) scope.names (cloFrom X.env.cells scope.names [])) s.heap.objs.size X.env) fp) [] (wipe σ (own.map (·.2))) H { s with heap := pushCells (s.heap.push { cls := .type "dict", data := .dict #[] }) scope.names } := by
 refine mq ?_; simp (disch := k_dflt (
 refine mz ?_
 have hfree : ∀ y ∈ scope.names, y.2 = .free → ∃ c, X.env.cells.lookup y.1 = some c := fun y hy e => by
   rcases ok.free y hy e with k | k
   · exact I.ok.has _ (.inl k)
   · exact I.ok.has _ (.inr k)
 generalize hcenv : compEnvC scope (cellsFrom (s.heap.objs.size + 1) scope.names (cloFrom X.env.cells scope.names [])) s.heap.objs.size X.env = cenv
 have kp : ∀ b o, s.heap.get? b = some o → (pushCells (s.heap.push { cls := .type "dict", data := .dict #[] }) scope.names).get? b = some o := fun b o e => pushCells_keeps _ _ _ _ (Heap.get?_push_of_some _ e)
 have hL : cenv.locals = s.heap.objs.size := by rw [← hcenv]; rfl
 have hcl : cenv.cells = cellsFrom (s.heap.objs.size + 1) scope.names (cloFrom X.env.cells scope.names []) := by rw [← hcenv]; rfl
 have hsc : cenv.scope = relS scope X.env.scope := by rw [← hcenv]; rfl
 rw [← Heap.size_push s.heap { cls := .type "dict", data := .dict #[] }] at hcl
 have cm : ∀ {y c}, (y, c) ∈ cloFrom X.env.cells scope.names [] → X.env.cells.lookup y = some c ∧ c < s.heap.objs.size := fun {y c} hm => by
   rcases cloFrom_mem hm with hm | ⟨h1, rfl⟩
   · cases hm
   · obtain ⟨c, hc⟩ := hfree _ h1 rfl
     rw [hc]
     obtain ⟨w, z⟩ := I.cell _ _ hc
     exact ⟨rfl, z.lt⟩
 have mem : ∀ {y c}, cenv.cells.lookup y = some c → (X.env.cells.lookup y = some c ∧ c < s.heap.objs.size) ∨ (s.heap.objs.size + 1 ≤ c ∧ CellAt (pushCells (s.heap.push { cls := .type "dict", data := .dict #[] }) scope.names) c none) := fun {y c} e => by
   rw [hcl] at e
   rcases cells_mem (PySem.mem_of_lookup e) with hm | ⟨_, h2, h3⟩
   · exact .inl (cm hm)
   · rw [Heap.size_push] at h2; exact .inr ⟨h2, h3⟩
 have look : ∀ {y}, scope.names.lookup y = some .free → ∃ c, cenv.cells.lookup y = some c ∧ X.env.cells.lookup y = some c := fun {y} hl => by
   have hy : (y, NameKind.free) ∈ scope.names := PySem.mem_of_lookup hl
   obtain ⟨c', e'⟩ := mem_lookup (cells_acc (names := scope.names) (n := (s.heap.push { cls := .type "dict", data := .dict #[] }).objs.size) (cloFrom_has (cells := X.env.cells) (acc := []) hy))
   rw [← hcl] at e'
   refine ⟨c', e', ?_⟩
   rw [hcl] at e'
   rcases cells_mem (PySem.mem_of_lookup e') with hm | ⟨h1, _, _⟩
   · exact (cm hm).1
   · have := ok.uniq _ h1
     rw [hl] at this; cases this
 have okB : (X.blk s H scope cenv fp).Ok := by
   refine ⟨I.ok.mod, by show cenv.scope.kind = _; rw [hsc]; exact ok.kind, by show cenv.globals = _; rw [← hcenv]; exact I.ok.glob, by show cenv.builtins = _; rw [← hcenv]; exact I.ok.blt, by show s.heap.objs.size ≤ cenv.locals; rw [hL]; exact Nat.le_refl _,
     fun y z c e1 e2 => ?_, fun y hy => ?_, fun y c z e => ?_, I.ok.hd, I.ok.frames, .inl rfl, fun b hb => ⟨?_, fun y c e z => ?_⟩, I.bs, Nat.le_trans I.ok.bsz I.sz, fun b o e hb => ?_, fun b hb z => ?_, I.stack, I.stkFree⟩
   · have e1 : cenv.cells.lookup y = some c := e1
     have e2 : cenv.cells.lookup z = some c := e2
     rw [hcl] at e1 e2
     refine cells_inj (fun p hp => ?_) (fun y z c a b => I.ok.inj y z c (cm a).1 (cm b).1) (PySem.mem_of_lookup e1) (PySem.mem_of_lookup e2)
     rw [Heap.size_push]
     exact Nat.lt_succ_of_lt (cm (y := p.1) (c := p.2) hp).2
   · show ∃ c, cenv.cells.lookup y = some c
     have key : ∀ k, cenv.kindOf y = some k → (k = .cell ∨ k = .free) → ∃ c, cenv.cells.lookup y = some c := fun k hk hk' => by
       unfold Env.kindOf at hk
       rw [hsc] at hk
       obtain ⟨k', e, r⟩ := lookup_relS hk
       have : k' = .cell ∨ k' = .free := by
         rcases r with rfl | ⟨rfl, _⟩
         · exact hk'
         · exact .inr rfl
       rcases this with rfl | rfl
       · obtain ⟨c, hm⟩ := cells_has (n := (s.heap.push { cls := .type "dict", data := .dict #[] }).objs.size) (acc := cloFrom X.env.cells scope.names []) (PySem.mem_of_lookup e)
         obtain ⟨c', e'⟩ := mem_lookup hm
         exact ⟨c', by rw [hcl]; exact e'⟩
       · obtain ⟨c, h1, _⟩ := look e
         exact ⟨c, h1⟩
     rcases hy with hy | hy
     · exact key _ hy (.inl rfl)
     · exact key _ hy (.inr rfl)
   · have z : (scope.names.lookup y == some NameKind.cell) = true := z
     have z : scope.names.lookup y = some .cell := by simpa using z
     have e : cenv.cells.lookup y = some c := e
     rw [hcl] at e
     rcases cells_mem (PySem.mem_of_lookup e) with hm | ⟨_, h2, _⟩
     · rcases cloFrom_mem hm with hm | ⟨h1, _⟩
       · cases hm
       · have q := ok.uniq _ h1
         rw [z] at q; cases q
     · rw [Heap.size_push] at h2
       exact Nat.le_of_succ_le h2
   · show b ≠ cenv.locals
     rw [hL]; exact Nat.ne_of_lt (hfp b hb).2
   · have e : cenv.cells.lookup y = some c := e
     rcases mem e with ⟨h1, _⟩ | ⟨h1, _⟩
     · exact (hfp b hb).1.2.2.2.2.1 y c h1 z
     · have h2 : s.heap.objs.size + 1 ≤ b := by rw [← z]; exact h1
       exact absurd (Nat.lt_of_lt_of_le (hfp b hb).2 (Nat.le_of_succ_le h2)) (Nat.lt_irrefl _)
   · rcases (hfp b hb).1.2.2.2.1 with z | z
     · exact I.ok.noex b o e z
     · exact absurd (Nat.lt_of_lt_of_le (Heap.lt_size e) (Nat.le_trans I.ok.bsz z)) (Nat.lt_irrefl _)
   · rcases List.mem_cons.mp (I.stkSub b z) with z | z
     · exact (hfp b hb).1.2.1 z
     · exact (hfp b hb).1.2.2.1 z
 refine ⟨okB, rfl, I.bare, Un.kept kp, ⟨fun _ => none, ?_, fun i y av e1 e2 e3 => ?_⟩, fun y c e => ?_, ?_, fun y c e => ?_, fun p hp => ?_, I.hok.kept kp, by rw [wipe_length]; exact I.len⟩
 · show Heap.Ns _ cenv.locals _
   rw [hL]
   exact Heap.Ns.keeps (Heap.Ns.new ..) fun b o e => pushCells_keeps _ _ _ _ e
 · obtain ⟨e2, hne⟩ := wipe_some e2
   have hfr : scope.names.lookup y = some .free ∧ (cenv.kindOf y = some .cell ∨ cenv.kindOf y = some .free) := by
     have key : ∀ k, cenv.scope.names.lookup y = some k → k = .local ∨ k = .cell ∨ k = .free → scope.names.lookup y = some .free ∧ (cenv.kindOf y = some .cell ∨ cenv.kindOf y = some .free) := fun k hk hk' => by
       have hk0 := hk
       rw [hsc] at hk
       obtain ⟨k', e, r⟩ := lookup_relS hk
       have no : ¬ (k' = .local ∨ k' = .cell) := fun hh => by
         rcases ok.own _ (PySem.mem_of_lookup e) hh with e' | e'
         · obtain ⟨p, hp, hpy⟩ := List.mem_map.mp e'
           have e3 := ok.ix p hp
           have : p.1 = y := hpy
           rw [this] at e3
           exact hne (List.mem_map.mpr ⟨p, hp, nodup_ix hN e3 e1⟩)
         · exact e' (List.mem_of_getElem? e1)
       rcases r with rfl | ⟨rfl, rfl⟩
       · rcases hk' with rfl | rfl | rfl
         · exact absurd (.inl rfl) no
         · exact absurd (.inr rfl) no
         · exact ⟨e, .inr hk0⟩
       · exact ⟨e, .inl hk0⟩
     have e3 : Vis cenv.scope y := e3
     rcases e3 with e3 | e3 | e3
     · exact key _ e3 (.inl rfl)
     · exact key _ e3 (.inr (.inl rfl))
     · exact key _ e3 (.inr (.inr rfl))
   obtain ⟨m, hn, hl⟩ := I.loc
   have hvis : Vis X.env.scope y := (ok.free _ (PySem.mem_of_lookup hfr.1) rfl).elim (fun k => .inr (.inl k)) (fun k => .inr (.inr k))
   obtain ⟨w, r, q⟩ := hl i y av e1 e2 hvis
   refine ⟨w, r, .inr ⟨hfr.2, ?_⟩⟩
   obtain ⟨c, h1, h2⟩ := look hfr.1
   rcases q with ⟨k, _⟩ | ⟨_, c', e', z⟩
   · have k : X.env.scope.names.lookup y = some .local := k
     rcases ok.free _ (PySem.mem_of_lookup hfr.1) rfl with k' | k' <;> rw [show X.env.scope.names.lookup y = _ from k'] at k <;> cases k
   · rw [h2] at e'; cases e'
     exact ⟨c, h1, z.keeps kp⟩
 · have e : cenv.cells.lookup y = some c := e
   rcases mem e with ⟨h1, _⟩ | ⟨_, z⟩
   · obtain ⟨w, z⟩ := I.cell y c h1
     exact ⟨w, z.keeps kp⟩
   · exact ⟨_, z⟩
 · show H cenv.locals = none
   rw [hL]; exact I.hok.fresh (Nat.le_refl _)
 · have e : cenv.cells.lookup y = some c := e
   rcases mem e with ⟨h1, _⟩ | ⟨h1, _⟩
   · exact I.freeC y c h1
   · exact I.hok.fresh (Nat.le_of_succ_le h1)
 · exact absurd (show p ∈ ([] : List (Addr × Obj)) ++ [] from hp) (by simp))) only [↓mr]
theorem app_ok {E : Value → Shared → Prop} {D : Addr} {xs : List V} {y : V} {v : Value} {Q : Value → Shared → Prop} (I : Inv X pins σ H s) (hD : H D = some (.lst xs)) (hz : xs.length < sizeLine) (r : RelV y v)
   (h : ∀ s', Inv X pins σ (upd H D (.lst (xs ++ [y]))) s' → Q .none s') : wpAny (model X.prog X.w) X.A (call (.builtin "list.append") [.ref D, v]) Q E s := by
 refine mq ?_; simp (disch := k_dflt (
 refine mz ?_
 obtain ⟨hz', its, n, ri, e⟩ := I.hok D _ hD
 have hl := ri.length
 refine append_at (hsz := by rw [List.size_toArray]; omega) e fun h' sb ho' => ?_
 refine h { s with heap := h' } (I.write (t' := s.toks) (by rw [hD]; trivial) (.inl rfl) (fun b u hb q => (sb.2 b hb).trans q) ⟨_, ho'⟩ ⟨by rw [List.length_append]; exact hz, its ++ [v], n + 1, ri.append (.cons r .nil), ?_⟩)
 rw [ho']
 simp)) only [↓mr]
def PTs (X : Cx) (ifs : List Expr) (t : TT) : Prop :=
 ∀ (pins : List (Addr × Obj)) (s : Shared) (σ : St) (H : Hp) (Q : Bool → Hp → Prop), Inv X pins σ H s → t σ H Q →
   wpAny (model X.prog X.w) X.A (forIn ifs true fun c r => if r = true then do let ok ← isTrue c X.env (eval c X.env); pure (ForInStep.yield ok) else pure (ForInStep.yield r)) (TP X pins σ Q) X.xe s
def tYes : TT := fun _ H Q => Q true H
theorem pts_nil : PTs X [] tYes := fun _ _ _ H _ I h => wpAny_tests_nil ⟨H, I, h⟩
end
theorem thnF {α : Type} {t : Sem α} {Q Q' : α → Shared → Prop} {M : Model} {A : Around} {E : Value → Shared → Prop} {s : Shared} (h : wpAny M A t Q (fun _ _ => False) s) (hQ : ∀ a s, Q a s → Q' a s) : wpAny M A t Q' E s := wpAny_mono h hQ fun _ _ z => False.elim z
theorem compLoop_any {prog : Program} {w : World} {A : Around} {R : Result → Shared → Prop} {s : Shared} {elt target iter : Expr} {ifs : List Expr} {scope : Scope} {pos : Pos} {it acc : Value} {env : Env} (I : Nat → Shared → Prop)
   (turn : ∀ n s, I n s → wpAny (model prog w) A (pyNext it) (fun r s₁ => match r with
     | none => R (.ok .next) s₁
     | some v => wpAny (model prog w) A (letOwnedTupleGo target it v) (fun _ s₁' => wpAny (model prog w) A (assign target env v) (fun _ s₂ =>
         wpAny (model prog w) A (forIn ifs true fun c r => if r = true then do let ok ← isTrue c env (eval c env); pure (ForInStep.yield ok) else pure (ForInStep.yield r)) (fun ok s₃ =>
           if ok = true then wpAny (model prog w) A (eval elt env) (fun x s₄ =>
             wpAny (model prog w) A (call (.builtin "list.append") [acc, x]) (fun _ s₅ => ∃ m, m < n ∧ I m s₅) (notedBy (model prog w) A env fun e s' => R (.error e) s') s₄) (notedBy (model prog w) A env fun e s' => R (.error e) s') s₃
           else ∃ m, m < n ∧ I m s₃) (notedBy (model prog w) A env fun e s' => R (.error e) s') s₂) (notedBy (model prog w) A env fun e s' => R (.error e) s') s₁') (notedBy (model prog w) A env fun e s' => R (.error e) s') s₁) (notedBy (model prog w) A env fun e s' => R (.error e) s') s)
   (n : Nat) (h : I n s) :
   codeAny (model prog w) A (.compLoop (.ListComp elt [⟨target, iter, ifs, 0⟩] scope pos) 0 it acc env) R s := by
 refine codeAny_loop rfl I (fun n s hI => ?_) n h
 show wpAny _ A ((compTurn (.ListComp elt [⟨target, iter, ifs, 0⟩] scope pos) 0 it acc env).onRaise (fun x => do noteFrame x env; theTreesLotGoes x)) _ _ s
 refine wpAny_noted ?_
 rw [compTurn_list]
 refine wpAny_bind (wpAny_standAt (wpAny_bind (wpAny_mono (turn n s hI) (fun r s₁ h₁ => ?_) fun _ _ h' => h')))
 cases r with
 | none => exact wpAny_pure h₁
 | some v =>
   refine wpAny_bind (wpAny_mono h₁ (fun _ s₁' h₁' => ?_) fun _ _ h' => h')
   refine wpAny_bind (wpAny_mono h₁' (fun _ s₂ h₂ => wpAny_bind (wpAny_mono h₂ (fun ok s₃ h₃ => ?_) fun _ _ h' => h')) fun _ _ h' => h')
   cases ok with
   | false => exact wpAny_pure ⟨rfl, h₃⟩
   | true =>
     exact wpAny_bind (wpAny_bind (wpAny_mono h₃ (fun x s₄ h₄ => wpAny_bind (wpAny_mono h₄ (fun _ s₅ h₅ => wpAny_pure (wpAny_pure ⟨rfl, h₅⟩)) fun _ _ h' => h')) fun _ _ h' => h'))
section
variable {X : Cx}
def tLc (wi : TI) (g : TG) (tt : TT) (te : TE) (vs : List Nat) : TE := fun σ H Q => wi σ H fun J H1 => ∀ D, H1 D = none → ∃ W : Nat → Nat → Hp → Prop, (∃ m, W 0 m (upd H1 D (.lst []))) ∧ ∀ i m H, W i m H →
 (J.stop i H ∧ Q (.ref D) H) ∨ (J.go i H ∧ ∃ Nx : Hp → Prop, (∀ H', Nx H' → ∃ m', m' < m ∧ W (i + 1) m' H') ∧ ∀ x H', J.yld i H x H' → g x (wipe σ vs) H' fun σ2 H2 => wipe σ2 vs = wipe σ vs ∧ tt σ2 H2 fun b H3 =>
   if b = true then te σ2 H3 fun y H4 => ∃ acc, H4 D = some (.lst acc) ∧ acc.length < sizeLine ∧ Nx (upd H4 D (.lst (acc ++ [y]))) else Nx H3)
theorem lc_core {pins : List (Addr × Obj)} {s : Shared} {σ : St} {H : Hp} {Q : VK} {elt tg iter : Expr} {ifs : List Expr} {scope : Scope} {own : List (Str × Nat)} {pos pos' : Pos} {wi : TI} {g : TG} {tt : TT} {te : TE} {use : Option (Value → Sem Unit)} {Qf : Value → Shared → Prop}
   (hc : X.calm = true) (hN : X.N.Nodup) (I : Inv X pins σ H s) (hi : PI X tg iter wi) (ok : BlkOk X.N X.env.scope scope own)
   (hg : ∀ (s : Shared) (H : Hp) (C : Addr) (cl : List (Str × Addr)) (fp : List Addr), PG (X.blk s H scope (compEnvC scope cl C X.env) fp) tg g) (ht : ∀ (s : Shared) (H : Hp) (C : Addr) (cl : List (Str × Addr)) (fp : List Addr), PTs (X.blk s H scope (compEnvC scope cl C X.env) fp) ifs tt)
   (he : ∀ (s : Shared) (H : Hp) (C : Addr) (cl : List (Str × Addr)) (fp : List Addr), PE (X.blk s H scope (compEnvC scope cl C X.env) fp) elt te) (hs : ∀ x, foldedSetIterable iter X.env x = pure x)
   (h : tLc wi g tt te (own.map (·.2)) σ H Q)
   (hRR : ∀ D C s' m H', Inv X pins σ H' s' → Q (.ref D) H' → s'.heap.Ns C m → FpOk X pins H' C → compPost (model X.prog X.w) X.A X.xe use Qf (.ref D) C (.ok .next) s') :
   wpAny (model X.prog X.w) X.A (comprehension (.ListComp elt [⟨tg, iter, ifs, 0⟩] scope pos) scope X.env pos' (newList []) false (eval iter X.env) use) Qf X.xe s := by
 refine mq ?_; simp (disch := k_dflt (
 refine mz ?_
 have hfree : ∀ y ∈ scope.names, y.2 = .free → ∃ c, X.env.cells.lookup y.1 = some c := fun y hy e => by
   rcases ok.free y hy e with k | k
   · exact I.ok.has _ (.inl k)
   · exact I.ok.has _ (.inr k)
 refine wpAny_comprehension_free (use := use) rfl hs (closure_ok hfree) ok.kind (fun y hy e => by rw [ok.uniq y hy, e])
   (thn (hi pins s σ H _ I h) fun xv s1 hx => thn hx fun itv s2 h2 => ?_)
 obtain ⟨it, fp, tn, J, H2, e, I2, T, st2, f2, q⟩ := h2
 subst e
 refine wpAny_newObj_type (newEnv_comp ?_) (by show 0 ≤ sizeLine; decide)
 generalize hD : s2.heap.objs.size = D
 have hDn : H2 D = none := I2.hok.fresh (Nat.le_of_eq hD)
 obtain ⟨W, ⟨m0, w0⟩, turn⟩ := q D hDn
 generalize hs3 : ({ s2 with heap := s2.heap.push { cls := .type "list", data := .seq ([] : List Value).toArray } } : Shared) = s3
 have I3 : Inv X pins σ (upd H2 D (.lst [])) s3 := by
   rw [← hs3]
   refine I2.laid (t' := s2.toks) (fun b o e => Heap.get?_push_of_some _ e) (Nat.le_of_eq hD) ⟨Nat.zero_le _, [], 0, .nil, ?_⟩
   rw [← hD]
   exact Heap.get?_push_size _ rfl
 have h3 : s3.heap = s2.heap.push { cls := .type "list", data := .seq ([] : List Value).toArray } := by rw [← hs3]
 have sz : ∀ b ∈ fp, b < s2.heap.objs.size := fun b hb => by
   obtain ⟨o, e, _⟩ := T.obj _ _ st2 b hb
   exact Heap.lt_size e
 have f3 : ∀ b ∈ fp, FpOk X pins (upd H2 D (.lst [])) b ∧ b < s3.heap.objs.size := fun b hb => by
   have hlt := sz b hb
   refine ⟨⟨?_, (f2 b hb).2⟩, by rw [h3, Heap.size_push]; exact Nat.lt_succ_of_lt hlt⟩
   rw [upd_ne (by rw [← hD]; exact Nat.ne_of_lt hlt)]
   exact (f2 b hb).1
 have st3 : tn 0 s3.heap := T.keep _ _ _ st2 fun b _ o e => by rw [h3]; exact Heap.get?_push_of_some _ e
 have I4 := block_start I3 ok hN f3
 have pg := hg s3 (upd H2 D (.lst [])) s3.heap.objs.size (cellsFrom (s3.heap.objs.size + 1) scope.names (cloFrom X.env.cells scope.names [])) fp
 have pt := ht s3 (upd H2 D (.lst [])) s3.heap.objs.size (cellsFrom (s3.heap.objs.size + 1) scope.names (cloFrom X.env.cells scope.names [])) fp
 have pe := he s3 (upd H2 D (.lst [])) s3.heap.objs.size (cellsFrom (s3.heap.objs.size + 1) scope.names (cloFrom X.env.cells scope.names [])) fp
 show codeAny _ _ (.compStart (.ListComp elt [⟨tg, iter, ifs, 0⟩] scope pos) 0 (.ref it) (.ref D) (compEnvC scope (cellsFrom (s3.heap.objs.size + 1) scope.names (cloFrom X.env.cells scope.names [])) s3.heap.objs.size X.env)) (compPost (model X.prog X.w) X.A X.xe use Qf (.ref D) s3.heap.objs.size) { s3 with heap := pushCells (s3.heap.push { cls := .type "dict", data := .dict #[] }) scope.names }
 have nfp : ∀ b ∈ fp, (upd H2 D (.lst [])) b = none := fun b hb => (f3 b hb).1.1
 generalize hce : compEnvC scope (cellsFrom (s3.heap.objs.size + 1) scope.names (cloFrom X.env.cells scope.names [])) s3.heap.objs.size X.env = ce at I4 pg pt pe ⊢
 have cL : ce.locals = s3.heap.objs.size := by subst hce; rfl
 generalize hH3 : upd H2 D (.lst []) = H3 at I3 I4 pg pt pe w0 nfp f3
 generalize hs4 : ({ s3 with heap := pushCells (s3.heap.push { cls := .type "dict", data := .dict #[] }) scope.names } : Shared) = s4 at I4 ⊢
 have st4 : tn 0 s4.heap := T.keep _ _ _ st3 fun b _ o e => by rw [← hs4]; exact pushCells_keeps _ _ _ _ (Heap.get?_push_of_some _ e)
 have stat : ∀ {σ' : St} {H' : Hp} {s' : Shared}, Inv (X.blk s3 H3 scope ce fp) [] σ' H' s' → (∀ b ∈ fp, H' b = none) → ∀ b ∈ fp, FpOk (X.blk s3 H3 scope ce fp) [] H' b := fun {σ' H' s'} I' hn b hb =>
   ⟨hn b hb, (I'.ok.exf b hb).1, I'.ok.exfs b hb, .inl hb, fun x c e => (I'.ok.exf b hb).2 x c e, fun p hp => absurd (show p ∈ ([] : List (Addr × Obj)) ++ [] from hp) (by simp)⟩
 have loop : codeAny (model X.prog X.w) X.A (.compLoop (.ListComp elt [⟨tg, iter, ifs, 0⟩] scope pos) 0 (.ref it) (.ref D) ce) (compPost (model X.prog X.w) X.A X.xe use Qf (.ref D) s3.heap.objs.size) s4 := by
   refine compLoop_any (fun n s' => ∃ i H', Inv (X.blk s3 H3 scope ce fp) [] (wipe σ (own.map (·.2))) H' s' ∧ tn i s'.heap ∧ (∀ b ∈ fp, H' b = none) ∧ W i n H') ?_ m0 ⟨0, H3, I4, st4, nfp, w0⟩
   rintro n s5 ⟨i, H5, I5, st5, n5, w5⟩
   rcases turn i n H5 w5 with ⟨stop, qq⟩ | ⟨go, Nx, hNx, step⟩
   · have td := T.done (X.blk s3 H3 scope ce fp) rfl rfl rfl hc i [] s5 _ H5 (fun _ _ => False) I5 (stat I5 n5) st5 stop
     refine thnF td fun r s6 ⟨hr, I6⟩ => ?_
     subst hr
     have I7 : Inv X pins σ H5 s6 := I3.call' (ch := fp) I6.os I6.base I6.hok I6.bare fun b hb => ⟨(f3 b hb).1.2.2.2.1, (f3 b hb).1.2.1, (f3 b hb).1.2.2.2.2.1, (f3 b hb).1.2.2.2.2.2⟩
     have nC : H5 s3.heap.objs.size = none := by
       have z : H5 ce.locals = none := I6.free
       rw [cL] at z
       exact z
     obtain ⟨m, hn, _⟩ := I6.loc
     have hn : s6.heap.Ns ce.locals m := hn
     rw [cL] at hn
     exact hRR D s3.heap.objs.size s6 m H5 I7 qq hn (I3.fpOk (Nat.le_refl _) nC)
   · have ti := T.item (X.blk s3 H3 scope ce fp) rfl rfl rfl hc i [] s5 _ H5 (fun _ _ => False) I5 (stat I5 n5) st5 go
     refine thnF ti fun r s6 ⟨u, hr, h6⟩ => ?_
     subst hr
     refine thnF h6 fun _ s7 ⟨x, H7, I7, r7, y7, st7, n7⟩ => ?_
     have I7' := I7.pinned (stat I7 n7) (T.obj _ _ st7)
     refine thnF (pg _ s7 _ H7 x u _ I7' r7 (step x H7 y7)) fun _ s8 ⟨σ8, H8, I8, hw8, q8⟩ => ?_
     refine thnF (pt _ s8 σ8 H8 _ I8 q8) fun b s9 ⟨H9, I9, q9⟩ => ?_
     have fin : ∀ {s' : Shared} {H' : Hp}, Inv (X.blk s3 H3 scope ce fp) ([] ++ pinsAt fp s7.heap) σ8 H' s' → Nx H' → ∃ m, m < n ∧ ∃ i H', Inv (X.blk s3 H3 scope ce fp) [] (wipe σ (own.map (·.2))) H' s' ∧ tn i s'.heap ∧ (∀ b ∈ fp, H' b = none) ∧ W i m H' := fun {s' H'} I' nx => by
       obtain ⟨m', hm, w'⟩ := hNx H' nx
       have pin' : ∀ b ∈ fp, ∀ o, s7.heap.get? b = some o → s'.heap.get? b = some o ∧ H' b = none := fun b hb o e =>
         let z := I'.pin (b, o) (List.mem_append_right _ (List.mem_append_right _ (mem_pinsAt hb e)))
         ⟨z.1, z.2.1⟩
       have hl : (wipe σ (own.map (·.2))).length = σ8.length := by rw [← hw8, wipe_length]
       refine ⟨m', hm, i + 1, H', (I'.unpinned (pins := [])).weak hl (fun j v e => ?_), T.keep _ _ _ st7 fun b hb o e => (pin' b hb o e).1, fun b hb => ?_, w'⟩
       · rw [← hw8] at e
         exact (wipe_some e).1
       · obtain ⟨o, e, _⟩ := T.obj _ _ st7 b hb
         exact (pin' b hb o e).2
     cases b with
     | false =>
       simp only [Bool.false_eq_true, if_false] at q9 ⊢
       exact fin I9 q9
     | true =>
       simp only [if_true] at q9 ⊢
       refine thnF (pe _ s9 σ8 H9 _ I9 q9) fun z s10 ⟨yv, H10, I10, r10, acc, hD10, hz10, nx⟩ => ?_
       exact app_ok (X := X.blk s3 H3 scope ce fp) I10 hD10 hz10 r10 fun s11 I11 => fin I11 nx
 exact codeAny_compStart_list loop (T.self X.A 0 _ _ _ st4 loop))) only [↓mr]
theorem pe_lc {elt tg iter : Expr} {ifs : List Expr} {scope : Scope} {own : List (Str × Nat)} {pos : Pos} {wi : TI} {g : TG} {tt : TT} {te : TE} (hc : X.calm = true) (hN : X.N.Nodup) (hi : PI X tg iter wi) (ok : BlkOk X.N X.env.scope scope own)
   (hg : ∀ (s : Shared) (H : Hp) (C : Addr) (cl : List (Str × Addr)) (fp : List Addr), PG (X.blk s H scope (compEnvC scope cl C X.env) fp) tg g) (ht : ∀ (s : Shared) (H : Hp) (C : Addr) (cl : List (Str × Addr)) (fp : List Addr), PTs (X.blk s H scope (compEnvC scope cl C X.env) fp) ifs tt)
   (he : ∀ (s : Shared) (H : Hp) (C : Addr) (cl : List (Str × Addr)) (fp : List Addr), PE (X.blk s H scope (compEnvC scope cl C X.env) fp) elt te) (hs : ∀ x, foldedSetIterable iter X.env x = pure x := by intro _; rfl) :
   PE X (.ListComp elt [⟨tg, iter, ifs, 0⟩] scope pos) (tLc wi g tt te (own.map (·.2))) := by
 intro pins s σ H Q I h
 rw [eval_ListComp]
 refine lc_core hc hN I hi ok hg ht he hs h fun D C s' m H' I' q hn f => ⟨m, hn, fun h'' sb => ?_⟩
 obtain ⟨f0, f1, f2, f3, f4, f5⟩ := f
 exact ⟨.ref D, H', I'.turned (t' := s'.toks) (fun b o hb e => (sb.2 b hb).trans e) f0 f1 f3 f4 f5, rfl, q⟩
theorem ps_setLc {i : Nat} {y : Str} {py : Pos} {elt tg iter : Expr} {ifs : List Expr} {scope : Scope} {own : List (Str × Nat)} {pos spos : Pos} {wi : TI} {g : TG} {tt : TT} {te : TE} (hc : X.calm = true) (hN : X.N.Nodup) (hy : X.N[i]? = some y) (hyl : X.env.scope.names.lookup y = some .local)
   (hsw : swapsWith (.ListComp elt [⟨tg, iter, ifs, 0⟩] scope pos) (some (.Name y py)) spos.line X.env = pure true) (hi : PI X tg iter wi) (ok : BlkOk X.N X.env.scope scope own)
   (hg : ∀ (s : Shared) (H : Hp) (C : Addr) (cl : List (Str × Addr)) (fp : List Addr), PG (X.blk s H scope (compEnvC scope cl C X.env) fp) tg g) (ht : ∀ (s : Shared) (H : Hp) (C : Addr) (cl : List (Str × Addr)) (fp : List Addr), PTs (X.blk s H scope (compEnvC scope cl C X.env) fp) ifs tt)
   (he : ∀ (s : Shared) (H : Hp) (C : Addr) (cl : List (Str × Addr)) (fp : List Addr), PE (X.blk s H scope (compEnvC scope cl C X.env) fp) elt te) (hs : ∀ x, foldedSetIterable iter X.env x = pure x := by intro _; rfl) :
   PS X (.Assign [.Name y py] (.ListComp elt [⟨tg, iter, ifs, 0⟩] scope pos) spos) (tAsg (tLc wi g tt te (own.map (·.2))) (gName i)) := by
 refine mq ?_; simp (disch := k_dflt (
 refine mz ?_
 intro pins s σ H D I h
 rw [exec_Assign_Name_used _ _ _ _ hsw]
 refine wpAny_bind (wpAny_standAt (wpAny_bind ?_))
 show wpAny _ X.A (do let _ ← comprehension (.ListComp elt [⟨tg, iter, ifs, 0⟩] scope pos) scope X.env (firstIterPos [⟨tg, iter, ifs, 0⟩] pos) (newList []) false (eval iter X.env) (some (assign (.Name y py) X.env))) _ _ s
 have h : tLc wi g tt te (own.map (·.2)) σ H (fun x H1 => gName i x σ H1 D.nx) := h
 refine wpAny_bind (thn (lc_core (Qf := fun _ s' => SP X pins D .next s') hc hN I hi ok hg ht he hs h fun L C s' m H' I' q hn f => ?_) fun _ s' hq => wpAny_pure (wpAny_pure hq))
 show wpAny _ _ (assign (.Name y py) X.env (.ref L)) _ _ _
 refine wpAny_assign_Name (store_ok2 (v := V.ref L) I' hN hy (.inl hyl) rfl (fun s2 I2 ⟨a, sb, ha⟩ => ?_) (.inr hyl))
 obtain ⟨f0, f1, f2, f3, f4, f5⟩ := f
 have haC : C ≠ a := by
   rcases ha with z | z
   · rw [z]; exact f1
   · exact fun e => f4 y a z e.symm
 refine ⟨m, hn.sameBut sb haC, fun h3 sb3 => ?_⟩
 exact ⟨_, H', I2.turned (t' := s2.toks) (fun b o hb e => (sb3.2 b hb).trans e) f0 f1 f3 f4 f5, q⟩)) only [↓mr]
theorem sw_true {elt : Expr} {gs : List Comprehension} {scope : Scope} {pos py : Pos} {y : Str} {l : Nat} {env : Env} (hk : env.scope.kind = .function) (hy : env.scope.names.lookup y = some .local) (hl : (py.line == pos.line) = true)
   (ha : (scope.names.any fun (n, k) => n == y && (k == .local || k == .cell)) = false) : swapsWith (.ListComp elt gs scope pos) (some (.Name y py)) l env = pure true := by
 have ky : env.kindOf y = some .local := hy
 have hb : env.blockKind = .function := by unfold Env.blockKind; rw [hk]; rfl
 unfold swapsWith
 simp only [hb, ky, ha, Expr.pos, hl]
 rfl
end
theorem lc_range {lo : Int} {n : Nat} {g : TG} {tt : TT} {te : TE} {vs : List Nat} {σ : St} {H1 : Hp} {D : Addr} {Qd : Hp → Prop} (Pv : Nat → Hp → Prop) (h0 : Pv 0 (upd H1 D (.lst [])))
   (hs : ∀ i H, i < n → Pv i H → g (.int (lo + i)) (wipe σ vs) H fun σ2 H2 => wipe σ2 vs = wipe σ vs ∧ tt σ2 H2 fun b H3 =>
     if b = true then te σ2 H3 fun y H4 => ∃ acc, H4 D = some (.lst acc) ∧ acc.length < sizeLine ∧ Pv (i + 1) (upd H4 D (.lst (acc ++ [y]))) else Pv (i + 1) H3) (hd : ∀ H, Pv n H → Qd H) :
   ∃ W : Nat → Nat → Hp → Prop, (∃ m, W 0 m (upd H1 D (.lst []))) ∧ ∀ i m H, W i m H →
     ((Itr lo n).stop i H ∧ Qd H) ∨ ((Itr lo n).go i H ∧ ∃ Nx : Hp → Prop, (∀ H', Nx H' → ∃ m', m' < m ∧ W (i + 1) m' H') ∧ ∀ x H', (Itr lo n).yld i H x H' → g x (wipe σ vs) H' fun σ2 H2 => wipe σ2 vs = wipe σ vs ∧ tt σ2 H2 fun b H3 =>
       if b = true then te σ2 H3 fun y H4 => ∃ acc, H4 D = some (.lst acc) ∧ acc.length < sizeLine ∧ Nx (upd H4 D (.lst (acc ++ [y]))) else Nx H3) := by
 refine ⟨fun i m H => m = n - i ∧ i ≤ n ∧ Pv i H, ⟨n, by simp, Nat.zero_le _, h0⟩, ?_⟩
 rintro i m H ⟨rfl, hi, p⟩
 by_cases hlt : i < n
 · refine .inr ⟨hlt, Pv (i + 1), fun H' p' => ⟨n - (i + 1), by omega, rfl, hlt, p'⟩, fun x H' y => ?_⟩
   obtain ⟨e, y⟩ := y
   subst e y
   exact hs i _ hlt p
 · have e : i = n := by omega
   subst e
   exact .inl ⟨Nat.le_refl _, hd H p⟩
theorem lc_list {K : PySem.W.Frag} {a : Addr} {xs : List V} {g : TG} {tt : TT} {te : TE} {vs : List Nat} {σ : St} {H1 : Hp} {D : Addr} {Qd : Hp → Prop} (Pv : Nat → Hp → Prop) (h0 : Pv 0 (upd H1 D (.lst []))) (hl : ∀ i H, i ≤ xs.length → Pv i H → SqL K H a xs)
   (hs : ∀ i x H, xs[i]? = some x → Pv i H → g x (wipe σ vs) H fun σ2 H2 => wipe σ2 vs = wipe σ vs ∧ tt σ2 H2 fun b H3 =>
     if b = true then te σ2 H3 fun y H4 => ∃ acc, H4 D = some (.lst acc) ∧ acc.length < sizeLine ∧ Pv (i + 1) (upd H4 D (.lst (acc ++ [y]))) else Pv (i + 1) H3) (hd : ∀ H, Pv xs.length H → Qd H) :
   ∃ W : Nat → Nat → Hp → Prop, (∃ m, W 0 m (upd H1 D (.lst []))) ∧ ∀ i m H, W i m H →
     ((Itl K a).stop i H ∧ Qd H) ∨ ((Itl K a).go i H ∧ ∃ Nx : Hp → Prop, (∀ H', Nx H' → ∃ m', m' < m ∧ W (i + 1) m' H') ∧ ∀ x H', (Itl K a).yld i H x H' → g x (wipe σ vs) H' fun σ2 H2 => wipe σ2 vs = wipe σ vs ∧ tt σ2 H2 fun b H3 =>
       if b = true then te σ2 H3 fun y H4 => ∃ acc, H4 D = some (.lst acc) ∧ acc.length < sizeLine ∧ Nx (upd H4 D (.lst (acc ++ [y]))) else Nx H3) := by
 refine mq ?_; simp (disch := k_dflt (
 refine mz ?_
 refine ⟨fun i m H => m = xs.length - i ∧ i ≤ xs.length ∧ Pv i H, ⟨xs.length, by simp, Nat.zero_le _, h0⟩, ?_⟩
 rintro i m H ⟨rfl, hi, p⟩
 have q := hl i H hi p
 by_cases hlt : i < xs.length
 · refine .inr ⟨⟨xs, xs[i], q, by simp [hlt]⟩, Pv (i + 1), fun H' p' => ⟨xs.length - (i + 1), by omega, rfl, hlt, p'⟩, fun x H' y => ?_⟩
   obtain ⟨e, y⟩ := y
   subst e
   exact hs i x _ (y xs q) p
 · have e : i = xs.length := by omega
   subst e
   exact .inl ⟨⟨xs, q, Nat.le_refl _⟩, hd H p⟩)) only [↓mr]
def blkC (N : List Str) (sc scope : Scope) (own : List (Str × Nat)) : Bool :=
 (match scope.kind with | .function => true | _ => false) && (scope.names.all fun y => decide (scope.names.lookup y.1 = some y.2)) && (own.all fun p => decide (N[p.2]? = some p.1)) &&
   (scope.names.all fun y => match y.2 with
     | .free => (match sc.names.lookup y.1 with | some .cell => true | some .free => true | _ => false)
     | .local => decide (y.1 ∈ own.map (·.1)) || decide (y.1 ∉ N)
     | .cell => decide (y.1 ∈ own.map (·.1)) || decide (y.1 ∉ N)
     | _ => true)
theorem blkOk_by {N : List Str} {sc scope : Scope} {own : List (Str × Nat)} (h : blkC N sc scope own = true) : BlkOk N sc scope own := by
 refine mq ?_; simp (disch := k_dflt (
 refine mz ?_
 unfold blkC at h
 simp only [Bool.and_eq_true, List.all_eq_true, decide_eq_true_eq] at h
 obtain ⟨⟨⟨h1, h2⟩, h3⟩, h4⟩ := h
 refine ⟨?_, h2, h3, fun y hy e => ?_, fun y hy e => ?_⟩
 · split at h1
   · assumption
   · cases h1
 · have q := h4 y hy
   simp only [e] at q
   split at q <;> first | exact .inl (by assumption) | exact .inr (by assumption) | cases q
 · have q := h4 y hy
   rcases e with e | e <;> (simp only [e, Bool.or_eq_true, decide_eq_true_eq] at q; exact q))) only [↓mr]
end L2
namespace L2
open PySem PySem.Spec PyProof.Rows
section
variable {κ : Type} [DecidableEq κ]
def valV (kvs : List (κ × V)) (k : κ) : Option V := (kvs.find? fun kv => decide (kv.1 = k)).map (·.2)
theorem valV_pos {p : κ × V} {r : List (κ × V)} {k : κ} (e : p.1 = k) : valV (p :: r) k = some p.2 := by simp [valV, List.find?_cons, e]
theorem valV_neg {p : κ × V} {r : List (κ × V)} {k : κ} (e : ¬ p.1 = k) : valV (p :: r) k = valV r k := by simp [valV, List.find?_cons, e]
theorem RelO.isSome_eq {o : Option V} {u : Option Value} (r : RelO o u) : o.isSome = u.isSome := by
 cases o with
 | none => cases u with
   | none => rfl
   | some _ => exact (show False from r).elim
 | some _ => cases u with
   | none => exact (show False from r).elim
   | some _ => rfl
theorem KV.val {kvs : List (κ × V)} {vs : List (κ × Value)} (r : KV kvs vs) (k : κ) : RelO (valV kvs k) (valueAt vs k) := by
 refine mq ?_; simp (disch := k_dflt (
 refine mz ?_
 unfold KV at r
 induction r with
 | nil => exact True.intro
 | @cons p q ps qs h t ih =>
   obtain ⟨h1, h2⟩ := h
   by_cases e : p.1 = k
   · have e' : q.1 = k := h1.symm.trans e
     have b : valueAt (q :: qs) k = some q.2 := by simp [valueAt, List.find?_cons, e']
     rw [valV_pos e, b]; exact h2
   · have e' : ¬ q.1 = k := fun z => e (h1.trans z)
     have b : valueAt (q :: qs) k = valueAt qs k := by simp [valueAt, List.find?_cons, e']
     rw [valV_neg e, b]; exact ih)) only [↓mr]
end
theorem kV_is {P : Program} {w : World} {k : Key} {u : Value} (r : RelV (kV k) u) : (mixKind P w).is k u = true := by
 cases k with
 | inl i => obtain ⟨t, e⟩ := (show ∃ t, u = Value.int i t from r); subst e; exact mixKind_int P w i t
 | inr x => obtain ⟨t, e⟩ := (show ∃ t, u = Value.str x t from r); subst e; exact mixKind_str P w x t
def NoSl (i : Expr) : Prop := ∀ ov iv, subscripted i false ov iv = operate [ov, iv] (getItem ov iv)
theorem subD_of {prog : Program} {w : World} {A : Around} {E : Value → Shared → Prop} {s : Shared} {env : Env} {value slice : Expr} {pos : Pos} {T id : String} {Q : Value → Shared → Prop}
   (hl : typeLookup (.type T) "__getitem__" = pure (some (.builtin id))) (hs : NoSl slice)
   (h : wpAny (model prog w) A (eval value env) (fun o s₁ => wpAny (model prog w) A (eval slice env) (fun i s₂ => s₂.TypeIs o T ∧ wpAny (model prog w) A (getItem o i) Q E s₂) E s₁) E s) :
   wpAny (model prog w) A (eval (.Subscript value slice pos) env) Q E s := by
 refine mq ?_; simp (disch := k_dflt (
 refine mz ?_
 refine Subscript_ (wpAny_mono h (fun o s₁ h₁ => wpAny_mono h₁ (fun i s₂ h₂ => ?_) fun _ _ x => x) fun _ _ x => x)
 obtain ⟨hT, h₂⟩ := h₂
 unfold subscriptTail
 refine wpAny_bind ?_
 rw [getitemInPython_of_ne hT.not_modules]
 refine wpAny_bind (wpAny_specialOf hT hl ?_)
 have fin : wpAny (model prog w) A (subscripted slice false o i) (fun r s₃ => wpAny (model prog w) A (letTemporaryGo value o r >>= fun _ => pure r) Q E s₃) E s₂ := by
   rw [hs o i]
   exact wpAny_operating (wpAny_mono h₂ (fun r s₃ h₃ => wpAny_bind (wpAny_letTemporaryGo (wpAny_pure h₃))) fun _ _ x => x)
 first
   | exact wpAny_pure (wpAny_bind fin)
   | exact wpAny_bind (wpAny_pure (wpAny_bind fin))
   | exact wpAny_bind fin)) only [↓mr]
end L2
namespace L2
open PySem PySem.Spec PyProof.Rows
theorem boot_reversed5 : bootBuiltins "reversed" = some (.type "reversed") := by decide +kernel
section
variable {X : Cx}
theorem pi_one {tg : Expr} {pins : List (Addr × Obj)} {σ : St} {H : Hp} {s : Shared} {R : It → Hp → Prop} {J : It} {tn : Nat → Heap → Prop} {tk : Nat} (I : Inv X pins σ H s) (o : Obj)
   (T : Turn X.prog X.w X.K tg J [s.heap.objs.size] s.heap.objs.size tn) (st : tn 0 (s.heap.push o)) (q : R J H) : PIE X pins σ tg R (.ref s.heap.objs.size) { s with heap := s.heap.push o, toks := tk } := by
 refine ⟨s.heap.objs.size, [s.heap.objs.size], tn, J, H, rfl, I.kept fun b ob e => Heap.get?_push_of_some _ e, T, st, fun b hb => ?_, q⟩
 have e : b = s.heap.objs.size := by simpa using hb
 subst e
 exact I.fpOk (Nat.le_refl _) (I.hok.fresh (Nat.le_refl _))
end
def Itc (lo c : Int) (n : Nat) : It := ⟨fun i _ => i < n, fun i H x H' => H' = H ∧ x = .int (lo + (i : Nat) * c), fun i _ => n ≤ i⟩
theorem turn_rangeC {P : Program} {w : World} {K : PySem.W.Frag} {tg : Expr} (it : Addr) (lo c : Int) (n : Nat) : Turn P w K tg (Itc lo c n) [it] it (fun i h => IsRangeIter h it (lo + (i : Nat) * c) ((n : Int) - (i : Nat)) c) where
 mem := by simp
 obj := fun i h st b hb => by
   have e : b = it := by simpa using hb
   subst e
   exact ⟨_, st, fun v z => nomatch z⟩
 keep := fun i h h' st k => k it (by simp) _ st
 item := by
   intro X hP hw hK hc i pins s σ H E I hf st hg
   subst hP hw hK
   obtain ⟨f0, f1, f2, f3, f4, f5⟩ := hf it (by simp)
   have W := Walks.range (prog := X.prog) (w := X.w) (I.ok.hd hc) it lo c n
   refine W.item i s _ _ hg st fun v h' tk hv st' kk => ?_
   obtain ⟨t, rfl⟩ := hv
   have I1 : Inv X pins σ H { s with heap := h', toks := tk } := I.turned (fun b o hb e => kk b o (by simpa using hb) e) f0 f1 f3 f4 f5
   exact ⟨_, rfl, go_of (s := { s with heap := h', toks := tk }) (n := "range_iterator") st' rfl rfl (by decide) ⟨.int (lo + (i : Nat) * c), H, I1, ⟨t, rfl⟩, ⟨rfl, rfl⟩, st', fun b hb => (hf b hb).1⟩⟩
 done := by
   intro X hP hw hK hc i pins s σ H E I hf st hg
   subst hP hw hK
   obtain ⟨f0, f1, f2, f3, f4, f5⟩ := hf it (by simp)
   exact wpAny_pyNext_range_end (I.ok.hd hc) st (by have : n ≤ i := hg; omega) fun h' eb => ⟨rfl, I.turned (t' := s.toks) (fun b o hb e => eb b o hb e) f0 f1 f3 f4 f5⟩
 self := fun A i s Q E st h => wpAny_pyIter_rangeiter st h
def RgC (i j c : Int) (n : Nat) : Prop := c ≠ 0 ∧ c.natAbs < 1073741824 ∧ Builtin.Range.small i j c = true ∧ Builtin.Range.rangeSize i j c = n
theorem RgC.neg {i j : Int} (ha : -(2 ^ 62) ≤ i) (ha' : i < 2 ^ 62) (hb : -(2 ^ 62) ≤ j) (hb' : j < 2 ^ 62) : RgC i j (-1) (i - j).toNat :=
 ⟨by decide, by decide, PySem.W.small_down ha ha' hb hb', PySem.W.rangeSize_downNat i j⟩
def iRng3 (ta : TA) : TI := fun σ H R => ta σ H fun vs H1 => ∃ (i j c : Int) (n : Nat), vs = [.int i, .int j, .int c] ∧ RgC i j c n ∧ R (Itc i c n) H1
section
variable {X : Cx} {tg : Expr}
theorem pi_range3 {a b c : Expr} {ta : TA} {p pos : Pos} (hg : Gl X "range") (hm : X.mg "range" = none) (ha : PA X [a, b, c] ta)
   (hs : starEach [a, b, c] X.env = (false, eval a X.env) :: starEach [b, c] X.env := by rfl) (hpl : (backTo pos (starEach [b, c] X.env)).any (·.1) = false := by rfl) :
   PI X tg (.Call (.Name "range" p) [a, b, c] [] pos) (iRng3 ta) := by
 refine mq ?_; simp (disch := k_dflt (
 refine mz ?_
 intro pins s σ H R I h
 refine Call_ (ld_blt I hg hm boot_range (PyProof.Rows.callWith_type1 (thn (ha pos pins s σ H _ I h) fun us s1 ⟨vs, H1, I1, r1, q1⟩ => ?_) hs hpl))
 obtain ⟨i, j, k, n, e, ⟨c0, c1, c2, c3⟩, q⟩ := q1
 subst e
 cases r1 with
 | cons r rr =>
   cases rr with
   | cons r' rr =>
     cases rr with
     | cons r'' rr =>
       cases rr
       obtain ⟨t, rfl⟩ := r
       obtain ⟨t', rfl⟩ := r'
       obtain ⟨t'', rfl⟩ := r''
       refine call_range_3 c0 ?_ (.inl (PyProof.noPylong_small c1))
       refine wpAny_pyIter_range (IsRange.new ..) c2 ?_
       have I2 : Inv X pins σ H1 { s1 with heap := s1.heap.push { cls := .type "range", data := .fields #[.int i t, .int j t', .int k t''] } } := I1.kept (t' := s1.toks) fun b o e => Heap.get?_push_of_some _ e
       refine pi_one (tk := s1.toks) I2 _ (turn_rangeC _ i k n) ?_ q
       have e1 : i + ((0 : Nat) : Int) * k = i := by simp
       have e2 : (n : Int) - ((0 : Nat) : Int) = Builtin.Range.rangeSize i j k := by rw [c3]; simp
       show IsRangeIter _ _ (i + ((0 : Nat) : Int) * k) ((n : Int) - ((0 : Nat) : Int)) k
       rw [e1, e2]
       exact Heap.get?_push_size _ rfl)) only [↓mr]
end
theorem for_rangeC {lo c : Int} {n : Nat} {g : TG} {tb : TS} {D : Ends} {σ : St} {H : Hp} (Pv : Nat → St → Hp → Prop) (h0 : Pv 0 σ H)
   (hs : ∀ i σ H, i < n → Pv i σ H → g (.int (lo + (i : Nat) * c)) σ H fun σ2 H2 => tb { D with nx := Pv (i + 1), ct := Pv (i + 1), bk := D.nx } σ2 H2) (hd : ∀ σ H, Pv n σ H → D.nx σ H) :
   ∃ W : Nat → Nat → St → Hp → Prop, (∃ m, W 0 m σ H) ∧ ∀ i m σ H, W i m σ H →
     ((Itc lo c n).stop i H ∧ D.nx σ H) ∨ ((Itc lo c n).go i H ∧ ∃ N : St → Hp → Prop, (∀ σ' H', N σ' H' → ∃ m', m' < m ∧ W (i + 1) m' σ' H') ∧ ∀ x H', (Itc lo c n).yld i H x H' → g x σ H' fun σ2 H2 => tb { D with nx := N, ct := N, bk := D.nx } σ2 H2) := by
 refine mq ?_; simp (disch := k_dflt (
 refine mz ?_
 refine ⟨fun i m σ H => m = n - i ∧ i ≤ n ∧ Pv i σ H, ⟨n, by simp, Nat.zero_le _, h0⟩, ?_⟩
 rintro i m σ H ⟨rfl, hi, p⟩
 by_cases hlt : i < n
 · refine .inr ⟨hlt, Pv (i + 1), fun σ' H' p' => ⟨n - (i + 1), by omega, rfl, hlt, p'⟩, fun x H' y => ?_⟩
   obtain ⟨e, y⟩ := y
   subst e y
   exact hs i σ _ hlt p
 · have e : i = n := by omega
   subst e
   exact .inl ⟨Nat.le_refl _, hd σ H p⟩)) only [↓mr]
def Itv (K : PySem.W.Frag) (a : Addr) (n : Nat) : It :=
 ⟨fun i H => i < n ∧ ∃ (xs : List V) (x : V), SqL K H a xs ∧ xs[n - 1 - i]? = some x, fun i H x H' => H' = H ∧ ∀ xs, SqL K H a xs → xs[n - 1 - i]? = some x, fun i _ => n ≤ i⟩
theorem turn_rev {P : Program} {w : World} {K : PySem.W.Frag} {tg : Expr} (a it : Addr) (n : Nat) : Turn P w K tg (Itv K a n) [it] it (fun i h => i ≤ n ∧ h.IsRevIter it a ((n : Int) - 1 - (i : Nat))) where
 mem := by simp
 obj := fun i h st b hb => by
   have e : b = it := by simpa using hb
   subst e
   obtain ⟨_, o, e, c, d⟩ := st
   exact ⟨o, e, fun v z => by rw [d] at z; cases z⟩
 keep := fun i h h' st k => ⟨st.1, st.2.at fun o e => k it (by simp) o e⟩
 item := by
   intro X hP hw hK hc i pins s σ H E I hf st hg
   subst hP hw hK
   obtain ⟨hin, xs, x, hq, hx⟩ := hg
   obtain ⟨its, rv, p, hz⟩ := I.list hq
   obtain ⟨u, hu, ru⟩ := rv.get hx
   obtain ⟨f0, f1, f2, f3, f4, f5⟩ := hf it (by simp)
   obtain ⟨_, hit⟩ := st
   have e1 : (n : Int) - 1 - ((i : Nat) : Int) = ((n - 1 - i : Nat) : Int) := by omega
   rw [e1] at hit
   refine wpAny_pyNext_rev_item hit p.isList (x := u) (by simpa using hu) fun h' st' sb => ?_
   have e2 : ((n - 1 - i : Nat) : Int) - 1 = (n : Int) - 1 - ((i + 1 : Nat) : Int) := by omega
   rw [e2] at st'
   have I1 : Inv X pins σ H { s with heap := h' } := I.turned (t' := s.toks) (fun b o hb e => (sb.2 b hb).trans e) f0 f1 f3 f4 f5
   obtain ⟨o, e, c, d⟩ := id st'
   exact ⟨u, rfl, go_of (s := { s with heap := h' }) e c d (by decide) ⟨x, H, I1, ru, ⟨rfl, fun ys hy => by rw [I.list_inj hy hq]; exact hx⟩, ⟨hin, st'⟩, fun b hb => (hf b hb).1⟩⟩
 done := by
   intro X hP hw hK hc i pins s σ H E I hf st hg
   subst hP hw hK
   obtain ⟨f0, f1, f2, f3, f4, f5⟩ := hf it (by simp)
   obtain ⟨hin, hit⟩ := st
   have hge : n ≤ i := hg
   have e1 : (n : Int) - 1 - ((i : Nat) : Int) = -1 := by omega
   rw [e1] at hit
   exact wpAny_pyNext_rev_end (I.ok.hd hc) hit fun h' eb => ⟨rfl, I.turned (t' := s.toks) (fun b o hb e => eb b o hb e) f0 f1 f3 f4 f5⟩
 self := fun A i s Q E st h => wpAny_pyIter_revIter st.2 h
def iRev (K : PySem.W.Frag) (ta : TA) : TI := fun σ H R => ta σ H fun vs H1 => ∃ (a : Addr) (xs : List V), vs = [.ref a] ∧ SqL K H1 a xs ∧ R (Itv K a xs.length) H1
section
variable {X : Cx} {tg : Expr}
theorem pi_reversed {e : Expr} {ta : TA} {p pos : Pos} (hg : Gl X "reversed") (hm : X.mg "reversed" = none) (ha : PA X [e] ta) (hs : starEach [e] X.env = [(false, eval e X.env)] := by rfl) : PI X tg (.Call (.Name "reversed" p) [e] [] pos) (iRev X.K ta) := by
 refine mq ?_; simp (disch := k_dflt (
 refine mz ?_
 intro pins s σ H R I h
 refine Call_ (ld_blt I hg hm boot_reversed5 (PyProof.Rows.callWith_type1 (thn (ha pos pins s σ H _ I h) fun us s1 ⟨vs, H1, I1, r1, q1⟩ => ?_) hs rfl))
 obtain ⟨a, xs, e, hq, q⟩ := q1
 subst e
 cases r1 with
 | cons r rr =>
   cases rr
   cases r
   obtain ⟨its, rv, p', hz⟩ := I1.list hq
   have hl := rv.length
   have e1 : ((its.toArray.size : Nat) : Int) - 1 = (xs.length : Int) - 1 - ((0 : Nat) : Int) := by simp only [List.size_toArray]; omega
   refine call_reversed_list p'.isList (wpAny_pyIter_revIter (l := a) (i := ((its.toArray.size : Nat) : Int) - 1) ⟨_, Heap.get?_push_size _ rfl, rfl, rfl⟩ ?_)
   refine pi_one (tk := s1.toks) I1 _ (turn_rev a _ xs.length) ⟨Nat.zero_le _, ?_⟩ q
   rw [← e1]
   exact ⟨_, Heap.get?_push_size _ rfl, rfl, rfl⟩)) only [↓mr]
end
end L2
section 
end 
section 
end 
namespace L2
open PySem PySem.Spec PyProof.Rows
def inClass (s : Stmt) (j : Nat) : Stmt := match s with
 | .ClassDef _ _ _ body _ _ _ _ _ _ _ => body.getD j (.Pass ⟨0, 0, 0, 0⟩)
 | _ => .Pass ⟨0, 0, 0, 0⟩
def defArgs (s : Stmt) : Arguments := match s with
 | .FunctionDef _ a _ _ _ _ _ _ _ _ => a
 | _ => { posonlyargs := [], args := [], vararg := none, kwonlyargs := [], kw_defaults := [], kwarg := none, defaults := [] }
def defBody (s : Stmt) : List Stmt := match s with
 | .FunctionDef _ _ b _ _ _ _ _ _ _ => b
 | _ => []
def defScope (s : Stmt) : Scope := match s with
 | .FunctionDef _ _ _ _ _ _ sc _ _ _ => sc
 | _ => { kind := .function, names := [], isGenerator := false, isCoroutine := false }
abbrev CX0 : CXT := fun _ _ _ _ _ _ => False
abbrev E0 : XK := fun _ _ _ => False
theorem pass0 {X : Cx} : Passes CX0 X E0 := fun _ _ _ _ _ _ _ h => h.elim
structure Fun (K : PySem.W.Frag) (x qual : Str) (st : Stmt) (f : Addr) (fd : FuncData) : Prop where
 ex : ∃ (oc : Value) (od : Option Addr) (kV doc pm : Value) (an : Option Addr) (cdv ct : Value) (osl : Array (Option Value)),
   fd = PySem.W.fnOf x qual (defArgs st) (defBody st) (defScope st) .none kV doc pm an cdv ct ∧ K.lookup f = some ⟨oc, od, .func fd, osl⟩ ∧ PySem.W.codeIn K cdv qual = true
 kp : PySem.W.keepIn K (.ref f) = true
section
variable {P : Program} {w : World} {K : PySem.W.Frag} {mg : Str → Option Value} {base : Heap}
theorem Fun.ok {x qual : Str} {st : Stmt} {f : Addr} {fd : FuncData} {N ps : List Str} {k : Nat} {sp : Sp} (F : Fun K x qual st f fd) (S : FnScope N ps (defScope st)) (len : ∀ vs H Q E, sp vs H Q E → vs.length = ps.length)
   (hbody : ∀ (cdv : Value) (A : Around) (outer : List Env) (s : Shared) (H : Hp) (vs : List V) (Q : VK) (E : XK), Room k (A.deeper (envOfC qual (defScope st) s.heap.objs.size f cdv)) → sp vs H Q E →
     ∃ t, PSs (cxOf CX0 P w K mg base N qual (defScope st) f cdv A outer s H E).nox (defBody st) t ∧ t { nx := fun _ H' => Q .non H', rt := Q } (start N vs) H) : FnOk P w K mg base CX0 (k + 1) f fd ps sp := by
 obtain ⟨oc, od, kV, doc, pm, an, cdv, ct, osl, rfl, lk, hcd⟩ := F.ex
 refine fn_of lk hcd S len fun A outer s H vs Q E hr hsp => ?_
 obtain ⟨t, h, q⟩ := hbody cdv A outer s H vs Q E hr hsp
 exact ⟨t, h.nox, q⟩
theorem Fun.binds {x qual : Str} {st : Stmt} {f : Addr} {fd : FuncData} {ps : List Str} (F : Fun K x qual st f fd)
   (h : ∀ (kV doc pm : Value) (an : Option Addr) (cdv ct : Value) (us : List Value), us.length = ps.length → bindArgs (PySem.W.fnOf x qual (defArgs st) (defBody st) (defScope st) .none kV doc pm an cdv ct) ⟨us, []⟩ = pure (ps.zip us)) : Binds K fd ps [] := by
 obtain ⟨oc, od, kV, doc, pm, an, cdv, ct, osl, rfl, lk, hcd⟩ := F.ex
 exact .all (h kV doc pm an cdv ct)
theorem fun_mk {x qual : Str} {st : Stmt} {f : Addr} {oc : Value} {od an : Option Addr} {osl : Array (Option Value)} {kV doc pm cdv ct : Value} (l : K.lookup f = some ⟨oc, od, .func (PySem.W.fnOf x qual (defArgs st) (defBody st) (defScope st) .none kV doc pm an cdv ct), osl⟩)
   (c : PySem.W.codeIn K cdv qual = true) (k : PySem.W.keepIn K (.ref f) = true) : Fun K x qual st f (PySem.W.fnOf x qual (defArgs st) (defBody st) (defScope st) .none kV doc pm an cdv ct) := ⟨⟨oc, od, kV, doc, pm, an, cdv, ct, osl, rfl, l, c⟩, k⟩
end
section
variable {X : Cx}
theorem pv (i : Nat) {x : Str} {pos : Pos} (hN : X.N[i]? = some x := by rfl) (hv : Vis X.env.scope x := by first | exact Or.inl rfl | exact Or.inr (Or.inl rfl) | exact Or.inr (Or.inr rfl)) (hd : (x == ("__debug__" : Str)) = false := by decide)
   (hcd : (x == ("__classdict__" : Str)) = false := by decide) : PE X (.Name x pos) (tVar i) := pe_var hN hv hd hcd
end
def Same (H H' : Hp) : Prop := ∀ b o, H b = some o → H' b = some o
theorem Same.refl (H : Hp) : Same H H := fun _ _ h => h
theorem Same.trans {H H1 H2 : Hp} (a : Same H H1) (b : Same H1 H2) : Same H H2 := fun c o h => b c o (a c o h)
theorem Same.free {H H' : Hp} (e : Same H H') {l : Addr} (h : H' l = Option.none) : H l = Option.none := by
 cases q : H l with
 | none => rfl
 | some o =>
   rw [e l o q] at h
   cases h
theorem at_of {xs : List V} {z : Int} {j : Nat} {v : V} (e : z = (j : Int)) (h : xs[j]? = some v) : atI xs z = some v := by
 rw [e]
 exact atI_nat h
theorem Same.made {H H1 : Hp} {x dx C : Addr} (nx : H x = Option.none) (nd : H dx = Option.none) (k : ∀ b o, (upd (upd H dx (.own x)) x (.ins C dx [])) b = some o → b ≠ x → H1 b = some o) : Same H H1 := fun b o e =>
 k b o (by rw [upd_ne (ne_of_none e nx), upd_ne (ne_of_none e nd)]; exact e) (ne_of_none e nx)
end L2
section
namespace L2
open PySem PySem.Spec PyProof.Rows
open PySem.W (WData Codec OpenSpec Well WellAll ReadsW ReadsAllW)
mutual
inductive Dw (K : PySem.W.Frag) (H : Hp) : V → WData → Prop
 | non : Dw K H .non .none
 | bl (b : Bool) : Dw K H (.bl b) (.bool b)
 | int (i : Int) : Dw K H (.int i) (.int i)
 | str (x : Str) : Dw K H (.str x) (.str x)
 | byt (b : Array UInt8) : Dw K H (.byt b) (.bytes b.toList)
 | lst {a : Addr} {xs : List V} {ds : List WData} : SqL K H a xs → DwAll K H xs ds → Dw K H (.ref a) (.list ds)
 | tup {a : Addr} {xs : List V} {ds : List WData} : SqT K H a xs → DwAll K H xs ds → Dw K H (.ref a) (.tuple ds)
inductive DwAll (K : PySem.W.Frag) (H : Hp) : List V → List WData → Prop
 | nil : DwAll K H [] []
 | cons {v : V} {vs : List V} {d : WData} {ds : List WData} : Dw K H v d → DwAll K H vs ds → DwAll K H (v :: vs) (d :: ds)
end
theorem dw_ints {K : PySem.W.Frag} {H : Hp} : ∀ ns : List Int, DwAll K H (ns.map V.int) (ns.map WData.int)
 | [] => .nil
 | n :: r => .cons (.int n) (dw_ints r)
theorem ints_dw {K : PySem.W.Frag} {H : Hp} : ∀ (ns : List Int) (xs : List V), DwAll K H xs (ns.map WData.int) → xs = ns.map V.int
 | [], xs, h => by
   cases h
   rfl
 | n :: r, xs, h => by
   cases h with
   | cons h1 h2 =>
     cases h1
     rw [ints_dw r _ h2] <;> rfl
section
variable {P : Program} {w : World} {K : PySem.W.Frag} {H : Hp} {h : Heap} {R : PySem.W.WRecords} {cl : Str → Option Addr}
theorem sqL_at {a : Addr} {xs : List V} (hok : HOk P w H h) (KX : K.In h) (q : SqL K H a xs) : ∃ (its : List Value) (o : Obj) (n : Nat), Vals xs its ∧ h.get? a = some o ∧ o.cls = .type "list" ∧ o.data = .seq its.toArray n := by
 rcases q with q | ⟨o, its, n, e, hc, _, hd, _, hv⟩
 · obtain ⟨_, its, n, hv, e⟩ := (show ObjOk P w H h a (.lst xs) from q.ok hok)
   exact ⟨its, _, n, hv, e, rfl, rfl⟩
 · exact ⟨its.toList, o, n, hv, KX _ _ e, hc, by simp [hd]⟩
theorem sqT_at {a : Addr} {xs : List V} (hok : HOk P w H h) (KX : K.In h) (q : SqT K H a xs) : ∃ (its : List Value) (o : Obj) (n : Nat), Vals xs its ∧ h.get? a = some o ∧ o.cls = .type "tuple" ∧ o.data = .seq its.toArray n := by
 rcases q with q | ⟨o, its, n, e, hc, hd, _, hv⟩
 · obtain ⟨_, its, hv, o, e, hc, n, hd⟩ := (show ObjOk P w H h a (.tup xs) from q.ok hok)
   exact ⟨its, o, n, hv, e, hc, hd⟩
 · exact ⟨its.toList, o, n, hv, KX _ _ e, hc, by simp [hd]⟩
mutual
theorem Dw.reads (hok : HOk P w H h) (KX : K.In h) : ∀ (d : WData) (v : V) (u : Value), Dw K H v d → RelV v u → ∃ as, ReadsW R cl h u d as
 | .none, _, _, x, r => by
   cases x
   cases r
   exact ⟨_, ReadsW.none⟩
 | .bool b, _, _, x, r => by
   cases x
   cases r
   exact ⟨_, ReadsW.bool b⟩
 | .int i, _, _, x, r => by
   cases x
   obtain ⟨t, rfl⟩ := r
   exact ⟨_, ReadsW.int i t⟩
 | .str s, _, _, x, r => by
   cases x
   obtain ⟨t, rfl⟩ := r
   exact ⟨_, ReadsW.str s t⟩
 | .bytes b, _, _, x, r => by
   cases x
   obtain ⟨t, rfl⟩ := r
   exact ⟨_, ReadsW.bytes _ t⟩
 | .list ds, _, _, x, r => by
   cases x with
   | lst hs ha =>
     cases r
     obtain ⟨its, o, n, rv, ho, hc, hd⟩ := sqL_at hok KX hs
     obtain ⟨as, hr⟩ := Dw.readsAll hok KX ds _ its ha rv
     exact ⟨_, ReadsW.list ho hc hd hr⟩
 | .tuple ds, _, _, x, r => by
   cases x with
   | tup hs ha =>
     cases r
     obtain ⟨its, o, n, rv, ho, hc, hd⟩ := sqT_at hok KX hs
     obtain ⟨as, hr⟩ := Dw.readsAll hok KX ds _ its ha rv
     exact ⟨_, ReadsW.tuple ho hc hd hr⟩
 | .float _, _, _, x, _ => by cases x
 | .dict _, _, _, x, _ => by cases x
 | .bytearray _, _, _, x, _ => by cases x
 | .set _, _, _, x, _ => by cases x
 | .frozenset _, _, _, x, _ => by cases x
 | .obj _ _, _, _, x, _ => by cases x
theorem Dw.readsAll (hok : HOk P w H h) (KX : K.In h) : ∀ (ds : List WData) (vs : List V) (us : List Value), DwAll K H vs ds → Vals vs us → ∃ as, ReadsAllW R cl h us ds as
 | [], _, _, x, r => by
   cases x
   cases r
   exact ⟨_, ReadsAllW.nil⟩
 | d :: ds, _, _, x, r => by
   cases x with
   | cons h1 h2 =>
     cases r with
     | cons r1 r2 =>
       obtain ⟨as, q1⟩ := Dw.reads hok KX d _ _ h1 r1
       obtain ⟨bs, q2⟩ := Dw.readsAll hok KX ds _ _ h2 r2
       exact ⟨_, ReadsAllW.cons q1 q2⟩
end
end
mutual
def plW : WData → Bool
 | .none => true
 | .bool _ => true
 | .int _ => true
 | .str _ => true
 | .bytes _ => true
 | .list xs => plWs xs
 | .tuple xs => plWs xs
 | _ => false
def plWs : List WData → Bool
 | [] => true
 | x :: r => plW x && plWs r
end
theorem plWs_map {α : Type} {f : α → WData} (h : ∀ a, plW (f a) = true) : ∀ l : List α, plWs (l.map f) = true
 | [] => rfl
 | x :: r => by
   show (plW (f x) && plWs (r.map f)) = true
   rw [h x, plWs_map h r] <;> rfl
theorem pl_enc : ∀ (c : Codec) (a : c.denote), plW (c.enc a) = true
 | .unit, _ => rfl
 | .bool, _ => rfl
 | .int _ _, _ => rfl
 | .nat _ _, _ => rfl
 | .u8, _ => rfl
 | .bytes _ _, _ => rfl
 | .text _ _ _ _, _ => rfl
 | .list _ _ c, a => plWs_map (fun x => pl_enc c x) a
 | .pair c d, a => by
   show (plW (c.enc a.1) && (plW (d.enc a.2) && true)) = true
   rw [pl_enc c a.1, pl_enc d a.2] <;> rfl
 | .triple c d e, a => by
   show (plW (c.enc a.1) && (plW (d.enc a.2.1) && (plW (e.enc a.2.2) && true))) = true
   rw [pl_enc c a.1, pl_enc d a.2.1, pl_enc e a.2.2] <;> rfl
 | .option c, none => rfl
 | .option c, some x => pl_enc c x
theorem pl_encAll : ∀ (cs : List Codec) (a : Codec.denoteAll cs), plWs (Codec.encAll cs a) = true
 | [], _ => rfl
 | c :: cs, a => by
   show (plW (c.enc a.1) && plWs (Codec.encAll cs a.2)) = true
   rw [pl_enc c a.1, pl_encAll cs a.2] <;> rfl
theorem weight_mem : ∀ {xs : List WData} {d : WData}, d ∈ xs → d.weight ≤ WData.weightAll xs
 | [], d, h => absurd h (by simp)
 | x :: r, d, h => by
   show d.weight ≤ x.weight + 1 + WData.weightAll r
   rcases List.mem_cons.mp h with e | m
   · rw [e]
     omega
   · have z := weight_mem m
     omega
def toV : Value → V
 | .none => .non
 | .bool b => .bl b
 | .int i _ => .int i
 | .str x _ => .str x
 | .bytes b _ => .byt b
 | .ref a => .ref a
 | _ => .non
def OkU (A : List Addr) : Value → Prop
 | .none => True
 | .bool _ => True
 | .int _ _ => True
 | .str _ _ => True
 | .bytes _ _ => True
 | .ref a => a ∈ A
 | _ => False
theorem OkU.mono {A B : List Addr} (h : ∀ a ∈ A, a ∈ B) : ∀ {u : Value}, OkU A u → OkU B u := fun {u} x => by
 cases u with
 | ref a => exact h a x
 | none => trivial
 | bool b => trivial
 | int i t => trivial
 | str s t => trivial
 | bytes b t => trivial
 | _ => exact False.elim x
theorem relV_toV {A : List Addr} {u : Value} (x : OkU A u) : RelV (toV u) u := by
 cases u with
 | ref a => rfl
 | none => rfl
 | bool b => rfl
 | int i t => exact ⟨t, rfl⟩
 | str s t => exact ⟨t, rfl⟩
 | bytes b t => exact ⟨t, rfl⟩
 | _ => exact False.elim x
theorem vals_toV {A : List Addr} : ∀ {vs : List Value}, (∀ u ∈ vs, OkU A u) → Vals (vs.map toV) vs
 | [], _ => .nil
 | u :: r, h => .cons (relV_toV (h u (List.mem_cons_self ..))) (vals_toV fun x hx => h x (List.mem_cons_of_mem _ hx))
def ArgOb (h : Heap) (A : List Addr) (a : Addr) : Prop := ∃ vs : List Value, vs.length ≤ sizeLine ∧ (∀ u ∈ vs, OkU A u) ∧
 (h.get? a = some { cls := .type "list", data := .seq vs.toArray } ∨ h.get? a = some { cls := .type "tuple", data := .seq vs.toArray })
theorem ArgOb.mono {h : Heap} {A B : List Addr} {a : Addr} (k : ∀ a ∈ A, a ∈ B) (x : ArgOb h A a) : ArgOb h B a := by
 obtain ⟨vs, h1, h2, h3⟩ := x
 exact ⟨vs, h1, fun u hu => (h2 u hu).mono k, h3⟩
theorem wellAll_len {P : Params} {h : Heap} : ∀ {vs : List Value} {ds : List WData}, WellAll P h vs ds → vs.length = ds.length
 | _, _, .nil => rfl
 | _, _, .cons _ b => by
   show _ + 1 = _ + 1
   rw [wellAll_len b]
theorem well_list {P : Params} {h : Heap} {v : Value} {ds : List WData} (x : Well P h v (.list ds)) : ∃ (a : Addr) (vs : List Value), v = .ref a ∧ h.get? a = some { cls := .type "list", data := .seq vs.toArray } ∧ WellAll P h vs ds := by
 cases x with
 | list ho hall => exact ⟨_, _, rfl, ho, hall⟩
theorem well_tuple {P : Params} {h : Heap} {v : Value} {ds : List WData} (x : Well P h v (.tuple ds)) : ∃ (a : Addr) (vs : List Value), v = .ref a ∧ h.get? a = some { cls := .type "tuple", data := .seq vs.toArray } ∧ WellAll P h vs ds := by
 cases x with
 | tuple ho hall => exact ⟨_, _, rfl, ho, hall⟩
theorem well_cons {P : Params} {h : Heap} {us : List Value} {d : WData} {ds : List WData} (x : WellAll P h us (d :: ds)) : ∃ (v : Value) (vs : List Value), us = v :: vs ∧ Well P h v d ∧ WellAll P h vs ds := by
 cases x with
 | cons a b => exact ⟨_, _, rfl, a, b⟩
theorem line_of {n : Nat} (h : n ≤ 1048576) : n ≤ sizeLine := Nat.le_trans h (by decide)
section
variable {P : Params} {h : Heap}
mutual
theorem area_one : ∀ (d : WData) (v : Value), Well P h v d → plW d = true → d.weight ≤ 1048576 → ∃ A : List Addr, OkU A v ∧ ∀ a ∈ A, ArgOb h A a
 | .none, _, x, _, _ => by
   cases x
   exact ⟨[], trivial, fun a m => absurd m (by simp)⟩
 | .bool b, _, x, _, _ => by
   cases x
   exact ⟨[], trivial, fun a m => absurd m (by simp)⟩
 | .int i, _, x, _, _ => by
   cases x
   exact ⟨[], trivial, fun a m => absurd m (by simp)⟩
 | .str s, _, x, _, _ => by
   cases x
   exact ⟨[], trivial, fun a m => absurd m (by simp)⟩
 | .bytes b, _, x, _, _ => by
   cases x
   exact ⟨[], trivial, fun a m => absurd m (by simp)⟩
 | .list ds, _, x, p, z => by
   obtain ⟨a, vs, rfl, ho, hall⟩ := well_list x
   have z2 : WData.weightAll ds ≤ 1048576 := z
   obtain ⟨A, h1, h2⟩ := area_all ds _ hall p fun d hd => Nat.le_trans (weight_mem hd) z2
   have k : ∀ b ∈ A, b ∈ a :: A := fun b hb => List.mem_cons_of_mem _ hb
   refine ⟨a :: A, List.mem_cons_self .., fun b hb => ?_⟩
   rcases List.mem_cons.mp hb with e | m
   · rw [e]
     exact ⟨vs, line_of (by rw [wellAll_len hall]; exact Nat.le_trans (PySem.W.length_le_weightAllW ds) z2), fun u hu => (h1 u hu).mono k, .inl ho⟩
   · exact (h2 b m).mono k
 | .tuple ds, _, x, p, z => by
   obtain ⟨a, vs, rfl, ho, hall⟩ := well_tuple x
   have z2 : WData.weightAll ds ≤ 1048576 := z
   obtain ⟨A, h1, h2⟩ := area_all ds _ hall p fun d hd => Nat.le_trans (weight_mem hd) z2
   have k : ∀ b ∈ A, b ∈ a :: A := fun b hb => List.mem_cons_of_mem _ hb
   refine ⟨a :: A, List.mem_cons_self .., fun b hb => ?_⟩
   rcases List.mem_cons.mp hb with e | m
   · rw [e]
     exact ⟨vs, line_of (by rw [wellAll_len hall]; exact Nat.le_trans (PySem.W.length_le_weightAllW ds) z2), fun u hu => (h1 u hu).mono k, .inr ho⟩
   · exact (h2 b m).mono k
 | .float _, _, _, p, _ => Bool.noConfusion (show false = true from p)
 | .dict _, _, _, p, _ => Bool.noConfusion (show false = true from p)
 | .bytearray _, _, _, p, _ => Bool.noConfusion (show false = true from p)
 | .set _, _, _, p, _ => Bool.noConfusion (show false = true from p)
 | .frozenset _, _, _, p, _ => Bool.noConfusion (show false = true from p)
 | .obj _ _, _, _, p, _ => Bool.noConfusion (show false = true from p)
theorem area_all : ∀ (ds : List WData) (vs : List Value), WellAll P h vs ds → plWs ds = true → (∀ d ∈ ds, d.weight ≤ 1048576) → ∃ A : List Addr, (∀ u ∈ vs, OkU A u) ∧ ∀ a ∈ A, ArgOb h A a
 | [], _, x, _, _ => by
   cases x
   exact ⟨[], fun u m => absurd m (by simp), fun a m => absurd m (by simp)⟩
 | d :: ds, _, x, p, z => by
   obtain ⟨v, vs, rfl, x1, x2⟩ := well_cons x
   have q : plW d = true ∧ plWs ds = true := Bool.and_eq_true_iff.mp p
   obtain ⟨A, a1, a2⟩ := area_one d v x1 q.1 (z d (List.mem_cons_self ..))
   obtain ⟨B, b1, b2⟩ := area_all ds vs x2 q.2 fun e he => z e (List.mem_cons_of_mem _ he)
   have kA : ∀ b ∈ A, b ∈ A ++ B := fun b hb => List.mem_append.mpr (.inl hb)
   have kB : ∀ b ∈ B, b ∈ A ++ B := fun b hb => List.mem_append.mpr (.inr hb)
   refine ⟨A ++ B, fun u hu => ?_, fun b hb => ?_⟩
   · rcases List.mem_cons.mp hu with e | m
     · rw [e]
       exact a1.mono kA
     · exact (b1 u m).mono kB
   · rcases List.mem_append.mp hb with m | m
     · exact (a2 b m).mono kA
     · exact (b2 b m).mono kB
end
end
def hoOf (o : Obj) : Option HO := match o.data with
 | .seq vs _ => if (o.cls == Value.type "list") = true then some (.frz o (.lst (vs.toList.map toV))) else some (.frz o (.tup (vs.toList.map toV)))
 | _ => none
def argH (K : PySem.W.Frag) (h : Heap) (A : List Addr) : Hp := fun b => if b ∈ A then (if (K.lookup b).isNone = true then (h.get? b).bind hoOf else none) else none
def OnlyF (H : Hp) : Prop := ∀ b, H b = none ∨ ∃ o u, H b = some (.frz o u)
theorem hoOf_lst (vs : List Value) : hoOf { cls := .type "list", data := .seq vs.toArray } = some (.frz { cls := .type "list", data := .seq vs.toArray } (.lst (vs.map toV))) := by
 show (if (Value.type "list" == Value.type "list") = true then some (HO.frz { cls := .type "list", data := .seq vs.toArray } (.lst (vs.toArray.toList.map toV))) else some (HO.frz { cls := .type "list", data := .seq vs.toArray } (.tup (vs.toArray.toList.map toV)))) = _
 rw [if_pos (beq_self_eq_true _)]
theorem hoOf_tup (vs : List Value) : hoOf { cls := .type "tuple", data := .seq vs.toArray } = some (.frz { cls := .type "tuple", data := .seq vs.toArray } (.tup (vs.map toV))) := by
 show (if (Value.type "tuple" == Value.type "list") = true then some (HO.frz { cls := .type "tuple", data := .seq vs.toArray } (.lst (vs.toArray.toList.map toV))) else some (HO.frz { cls := .type "tuple", data := .seq vs.toArray } (.tup (vs.toArray.toList.map toV)))) = _
 rw [if_neg (by decide)]
section
variable {P : Program} {w : World} {K : PySem.W.Frag} {h : Heap} {A : List Addr}
theorem argH_at {b : Addr} {o : Obj} (hb : b ∈ A) (hk : K.lookup b = none) (e : h.get? b = some o) : argH K h A b = hoOf o := by
 unfold argH
 rw [if_pos hb, hk, if_pos (show (none : Option Obj).isNone = true from rfl), e] <;> rfl
theorem of_argH {b : Addr} {u : HO} (q : argH K h A b = some u) : b ∈ A ∧ K.lookup b = none := by
 unfold argH at q
 by_cases hb : b ∈ A
 · rw [if_pos hb] at q
   cases hk : K.lookup b with
   | none => exact ⟨hb, rfl⟩
   | some o =>
     rw [hk, if_neg (by simp)] at q
     cases q
 · rw [if_neg hb] at q
   cases q
theorem argH_is (ar : ∀ a ∈ A, ArgOb h A a) {b : Addr} {u : HO} (q : argH K h A b = some u) : K.lookup b = none ∧ ∃ vs : List Value, vs.length ≤ sizeLine ∧ (∀ u ∈ vs, OkU A u) ∧
   ((h.get? b = some { cls := .type "list", data := .seq vs.toArray } ∧ u = .frz { cls := .type "list", data := .seq vs.toArray } (.lst (vs.map toV))) ∨
    (h.get? b = some { cls := .type "tuple", data := .seq vs.toArray } ∧ u = .frz { cls := .type "tuple", data := .seq vs.toArray } (.tup (vs.map toV)))) := by
 obtain ⟨hb, hk⟩ := of_argH q
 obtain ⟨vs, h1, h2, h3⟩ := ar b hb
 refine ⟨hk, vs, h1, h2, ?_⟩
 rcases h3 with e | e
 · rw [argH_at hb hk e, hoOf_lst] at q
   exact .inl ⟨e, (Option.some.inj q).symm⟩
 · rw [argH_at hb hk e, hoOf_tup] at q
   exact .inr ⟨e, (Option.some.inj q).symm⟩
theorem argH_only (ar : ∀ a ∈ A, ArgOb h A a) : OnlyF (argH K h A) := fun b => by
 cases q : argH K h A b with
 | none => exact .inl rfl
 | some u =>
   obtain ⟨_, vs, _, _, ⟨_, e⟩ | ⟨_, e⟩⟩ := argH_is ar q
   · exact .inr ⟨_, _, by rw [e]⟩
   · exact .inr ⟨_, _, by rw [e]⟩
theorem argH_ok (ar : ∀ a ∈ A, ArgOb h A a) : HOk P w (argH K h A) h := fun b u q => by
 obtain ⟨_, vs, h1, h2, ⟨e, rfl⟩ | ⟨e, rfl⟩⟩ := argH_is ar q
 · exact ⟨e, by rw [List.length_map]; exact h1, vs, _, vals_toV h2, e⟩
 · exact ⟨e, by rw [List.length_map]; exact h1, vs, vals_toV h2, _, e, rfl, _, rfl⟩
theorem seq_inj {c c' : Value} {vs us : List Value} (e : (some { cls := c, data := .seq vs.toArray } : Option Obj) = some { cls := c', data := .seq us.toArray }) : c = c' ∧ vs = us := by
 have e1 := Option.some.inj e
 have e2 : c = c' := congrArg Obj.cls e1
 have e3 : Data.seq vs.toArray = Data.seq us.toArray := congrArg Obj.data e1
 injection e3 with e4
 refine ⟨e2, ?_⟩
 have e5 := congrArg Array.toList e4
 simpa using e5
theorem argL (KX : K.In h) (ar : ∀ a ∈ A, ArgOb h A a) {a : Addr} {vs : List Value} (ha : a ∈ A) (e : h.get? a = some { cls := .type "list", data := .seq vs.toArray }) : (∀ u ∈ vs, OkU A u) ∧ SqL K (argH K h A) a (vs.map toV) := by
 refine mq ?_; simp (disch := k_dflt (
 refine mz ?_
 obtain ⟨us, h1, h2, h3⟩ := ar a ha
 have hu : us = vs := by
   rcases h3 with q | q
   · rw [e] at q
     exact (seq_inj q).2.symm
   · rw [e] at q
     exact absurd (Value.type.inj (seq_inj q).1) (by decide)
 subst hu
 refine ⟨h2, ?_⟩
 cases hk : K.lookup a with
 | none => exact .inl (.inr ⟨_, by rw [argH_at ha hk e, hoOf_lst]⟩)
 | some o =>
   have e2 := KX a o hk
   rw [e] at e2
   obtain rfl := Option.some.inj e2
   exact .inr ⟨_, us.toArray, _, hk, rfl, rfl, rfl, by rw [List.size_toArray]; exact h1, by simpa using vals_toV h2⟩)) only [↓mr]
theorem argT (KX : K.In h) (ar : ∀ a ∈ A, ArgOb h A a) {a : Addr} {vs : List Value} (ha : a ∈ A) (e : h.get? a = some { cls := .type "tuple", data := .seq vs.toArray }) : (∀ u ∈ vs, OkU A u) ∧ SqT K (argH K h A) a (vs.map toV) := by
 refine mq ?_; simp (disch := k_dflt (
 refine mz ?_
 obtain ⟨us, h1, h2, h3⟩ := ar a ha
 have hu : us = vs := by
   rcases h3 with q | q
   · rw [e] at q
     exact absurd (Value.type.inj (seq_inj q).1) (by decide)
   · rw [e] at q
     exact (seq_inj q).2.symm
 subst hu
 refine ⟨h2, ?_⟩
 cases hk : K.lookup a with
 | none => exact .inl (.inr ⟨_, by rw [argH_at ha hk e, hoOf_tup]⟩)
 | some o =>
   have e2 := KX a o hk
   rw [e] at e2
   obtain rfl := Option.some.inj e2
   exact .inr ⟨_, us.toArray, _, hk, rfl, rfl, by rw [List.size_toArray]; exact h1, by simpa using vals_toV h2⟩)) only [↓mr]
mutual
theorem dw_one {Pm : Params} (KX : K.In h) (ar : ∀ a ∈ A, ArgOb h A a) : ∀ (d : WData) (v : Value), Well Pm h v d → plW d = true → OkU A v → Dw K (argH K h A) (toV v) d
 | .none, _, x, _, _ => by
   cases x
   exact .non
 | .bool b, _, x, _, _ => by
   cases x
   exact .bl b
 | .int i, _, x, _, _ => by
   cases x
   exact .int i
 | .str s, _, x, _, _ => by
   cases x
   exact .str s
 | .bytes b, _, x, _, _ => by
   cases x
   have z := Dw.byt (K := K) (H := argH K h A) b.toArray
   exact z
 | .list ds, _, x, p, hu => by
   obtain ⟨a, vs, rfl, ho, hall⟩ := well_list x
   obtain ⟨h2, hs⟩ := argL KX ar hu ho
   exact .lst hs (dw_all KX ar ds _ hall p h2)
 | .tuple ds, _, x, p, hu => by
   obtain ⟨a, vs, rfl, ho, hall⟩ := well_tuple x
   obtain ⟨h2, hs⟩ := argT KX ar hu ho
   exact .tup hs (dw_all KX ar ds _ hall p h2)
 | .float _, _, _, p, _ => Bool.noConfusion (show false = true from p)
 | .dict _, _, _, p, _ => Bool.noConfusion (show false = true from p)
 | .bytearray _, _, _, p, _ => Bool.noConfusion (show false = true from p)
 | .set _, _, _, p, _ => Bool.noConfusion (show false = true from p)
 | .frozenset _, _, _, p, _ => Bool.noConfusion (show false = true from p)
 | .obj _ _, _, _, p, _ => Bool.noConfusion (show false = true from p)
theorem dw_all {Pm : Params} (KX : K.In h) (ar : ∀ a ∈ A, ArgOb h A a) : ∀ (ds : List WData) (vs : List Value), WellAll Pm h vs ds → plWs ds = true → (∀ u ∈ vs, OkU A u) → DwAll K (argH K h A) (vs.map toV) ds
 | [], _, x, _, _ => by
   cases x
   exact .nil
 | d :: ds, _, x, p, hu => by
   obtain ⟨v, vs, rfl, x1, x2⟩ := well_cons x
   have q : plW d = true ∧ plWs ds = true := Bool.and_eq_true_iff.mp p
   exact .cons (dw_one KX ar d v x1 q.1 (hu _ (List.mem_cons_self ..))) (dw_all KX ar ds vs x2 q.2 fun u m => hu u (List.mem_cons_of_mem _ m))
end
end
theorem spec_call {P : Program} {w : World} {K : PySem.W.Frag} {mg mb : Str → Option Value} {CX : CXT} {k : Nat} {fa : Addr} {fd : FuncData} {ps : List Str} {sp : Sp} {s₁ : Shared} {vals : List Value} {ds : List WData} {R : PySem.W.WRecords} {cl : Str → Option Addr} {d0 : WData}
   (KX : K.In s₁.heap) (hns : s₁.heap.Ns mainGlobals mg) (hb : s₁.heap.Ns builtinsNs mb) (hbb : ∀ x : Str, x ≠ "__name__" → mb x = bootBuiltins x) (hlim : s₁.heap.NoLimit) (hg : s₁.gens = #[])
   (hwl : WellAll w.params s₁.heap vals ds) (hpl : plWs ds = true) (hwt : ∀ d ∈ ds, d.weight ≤ 1048576) (hr : Room k callerA)
   (F : ∀ base : Heap, K.In base → base.Ns mainGlobals mg → FnOk P w K mg base CX k fa fd ps sp) (hbind : ∀ (s : Shared) (us : List Value), us.length = ps.length → BindsTo s fd ⟨us, []⟩ (ps.zip us)) (hlen : ds.length = ps.length)
   (hsp : ∀ (H : Hp) (xs : List V), OnlyF H → DwAll K H xs ds → sp xs H (fun v H' => Dw K H' v d0) fun _ _ _ => False)
   (hCX : ∀ H e s', CX [] H s₁ (fun _ _ _ => False) e s' → False) :
   codeAny (model P w) callerA (.call (.ref fa) ⟨vals, []⟩) (fun r s' => ∃ u as, r = .ok (.ret u) ∧ ReadsW R cl s'.heap u d0 as ∧ OldK s₁.heap s'.heap ∧ s'.os = s₁.os ∧ AllBare s'.gens) s₁ := by
 refine mq ?_; simp (disch := k_dflt (
 refine mz ?_
 obtain ⟨A, ho, ar⟩ := area_all ds vals hwl hpl hwt
 have hO : OnlyF (argH K s₁.heap A) := argH_only ar
 have hok : HOk P w (argH K s₁.heap A) s₁.heap := argH_ok ar
 have hS := dw_all KX ar ds vals hwl hpl ho
 have hV := vals_toV ho
 have hK : ∀ b u, argH K s₁.heap A b = some u → K.lookup b = none := fun b u q => (argH_is ar q).1
 have noA : ∀ {b : Addr} {o : Obj} {es : Array DictEntry} {ep : Nat}, s₁.heap.get? b = some o → o.data = .dict es ep → argH K s₁.heap A b = none := fun {b o es ep} e d => by
   cases q : argH K s₁.heap A b with
   | none => rfl
   | some u =>
     obtain ⟨_, vs, _, _, ⟨e2, _⟩ | ⟨e2, _⟩⟩ := argH_is ar q
     · rw [e2] at e
       cases e
       have d' : Data.seq vs.toArray _ = Data.dict es ep := d
       cases d'
     · rw [e2] at e
       cases e
       have d' : Data.seq vs.toArray _ = Data.dict es ep := d
       cases d'
 generalize argH K s₁.heap A = H at hO hok hS hK noA
 have base_of : ∀ {b : Addr} {o : Obj}, s₁.heap.get? b = some o → H b = none → (hidT s₁.heap H).get? b = some o := fun e n => hidT_get e n
 have nsK : ∀ {b : Addr} {m : Str → Option Value}, s₁.heap.Ns b m → (hidT s₁.heap H).Ns b m := fun {b m} ⟨o, es, ep, e, d, r⟩ => ⟨o, es, ep, base_of e (noA e d), d, r⟩
 have nK : ∀ b o, K.lookup b = some o → H b = none := fun b o e => by
   cases q : H b with
   | none => rfl
   | some u =>
     rw [hK b u q] at e
     cases e
 have hKb : K.In (hidT s₁.heap H) := fun b o e => base_of (KX b o e) (nK b o e)
 have hM : Mod K mg (hidT s₁.heap H) := ⟨hKb, nsK hns, ⟨mb, nsK hb, hbb⟩, let ⟨mc, h1, h2⟩ := hlim; ⟨mc, nsK h1, h2⟩⟩
 have e0 : Env0 P w K mg (hidT s₁.heap H) callerA [] s₁ H := ⟨rfl, hM, fun b o e => of_hidT e, Nat.le_of_eq (hidT_size _ _), trivial, fun b hb => absurd (show b ∈ ([] : List Addr) from hb) (by simp), hok, .of_eq hg⟩
 have hl : vals.length = ps.length := by rw [wellAll_len hwl]; exact hlen
 refine codeAny_mono ((F _ hKb (nsK hns)).run callerA [] s₁ H ⟨vals, []⟩ vals (vals.map toV) _ _ hr e0 (hbind s₁ vals hl) hV (hsp H _ hO hS)) fun r s' x => ?_
 cases r with
 | error e => exact (hCX H e s' x).elim
 | ok fl =>
   cases fl with
   | next => exact False.elim x
   | brk => exact False.elim x
   | cont => exact False.elim x
   | ret u =>
     obtain ⟨v, H', os, bare, un, hok', r', q⟩ := x
     have kept : ∀ b o, s₁.heap.get? b = some o → s'.heap.get? b = some o := fun b o e => by
       cases q2 : H b with
       | none => exact un.keep b o e q2 (by intro z; exact absurd (show b ∈ ([] : List Addr) from z) (by simp)) (by simp)
       | some u2 =>
         rcases hO b with z | ⟨ob, u3, z⟩
         · rw [q2] at z
           cases z
         · have z2 := un.frzs b ob _ z
           obtain ⟨e1, _⟩ := hok b _ z
           obtain ⟨e2, _⟩ := hok' b _ z2
           rw [e] at e1
           cases e1
           exact e2
     have KX' : K.In s'.heap := fun b o e => kept b o (KX b o e)
     obtain ⟨as, hrd⟩ := Dw.reads (R := R) (cl := cl) hok' KX' d0 v u q r'
     exact ⟨u, as, rfl, hrd, OldK.of_keep kept, os, bare⟩)) only [↓mr]
theorem layable_weight {ds : List WData} (h : WData.layableAll ds = true) : ∀ d ∈ ds, d.weight ≤ 1048576 := fun d hd =>
 (PySem.W.layableW_iff.mp (List.all_eq_true.mp h d hd)).2.2
theorem encAll_len : ∀ (cs : List Codec) (a : Codec.denoteAll cs), (Codec.encAll cs a).length = cs.length
 | [], _ => rfl
 | c :: cs, a => by
   show (Codec.encAll cs a.2).length + 1 = cs.length + 1
   rw [encAll_len cs a.2]
theorem walk_spec {r : OpenSpec} {k : Nat} {q : Program} {loose : List Str} {XP : (Str → Option Value) → Heap → Prop} {YP : World → Heap → Prop} {d : DefRec} {K : Params → PySem.W.Frag} {CX : World → CXT} {ps : List Str} {sp : World → Sp}
   (hwell : r.wellSaid = true) (hdf : d.params.defaults = []) (hlen : r.args.length = ps.length) (hr : Room k callerA)
   (hY : ∀ (w : World) (h : Heap), YP w h → (K w.params).In h)
   (F : ∀ (w : World) (mg : Str → Option Value) (fa : Addr) (h : Heap), YP w h → (K w.params).In h → h.Ns mainGlobals mg → mg d.name = some (.ref fa) →
     ∃ fd : FuncData, (∀ (s : Shared) (us : List Value), us.length = ps.length → BindsTo s fd ⟨us, []⟩ (ps.zip us)) ∧
       ∀ base : Heap, (K w.params).In base → base.Ns mainGlobals mg → FnOk r.prog w (K w.params) mg base (CX w) k fa fd ps (sp w))
   (hsp : ∀ (w : World) (H : Hp) (xs : List V) (a : Codec.denoteAll r.args), OnlyF H → Codec.withinAll r.args a = true → Codec.app r.args r.asked a = true → DwAll (K w.params) H xs (Codec.encAll r.args a) →
     sp w xs H (fun v H' => Dw (K w.params) H' v (r.ret.enc (Codec.app r.args r.f a))) fun _ _ _ => False)
   (hCX : ∀ (w : World) (H : Hp) (s : Shared) (e : Value) (s' : Shared), CX w [] H s (fun _ _ _ => False) e s' → False) :
   PySem.W.WalkOS q loose XP YP r d [] (fun f vs => PySem.call f vs) := by
 refine mq ?_; simp (disch := k_dflt (
 refine mz ?_
 intro w s_0 s₁ mg mb G Y fa o pm cd doc dV kV ho hd hcd hD hmg hg args vals as hpre hlay hrd hwl hlo
 obtain ⟨a, e1, e2⟩ := PySem.W.os_pre_some hpre
 obtain ⟨e3, hwi⟩ := Codec.encAll_of_decAll r.args args a e1
 subst e3
 have KX := hY w _ Y
 obtain ⟨fd, hb, hF⟩ := F w mg fa _ Y KX G.T.g hmg
 refine PySem.W.enter_call (codeAny_mono (spec_call (R := []) (cl := classAt s_0.heap) (d0 := r.ret.enc (Codec.app r.args r.f a)) KX G.T.g G.T.b G.T.builtins G.T.nolimit hg hwl (pl_encAll _ _) (layable_weight hlay) hr hF hb (by rw [encAll_len]; exact hlen)
   (fun H xs hO hS => hsp w H xs a hO hwi e2 hS) fun H e s' => hCX w H s₁ e s') fun r' s' hq => ?_)
 obtain ⟨u, as', rfl, h1, h2, h3, h4⟩ := hq
 exact ⟨.inl ⟨u, _, as', rfl, fun _ => rfl, h1, (OpenSpec.post_iff hwell hwi _ _).mpr rfl, fun z => Bool.noConfusion (show false = true from z)⟩, h2, h3, h4⟩)) only [↓mr]
theorem walk_specK {r : OpenSpec} {k : Nat} {q : Program} {loose : List Str} {XP : (Str → Option Value) → Heap → Prop} {YP : World → Heap → Prop} {d : DefRec} {K : Params → PySem.W.Frag} {CX : CXT} {ps : List Str} {sp : PySem.W.Frag → Sp}
   (hwell : r.wellSaid = true) (hdf : d.params.defaults = []) (hlen : r.args.length = ps.length) (hr : Room k callerA)
   (hY : ∀ (w : World) (h : Heap), YP w h → (K w.params).In h)
   (F : ∀ (w : World) (mg : Str → Option Value) (fa : Addr) (h : Heap), YP w h → (K w.params).In h → h.Ns mainGlobals mg → mg d.name = some (.ref fa) →
     ∃ fd : FuncData, (∀ (s : Shared) (us : List Value), us.length = ps.length → BindsTo s fd ⟨us, []⟩ (ps.zip us)) ∧
       ∀ base : Heap, (K w.params).In base → base.Ns mainGlobals mg → FnOk r.prog w (K w.params) mg base CX k fa fd ps (sp (K w.params)))
   (hsp : ∀ (K : PySem.W.Frag) (H : Hp) (xs : List V) (a : Codec.denoteAll r.args), OnlyF H → Codec.withinAll r.args a = true → Codec.app r.args r.asked a = true → DwAll K H xs (Codec.encAll r.args a) →
     sp K xs H (fun v H' => Dw K H' v (r.ret.enc (Codec.app r.args r.f a))) fun _ _ _ => False)
   (hCX : ∀ (H : Hp) (s : Shared) (e : Value) (s' : Shared), CX [] H s (fun _ _ _ => False) e s' → False) :
   PySem.W.WalkOS q loose XP YP r d [] (fun f vs => PySem.call f vs) :=
 walk_spec (K := K) (CX := fun _ => CX) (sp := fun w => sp (K w.params)) hwell hdf hlen hr hY F (fun w H xs a h1 h2 h3 h4 => hsp (K w.params) H xs a h1 h2 h3 h4) fun _ H s e s' => hCX H s e s'
end L2
end

namespace L2
open PySem PySem.Spec PyProof.Rows
def KTup (K : PySem.W.Frag) (a : Addr) (xs : List V) : Prop :=
 ∃ (o : Obj) (its : Array Value) (n : Nat), K.lookup a = some o ∧ o.cls = .type "tuple" ∧ o.data = .seq its n ∧ its.size ≤ sizeLine ∧ Vals xs its.toList
theorem KTup.sq {K : PySem.W.Frag} {a : Addr} {xs : List V} (h : KTup K a xs) (H : Hp) : SqT K H a xs := .inr h
inductive KTups (K : PySem.W.Frag) : List Addr → List (List V) → Prop
 | nil : KTups K [] []
 | cons {a : Addr} {xs : List V} {as : List Addr} {xss : List (List V)} : KTup K a xs → KTups K as xss → KTups K (a :: as) (xs :: xss)
def KDic (K : PySem.W.Frag) (a : Addr) (kvs : List (Int × V)) : Prop :=
 (a == sysModules) = false ∧ (kvs.map (·.1)).Nodup ∧ ∃ (o : Obj) (es : Array DictEntry) (ep : Nat), K.lookup a = some o ∧ o.ExactDict ∧ o.data = .dict es ep ∧
   Paired (fun (p : Int × V) (e : DictEntry) => (∃ t, e.key = .int p.1 t) ∧ e.hash = hashInt p.1 ∧ RelV p.2 e.val) kvs es.toList
def keyed (kvs : List (Int × V)) : List (Key × V) := kvs.map fun p => (Sum.inl p.1, p.2)
theorem valV_keyed (i : Int) : ∀ kvs : List (Int × V), valV (keyed kvs) (Sum.inl i) = kvs.lookup i
 | [] => rfl
 | (j, v) :: r => by
   have ih := valV_keyed i r
   by_cases e : j = i
   · subst e
     rw [show keyed ((j, v) :: r) = (Sum.inl j, v) :: keyed r from rfl, valV_pos rfl]
     simp [List.lookup]
   · rw [show keyed ((j, v) :: r) = (Sum.inl j, v) :: keyed r from rfl, valV_neg (by intro q; exact e (Sum.inl.inj q)), ih]
     have : (i == j) = false := beq_eq_false_iff_ne.mpr fun q => e q.symm
     simp [List.lookup, this]
theorem kdic_pairs {P : Program} {w : World} : ∀ {kvs : List (Int × V)} {es : List DictEntry}, Paired (fun (p : Int × V) (e : DictEntry) => (∃ t, e.key = .int p.1 t) ∧ e.hash = hashInt p.1 ∧ RelV p.2 e.val) kvs es →
   ∃ vs : List (Key × Value), KV (keyed kvs) vs ∧ Pairs (mixKind P w) es vs ∧ (∀ e ∈ es, ∃ k, (mixKind P w).is k e.key = true ∧ e.hash = (mixKind P w).hash k) ∧ vs.map (·.1) = kvs.map fun p => Sum.inl p.1
 | _, _, .nil => ⟨[], .nil, .nil, (fun e h => nomatch h), rfl⟩
 | _, _, .cons (a := p) (b := e) ⟨⟨t, hk⟩, hh, hv⟩ r => by
   obtain ⟨vs, h1, h2, h3, h4⟩ := kdic_pairs (P := P) (w := w) r
   have hi : (mixKind P w).is (Sum.inl p.1) e.key = true := by rw [hk]; exact mixKind_int P w p.1 t
   refine ⟨(Sum.inl p.1, e.val) :: vs, .cons ⟨rfl, hv⟩ h1, .cons hi rfl h2, fun e' he => ?_, by simp [h4]⟩
   rcases List.mem_cons.mp he with q | q
   · subst q
     exact ⟨Sum.inl p.1, hi, hh⟩
   · exact h3 e' q
theorem nodup_inl : ∀ {l : List Int}, l.Nodup → (l.map (Sum.inl : Int → Key)).Nodup
 | [], _ => List.nodup_nil
 | a :: r, h => by
   obtain ⟨h1, h2⟩ := List.nodup_cons.mp h
   rw [List.map_cons]
   refine List.nodup_cons.mpr ⟨fun m => h1 ?_, nodup_inl h2⟩
   obtain ⟨b, hb, e⟩ := List.mem_map.mp m
   cases Sum.inl.inj e
   exact hb
theorem KDic.dict {P : Program} {w : World} {K : PySem.W.Frag} {h : Heap} {a : Addr} {kvs : List (Int × V)} (d : KDic K a kvs) (kin : K.In h) : ∃ vs, KV (keyed kvs) vs ∧ h.DictOf (mixKind P w) a vs := by
 obtain ⟨_, nd, o, es, ep, hl, he, hd, pr⟩ := d
 obtain ⟨vs, h1, h2, h3, h4⟩ := kdic_pairs (P := P) (w := w) pr
 refine ⟨vs, h1, o, es, ep, kin _ _ hl, he, hd, fun e m => h3 e (by simpa using m), h2, ?_⟩
 rw [h4]
 have := nodup_inl nd
 rw [List.map_map] at this
 exact this
section
variable {X : Cx} {a b : Expr} {ta tb : TE} {pos : Pos}
def tKGet (K : PySem.W.Frag) (td ty : TE) : TE := fun σ H Q => td σ H fun x H1 => ty σ H1 fun y H2 => ∃ a kvs i v, x = .ref a ∧ y = .int i ∧ KDic K a kvs ∧ kvs.lookup i = some v ∧ Q v H2
theorem pe_kget (ho : PE X a ta) (hi : PE X b tb) (hs : NoSl b) : PE X (.Subscript a b pos) (tKGet X.K ta tb) := by
 refine mq ?_; simp (disch := k_dflt (
 refine mz ?_
 intro pins s σ H Q I h
 refine subD_of (T := "dict") PySem.F.slot_dict_getitem.lookup hs (thn (ho pins s σ H _ I h) fun u s1 ⟨x, H1, I1, rx, q1⟩ => thn (hi pins s1 σ H1 _ I1 q1) fun v s2 ⟨y, H2, I2, ry, q2⟩ => ?_)
 obtain ⟨p, kvs, i, z, rfl, rfl, d, l, q⟩ := q2
 cases rx
 obtain ⟨vs, rel, dd⟩ := d.dict (P := X.prog) (w := X.w) I2.kIn
 obtain ⟨w', hw, rw'⟩ := RelO.some_of (v := z) (o := valueAt vs (Sum.inl i)) (by rw [← l, ← valV_keyed]; exact rel.val _)
 exact ⟨dd.typeIs, wpAny_getItem_of (kV_is (k := Sum.inl i) ry) dd.mapOf hw ⟨z, H2, I2.tok _, rw', q⟩⟩)) only [↓mr]
def rKIn (K : PySem.W.Frag) (neg : Bool) : R2 := fun x y H Q => ∃ a kvs i, x = .int i ∧ y = .ref a ∧ KDic K a kvs ∧ Q (.bl (if neg then !(kvs.lookup i).isSome else (kvs.lookup i).isSome)) H
theorem op_knotin : OpR X (compareOp .NotIn) (rKIn X.K true) := by
 intro pins s σ H x y v u Q I rx ry h
 obtain ⟨p, kvs, i, rfl, rfl, d, q⟩ := h
 cases ry
 obtain ⟨vs, rel, dd⟩ := d.dict (P := X.prog) (w := X.w) I.kIn
 refine wpAny_notIn_of (kV_is (k := Sum.inl i) rx) d.1 dd.mapOf ?_
 rw [← (rel.val (Sum.inl i)).isSome_eq, valV_keyed]
 exact ⟨.bl _, H, I.tok _, rfl, q⟩
theorem pe_gint {x : Str} {n : Int} {pos : Pos} (hg : Gl X x) (hm : ∃ t, X.mg x = some (.int n t)) (hd : (x == ("__debug__" : Str)) = false := by decide) : PE X (.Name x pos) (tC (.int n)) := by
 obtain ⟨t, hm⟩ := hm
 exact pe_glob hg hm ⟨t, rfl⟩ hd
theorem pt_yes {j : Nat} {pos : Pos} : PT X (.Constant (.bool true) j pos) tYes := fun pins s σ H Q I h => pt_val pe_bl (fun _ => rfl) pins s σ H Q I ⟨true, rfl, h⟩
def rLen (K : PySem.W.Frag) : List V → Hp → VK → Prop := fun xs H Q => ∃ p ys, xs = [.ref p] ∧ (SqL K H p ys ∨ SqT K H p ys) ∧ Q (.int ys.length) H
def rMax2 : List V → Hp → VK → Prop := fun xs H Q => ∃ i j, xs = [.int i, .int j] ∧ Q (.int (if j > i then j else i)) H
def rMin2 : List V → Hp → VK → Prop := fun xs H Q => ∃ i j, xs = [.int i, .int j] ∧ Q (.int (if j < i then j else i)) H
theorem get_list : PGet X (rIxL X.K) := by
 refine mq ?_; simp (disch := k_dflt (
 refine mz ?_
 intro pins s σ H o i ov iv Q I ro ri h
 obtain ⟨p, xs, k, z, rfl, rfl, hq, he, q⟩ := h
 cases ro
 obtain ⟨t, rfl⟩ := ri
 obtain ⟨its, r, pl, hz⟩ := I.list hq
 obtain ⟨j, h1, h2, h3, h4, h5⟩ := atI_get he
 obtain ⟨w, ew, rw'⟩ := r.get h2
 have hl := r.length
 have hn := line63
 have fin : EP X pins σ Q w s := ⟨z, H, I, rw', q⟩
 by_cases h0 : 0 ≤ k
 · have hj : k.toNat = j := by
     rw [seqIndex_of h0 h5] at h1
     exact Option.some.inj h1
   exact wpAny_getItem_list pl.isList h0 (by omega) (by rw [hj]; simpa using ew) fin
 · have hj : (k + (its.toArray.size : Int)).toNat = j := by
     rw [seqIndex_neg (by omega) h4] at h1
     rw [List.size_toArray, ← hl]
     exact Option.some.inj h1
   exact wpAny_getItem_list_neg pl.isList (by omega) (by rw [List.size_toArray] <;> omega) (by omega) (by rw [hj]; simpa using ew) fin)) only [↓mr]
end
section
variable {X : Cx} {a b : Expr} {ta tb : TE} {pos : Pos}
theorem OpR.imp {f : Value → Value → Sem Value} {r r' : R2} (h : OpR X f r) (i : ∀ x y H Q, r' x y H Q → r x y H Q) : OpR X f r' :=
 fun pins s σ H x y v u Q I rx ry q => h pins s σ H x y v u Q I rx ry (i x y H Q q)
theorem IxR.imp {r r' : R2} (h : IxR X r) (i : ∀ x y H Q, r' x y H Q → r x y H Q) : IxR X r' :=
 fun value slice pins s σ H x y v u Q I rx ry q => h value slice pins s σ H x y v u Q I rx ry (i x y H Q q)
theorem CallR.imp {f : Value} {r r' : List V → Hp → VK → Prop} (h : CallR X f r) (i : ∀ xs H Q, r' xs H Q → r xs H Q) : CallR X f r' :=
 fun pins s σ H xs us Q I rx q => h pins s σ H xs us Q I rx (i xs H Q q)
theorem SlR.imp {r r' : V → Option Int → Option Int → Hp → VK → Prop} (h : SlR X r) (i : ∀ x lo hi H Q, r' x lo hi H Q → r x lo hi H Q) : SlR X r' :=
 fun pins s σ H x v vl vu lo hi sl Q I rx hs pl pu q => h pins s σ H x v vl vu lo hi sl Q I rx hs pl pu (i x lo hi H Q q)
theorem PGet.imp {r r' : V → V → Hp → VK → Prop} (h : PGet X r) (i : ∀ x y H Q, r' x y H Q → r x y H Q) : PGet X r' :=
 fun pins s σ H x y v u Q I rx ry q => h pins s σ H x y v u Q I rx ry (i x y H Q q)
def rIxH : R2 := fun x y H Q => ∃ p i xs v, x = .ref p ∧ y = .int i ∧ H p = some (.lst xs) ∧ atI xs i = some v ∧ Q v H
theorem ix_h : IxR X rIxH := ix_list.imp fun x y H Q ⟨p, i, xs, v, h1, h2, h3, h4, q⟩ => ⟨p, xs, i, v, h1, h2, SqL.of h3, h4, q⟩
theorem get_h : PGet X rIxH := get_list.imp fun x y H Q ⟨p, i, xs, v, h1, h2, h3, h4, q⟩ => ⟨p, xs, i, v, h1, h2, SqL.of h3, h4, q⟩
def rIxTab (a : Addr) (xs : List V) : R2 := fun x y H Q => ∃ i v, x = .ref a ∧ y = .int i ∧ atI xs i = some v ∧ Q v H
theorem ix_tab {p : Addr} {xs : List V} (t : KTup X.K p xs) : IxR X (rIxTab p xs) := ix_tup.imp fun x y H Q ⟨i, v, h1, h2, h4, q⟩ => ⟨p, xs, i, v, h1, h2, t.sq H, h4, q⟩
def rLenH : List V → Hp → VK → Prop := fun vs H Q => ∃ p xs, vs = [.ref p] ∧ H p = some (.lst xs) ∧ Q (.int xs.length) H
theorem len_h : CallR X (.builtin "len") rLenH := call_len_seq.imp fun vs H Q ⟨p, xs, h1, h2, q⟩ => ⟨p, xs, h1, .inl (SqL.of h2), q⟩
def rLenTab (a : Addr) (n : Nat) : List V → Hp → VK → Prop := fun vs H Q => vs = [.ref a] ∧ Q (.int n) H
theorem len_tab {p : Addr} {xs : List V} (t : KTup X.K p xs) : CallR X (.builtin "len") (rLenTab p xs.length) := call_len_seq.imp fun vs H Q ⟨h1, q⟩ => ⟨p, xs, h1, .inr (t.sq H), q⟩
def rListOfH : List V → Hp → VK → Prop := fun vs H Q => ∃ p xs, vs = [.ref p] ∧ H p = some (.lst xs) ∧ ∀ l, H l = none → Q (.ref l) (upd H l (.lst xs))
theorem listof_h : CallR X (.type "list") rListOfH := call_list_of.imp fun vs H Q ⟨p, xs, h1, h2, q⟩ => ⟨p, xs, h1, .inl (SqL.of h2), q⟩
def rAllH : List V → Hp → VK → Prop := fun vs H Q => ∃ (a : Addr) (bs : List Bool), vs = [V.ref a] ∧ H a = some (.lst (bs.map V.bl)) ∧ Q (.bl (bs.all id)) H
theorem all_h (hc : X.calm = true) : CallR X (.builtin "all") rAllH := (cr_all hc).imp fun vs H Q ⟨p, bs, h1, h2, q⟩ => ⟨p, bs, h1, SqL.of h2, q⟩
def rSlH : V → Option Int → Option Int → Hp → VK → Prop := fun x lo hi H Q => ∃ a xs, x = .ref a ∧ H a = some (.lst xs) ∧ ∀ p, H p = none → Q (.ref p) (upd H p (.lst (cutV xs lo hi)))
theorem sl_h : SlR X rSlH := sl_list.imp fun x lo hi H Q ⟨a, xs, h1, h2, q⟩ => ⟨a, xs, h1, SqL.of h2, q⟩
def rInTab (a : Addr) (l : List Int) (neg : Bool) : R2 := fun x y H Q => ∃ i, x = .int i ∧ y = .ref a ∧ Q (.bl (if neg then !l.contains i else l.contains i)) H
theorem inV_ints (i : Int) : ∀ l : List Int, inV (.int i) (l.map V.int) = l.contains i
 | [] => rfl
 | j :: r => by
   have ih := inV_ints i r
   show (eqV (.int j) (.int i) || inV (.int i) (r.map V.int)) = _
   rw [ih, List.contains_cons]
   show ((j == i) || _) = _
   rw [show (j == i) = (i == j) from Bool.beq_comm]
theorem flat_ints : ∀ l : List Int, (l.map V.int).all flatV = true
 | [] => rfl
 | _ :: r => by
   show (true && (r.map V.int).all flatV) = true
   rw [flat_ints r]
   rfl
theorem in_tab {p : Addr} {l : List Int} (t : KTup X.K p (l.map V.int)) : OpR X (compareOp .In) (rInTab p l false) := op_in_seq.imp fun x y H Q ⟨i, h1, h2, q⟩ => by
 subst h1
 exact ⟨p, _, h2, .inr (t.sq H), rfl, flat_ints l, by rw [inV_ints]; exact q⟩
theorem notin_tab {p : Addr} {l : List Int} (t : KTup X.K p (l.map V.int)) : OpR X (compareOp .NotIn) (rInTab p l true) := op_notIn_seq.imp fun x y H Q ⟨i, h1, h2, q⟩ => by
 subst h1
 exact ⟨p, _, h2, .inr (t.sq H), rfl, flat_ints l, by rw [inV_ints]; exact q⟩
def rInDic (a : Addr) (kvs : List (Int × V)) (neg : Bool) : R2 := fun x y H Q => ∃ i, x = .int i ∧ y = .ref a ∧ Q (.bl (if neg then !(kvs.lookup i).isSome else (kvs.lookup i).isSome)) H
theorem notin_dic {p : Addr} {kvs : List (Int × V)} (t : KDic X.K p kvs) : OpR X (compareOp .NotIn) (rInDic p kvs true) := op_knotin.imp fun x y H Q ⟨i, h1, h2, q⟩ => ⟨p, kvs, i, h1, h2, t, q⟩
def tDicGet (a : Addr) (kvs : List (Int × V)) (td ty : TE) : TE := fun σ H Q => td σ H fun x H1 => ty σ H1 fun y H2 => ∃ i v, x = .ref a ∧ y = .int i ∧ kvs.lookup i = some v ∧ Q v H2
theorem pe_dicget {p : Addr} {kvs : List (Int × V)} (t : KDic X.K p kvs) (ho : PE X a ta) (hi : PE X b tb) (hs : NoSl b) : PE X (.Subscript a b pos) (tDicGet p kvs ta tb) := by
 refine mq ?_; simp (disch := k_dflt (
 refine mz ?_
 intro pins s σ H Q I h
 refine subD_of (T := "dict") PySem.F.slot_dict_getitem.lookup hs (thn (ho pins s σ H _ I h) fun u s1 ⟨x, H1, I1, rx, q1⟩ => thn (hi pins s1 σ H1 _ I1 q1) fun v s2 ⟨y, H2, I2, ry, q2⟩ => ?_)
 obtain ⟨i, z, rfl, rfl, l, q⟩ := q2
 cases rx
 obtain ⟨vs, rel, dd⟩ := t.dict (P := X.prog) (w := X.w) I2.kIn
 obtain ⟨w', hw, rw'⟩ := RelO.some_of (v := z) (o := valueAt vs (Sum.inl i)) (by rw [← l, ← valV_keyed]; exact rel.val _)
 exact ⟨dd.typeIs, wpAny_getItem_of (kV_is (k := Sum.inl i) ry) dd.mapOf hw ⟨z, H2, I2.tok _, rw', q⟩⟩)) only [↓mr]
def iListH (K : PySem.W.Frag) (tl : TE) : TI := fun σ H R => tl σ H fun x H1 => ∃ a xs, x = .ref a ∧ H1 a = some (.lst xs) ∧ R (Itl K a) H1
end
theorem for_rev {K : PySem.W.Frag} {a : Addr} {xs : List V} {g : TG} {tb : TS} {D : Ends} {σ : St} {H : Hp} (Pv : Nat → St → Hp → Prop) (h0 : Pv 0 σ H) (hl : ∀ i σ H, i ≤ xs.length → Pv i σ H → SqL K H a xs)
   (hs : ∀ i x σ H, xs.reverse[i]? = some x → Pv i σ H → g x σ H fun σ2 H2 => tb { D with nx := Pv (i + 1), ct := Pv (i + 1), bk := D.nx } σ2 H2) (hd : ∀ σ H, Pv xs.length σ H → D.nx σ H) :
   ∃ W : Nat → Nat → St → Hp → Prop, (∃ m, W 0 m σ H) ∧ ∀ i m σ H, W i m σ H →
     ((Itv K a xs.length).stop i H ∧ D.nx σ H) ∨ ((Itv K a xs.length).go i H ∧ ∃ N : St → Hp → Prop, (∀ σ' H', N σ' H' → ∃ m', m' < m ∧ W (i + 1) m' σ' H') ∧ ∀ x H', (Itv K a xs.length).yld i H x H' → g x σ H' fun σ2 H2 => tb { D with nx := N, ct := N, bk := D.nx } σ2 H2) := by
 refine mq ?_; simp (disch := k_dflt (
 refine mz ?_
 refine ⟨fun i m σ H => m = xs.length - i ∧ i ≤ xs.length ∧ Pv i σ H, ⟨xs.length, by simp, Nat.zero_le _, h0⟩, ?_⟩
 rintro i m σ H ⟨rfl, hi, p⟩
 have q := hl i σ H hi p
 by_cases hlt : i < xs.length
 · have hlt' : xs.length - 1 - i < xs.length := by omega
   have ex : xs[xs.length - 1 - i]? = some xs[xs.length - 1 - i] := List.getElem?_eq_getElem hlt'
   refine .inr ⟨⟨hlt, xs, _, q, ex⟩, Pv (i + 1), fun σ' H' p' => ⟨xs.length - (i + 1), by omega, rfl, hlt, p'⟩, fun x H' y => ?_⟩
   obtain ⟨e, y⟩ := y
   subst e
   have y := y xs q
   refine hs i x σ _ ?_ p
   rw [List.getElem?_reverse hlt]
   exact y
 · have e : i = xs.length := by omega
   subst e
   exact .inl ⟨Nat.le_refl _, hd σ H p⟩)) only [↓mr]
theorem lc_rangeC {lo c : Int} {n : Nat} {g : TG} {tt : TT} {te : TE} {vs : List Nat} {σ : St} {H1 : Hp} {D : Addr} {Qd : Hp → Prop} (Pv : Nat → Hp → Prop) (h0 : Pv 0 (upd H1 D (.lst [])))
   (hs : ∀ i H, i < n → Pv i H → g (.int (lo + (i : Nat) * c)) (wipe σ vs) H fun σ2 H2 => wipe σ2 vs = wipe σ vs ∧ tt σ2 H2 fun b H3 =>
     if b = true then te σ2 H3 fun y H4 => ∃ acc, H4 D = some (.lst acc) ∧ acc.length < sizeLine ∧ Pv (i + 1) (upd H4 D (.lst (acc ++ [y]))) else Pv (i + 1) H3) (hd : ∀ H, Pv n H → Qd H) :
   ∃ W : Nat → Nat → Hp → Prop, (∃ m, W 0 m (upd H1 D (.lst []))) ∧ ∀ i m H, W i m H →
     ((Itc lo c n).stop i H ∧ Qd H) ∨ ((Itc lo c n).go i H ∧ ∃ Nx : Hp → Prop, (∀ H', Nx H' → ∃ m', m' < m ∧ W (i + 1) m' H') ∧ ∀ x H', (Itc lo c n).yld i H x H' → g x (wipe σ vs) H' fun σ2 H2 => wipe σ2 vs = wipe σ vs ∧ tt σ2 H2 fun b H3 =>
       if b = true then te σ2 H3 fun y H4 => ∃ acc, H4 D = some (.lst acc) ∧ acc.length < sizeLine ∧ Nx (upd H4 D (.lst (acc ++ [y]))) else Nx H3) := by
 refine ⟨fun i m H => m = n - i ∧ i ≤ n ∧ Pv i H, ⟨n, by simp, Nat.zero_le _, h0⟩, ?_⟩
 rintro i m H ⟨rfl, hi, p⟩
 by_cases hlt : i < n
 · refine .inr ⟨hlt, Pv (i + 1), fun H' p' => ⟨n - (i + 1), by omega, rfl, hlt, p'⟩, fun x H' y => ?_⟩
   obtain ⟨e, y⟩ := y
   subst e y
   exact hs i _ hlt p
 · have e : i = n := by omega
   subst e
   exact .inl ⟨Nat.le_refl _, hd H p⟩
structure Fn (P : Program) (w : World) (K : PySem.W.Frag) (mg : Str → Option Value) (base : Heap) (k : Nat) (f : Addr) (ps : List Str) (sp : Sp) : Prop where
 ex : ∃ fd, FnOk P w K mg base CX0 k f fd ps sp ∧ Binds K fd ps []
 kp : PySem.W.keepIn K (.ref f) = true
section
variable {X : Cx} {k j : Nat} {f C : Addr} {ps : List Str} {sp : Sp} {x m : Str} {p pos apos : Pos} {e o : Expr} {es : List Expr} {ta : TE} {t : TA}
theorem Fn.call (F : Fn X.prog X.w X.K X.mg X.base k f ps sp) (hr : Room j X.A) (hk : k ≤ j) (hg : Gl X x) (hm : X.mg x = some (.ref f)) (ha : PA X (e :: es) t)
   (hdb : (x == ("__debug__" : Str)) = false := by decide) (he : starEach (e :: es) X.env = (false, eval e X.env) :: starEach es X.env := by rfl) (hpl : (backTo pos (starEach es X.env)).any (·.1) = false := by rfl) :
   PE X (.Call (.Name x p) (e :: es) [] pos) (tCall sp [] E0 t) := by
 obtain ⟨fd, G, b⟩ := F.ex
 exact pe_call G (hr.mono hk) hg hm F.kp b .nil pass0 ha hdb he hpl
theorem Fn.make (F : Fn X.prog X.w X.K X.mg X.base k f ps sp) (hr : Room j X.A) (hk : k + 1 ≤ j) (hg : Gl X x) (M : Mk X.K C f) (hm : X.mg x = some (.ref C)) (ha : PA X (e :: es) t)
   (hdb : (x == ("__debug__" : Str)) = false := by decide) (he : starEach (e :: es) X.env = (false, eval e X.env) :: starEach es X.env := by rfl) (hpl : (backTo pos (starEach es X.env)).any (·.1) = false := by rfl) :
   PE X (.Call (.Name x p) (e :: es) [] pos) (tMake C sp [] E0 t) := by
 obtain ⟨fd, G, b⟩ := F.ex
 exact pe_make M G (hr.mono hk) hg hm b .nil pass0 ha hdb he hpl
theorem Fn.make0 (F : Fn X.prog X.w X.K X.mg X.base k f ps sp) (hr : Room j X.A) (hk : k + 1 ≤ j) (hg : Gl X x) (M : Mk X.K C f) (hm : X.mg x = some (.ref C)) (hdb : (x == ("__debug__" : Str)) = false := by decide) :
   PE X (.Call (.Name x p) [] [] pos) (tMake C sp [] E0 tNil) := by
 obtain ⟨fd, G, b⟩ := F.ex
 exact pe_make0 M G (hr.mono hk) hg hm b .nil pass0 hdb
theorem Fn.meth {pl : Sem Bool} (F : Fn X.prog X.w X.K X.mg X.base k f ps sp) (hr : Room j X.A) (hk : k ≤ j) (c : Cls X.K C) (hm : Meth X.K C m f) (ho : PE X o ta) (ha : PA X (e :: es) t)
   (hst : starEach (e :: es) X.env = (false, eval e X.env) :: starEach es X.env := by rfl) (hpl : (backTo pos (starEach es X.env)).any (·.1) = false := by rfl)
   (ht : eval (.Call (.Attribute o m apos) (e :: es) [] pos) X.env = (do
     let ov ← eval o X.env
     standAt apos.atName
     let (f, first) ← holding [ov] (getMethod ov m pl)
     callWith pos f first (backTo pos (starEach (e :: es) X.env)) (backToKw pos (keywordEach [] X.env))) := by rfl) :
   PE X (.Call (.Attribute o m apos) (e :: es) [] pos) (tMeth C m sp [] E0 ta t) := by
 obtain ⟨fd, G, b⟩ := F.ex
 exact pe_meth ho c hm G (hr.mono hk) b .nil pass0 ha hst hpl ht
theorem Fn.meth0 {pl : Sem Bool} (F : Fn X.prog X.w X.K X.mg X.base k f ps sp) (hr : Room j X.A) (hk : k ≤ j) (c : Cls X.K C) (hm : Meth X.K C m f) (ho : PE X o ta)
   (ht : eval (.Call (.Attribute o m apos) [] [] pos) X.env = (do
     let ov ← eval o X.env
     standAt apos.atName
     let (f, first) ← holding [ov] (getMethod ov m pl)
     callWith pos f first (backTo pos (starEach [] X.env)) (backToKw pos (keywordEach [] X.env))) := by rfl) :
   PE X (.Call (.Attribute o m apos) [] [] pos) (tMeth C m sp [] E0 ta tNil) := by
 obtain ⟨fd, G, b⟩ := F.ex
 exact pe_meth0 ho c hm G (hr.mono hk) b .nil pass0 ht
def tCallV (OK : Nat → Addr → List Str → Sp → Prop) (i : Nat) (t : TA) : TE := fun σ H Q => ∃ k f ps sp, σ[i]? = some (some (V.ref f)) ∧ OK k f ps sp ∧ t σ H fun vs H1 => sp (vs ++ []) H1 Q E0
theorem pe_callV (i : Nat) (hr : Room j X.A) (ha : PA X (e :: es) t) (hN : X.N[i]? = some x := by rfl) (hv : Vis X.env.scope x := by first | exact Or.inl rfl | exact Or.inr (Or.inl rfl) | exact Or.inr (Or.inr rfl)) (hd : (x == ("__debug__" : Str)) = false := by decide)
   (hcd : (x == ("__classdict__" : Str)) = false := by decide) (he : starEach (e :: es) X.env = (false, eval e X.env) :: starEach es X.env := by rfl) (hpl : (backTo pos (starEach es X.env)).any (·.1) = false := by rfl) :
   PE X (.Call (.Name x p) (e :: es) [] pos) (tCallV (fun k f ps sp => Fn X.prog X.w X.K X.mg X.base k f ps sp ∧ k ≤ j) i t) := by
 refine mq ?_; simp (disch := k_dflt (
 refine mz ?_
 intro pins s σ H Q I h
 obtain ⟨k, f, ps, sp, e1, ⟨F, hk⟩, q⟩ := h
 obtain ⟨fd, G, b⟩ := F.ex
 refine wpAny_Call_Name_kw (thn (pe_var (i := i) hN hv hd hcd pins s σ H (fun v H' => v = .ref f ∧ H' = H) I ⟨_, e1, rfl, rfl⟩) fun u s1 ⟨v, H1, I1, rv, ev, eH⟩ => ?_)
 subst ev eH
 cases rv
 refine PySem.W.callWith_K (h₀ := X.base) I.ok.mod.kin F.kp (thn (ha pos pins s1 σ _ _ I1 q) fun us s2 ⟨vs, H2, I2, r, q2⟩ => ⟨I2.kIn, ?_⟩) he hpl
 exact run_fn G (hr.mono hk) b .nil pass0 I2 r q2)) only [↓mr]
end
structure Df (K : PySem.W.Frag) (x qual : Str) (st : Stmt) (f : Addr) (ps : List Str) : Prop where
 ex : ∃ fd, Fun K x qual st f fd ∧ Binds K fd ps []
theorem Fn.of {P : Program} {w : World} {K : PySem.W.Frag} {mg : Str → Option Value} {base : Heap} {x qual : Str} {st : Stmt} {f : Addr} {N ps : List Str} {k : Nat} {sp : Sp} {rd : TS} (F : Df K x qual st f ps) (S : FnScope N ps (defScope st))
   (hb : ∀ (cdv : Value) (A : Around) (outer : List Env) (s : Shared) (H : Hp) (E : XK), Room k (A.deeper (envOfC qual (defScope st) s.heap.objs.size f cdv)) → PSs (cxOf CX0 P w K mg base N qual (defScope st) f cdv A outer s H E).nox (defBody st) rd)
   (he : ∀ vs H Q E, sp vs H Q E → sp vs H Q E0) (hs : ∀ (vs : List V) (H : Hp) (Q : VK), sp vs H Q E0 → vs.length = ps.length ∧ rd { nx := fun _ H' => Q .non H', rt := Q } (start N vs) H) : Fn P w K mg base (k + 1) f ps sp := by
 obtain ⟨fd, F, b⟩ := F.ex
 exact ⟨⟨fd, F.ok S (fun vs H Q E h => (hs vs H Q (he vs H Q E h)).1) (fun cdv A outer s H vs Q E hr h => ⟨rd, hb cdv A outer s H E hr, (hs vs H Q (he vs H Q E h)).2⟩), b⟩, F.kp⟩
end L2

namespace L2
open PySem PySem.Spec PyProof.Rows
section
variable {X : Cx}
def rCountT : V → List V → Hp → VK → Prop := fun x xs H Q => ∃ (a : Addr) (bs : List Bool), x = V.ref a ∧ xs = [.bl true] ∧ H a = some (.lst (bs.map V.bl)) ∧ Q (.int (bs.count true : Nat)) H
theorem countP_bls : ∀ {bs : List Bool} {us : List Value}, Vals (bs.map V.bl) us → us.countP (isBoolOf true) = bs.count true
 | [], _, .nil => rfl
 | b :: r, _, .cons h t => by
   cases h
   rw [List.countP_cons, List.count_cons, countP_bls t]
   rfl
theorem eq_bls : ∀ {bs : List Bool} {us : List Value}, Vals (bs.map V.bl) us → ∀ y, y ∈ us → ∀ (A : Around) (s : Shared), SeqAt.EqAt A s y (.bool true) (isBoolOf true y)
 | [], _, .nil, y, hy, _, _ => absurd hy (by simp)
 | b :: r, _, .cons h t, y, hy, A, s => by
   cases h
   rcases List.mem_cons.mp hy with e | e
   · rw [e]; exact SeqAt.EqAt.bool_bool b true
   · exact eq_bls t y e A s
theorem mt_count_true : MtR X "list.count" rCountT := by
 refine mq ?_; simp (disch := k_dflt (
 refine mz ?_
 intro pins s σ H x xs v us Q I rx rxs h
 obtain ⟨a, bs, rfl, rfl, hs, q⟩ := h
 cases rx
 obtain ⟨u, rfl, ru⟩ := vals1 rxs
 cases ru
 obtain ⟨its, rv, ⟨⟨cls, dd, data, sl⟩, n, ho, hc, hdn, hd⟩, hlen⟩ := I.list (SqL.of hs)
 simp only at hc hd
 subst hc hd
 refine call_meets PySem.F.slot_list_count ⟨_, ho, rfl⟩ PySem.F.entry_list_count (PySem.F.args_list_count_2 _ _) (SeqAt.list_countAt a its.toArray n dd sl (.bool true) (isBoolOf true)) ⟨ho, fun y hy => eq_bls rv y (by simpa using hy) _ _, ?_⟩
 rw [show its.toArray.toList = its from rfl, countP_bls rv]
 exact ⟨.int (bs.count true : Nat), H, I.tok _, ⟨_, rfl⟩, q⟩)) only [↓mr]
end
def rangeV (lo c : Int) (n : Nat) : List V := (List.range n).map fun i => V.int (lo + (i : Nat) * c)
theorem rangeV_len (lo c : Int) (n : Nat) : (rangeV lo c n).length = n := by unfold rangeV; simp
theorem vals_range {lo c : Int} {n : Nat} {acc : Array Value} (h : ItemsOf (fun (i : Nat) (v : Value) => ∃ t, v = Value.int (lo + i * c) t) acc n) : Vals (rangeV lo c n) acc.toList := by
 refine mq ?_; simp (disch := k_dflt (
 refine mz ?_
 have key : ∀ (us : List Value) (l : List Nat), us.length = l.length → (∀ (j : Nat) (v : Value) (k : Nat), us[j]? = some v → l[j]? = some k → ∃ t, v = Value.int (lo + (k : Nat) * c) t) → Vals (l.map fun i => V.int (lo + (i : Nat) * c)) us := by
   intro us
   induction us with
   | nil => intro l hl _; cases l with
     | nil => exact .nil
     | cons _ _ => cases hl
   | cons u us ih => intro l hl hk; cases l with
     | nil => cases hl
     | cons k l =>
       refine .cons ?_ (ih l (by simpa using hl) fun j v k' h1 h2 => hk (j + 1) v k' h1 h2)
       obtain ⟨t, ht⟩ := hk 0 u k rfl rfl
       exact ⟨t, ht⟩
 refine key _ _ (by rw [Array.length_toList, h.1]; simp) fun j v k h1 h2 => ?_
 obtain ⟨hj, e⟩ := List.getElem?_eq_some_iff.mp h2
 rw [List.getElem_range] at e
 subst e
 exact h.2 j v (by rw [← Array.getElem?_toList]; exact h1))) only [↓mr]
section
variable {X : Cx}
theorem list_range_at {pins : List (Addr × Obj)} {σ : St} {H : Hp} {s : Shared} {Q : VK} {i j c : Int} {t u v : Tok} {n : Nat} (hc : X.calm = true) (I : Inv X pins σ H s) (h2 : Builtin.Range.small i j c = true) (h3 : Builtin.Range.rangeSize i j c = n) (h4 : n ≤ 2 ^ 24)
   (q : ∀ l, H l = none → Q (.ref l) (upd H l (.lst (rangeV i c n)))) :
   wpAny (model X.prog X.w) X.A (call (.type "list") [.ref s.heap.objs.size]) (EP X pins σ Q) X.xe { s with heap := s.heap.push { cls := .type "range", data := .fields #[.int i t, .int j u, .int c v] } } := by
 refine mq ?_; simp (disch := k_dflt (
 refine mz ?_
 refine call_list_range (I.ok.hd hc) (IsRange.new ..) h2 h3 h4 fun h' tk acc' c' hk hl hi => ?_
 have hz : (s.heap.push { cls := .type "range", data := .fields #[.int i t, .int j u, .int c v] }).objs.size = s.heap.objs.size + 1 := by rw [Heap.size_push]
 refine ⟨.ref _, _, I.laid (a := (s.heap.push { cls := .type "range", data := .fields #[.int i t, .int j u, .int c v] }).objs.size) (o := .lst (rangeV i c n)) (t' := tk) (fun b o e => hk b o (Heap.get?_push_of_some _ e)) (by rw [hz]; exact Nat.le_succ _) ⟨?_, acc'.toList, c', vals_range hi, ?_⟩, rfl, q _ (I.hok.fresh (by rw [hz]; exact Nat.le_succ _))⟩
 · rw [rangeV_len]; have := sizeLine_eq; omega
 · rw [Array.toArray_toList]; exact hl)) only [↓mr]
def tLR1 (ta : TA) : TE := fun σ H Q => ta σ H fun vs H1 => ∃ j : Int, vs = [.int j] ∧ -(2 ^ 62) ≤ j ∧ j ≤ 2 ^ 24 ∧ ∀ l, H1 l = none → Q (.ref l) (upd H1 l (.lst (rangeV 0 1 j.toNat)))
def tLR3 (ta : TA) : TE := fun σ H Q => ta σ H fun vs H1 => ∃ (i j c : Int) (n : Nat), vs = [.int i, .int j, .int c] ∧ RgC i j c n ∧ n ≤ 2 ^ 24 ∧ ∀ l, H1 l = none → Q (.ref l) (upd H1 l (.lst (rangeV i c n)))
theorem pe_listRange1 {a : Expr} {ta : TA} {p pos p1 pos1 : Pos} (hc : X.calm = true) (hg1 : Gl X "list") (hm1 : X.mg "list" = none) (hg : Gl X "range") (hm : X.mg "range" = none) (ha : PA X [a] ta) (hs : starEach [a] X.env = [(false, eval a X.env)] := by rfl)
   (hs1 : starEach [Expr.Call (.Name "range" p) [a] [] pos] X.env = [(false, eval (.Call (.Name "range" p) [a] [] pos) X.env)] := by rfl) :
   PE X (.Call (.Name "list" p1) [.Call (.Name "range" p) [a] [] pos] [] pos1) (tLR1 ta) := by
 refine mq ?_; simp (disch := k_dflt (
 refine mz ?_
 intro pins s σ H Q I h
 refine Call_ (ld_blt I hg1 hm1 PyProof.Rows.boot_list (PyProof.Rows.callWith_type1 ?_ hs1 rfl))
 rw [hs1]
 refine Calls.spliced_cons ?_
 refine Call_ (ld_blt I hg hm boot_range (PyProof.Rows.callWith_type1 (thn (ha pos pins s σ H _ I h) fun us s1 ⟨vs, H1, I1, r1, q1⟩ => ?_) hs rfl))
 obtain ⟨j, e, q1, q2, q⟩ := q1
 subst e
 cases r1 with
 | cons r rr =>
   cases rr
   obtain ⟨t, rfl⟩ := r
   refine call_range_1 (Calls.spliced_nil ?_)
   exact list_range_at hc (I1.tok (s1.toks + 1 + 1)) (small_one (by omega) (by omega) (by omega) (by omega)) (by rw [rangeSize_one]; split <;> omega) (by omega) q)) only [↓mr]
theorem pe_listRange3 {a b c : Expr} {ta : TA} {p pos p1 pos1 : Pos} (hc : X.calm = true) (hg1 : Gl X "list") (hm1 : X.mg "list" = none) (hg : Gl X "range") (hm : X.mg "range" = none) (ha : PA X [a, b, c] ta)
   (hs : starEach [a, b, c] X.env = (false, eval a X.env) :: starEach [b, c] X.env := by rfl) (hpl : (backTo pos (starEach [b, c] X.env)).any (·.1) = false := by rfl)
   (hs1 : starEach [Expr.Call (.Name "range" p) [a, b, c] [] pos] X.env = [(false, eval (.Call (.Name "range" p) [a, b, c] [] pos) X.env)] := by rfl) :
   PE X (.Call (.Name "list" p1) [.Call (.Name "range" p) [a, b, c] [] pos] [] pos1) (tLR3 ta) := by
 refine mq ?_; simp (disch := k_dflt (
 refine mz ?_
 intro pins s σ H Q I h
 refine Call_ (ld_blt I hg1 hm1 PyProof.Rows.boot_list (PyProof.Rows.callWith_type1 ?_ hs1 rfl))
 rw [hs1]
 refine Calls.spliced_cons ?_
 refine Call_ (ld_blt I hg hm boot_range (PyProof.Rows.callWith_type1 (thn (ha pos pins s σ H _ I h) fun us s1 ⟨vs, H1, I1, r1, q1⟩ => ?_) hs hpl))
 obtain ⟨i, j, k, n, e, ⟨c0, c1, c2, c3⟩, h4, q⟩ := q1
 subst e
 cases r1 with
 | cons r rr =>
   cases rr with
   | cons r' rr =>
     cases rr with
     | cons r'' rr =>
       cases rr
       obtain ⟨t, rfl⟩ := r
       obtain ⟨t', rfl⟩ := r'
       obtain ⟨t'', rfl⟩ := r''
       refine call_range_3 c0 (Calls.spliced_nil ?_) (.inl (PyProof.noPylong_small c1))
       exact list_range_at hc I1 c2 c3 h4 q)) only [↓mr]
end
theorem nolen_lri : typeLookup (.type "list_reverseiterator") "__len__" = pure none := by rw [typeLookup_type, builtinLookup_eq_fast]; kernel_rfl
theorem hint_lri : typeLookup (.type "list_reverseiterator") "__length_hint__" = pure (some (.builtin "list_reverseiterator.__length_hint__")) := by rw [typeLookup_type, builtinLookup_eq_fast]; kernel_rfl
section
variable {prog : Program} {w : World} {A : Around} {s : Shared} {R : Result → Shared → Prop} {E : Value → Shared → Prop}
variable {I : Addr} {fp wr : List Addr} {G : Array GenState → Array GenState → Prop} {n : Nat} {P : Nat → Value → Prop} {St : Nat → Shared → Prop}
theorem extend_lri (W : WalksS prog w A.in1 I fp wr G n P St) (hT : ∀ i s, St i s → s.TypeIs (.ref I) "list_reverseiterator") (S : Addr) (res : Value) (c₀ : Nat) (hst : St 0 s) (hSf : S ∉ fp) (hI : I ∈ fp)
   (hS : s.heap.get? S = some { cls := .type "list", data := .seq #[] c₀ })
   (hR : ∀ s' acc' c', Moved (S :: wr) G s s' → s'.heap.get? S = some { cls := .type "list", dict := none, data := .seq acc' c', slots := #[] } → ItemsOf P acc' n → R (.ok (.ret res)) s') (hn : n ≤ sizeLine) :
   wpAny (model prog w) A.in1 (Builtin.List.listExtendWith (.ref S) (.ref I) res)
     (fun fin s' => match fin with | .done f => R (.ok f) s' | .again c' => c'.quiet = true ∧ codeAny (model prog w) A c' R s') (fun e s' => R (.error e) s') s := by
 refine mq ?_; simp (disch := k_dflt (
 refine mz ?_
 have hSI : S ≠ I := fun e => hSf (e ▸ hI)
 unfold Builtin.List.listExtendWith
 refine wpAny_bind (wpAny_typeOf (hT 0 _ hst) ?_)
 have h1 : Builtin.List.listSameRef (.ref S) (.ref I) = false := by simp [Builtin.List.listSameRef, hSI]
 rw [if_neg (by rw [h1]; decide)]
 refine wpAny_bind (W.self 0 _ _ _ hst ?_)
 refine wpAny_bind (wpAny_holding ?_)
 unfold Builtin.List.listLengthHint
 refine wpAny_bind (wpAny_specialOf (hT 0 _ hst) nolen_lri ?_)
 show wpAny _ A.in1 (specialOf (Value.ref I) (Str.ofString "__length_hint__") >>= _) _ _ _
 refine wpAny_bind (wpAny_specialOf (hT 0 _ hst) hint_lri ?_)
 (generalize hid : ("list_reverseiterator.__length_hint__" : String) = id0; (fail_if_success (clear hid id0)); wp_delta; rw [show splitId id0 = some ("list_reverseiterator", "__length_hint__") from by subst hid; decide +kernel]; subst hid)
 refine wpAny_bind (wpAny_isInstance (b := true) (hT 0 _ hst) (by rw [isSubtype_type]; kernel_rfl) ?_)
 refine wpAny_pure ?_
 rw [if_neg (by decide)]
 refine wpAny_pure ⟨plainId_quiet F.plain_extend_loop _, codeAny_extend_loopS W hn _ hSf _ n 0 _ _ _ rfl (Nat.zero_le _) hst hS (ItemsOf.nil P) fun s' acc' c' hm hS' hacc => ?_⟩
 exact hR s' acc' c' hm hS' hacc)) only [↓mr]
theorem init_lri (W : WalksS prog w A.in1 I fp wr G n P St) (hT : ∀ i s, St i s → s.TypeIs (.ref I) "list_reverseiterator") (S : Addr) (hst : St 0 s) (hSf : S ∉ fp) (hI : I ∈ fp)
   (hS : s.heap.get? S = some { cls := .type "list", data := .seq #[] })
   (hR : ∀ s' acc' c', Moved (S :: wr) G s s' → s'.heap.get? S = some { cls := .type "list", dict := none, data := .seq acc' c', slots := #[] } → ItemsOf P acc' n → R (.ok (.ret .none)) s') (hn : n ≤ sizeLine) :
   wpAny (model prog w) A.in1 (Builtin.«list.__init__» ⟨[.ref S, .ref I], []⟩)
     (fun fin s' => match fin with | .done f => R (.ok f) s' | .again c' => c'.quiet = true ∧ codeAny (model prog w) A c' R s') (fun e s' => R (.error e) s') s := by
 refine mq ?_; simp (disch := k_dflt (
 refine mz ?_
 show wpAny _ A.in1 (do let old ← Builtin.List.listItems (.ref S); Builtin.List.listUpdate (.ref S) (fun _ => #[]); letGo old.toList.reverse; Builtin.List.listExtendWith (.ref S) (.ref I) .none) _ _ s
 refine wpAny_bind ?_
 unfold Builtin.List.listItems
 refine wpAny_bind (wpAny_seqItems hS rfl (wpAny_pure ?_))
 show wpAny _ A.in1 (updateSeq S (fun _ => #[]) >>= fun _ => letGo (#[] : Array Value).toList.reverse >>= fun _ => Builtin.List.listExtendWith (.ref S) (.ref I) .none) _ _ s
 refine wpAny_bind (wpAny_updateSeq hS rfl ?_)
 have hS₂ := Heap.get?_update_self (Obj.mapSeq (fun _ => (#[] : Array Value))) hS rfl
 have oth : ∀ b o, b ≠ S → s.heap.get? b = some o → (s.heap.update S (Obj.mapSeq (fun _ => (#[] : Array Value)))).get? b = some o :=
   fun b o hb e => (Heap.get?_update_other _ _ (Ne.symm hb)).trans e
 refine wpAny_bind (wpAny_letGo ?_)
 refine extend_lri W hT S .none _ (W.frame 0 s _ s.toks hst (Nat.le_refl _) fun b hb o e => oth b o (fun h => hSf (h ▸ hb)) e) hSf hI hS₂ (fun s' acc' c' hm hS' hacc => ?_) hn
 exact hR s' acc' c' (Moved.trans W.gtrans ((Moved.refl W.grefl).then_heap (Nat.le_refl _) fun b o hb e => oth b o (fun h => hb (h ▸ List.mem_cons_self)) e) hm) hS' hacc)) only [↓mr]
theorem call_list_lri {Q : Value → Shared → Prop} (W : WalksS prog w A.in1.in1 I fp wr G n P St) (hT : ∀ i s, St i s → s.TypeIs (.ref I) "list_reverseiterator") (hst : St 0 s) (hfp : ∀ b ∈ fp, b < s.heap.objs.size) (hI : I ∈ fp)
   (hQ : ∀ s' acc' c', Moved (s.heap.objs.size :: wr) G { s with heap := s.heap.push { cls := .type "list", data := .seq #[] } } s' →
     s'.heap.get? s.heap.objs.size = some { cls := .type "list", dict := none, data := .seq acc' c', slots := #[] } → ItemsOf P acc' n → Q (.ref s.heap.objs.size) s') (hn : n ≤ sizeLine) :
   wpAny (model prog w) A (call (.type "list") [.ref I]) Q E s := by
 refine mq ?_; simp (disch := k_dflt (
 refine mz ?_
 have hSf : s.heap.objs.size ∉ fp := fun hm => Nat.lt_irrefl _ (hfp _ hm)
 refine callType_codes (Q₁ := fun obj s₁ => obj = .ref s.heap.objs.size ∧ s₁ = { s with heap := s.heap.push { cls := .type "list", data := .seq #[] } }) F.called_list (F.typeCall_list_1 _) F.entry_list_init
   (code_list_new _ ⟨rfl, rfl⟩) fun obj s₁ h₁ => ?_
 obtain ⟨rfl, rfl⟩ := h₁
 have hS : (s.heap.push { cls := .type "list", data := .seq #[] }).get? s.heap.objs.size = some { cls := .type "list", data := .seq #[] } := Heap.get?_push_size _ rfl
 refine ⟨⟨_, hS, rfl⟩, F.args_list_init_2 _ _, init_lri W hT _ (W.frame 0 s _ s.toks hst (Nat.le_refl _) fun b _ o e => Heap.get?_push_of_some _ e) hSf hI hS (fun s' acc' c' hm hS' hacc => ?_) hn⟩
 exact ⟨rfl, hQ s' acc' c' hm hS' hacc⟩)) only [↓mr]
end
theorem vals_rev {xs : List V} {us : List Value} {acc : Array Value} (r : Vals xs us) (h : ItemsOf (fun i v => us.toArray[us.toArray.size - 1 - i]? = some v) acc us.toArray.size) : Vals xs.reverse acc.toList := by
 refine mq ?_; simp (disch := k_dflt (
 refine mz ?_
 have e : acc.toList = us.reverse := by
   apply List.ext_getElem?
   intro j
   by_cases hj : j < us.length
   · have hj2 : j < acc.toList.length := by rw [Array.length_toList, h.1]; simpa using hj
     have h2 := h.2 j acc.toList[j] (by rw [← Array.getElem?_toList]; exact List.getElem?_eq_getElem hj2)
     rw [List.getElem?_reverse hj, List.getElem?_eq_getElem hj2, ← h2]
     simp
   · rw [List.getElem?_eq_none (by rw [Array.length_toList, h.1]; simpa using hj), List.getElem?_eq_none (by simpa using hj)]
 rw [e]
 exact r.reverse)) only [↓mr]
def tRevL (ta : TA) : TE := fun σ H Q => ta σ H fun vs H1 => ∃ (a : Addr) (xs : List V), vs = [.ref a] ∧ H1 a = some (.lst xs) ∧ ∀ l, H1 l = none → Q (.ref l) (upd H1 l (.lst xs.reverse))
theorem pe_listRev {X : Cx} {a : Expr} {ta : TA} {p pos p1 pos1 : Pos} (hc : X.calm = true) (hg1 : Gl X "list") (hm1 : X.mg "list" = none) (hg : Gl X "reversed") (hm : X.mg "reversed" = none) (ha : PA X [a] ta) (hs : starEach [a] X.env = [(false, eval a X.env)] := by rfl)
   (hs1 : starEach [Expr.Call (.Name "reversed" p) [a] [] pos] X.env = [(false, eval (.Call (.Name "reversed" p) [a] [] pos) X.env)] := by rfl) :
   PE X (.Call (.Name "list" p1) [.Call (.Name "reversed" p) [a] [] pos] [] pos1) (tRevL ta) := by
 refine mq ?_; simp (disch := k_dflt (
 refine mz ?_
 intro pins s σ H Q I h
 refine Call_ (ld_blt I hg1 hm1 PyProof.Rows.boot_list (PyProof.Rows.callWith_type1 ?_ hs1 rfl))
 rw [hs1]
 refine Calls.spliced_cons ?_
 refine Call_ (ld_blt I hg hm boot_reversed5 (PyProof.Rows.callWith_type1 (thn (ha pos pins s σ H _ I h) fun us s1 ⟨vs, H1, I1, r1, q1⟩ => ?_) hs rfl))
 obtain ⟨b, xs, e, hb, q⟩ := q1
 subst e
 cases r1 with
 | cons r rr =>
   cases rr
   cases r
   obtain ⟨its, rv, pl, hz⟩ := I1.list (SqL.of hb)
   have hl := rv.length
   have hlt : b < s1.heap.objs.size := let ⟨_, ho, _⟩ := pl.isList; Heap.lt_size ho
   refine call_reversed_list pl.isList (Calls.spliced_nil ?_)
   have W := (Walks.listRev (prog := X.prog) (w := X.w) (A := X.A.in1.in1) (I1.ok.hd hc) s1.heap.objs.size b (Nat.ne_of_lt hlt) its.toArray).toS
   have hz1 : (s1.heap.push (revObj b ((its.toArray.size : Int) - 1))).objs.size = s1.heap.objs.size + 1 := by rw [Heap.size_push]
   refine call_list_lri W (fun i s st => st.2.1.typeIs) ⟨Nat.zero_le _, ⟨_, Heap.get?_push_size _ rfl, rfl, ?_⟩, pl.isList.at fun o e => Heap.get?_push_of_some _ e⟩ (fun c hc => ?_) (by simp) (fun s' acc' c' hm hS' hacc => ?_) (by rw [List.size_toArray]; omega)
   · simp [revObj]
   · rw [hz1]
     simp at hc
     rcases hc with rfl | rfl
     · exact Nat.lt_succ_self _
     · exact Nat.lt_succ_of_lt hlt
   · obtain ⟨hh, g, d, tk, os⟩ := s'
     obtain ⟨m1, m2, m3, m4, m5⟩ := hm
     simp only at m1 m2 m3 m4 m5 hS'
     subst m2 m3 m4
     have hS' : hh.get? (s1.heap.push (revObj b ((its.toArray.size : Int) - 1))).objs.size = _ := hS'
     refine ⟨.ref _, _, I1.laid (a := (s1.heap.push (revObj b ((its.toArray.size : Int) - 1))).objs.size) (o := .lst xs.reverse) (t' := tk) (fun c o e => ?_) (by rw [hz1]; exact Nat.le_succ _) ⟨by rw [List.length_reverse]; exact hz, acc'.toList, c', vals_rev rv hacc, by rw [Array.toArray_toList]; exact hS'⟩, rfl, q _ (I1.hok.fresh (by rw [hz1]; exact Nat.le_succ _))⟩
     have hlc := Heap.lt_size e
     refine m1 c o ?_ (Heap.get?_push_of_some _ (Heap.get?_push_of_some _ e))
     simp only [List.mem_cons, List.not_mem_nil, or_false, not_or]
     exact ⟨by rw [hz1]; exact Nat.ne_of_lt (Nat.lt_succ_of_lt hlc), Nat.ne_of_lt hlc⟩)) only [↓mr]
section
open PySem.SeqAt
open PySem.AutoSeq1 (wpAny_loadPart')
open PySem.MeetsSeq PySem.MeetsSeq2 PySem.MeetsSeq3
open HT (lexLt)
theorem lt_loop (l b : Addr) (items items2 : Array Value) (n n2 : Nat) (dd dd2 : Option Addr) (sl sl2 : Array (Option Value)) (ns ms : List Int) (hi : IntsAre items.toList ns) (hj : IntsAre items2.toList ms) (k : Nat) :
   ∀ i : Nat, items.size - i = k → i ≤ items.size → i ≤ items2.size → Meets (Builtin.«list.__eq__.loop» ⟨[.ref l, .ref b, rawInt i, rawInt 0], []⟩)
     (fun A R s => s.heap.get? l = some { cls := .type "list", dict := dd, data := .seq items n, slots := sl } ∧ s.heap.get? b = some { cls := .type "list", dict := dd2, data := .seq items2 n2, slots := sl2 } ∧
       R (.ok (.ret (.bool (lexLt (ns.drop i) (ms.drop i))))) s) := by
 refine mq ?_; simp (disch := k_dflt (
 refine mz ?_
 have z1 : items.size = ns.length := by rw [← hi.length]; simp
 have z2 : items2.size = ms.length := by rw [← hj.length]; simp
 induction k with
 | zero =>
   intro i hk hi0 hj0 prog w A R s h
   obtain ⟨hp, g, d, tk, os⟩ := s; obtain ⟨hl, hb, h⟩ := h
   wp_walk using wpAny_loadPart' hl, wpAny_loadPart' hb
   have hi1 : items[((i : Nat) : Int).toNat]? = none := by simp; omega
   have hd : ns.drop i = [] := by simp; omega
   rw [hd] at h
   rw [hi1]
   have fin : lexLt [] (ms.drop i) = decide (items.size < items2.size) := by
     by_cases e : i < ms.length
     · rw [List.drop_eq_getElem_cons e, HT.lexLt_nil_cons]
       exact (decide_eq_true (by omega)).symm
     · rw [List.drop_eq_nil_of_le (by omega), HT.lexLt_nil_nil]
       exact (decide_eq_false (by omega)).symm
   rw [fin] at h
   cases hi2 : items2[((i : Nat) : Int).toNat]? with
   | none =>
     wp_walk using wpAny_loadPart' hl, wpAny_loadPart' hb
     exact h
   | some v =>
     wp_walk using wpAny_loadPart' hl, wpAny_loadPart' hb
     exact h
 | succ k ih =>
   intro i hk hi0 hj0 prog w A R s h
   obtain ⟨hp, g, d, tk, os⟩ := s; obtain ⟨hl, hb, h⟩ := h
   wp_walk using wpAny_loadPart' hl, wpAny_loadPart' hb
   have hlt : i < items.size := by omega
   have hi1 : items[((i : Nat) : Int).toNat]? = some items[i] := by simp [hlt]
   have hd : ns.drop i = ns[i]'(by omega) :: ns.drop (i + 1) := List.drop_eq_getElem_cons (by omega)
   have hc : ((i : Int) + 1) = ((i + 1 : Nat) : Int) := by push_cast; rfl
   obtain ⟨t, ht⟩ := hi.get i (ns[i]'(by omega)) (List.getElem?_eq_getElem (by omega))
   have hx : items[i] = .int (ns[i]'(by omega)) t := by
     rw [Array.getElem?_toList, Array.getElem?_eq_getElem hlt] at ht
     exact Option.some.inj ht
   by_cases hlt2 : i < items2.size
   · have hi2 : items2[((i : Nat) : Int).toNat]? = some items2[i] := by simp [hlt2]
     have hd2 : ms.drop i = ms[i]'(by omega) :: ms.drop (i + 1) := List.drop_eq_getElem_cons (by omega)
     obtain ⟨u, hu⟩ := hj.get i (ms[i]'(by omega)) (List.getElem?_eq_getElem (by omega))
     have hy : items2[i] = .int (ms[i]'(by omega)) u := by
       rw [Array.getElem?_toList, Array.getElem?_eq_getElem hlt2] at hu
       exact Option.some.inj hu
     rw [hx] at hi1
     rw [hy] at hi2
     rw [hd, hd2, HT.lexLt_cons] at h
     rw [hi1, hi2]
     generalize ns[i]'(by omega) = a at *
     generalize ms[i]'(by omega) = c at *
     obtain ⟨e, he, hiff⟩ := HT.eqAt_int A.in1 ⟨hp, g, d, tk, os⟩ a t c u
     refine wpAny_bind (he prog w _ _ ?_)
     cases e with
     | true =>
       rw [if_pos (hiff.mp rfl)] at h
       wp_walk
       rw [hc]
       exact ⟨plainId_quiet plain_eq_loop _, codeAny_builtin entry_eq_loop (by
         rw [Around.under_plainId plain_eq_loop _]
         exact ih (i + 1) (by omega) (by omega) (by omega) prog w A R _ ⟨hl, hb, h⟩)⟩
     | false =>
       rw [if_neg (fun q => absurd (hiff.mpr q) Bool.false_ne_true)] at h
       have hri := HT.rcLt_int A.in1 ⟨hp, g, d, tk, os⟩ a t c u prog w
       wp_walk using wpAny_loadPart' hl, wpAny_loadPart' hb
       rw [hi1, hi2]
       wp_walk using hri
       exact h
   · have hi2 : items2[((i : Nat) : Int).toNat]? = none := by simp; omega
     have hd2 : ms.drop i = [] := by simp; omega
     rw [hd, hd2, HT.lexLt_cons_nil] at h
     rw [hi1, hi2]
     wp_walk using wpAny_loadPart' hl, wpAny_loadPart' hb
     show R (.ok (.ret (.bool (decide (items.size < items2.size))))) _
     rw [decide_eq_false (by omega)]
     exact h)) only [↓mr]
theorem list_lt (l b : Addr) (items items2 : Array Value) (n n2 : Nat) (dd dd2 : Option Addr) (sl sl2 : Array (Option Value)) (ns ms : List Int) (hi : IntsAre items.toList ns) (hj : IntsAre items2.toList ms) :
   Meets (Builtin.«list.__lt__» ⟨[.ref l, .ref b], []⟩)
     (fun A R s => s.heap.get? l = some { cls := .type "list", dict := dd, data := .seq items n, slots := sl } ∧ s.heap.get? b = some { cls := .type "list", dict := dd2, data := .seq items2 n2, slots := sl2 } ∧
       R (.ok (.ret (.bool (lexLt ns ms)))) s) := by
 refine mq ?_; simp (disch := k_dflt (
 refine mz ?_
 intro prog w A R s h
 obtain ⟨hp, g, d, tk, os⟩ := s; obtain ⟨hl, hb, h⟩ := h
 have f3 := AutoSeq1.sub_list_list
 wp_walk using wpAny_loadPart' hl, wpAny_loadPart' hb
 exact ⟨plainId_quiet plain_eq_loop _, codeAny_builtin entry_eq_loop (by
   rw [Around.under_plainId plain_eq_loop _]
   exact lt_loop l b items items2 n n2 dd dd2 sl sl2 ns ms hi hj _ 0 rfl (Nat.zero_le _) (Nat.zero_le _) prog w A R _ ⟨hl, hb, by simpa using h⟩)⟩)) only [↓mr]
theorem lt_lists {prog : Program} {w : World} {A : Around} {E : Value → Shared → Prop} {s : Shared} {l b : Addr} {items items2 : Array Value} {ns ms : List Int} {Q : Value → Shared → Prop} (hl : s.heap.IsList l items) (hb : s.heap.IsList b items2) (hi : IntsAre items.toList ns) (hj : IntsAre items2.toList ms)
   (hu : A.units < cLine) (h : Q (.bool (lexLt ns ms)) s) : wpAny (model prog w) A (richCompare .Lt (.ref l) (.ref b)) Q E s := by
 refine mq ?_; simp (disch := k_dflt (
 refine mz ?_
 obtain ⟨⟨cls, dd, data, sl⟩, ho, hc, n, hd⟩ := id hl
 obtain ⟨⟨cls2, dd2, data2, sl2⟩, ho2, hc2, n2, hd2⟩ := id hb
 simp only at hc hd hc2 hd2
 subst hc hd hc2 hd2
 exact richCompare_meets_room (op := .Lt) ⟨_, ho, rfl⟩ ⟨_, ho2, rfl⟩ PySem.F.slot_list_lt PySem.F.entry_list_lt (PySem.F.args_list_lt_2 _ _) (list_lt l b items items2 n n2 dd dd2 sl sl2 ns ms hi hj)
   ⟨ho, ho2, show Value.bool (lexLt ns ms) ≠ Value.notImplemented ∧ Q (.bool (lexLt ns ms)) s from ⟨(fun x => nomatch x), h⟩⟩ hu)) only [↓mr]
theorem eq_lists {A : Around} {s : Shared} {l b : Addr} {items items2 : Array Value} {ns ms : List Int} (hl : s.heap.IsList l items) (hb : s.heap.IsList b items2) (hi : IntsAre items.toList ns) (hj : IntsAre items2.toList ms)
   (hu : A.units < cLine) : ∃ e, EqAt A s (.ref l) (.ref b) e ∧ (e = true ↔ ns = ms) := by
 refine mq ?_; simp (disch := k_dflt (
 refine mz ?_
 have z1 : items.size = ns.length := by rw [← hi.length]; simp
 have z2 : items2.size = ms.length := by rw [← hj.length]; simp
 by_cases hlb : l = b
 · subst hlb
   obtain ⟨o, ho, hc, n, hd⟩ := hl
   obtain ⟨o2, ho2, hc2, n2, hd2⟩ := hb
   rw [ho] at ho2
   cases ho2
   rw [hd] at hd2
   cases hd2
   refine ⟨true, EqAt.same _, fun _ => ?_, fun _ => rfl⟩
   rw [← hi.numsOf, ← hj.numsOf]
 · by_cases hz : items.size = items2.size
   · refine ⟨_, EqAt.of_refs hlb (RcAt.lists (e := fun j => decide (ns[j]? = ms[j]?)) hl hb hz hu fun j h1 h2 => ?_), ?_⟩
     · obtain ⟨t, ht⟩ := hi.get j (ns[j]'(by omega)) (List.getElem?_eq_getElem (by omega))
       obtain ⟨u, hu⟩ := hj.get j (ms[j]'(by omega)) (List.getElem?_eq_getElem (by omega))
       rw [Array.getElem?_toList, Array.getElem?_eq_getElem h1] at ht
       rw [Array.getElem?_toList, Array.getElem?_eq_getElem h2] at hu
       rw [Option.some.inj ht, Option.some.inj hu]
       have e : decide (ns[j]? = ms[j]?) = (ns[j]'(by omega) == ms[j]'(by omega)) := by
         rw [List.getElem?_eq_getElem (show j < ns.length by omega), List.getElem?_eq_getElem (show j < ms.length by omega)]
         simp only [Option.some.injEq]
         rw [Bool.eq_iff_iff]; simp
       rw [e]
       exact EqAt.int_int _ t _ u
     · rw [List.all_eq_true]
       constructor
       · intro h
         apply List.ext_getElem?
         intro j
         by_cases hj' : j < items.size
         · exact of_decide_eq_true (h j (List.mem_range.mpr hj'))
         · rw [List.getElem?_eq_none (by omega), List.getElem?_eq_none (by omega)]
       · intro h j _
         rw [h]
         exact decide_eq_true rfl
   · refine ⟨false, EqAt.of_refs hlb (RcAt.lists_lengths hl hb (by simpa using hz) hu), (fun h => by cases h), fun h => ?_⟩
     exact absurd (by rw [z1, z2, h]) hz)) only [↓mr]
theorem tuple_lt (x y l b : Addr) (n n2 : Nat) (dd dd2 : Option Addr) (sl sl2 : Array (Option Value)) (i j : Int) (t u : Tok) (ns ms : List Int) :
   Meets (Builtin.«tuple.__lt__» ⟨[.ref x, .ref y], []⟩)
     (fun A R s => s.heap.get? x = some { cls := .type "tuple", dict := dd, data := .seq #[.int i t, .ref l] n, slots := sl } ∧ s.heap.get? y = some { cls := .type "tuple", dict := dd2, data := .seq #[.int j u, .ref b] n2, slots := sl2 } ∧
       (∃ e, EqAt A.in1 s (.ref l) (.ref b) e ∧ (e = true ↔ ns = ms)) ∧ (∀ (prog : Program) (w : World) (E : Value → Shared → Prop) (Q : Value → Shared → Prop), Q (.bool (lexLt ns ms)) s → wpAny (model prog w) A.in1 (richCompare .Lt (.ref l) (.ref b)) Q E s) ∧
       R (.ok (.ret (.bool (if i = j then (if ns = ms then false else lexLt ns ms) else decide (i < j))))) s) :=
 .of_wp fun prog w A R s h => by
   obtain ⟨hp, g, d, tk, os⟩ := s; obtain ⟨hl, hb, ⟨e2, he2, hiff2⟩, hlt, h⟩ := h
   have f2 := AutoSeq1.sub_tuple_tuple
   wp_walk using wpAny_loadPart' hl, wpAny_loadPart' hb, wpAny_forIn_list _ (fun rest b' s' => b'.1 = none ∧ s' = ⟨hp, g, d, tk, os⟩ ∧ ((rest = [(.int i t, .int j u), (.ref l, .ref b)]) ∨ (rest = [(.ref l, .ref b)] ∧ i = j) ∨ (rest = [] ∧ i = j ∧ ns = ms))) _
   case turn =>
     rintro ⟨y', x'⟩ rest b' s' ⟨hb', rfl, hr⟩
     rcases hr with hr | ⟨hr, hij⟩ | ⟨hr, _⟩
     · cases hr
       obtain ⟨e, he, hiff⟩ := HT.eqAt_int A.in1 ⟨hp, g, d, tk, os⟩ i t j u
       refine wpAny_bind (he prog w _ _ ?_)
       cases e with
       | true =>
         wp_walk
         exact ⟨rfl, rfl, .inr (.inl ⟨rfl, hiff.mp rfl⟩)⟩
       | false =>
         rw [if_neg (fun q => absurd (hiff.mpr q) Bool.false_ne_true)] at h
         have hri := HT.rcLt_int A.in1 ⟨hp, g, d, tk, os⟩ i t j u prog w
         wp_walk using hri
         exact ⟨_, rfl, by simpa using h⟩
     · cases hr
       rw [if_pos hij] at h
       refine wpAny_bind (he2 prog w _ _ ?_)
       cases e2 with
       | true =>
         wp_walk
         exact ⟨rfl, rfl, .inr (.inr ⟨rfl, hij, hiff2.mp rfl⟩)⟩
       | false =>
         rw [if_neg (fun q => absurd (hiff2.mpr q) Bool.false_ne_true)] at h
         have hri := hlt prog w
         wp_walk using hri
         exact ⟨_, rfl, by simpa using h⟩
     · cases hr
   case fin =>
     rintro ⟨b1, b2⟩ s' ⟨hb', rfl, hr⟩
     simp only at hb'
     subst hb'
     rcases hr with hr | ⟨hr, hij⟩ | ⟨_, hij, hnm⟩
     · cases hr
     · cases hr
     · rw [if_pos hij, if_pos hnm] at h
       wp_walk
       exact ⟨_, rfl, by simpa [Builtin.Tuple.tupleCompareSizes] using h⟩
   case h =>
     exact ⟨rfl, rfl, .inl rfl⟩
def keyLt (i j : Int) (ns ms : List Int) : Bool := if i = j then (if ns = ms then false else lexLt ns ms) else decide (i < j)
theorem lt_keys {prog : Program} {w : World} {A : Around} {E : Value → Shared → Prop} {s : Shared} {x y l b : Addr} {items items2 : Array Value} {i j : Int} {t u : Tok} {ns ms : List Int} {Q : Value → Shared → Prop} (hx : IsTup s.heap x #[.int i t, .ref l]) (hy : IsTup s.heap y #[.int j u, .ref b])
   (hl : s.heap.IsList l items) (hb : s.heap.IsList b items2) (hi : IntsAre items.toList ns) (hj : IntsAre items2.toList ms)
   (hu : A.units + 8 < cLine) (h : Q (.bool (keyLt i j ns ms)) s) : wpAny (model prog w) A (richCompare .Lt (.ref x) (.ref y)) Q E s := by
 refine mq ?_; simp (disch := k_dflt (
 refine mz ?_
 obtain ⟨⟨cls, dd, data, sl⟩, ho, hc, n, hd⟩ := id hx
 obtain ⟨⟨cls2, dd2, data2, sl2⟩, ho2, hc2, n2, hd2⟩ := id hy
 simp only at hc hd hc2 hd2
 subst hc hd hc2 hd2
 refine wpAny_richCompare_same_room (op := .Lt) ⟨_, ho, rfl⟩ ⟨_, ho2, rfl⟩ PySem.F.slot_tuple_lt (call_meets PySem.F.slot_tuple_lt ⟨_, ho, rfl⟩ PySem.F.entry_tuple_lt (PySem.F.args_tuple_lt_2 _ _) (tuple_lt x y l b n n2 dd dd2 sl sl2 i j t u ns ms)
   ⟨ho, ho2, eq_lists hl hb hi hj ?_, fun prog w E Q hq => lt_lists hl hb hi hj ?_ hq, show Value.bool _ ≠ Value.notImplemented ∧ Q (.bool (keyLt i j ns ms)) s from ⟨(fun x => nomatch x), h⟩⟩) (by omega)
 all_goals (show A.units + 1 < cLine; omega))) only [↓mr]
end
section
open HT (lexLt)
theorem lexLt_irrefl : ∀ l : List Int, lexLt l l = false
 | [] => rfl
 | x :: r => by rw [HT.lexLt_cons, if_pos rfl]; exact lexLt_irrefl r
theorem lexLt_trans : ∀ {a b c : List Int}, lexLt a b = true → lexLt b c = true → lexLt a c = true
 | [], [], _, h, _ => by cases h
 | [], _ :: _, [], _, h => by cases h
 | [], _ :: _, _ :: _, _, _ => rfl
 | _ :: _, [], _, h, _ => by cases h
 | _ :: _, _ :: _, [], _, h => by cases h
 | x :: r, y :: s, z :: t, h, h2 => by
   rw [HT.lexLt_cons] at h h2 ⊢
   by_cases e1 : x = y
   · subst e1
     rw [if_pos rfl] at h
     by_cases e2 : x = z
     · rw [if_pos e2] at h2 ⊢
       exact lexLt_trans h h2
     · rw [if_neg e2] at h2 ⊢
       exact h2
   · rw [if_neg e1] at h
     have h := of_decide_eq_true h
     by_cases e2 : y = z
     · subst e2
       rw [if_neg (by omega)]
       exact decide_eq_true h
     · rw [if_neg e2] at h2
       have h2 := of_decide_eq_true h2
       rw [if_neg (by omega)]
       exact decide_eq_true (by omega)
def szLt (m l : List Int) : Bool := keyLt (m.length : Nat) (l.length : Nat) m l
theorem szLt_iff (m l : List Int) : szLt m l = true ↔ m.length < l.length ∨ (m.length = l.length ∧ lexLt m l = true) := by
 unfold szLt keyLt
 by_cases e : m.length = l.length
 · rw [if_pos (by omega)]
   by_cases e2 : m = l
   · subst e2
     rw [if_pos rfl, lexLt_irrefl]
     simp
   · rw [if_neg e2]
     simp [e]
 · rw [if_neg (by omega)]
   simp [e]
theorem szLt_irrefl (l : List Int) : szLt l l = false := by
 cases h : szLt l l with
 | false => rfl
 | true =>
   rcases (szLt_iff l l).mp h with q | ⟨_, q⟩
   · omega
   · rw [lexLt_irrefl] at q; cases q
theorem szLt_trans {a b c : List Int} (h : szLt a b = true) (h2 : szLt b c = true) : szLt a c = true := by
 rw [szLt_iff] at *
 rcases h with h | ⟨e, h⟩
 · rcases h2 with h2 | ⟨e2, h2⟩
   · exact .inl (by omega)
   · exact .inl (by omega)
 · rcases h2 with h2 | ⟨e2, h2⟩
   · exact .inl (by omega)
   · exact .inr ⟨by omega, lexLt_trans h h2⟩
end
def spKey : Sp := fun vs H Q _ => ∃ (t : Addr) (l : List Int), vs = [.ref t] ∧ H t = some (.lst (l.map V.int)) ∧ ∀ p, H p = none → Q (.ref p) (upd H p (.tup [.int (l.length : Nat), .ref t]))
def tMinK (sp : Sp) (ta : TA) : TE := fun σ H Q => ta σ H fun vs H1 => sp = spKey ∧ ∃ (a : Addr) (ts : List Addr) (ls : List (List Int)), vs = [.ref a] ∧ H1 a = some (.lst (ts.map V.ref)) ∧ ts.length = ls.length ∧
 (∀ (i : Nat) (t : Addr) (l : List Int), ts[i]? = some t → ls[i]? = some l → H1 t = some (.lst (l.map V.int))) ∧ 0 < ts.length ∧
 ∀ (H2 : Hp) (i : Nat) (t : Addr) (l : List Int), Same H1 H2 → ts[i]? = some t → ls[i]? = some l → (∀ (j : Nat) (m : List Int), ls[j]? = some m → szLt m l = false) → Q (.ref t) H2
section
variable {X : Cx} {pins : List (Addr × Obj)} {σ : St} {k : Nat} {f : Addr} {ps : List Str}
theorem run_key {pins : List (Addr × Obj)} {H : Hp} {s : Shared} {t : Addr} {l : List Int} (F : Fn X.prog X.w X.K X.mg X.base k f ps spKey) (hr : Room (k + 1) X.A) (I : Inv X pins σ H s) (ht : H t = some (.lst (l.map V.int))) :
   wpAny (model X.prog X.w) X.A.in1 (call (.ref f) [.ref t]) (fun u s' => ∃ p, u = .ref p ∧ H p = none ∧ Inv X pins σ (upd H p (.tup [.int (l.length : Nat), .ref t])) s') (fun _ _ => False) s := by
 refine mq ?_; simp (disch := k_dflt (
 refine mz ?_
 obtain ⟨fd, G, b⟩ := F.ex
 have hl : ([Value.ref t] ++ []).length = ps.length := by
   have := G.len [.ref t] H (fun _ _ => True) E0 ⟨t, l, rfl, ht, fun _ _ => trivial⟩
   simpa using this
 refine wpAny_call (codeAny_mono (G.run X.A.in1 X.stack s H ⟨[.ref t], []⟩ ([Value.ref t] ++ []) [.ref t] (fun v H' => ∃ p, v = .ref p ∧ H p = none ∧ H' = upd H p (.tup [.int (l.length : Nat), .ref t])) E0 hr.in1 I.env0.in1 (b s [.ref t] I.kIn hl) (show Vals [V.ref t] [Value.ref t] from .cons rfl .nil) ⟨t, l, rfl, ht, fun p hp => ⟨p, rfl, hp, rfl⟩⟩) fun r s' hq => ?_)
 cases r with
 | error e => exact False.elim hq
 | ok fl =>
   cases fl with
   | ret u =>
     obtain ⟨v, H', I', r', p, rfl, hp, rfl⟩ := I.after hq
     cases r'
     exact ⟨p, rfl, hp, I'⟩
   | next => exact False.elim hq
   | brk => exact False.elim hq
   | cont => exact False.elim hq)) only [↓mr]
theorem Inv.upd2 {H : Hp} {s : Shared} {S : Addr} {g : Array Value → Array Value} (I : Inv X pins σ H s) (hf : FpOk X pins H S) : Inv X pins σ H { s with heap := s.heap.update S (Obj.mapSeq g) } := by
 obtain ⟨f0, f1, f2, f3, f4, f5⟩ := hf
 have s1 := Heap.SameBut.update s.heap S (Obj.mapSeq g)
 exact I.turned (t' := s.toks) (fun b o hb e => (s1.2 b hb).trans e) f0 f1 f3 f4 f5
theorem Inv.keyTup {pins : List (Addr × Obj)} {H : Hp} {s : Shared} {p t : Addr} {n : Int} (I : Inv X pins σ H s) (h : H p = some (.tup [.int n, .ref t])) : ∃ u, IsTup s.heap p #[.int n u, .ref t] := by
 obtain ⟨its, rv, tp, _⟩ := I.tuple (SqT.of h)
 cases rv with
 | cons r rr =>
   cases rr with
   | cons r' rr =>
     cases rr
     obtain ⟨u, rfl⟩ := r
     cases r'
     exact ⟨u, tp⟩
theorem mink_loop (F : Fn X.prog X.w X.K X.mg X.base k f ps spKey) (hr : Room (k + 1) X.A) (hc : X.calm = true) {a it S : Addr} {ts : List Addr} {ls : List (List Int)} (hlen : ts.length = ls.length) {H0 : Hp} (ha : H0 a = some (.lst (ts.map V.ref)))
   (hls : ∀ (i : Nat) (t : Addr) (l : List Int), ts[i]? = some t → ls[i]? = some l → H0 t = some (.lst (l.map V.int))) (hSI : S ≠ it) {R : Result → Shared → Prop}
   (hR : ∀ (i : Nat) (t : Addr) (l : List Int) (H' : Hp) (s' : Shared), Same H0 H' → Inv X pins σ H' s' → ts[i]? = some t → ls[i]? = some l → (∀ (j : Nat) (m : List Int), ls[j]? = some m → szLt m l = false) → R (.ok (.ret (.ref t))) s') :
   ∀ (r j i : Nat) (s : Shared) (H : Hp) (t kb : Addr) (l : List Int) (c : Nat), ts.length - (j + 1) = r → j + 1 ≤ ts.length → Inv X pins σ H s → Same H0 H → FpOk X pins H it → FpOk X pins H S → s.heap.IsListIter it a (j + 1) →
     s.heap.get? S = some (seqObj "list" #[.ref t, .ref kb] c) → ts[i]? = some t → ls[i]? = some l → H kb = some (.tup [.int (l.length : Nat), .ref t]) → (∀ (j' : Nat) (m : List Int), j' ≤ j → ls[j']? = some m → szLt m l = false) →
     codeAny (model X.prog X.w) X.A (.builtin "min.loop" ⟨[.ref it, .ref f, .ref S], []⟩) R s := by
 refine mq ?_; simp (disch := k_dflt (
 refine mz ?_
 have hname : (toString "min" ++ toString ".loop" : String) = "min.loop" := by decide
 intro r
 induction r with
 | zero =>
   intro j i s H t kb l c hr0 hj I sm fI fS st hS hti hli hkb hbest
   obtain ⟨its, rv, pl, hz⟩ := I.list (SqL.of (sm _ _ ha))
   have hvl := rv.length
   rw [List.length_map] at hvl
   refine codeAny_builtin PySem.F.entry_min_loop ?_
   rw [Around.under_plainId PySem.F.plain_min_loop _]
   show wpAny _ X.A.in1 (seqItems? (.ref S) >>= _) _ _ _
   refine wpAny_bind (wpAny_seqItems hS rfl ?_)
   show wpAny _ X.A.in1 (tryCatch (pyNext (.ref it)) _ >>= _) _ _ _
   refine wpAny_bind (wpAny_tryCatch (wpAny_pyNext_list_end (I.ok.hd hc) st pl.isList (by simp; omega) fun h' eb => ?_))
   obtain ⟨f0, f1, f2, f3, f4, f5⟩ := id fI
   have I1 : Inv X pins σ H { s with heap := h' } := I.turned (t' := s.toks) (fun b o hb e => eb b o hb e) f0 f1 f3 f4 f5
   have hS1 := eb S _ hSI hS
   show wpAny _ X.A.in1 (updateSeq S (fun _ => #[]) >>= _) _ _ _
   refine wpAny_bind ?_
   refine wpAny_updateSeq hS1 rfl (wpAny_bind (wpAny_letGo (wpAny_pure ?_)))
   exact hR i t l H _ sm (I1.upd2 fS) hti hli fun j' m hm => hbest j' m (by have := (List.getElem?_eq_some_iff.mp hm).1; omega) hm
 | succ r ih =>
   intro j i s H t kb l c hr0 hj I sm fI fS st hS hti hli hkb hbest
   obtain ⟨its, rv, pl, hz⟩ := I.list (SqL.of (sm _ _ ha))
   have hlt : j + 1 < ts.length := by omega
   have ht' : ts[j + 1]? = some ts[j + 1] := List.getElem?_eq_getElem hlt
   have hl' : ls[j + 1]? = some (ls[j + 1]'(by omega)) := List.getElem?_eq_getElem (by omega)
   generalize ts[j + 1] = t' at ht'
   generalize ls[j + 1]'(by omega) = l' at hl'
   obtain ⟨u, hu, ru⟩ := rv.get (i := j + 1) (x := .ref t') (by rw [List.getElem?_map, ht']; rfl)
   cases ru
   refine codeAny_builtin PySem.F.entry_min_loop ?_
   rw [Around.under_plainId PySem.F.plain_min_loop _]
   show wpAny _ X.A.in1 (seqItems? (.ref S) >>= _) _ _ _
   refine wpAny_bind (wpAny_seqItems hS rfl ?_)
   show wpAny _ X.A.in1 (tryCatch (pyNext (.ref it)) _ >>= _) _ _ _
   refine wpAny_bind (wpAny_tryCatch (wpAny_pyNext_list_item st pl.isList (x := .ref t') (by simpa using hu) fun h' st' sb => ?_))
   obtain ⟨f0, f1, f2, f3, f4, f5⟩ := id fI
   have I1 : Inv X pins σ H { s with heap := h' } := I.turned (t' := s.toks) (fun b o hb e => (sb.2 b hb).trans e) f0 f1 f3 f4 f5
   have hS1 := (sb.2 S hSI).trans hS
   obtain ⟨oI, hoI, hoc, hod⟩ := id st'
   have P1 : Inv X (pins ++ pinsAt [it, S] h') σ H { s with heap := h' } := I1.pinned (fun b hb => by
     simp at hb
     rcases hb with rfl | rfl
     · exact fI
     · exact fS) fun b hb => by
     simp at hb
     rcases hb with rfl | rfl
     · exact ⟨oI, hoI, fun v z => by rw [hod] at z; cases z⟩
     · exact ⟨_, hS1, fun v z => by cases z⟩
   show wpAny _ X.A.in1 (tryCatch (holding [.ref t'] (call (.ref f) [.ref t'])) _ >>= _) _ _ _
   refine wpAny_bind (wpAny_tryCatch (wpAny_holding (wpAny_mono (run_key F hr P1 (sm _ _ (hls _ _ _ ht' hl'))) (fun x s'' he => ?_) fun _ _ hF => hF.elim)))
   obtain ⟨p, rfl, hp, I2⟩ := he
   have pS := I2.pin (S, _) (List.mem_append_right _ (List.mem_append_right _ (mem_pinsAt (by simp) hS1)))
   have pI := I2.pin (it, _) (List.mem_append_right _ (List.mem_append_right _ (mem_pinsAt (by simp) hoI)))
   have I3 := I2.unpinned
   have fI3 : FpOk X pins (upd H p (.tup [.int (l'.length : Nat), .ref t'])) it := ⟨pI.2.1, fI.2⟩
   have fS3 : FpOk X pins (upd H p (.tup [.int (l'.length : Nat), .ref t'])) S := ⟨pS.2.1, fS.2⟩
   have st3 : s''.heap.IsListIter it a (j + 1 + 1) := ⟨oI, pI.1, hoc, hod⟩
   have sm3 : Same H (upd H p (.tup [.int (l'.length : Nat), .ref t'])) := fun b o e => by rw [upd_ne (ne_of_none e hp)]; exact e
   obtain ⟨u1, tp1⟩ := I3.keyTup (p := p) (t := t') (n := (l'.length : Nat)) upd_same
   obtain ⟨u2, tp2⟩ := I3.keyTup (sm3 _ _ hkb)
   obtain ⟨its1, rv1, pl1, _⟩ := I3.list (SqL.of (sm3 _ _ (sm _ _ (hls _ _ _ ht' hl'))))
   obtain ⟨its2, rv2, pl2, _⟩ := I3.list (SqL.of (sm3 _ _ (sm _ _ (hls _ _ _ hti hli))))
   show wpAny _ X.A.in1 (tryCatch (holding [.ref t', .ref p] (richCompare .Lt (.ref p) (.ref kb) >>= _)) _ >>= _) _ _ _
   refine wpAny_bind (wpAny_tryCatch (wpAny_holding (wpAny_bind (lt_keys tp1 tp2 pl1.isList pl2.isList rv1.ints rv2.ints (by have := hr.un; show X.A.units + 1 + 8 < cLine; omega) ?_))))
   refine wpAny_bind (wpAny_holding (wpAny_truthy_bool ?_))
   refine wpAny_bind (wpAny_letGo (wpAny_pure ?_))
   show wpAny _ X.A.in1 (if szLt l' l = true then _ else _) _ _ _
   cases hb : szLt l' l with
   | true =>
     rw [if_pos rfl]
     obtain ⟨c2, hc2⟩ : ∃ c2, (s''.heap.update S (Obj.mapSeq fun _ => #[.ref t', .ref p])).get? S = some (seqObj "list" #[.ref t', .ref p] c2) := ⟨_, get?_update_seq pS.1 fun _ => #[.ref t', .ref p]⟩
     have s1 := Heap.SameBut.update s''.heap S (Obj.mapSeq fun _ => #[Value.ref t', .ref p])
     refine wpAny_bind ?_
     refine wpAny_updateSeq pS.1 rfl (wpAny_bind (wpAny_letGo ?_))
     rw [hname]
     refine wpAny_pure ⟨plainId_quiet PySem.F.plain_min_loop _, ih (j + 1) (j + 1) _ _ t' p l' c2 (by omega) hlt (I3.upd2 fS3) (sm.trans sm3) fI3 fS3 ⟨oI, (s1.2 it hSI.symm).trans pI.1, hoc, hod⟩ hc2 ht' hl' upd_same fun j' m hj' hm => ?_⟩
     by_cases e : j' = j + 1
     · subst e
       rw [hm] at hl'
       cases hl'
       exact szLt_irrefl _
     · cases q : szLt m l' with
       | false => rfl
       | true =>
         have h1 := hbest j' m (by omega) hm
         rw [szLt_trans q hb] at h1
         cases h1
   | false =>
     rw [if_neg (by simp)]
     refine wpAny_bind (wpAny_letGo ?_)
     rw [hname]
     refine wpAny_pure ⟨plainId_quiet PySem.F.plain_min_loop _, ih (j + 1) i _ _ t kb l c (by omega) hlt I3 (sm.trans sm3) fI3 fS3 st3 pS.1 hti hli (sm3 _ _ hkb) fun j' m hj' hm => ?_⟩
     by_cases e : j' = j + 1
     · subst e
       rw [hm] at hl'
       cases hl'
       exact hb
     · exact hbest j' m (by omega) hm)) only [↓mr]
theorem mink {H : Hp} {s : Shared} {Q : VK} (F : Fn X.prog X.w X.K X.mg X.base k f ps spKey) (hr : Room (k + 1) X.A) (hc : X.calm = true) (I : Inv X pins σ H s) {a : Addr} {ts : List Addr} {ls : List (List Int)} (ha : H a = some (.lst (ts.map V.ref))) (hlen : ts.length = ls.length)
   (hls : ∀ (i : Nat) (t : Addr) (l : List Int), ts[i]? = some t → ls[i]? = some l → H t = some (.lst (l.map V.int))) (hne : 0 < ts.length)
   (q : ∀ (H2 : Hp) (i : Nat) (t : Addr) (l : List Int), Same H H2 → ts[i]? = some t → ls[i]? = some l → (∀ (j : Nat) (m : List Int), ls[j]? = some m → szLt m l = false) → Q (.ref t) H2) :
   wpAny (model X.prog X.w) X.A (call (.builtin "min") [.ref a] [(Str.ofString "key", .ref f)]) (EP X pins σ Q) X.xe s := by
 refine mq ?_; simp (disch := k_dflt (
 refine mz ?_
 have hname : (toString "min" ++ toString ".loop" : String) = "min.loop" := by decide
 obtain ⟨its, rv, pl, hz⟩ := I.list (SqL.of ha)
 refine kmk_tree PySem.F.kind_min PySem.F.plain_min PySem.F.entry_min (kmk_min_key _ _) ?_
 show wpAny _ X.A.in1 (Builtin.Builtins.bindParams "min" ["key", "default"] 0 ⟨[], [(Str.ofString "key", .ref f)]⟩ >>= _) _ _ s
 refine wpAny_bind (wpAny_of_eq (show Builtin.Builtins.bindParams "min" ["key", "default"] 0 ⟨[], [(Str.ofString "key", .ref f)]⟩ = pure [some (.ref f), none] from rfl) ?_)
 refine wpAny_bind (wpAny_pure ?_)
 refine wpAny_bind (wpAny_pyIter_list pl.isList ?_)
 refine wpAny_bind (wpAny_newList ?_ (Nat.zero_le _))
 rw [hname]
 refine wpAny_pure ⟨plainId_quiet PySem.F.plain_min_loop _, ?_⟩
 generalize hit : s.heap.objs.size = it
 generalize hh1 : s.heap.push { cls := .type "list_iterator", data := .fields #[.ref a, .int 0 0] } = h1
 have gI0 : h1.get? it = some { cls := .type "list_iterator", data := .fields #[.ref a, .int 0 0] } := by rw [← hh1, ← hit]; exact Heap.get?_push_size _ rfl
 have k1 : ∀ b o, s.heap.get? b = some o → h1.get? b = some o := fun b o e => by rw [← hh1]; exact Heap.get?_push_of_some _ e
 have z1 : h1.objs.size = it + 1 := by rw [← hh1, Heap.size_push, hit]
 generalize hSS : h1.objs.size = S
 have hSI : S ≠ it := by rw [← hSS, z1]; exact Nat.succ_ne_self _
 generalize hh2 : h1.push (seqObj "list" #[] 0) = h2
 have gS : h2.get? S = some (seqObj "list" #[] 0) := by rw [← hh2, ← hSS]; exact Heap.get?_push_size _ rfl
 have gI : h2.get? it = some { cls := .type "list_iterator", data := .fields #[.ref a, .int 0 0] } := by rw [← hh2]; exact Heap.get?_push_of_some _ gI0
 have k2 : ∀ b o, s.heap.get? b = some o → h2.get? b = some o := fun b o e => by rw [← hh2]; exact Heap.get?_push_of_some _ (k1 b o e)
 have fI : FpOk X pins H it := I.fpOk (Nat.le_of_eq hit) (I.hok.fresh (Nat.le_of_eq hit))
 have leS : s.heap.objs.size ≤ S := by rw [← hSS, z1, hit]; exact Nat.le_succ _
 have fS : FpOk X pins H S := I.fpOk leS (I.hok.fresh leS)
 have I0 : Inv X pins σ H { s with heap := h2 } := I.kept (t' := s.toks) k2
 obtain ⟨its, rv, pl, hz⟩ := I0.list (SqL.of ha)
 have ht' : ts[0]? = some ts[0] := List.getElem?_eq_getElem hne
 have hl' : ls[0]? = some (ls[0]'(by omega)) := List.getElem?_eq_getElem (by omega)
 generalize ts[0] = t' at ht'
 generalize ls[0]'(by omega) = l' at hl'
 obtain ⟨u, hu, ru⟩ := rv.get (i := 0) (x := .ref t') (by rw [List.getElem?_map, ht']; rfl)
 cases ru
 refine codeAny_builtin PySem.F.entry_min_loop ?_
 rw [Around.under_plainId PySem.F.plain_min_loop _]
 show wpAny _ X.A.in1 (seqItems? (.ref _) >>= _) _ _ _
 refine wpAny_bind (wpAny_seqItems gS rfl ?_)
 show wpAny _ X.A.in1 (tryCatch (pyNext (.ref it)) _ >>= _) _ _ _
 refine wpAny_bind (wpAny_tryCatch (wpAny_pyNext_list_item (i := 0) ⟨_, gI, rfl, rfl⟩ pl.isList (x := .ref t') (by simpa using hu) fun h' st' sb => ?_))
 obtain ⟨f0, f1, f2, f3, f4, f5⟩ := id fI
 have I1 : Inv X pins σ H { s with heap := h' } := I0.turned (t' := s.toks) (fun b o hb e => (sb.2 b hb).trans e) f0 f1 f3 f4 f5
 have hS1 := (sb.2 S hSI).trans gS
 obtain ⟨oI, hoI, hoc, hod⟩ := id st'
 have P1 : Inv X (pins ++ pinsAt [it, S] h') σ H { s with heap := h' } := I1.pinned (fun b hb => by
   simp at hb
   rcases hb with rfl | rfl
   · exact fI
   · exact fS) fun b hb => by
   simp at hb
   rcases hb with rfl | rfl
   · exact ⟨oI, hoI, fun v z => by rw [hod] at z; cases z⟩
   · exact ⟨_, hS1, fun v z => by cases z⟩
 show wpAny _ X.A.in1 (tryCatch (holding [.ref t'] (call (.ref f) [.ref t'])) _ >>= _) _ _ _
 refine wpAny_bind (wpAny_tryCatch (wpAny_holding (wpAny_mono (run_key F hr P1 (hls _ _ _ ht' hl')) (fun x s'' he => ?_) fun _ _ hF => hF.elim)))
 obtain ⟨p, rfl, hp, I2⟩ := he
 have pS := I2.pin (S, _) (List.mem_append_right _ (List.mem_append_right _ (mem_pinsAt (by simp) hS1)))
 have pI := I2.pin (it, _) (List.mem_append_right _ (List.mem_append_right _ (mem_pinsAt (by simp) hoI)))
 have I3 := I2.unpinned
 have fI3 : FpOk X pins (upd H p (.tup [.int (l'.length : Nat), .ref t'])) it := ⟨pI.2.1, fI.2⟩
 have fS3 : FpOk X pins (upd H p (.tup [.int (l'.length : Nat), .ref t'])) S := ⟨pS.2.1, fS.2⟩
 have sm3 : Same H (upd H p (.tup [.int (l'.length : Nat), .ref t'])) := fun b o e => by rw [upd_ne (ne_of_none e hp)]; exact e
 obtain ⟨c2, hc2⟩ : ∃ c2, (s''.heap.update S (Obj.mapSeq fun _ => #[.ref t', .ref p])).get? S = some (seqObj "list" #[.ref t', .ref p] c2) := ⟨_, get?_update_seq pS.1 fun _ => #[.ref t', .ref p]⟩
 have s1 := Heap.SameBut.update s''.heap S (Obj.mapSeq fun _ => #[Value.ref t', .ref p])
 show wpAny _ X.A.in1 (updateSeq S (fun _ => #[.ref t', .ref p]) >>= _) _ _ _
 refine wpAny_bind ?_
 refine wpAny_updateSeq pS.1 rfl ?_
 rw [hname]
 refine wpAny_pure ⟨plainId_quiet PySem.F.plain_min_loop _, mink_loop F hr hc hlen ha hls hSI (fun i t l H' s' sm' I' h1 h2 h3 => ⟨.ref t, H', I', rfl, q H' i t l sm' h1 h2 h3⟩) _ 0 0 _ _ t' p l' c2 rfl hne (I3.upd2 fS3) sm3 fI3 fS3 ⟨oI, (s1.2 it hSI.symm).trans pI.1, hoc, hod⟩ hc2 ht' hl' upd_same fun j' m hj' hm => ?_⟩
 have e : j' = 0 := by omega
 subst e
 rw [hm] at hl'
 cases hl'
 exact szLt_irrefl _)) only [↓mr]
theorem pe_minKey {sp : Sp} {j : Nat} {e : Expr} {ta : TA} {x : Str} {p p2 kpos pos : Pos} (F : Fn X.prog X.w X.K X.mg X.base k f ps sp) (hr : Room j X.A) (hk : k + 1 ≤ j) (hc : X.calm = true) (hg : Gl X "min") (hm : X.mg "min" = none) (hg2 : Gl X x) (hm2 : X.mg x = some (.ref f)) (ha : PA X [e] ta)
   (hd2 : (x == ("__debug__" : Str)) = false := by decide)
   (he : backTo pos (starEach [e] X.env) = (false, eval e X.env) :: backTo pos (starEach [] X.env) := by rfl)
   (hplain : (backTo pos (starEach [e] X.env)).any (·.1) = false := by rfl)
   (hall : (backToKw pos (keywordEach [⟨some "key", .Name x p2, kpos⟩] X.env)).all (·.1.isSome) = true := by rfl)
   (hkw : (backToKw pos (keywordEach [⟨some "key", .Name x p2, kpos⟩] X.env)).any (·.1.isNone) = false := by rfl)
   (hks : (backToKw pos (keywordEach [⟨some "key", .Name x p2, kpos⟩] X.env)).filterMap (·.1) = [Str.ofString "key"] := by rfl) :
   PE X (.Call (.Name "min" p) [e] [⟨some "key", .Name x p2, kpos⟩] pos) (tMinK sp ta) := by
 refine mq ?_; simp (disch := k_dflt (
 refine mz ?_
 intro pins s σ H Q I h
 refine wpAny_Call_Name_kw (ld_blt I hg hm PyProof.Rows.boot_min ?_ (by decide) (by decide))
 refine PyProof.Rows.callWith_kw (thn (ha pos pins s σ H _ I h) fun us s1 ⟨vs, H1, I1, r1, q1⟩ => ?_) he hplain hall hkw
 obtain ⟨rfl, a, ts, ls, rfl, h1, h2, h3, h4, q⟩ := q1
 have hpk : PK X [⟨some "key", .Name x p2, kpos⟩] (tCons (tC (.ref f)) tNil) := pk_cons (pe_glob hg2 hm2 rfl hd2) pk_nil
 refine thn (hpk pos pins s1 σ H1 (fun zs H2 => zs = [.ref f] ∧ H2 = H1) I1 ⟨rfl, rfl⟩) fun ws s2 ⟨zs, H2, I2, rz, ez, eH⟩ => ?_
 subst ez eH
 rw [hks]
 obtain ⟨u, rfl, ru⟩ := vals1 r1
 obtain ⟨u2, rfl, ru2⟩ := vals1 rz
 cases ru
 cases ru2
 exact mink F (hr.mono hk) hc I2 h1 h2 h3 h4 q)) only [↓mr]
end
end L2

namespace Rm
open Rw RwReelSeed
theorem littleOf_len : ∀ (w v : Nat), (littleOf w v).length = w
 | 0, _ => rfl
 | w + 1, v => by simp [littleOf, littleOf_len w]
theorem littleOf_snoc : ∀ (w v : Nat), littleOf (w + 1) v = littleOf w v ++ [UInt8.ofNat (v / 256 ^ w % 256)]
 | 0, v => by simp [littleOf]
 | w + 1, v => by
   have h := littleOf_snoc w (v / 256)
   rw [littleOf, h]
   show _ = UInt8.ofNat (v % 256) :: (littleOf w (v / 256)) ++ _
   rw [Nat.div_div_eq_div_mul, Nat.pow_succ, Nat.mul_comm 256]
   rfl
theorem littleOf_mod : ∀ (w v : Nat), littleOf w (v % 256 ^ w) = littleOf w v
 | 0, _ => rfl
 | w + 1, v => by
   have h := littleOf_mod w (v / 256)
   show UInt8.ofNat (v % 256 ^ (w + 1) % 256) :: littleOf w (v % 256 ^ (w + 1) / 256) = _
   have e1 : v % 256 ^ (w + 1) % 256 = v % 256 := by
     rw [Nat.pow_succ]
     exact Nat.mod_mul_left_mod v _ _
   have e2 : v % 256 ^ (w + 1) / 256 = v / 256 % 256 ^ w := by
     rw [Nat.pow_succ, Nat.mul_comm]
     exact Nat.mod_mul_right_div_self v 256 _
   rw [e1, e2, h]
   rfl
theorem little_lt : ∀ l : Bytes, little l < 256 ^ l.length
 | [] => by decide
 | c :: r => by
   have h := little_lt r
   have hc : c.toNat < 256 := UInt8.toNat_lt c
   show c.toNat + 256 * little r < 256 ^ (r.length + 1)
   rw [Nat.pow_succ]
   omega
theorem peek_lt (m : Bytes) (x w : Nat) : peek m x w < 256 ^ w := by
 have h := little_lt ((m.drop x).take w)
 refine Nat.lt_of_lt_of_le h (Nat.pow_le_pow_right (by decide) ?_)
 rw [List.length_take]
 exact Nat.min_le_left _ _
theorem turned_lt (w v : Nat) : turned w v < 256 ^ w := by
 have h := little_lt (littleOf w v).reverse
 rw [List.length_reverse, littleOf_len] at h
 exact h
theorem turned_succ (w v : Nat) : turned (w + 1) v = turned w v * 256 + v / 256 ^ w % 256 := by
 unfold turned
 rw [littleOf_snoc, List.reverse_append]
 show (UInt8.ofNat (v / 256 ^ w % 256)).toNat + 256 * little (littleOf w v).reverse = _
 rw [UInt8.toNat_ofNat']
 omega
theorem div_succ (v w : Nat) : v / 256 ^ (w + 1) = v / 256 ^ w / 256 := by
 rw [Nat.pow_succ, Nat.div_div_eq_div_mul]
theorem poke_mod (m : Bytes) (x w v : Nat) : poke m x w (v % 256 ^ w) = poke m x w v := by
 unfold poke
 rw [littleOf_mod]
theorem poke_zero (m : Bytes) (x v : Nat) : poke m x 0 v = m := by
 simp [poke, littleOf]
theorem poke_len {m : Bytes} {x w : Nat} (v : Nat) (h : x + w ≤ m.length) : (poke m x w v).length = m.length := by
 simp [poke, littleOf_len]
 omega
theorem poke_succ {m : Bytes} {x w : Nat} (v : Nat) (h : x + w + 1 ≤ m.length) : poke m x (w + 1) v = (poke m x w v).set (x + w) (UInt8.ofNat (v / 256 ^ w % 256)) := by
 unfold poke
 have e1 : (m.take x).length = x := by rw [List.length_take]; omega
 have e2 : m.drop (x + w) = m[x + w] :: m.drop (x + (w + 1)) := by
   rw [List.drop_eq_getElem_cons (by omega)]
   rfl
 rw [littleOf_snoc, e2, List.set_append, e1, if_neg (by omega), show x + w - x = w by omega, List.set_append, littleOf_len, if_neg (by omega), Nat.sub_self]
 simp
theorem nums_len (m : Bytes) : (nums m).length = m.length := by simp [nums]
theorem nums_set (m : Bytes) (i v : Nat) : (nums m).set i ((v % 256 : Nat) : Int) = nums (m.set i (UInt8.ofNat (v % 256))) := by
 unfold nums
 rw [List.map_set, UInt8.toNat_ofNat', Nat.mod_mod]
theorem bytes_nums {b : List Int} (h : ∀ x ∈ b, 0 ≤ x ∧ x ≤ 255) : nums (bytesOf b) = b := by
 unfold bytesOf nums
 rw [List.map_map]
 conv => rhs; rw [← List.map_id b]
 refine List.map_congr_left fun x hx => ?_
 obtain ⟨h1, h2⟩ := h x hx
 show ((UInt8.ofNat x.toNat).toNat : Int) = x
 rw [UInt8.toNat_ofNat']
 omega
def readN (l : List Int) : Int := l.foldr (fun b n => n * 256 + b) 0
theorem readN_little : ∀ l : Bytes, readN (nums l) = ((little l : Nat) : Int)
 | [] => rfl
 | c :: r => by
   have h := readN_little r
   show readN (nums r) * 256 + (c.toNat : Int) = ((c.toNat + 256 * little r : Nat) : Int)
   rw [h]
   omega
theorem readN_peek (m : Bytes) (x w : Nat) : readN (((nums m).drop x).take w) = ((peek m x w : Nat) : Int) := by
 have e : ((nums m).drop x).take w = nums ((m.drop x).take w) := by
   unfold nums
   rw [List.map_take, List.map_drop]
 rw [e]
 exact readN_little _
theorem bitAt_eq (x i : Nat) : bitAt x i = x.testBit i := by
 unfold bitAt
 rw [Nat.testBit_eq_decide_div_mod_eq]
theorem sub_and_testBit : ∀ (j x m : Nat), (x - (x &&& m)).testBit j = (x.testBit j && !m.testBit j)
 | 0, x, m => by
   have h1 : (x &&& m) ≤ x := Nat.and_le_left
   have h2 := @Nat.and_mod_two_eq_one x m
   rw [Nat.testBit_zero, Nat.testBit_zero, Nat.testBit_zero]
   generalize x &&& m = y at h1 h2 ⊢
   by_cases hx : x % 2 = 1 <;> by_cases hm : m % 2 = 1 <;> simp [hx, hm] at h2 ⊢ <;> omega
 | j + 1, x, m => by
   have h1 : (x &&& m) ≤ x := Nat.and_le_left
   have h2 := @Nat.and_mod_two_eq_one x m
   have h3 := @Nat.and_div_two x m
   have e : (x - (x &&& m)) / 2 = x / 2 - (x / 2 &&& m / 2) := by
     rw [← h3]
     omega
   rw [Nat.testBit_add_one, Nat.testBit_add_one, Nat.testBit_add_one, e]
   exact sub_and_testBit j (x / 2) (m / 2)
theorem add_testBit : ∀ (j x y : Nat), x &&& y = 0 → (x + y).testBit j = (x.testBit j || y.testBit j)
 | 0, x, y, h => by
   have h2 := @Nat.and_mod_two_eq_one x y
   rw [h] at h2
   rw [Nat.testBit_zero, Nat.testBit_zero, Nat.testBit_zero]
   by_cases hx : x % 2 = 1 <;> by_cases hm : y % 2 = 1 <;> simp [hx, hm] at h2 ⊢ <;> omega
 | j + 1, x, y, h => by
   have h2 := @Nat.and_mod_two_eq_one x y
   have h3 := @Nat.and_div_two x y
   rw [h] at h2 h3
   have e : (x + y) / 2 = x / 2 + y / 2 := by omega
   rw [Nat.testBit_add_one, Nat.testBit_add_one, Nat.testBit_add_one, e]
   exact add_testBit j (x / 2) (y / 2) h3.symm
theorem putBit_testBit (f i : Nat) (b : Bool) (j : Nat) : (putBit f (i, b)).testBit j = if j = i then b else f.testBit j := by
 unfold putBit
 rw [bitAt_eq]
 by_cases h : f.testBit i = b
 · rw [if_pos h]
   by_cases e : j = i
   · subst e; rw [if_pos rfl, h]
   · rw [if_neg e]
 · rw [if_neg h]
   cases b with
   | true =>
     rw [if_pos rfl]
     have h0 : f.testBit i = false := by simpa using h
     have h3 : f &&& 2 ^ i = 0 := by
       apply Nat.eq_of_testBit_eq
       intro k
       rw [Nat.testBit_and, Nat.zero_testBit, Nat.testBit_two_pow]
       by_cases hk : i = k
       · subst hk; simp [h0]
       · simp [hk]
     show (f + 2 ^ i).testBit j = _
     rw [add_testBit _ _ _ h3, Nat.testBit_two_pow]
     by_cases e2 : j = i
     · subst e2; simp
     · have e3 : ¬ i = j := fun q => e2 q.symm
       simp [e2, e3]
   | false =>
     rw [if_neg (by simp)]
     have h0 : f.testBit i = true := by simpa using h
     have h3 : f &&& 2 ^ i = 2 ^ i := by
       apply Nat.eq_of_testBit_eq
       intro k
       rw [Nat.testBit_and, Nat.testBit_two_pow]
       by_cases hk : i = k
       · subst hk; simp [h0]
       · simp [hk]
     have h4 := sub_and_testBit j f (2 ^ i)
     rw [h3] at h4
     show (f - 2 ^ i).testBit j = _
     rw [h4, Nat.testBit_two_pow]
     by_cases e2 : j = i
     · subst e2; simp
     · have e3 : ¬ i = j := fun q => e2 q.symm
       simp [e2, e3]
def flagBits (c p a z s o : Bool) : Nat := (if z then 64 else 0) + (if s then 128 else 0) + (if p then 4 else 0) + (if c then 1 else 0) + (if a then 16 else 0) + (if o then 2048 else 0)
theorem flagBits_lt : ∀ c p a z s o : Bool, flagBits c p a z s o < 2 ^ 12 := by decide
theorem flagBits_bit : ∀ c p a z s o : Bool, ∀ j < 12, (flagBits c p a z s o).testBit j = ((j == 0 && c) || (j == 2 && p) || (j == 4 && a) || (j == 6 && z) || (j == 7 && s) || (j == 11 && o)) := by decide
theorem mask_bit : ∀ j < 12, (2261 : Nat).testBit j = (j == 0 || j == 2 || j == 4 || j == 6 || j == 7 || j == 11) := by decide
theorem giving_flags (f : Nat) (c p a z s o : Bool) :
   giving f [(CARRY, c), (PARITY, p), (HALF, a), (ZERO, z), (SIGN, s), (OVER, o)] = (f - (f &&& 2261)) ||| flagBits c p a z s o := by
 apply Nat.eq_of_testBit_eq
 intro j
 show (putBit (putBit (putBit (putBit (putBit (putBit f (0, c)) (2, p)) (4, a)) (6, z)) (7, s)) (11, o)).testBit j = _
 rw [Nat.testBit_or, sub_and_testBit]
 simp only [putBit_testBit]
 by_cases hj : j < 12
 · rw [flagBits_bit c p a z s o j hj, mask_bit j hj]
   have : j = 0 ∨ j = 1 ∨ j = 2 ∨ j = 3 ∨ j = 4 ∨ j = 5 ∨ j = 6 ∨ j = 7 ∨ j = 8 ∨ j = 9 ∨ j = 10 ∨ j = 11 := by omega
   rcases this with rfl | rfl | rfl | rfl | rfl | rfl | rfl | rfl | rfl | rfl | rfl | rfl <;> simp
 · have h1 : (2261 : Nat).testBit j = false := Nat.testBit_lt_two_pow (Nat.lt_of_lt_of_le (by decide : 2261 < 2 ^ 12) (Nat.pow_le_pow_right (by decide) (by omega)))
   have h2 : (flagBits c p a z s o).testBit j = false := Nat.testBit_lt_two_pow (Nat.lt_of_lt_of_le (flagBits_lt c p a z s o) (Nat.pow_le_pow_right (by decide) (by omega)))
   rw [h1, h2, if_neg (by omega), if_neg (by omega), if_neg (by omega), if_neg (by omega), if_neg (by omega), if_neg (by omega)]
   simp
theorem giving_down (f : Nat) (b : Bool) : giving f [(DOWN, b)] = (f - (f &&& 1024)) ||| (if b then 1024 else 0) := by
 apply Nat.eq_of_testBit_eq
 intro j
 show (putBit f (10, b)).testBit j = _
 rw [Nat.testBit_or, sub_and_testBit, putBit_testBit, show (1024 : Nat) = 2 ^ 10 by decide, Nat.testBit_two_pow]
 by_cases hj : j = 10
 · subst hj
   cases b
   · simp
   · rw [if_pos rfl, if_pos rfl, Nat.testBit_two_pow]; simp
 · have h2 : ¬ 10 = j := fun q => hj q.symm
   cases b
   · simp [hj, h2]
   · rw [if_neg hj, if_pos rfl, Nat.testBit_two_pow]
     simp [h2]
theorem and_bit (f i : Nat) : (f &&& 2 ^ i != 0) = bitAt f i := by
 rw [bitAt_eq]
 cases h : f.testBit i with
 | false =>
   have e : f &&& 2 ^ i = 0 := by
     apply Nat.eq_of_testBit_eq
     intro k
     rw [Nat.testBit_and, Nat.zero_testBit, Nat.testBit_two_pow]
     by_cases hk : i = k
     · subst hk; simp [h]
     · simp [hk]
   rw [e]; rfl
 | true =>
   have e : f &&& 2 ^ i = 2 ^ i := by
     apply Nat.eq_of_testBit_eq
     intro k
     rw [Nat.testBit_and, Nat.testBit_two_pow]
     by_cases hk : i = k
     · subst hk; simp [h]
     · simp [hk]
   rw [e]
   have : 2 ^ i ≠ 0 := Nat.pos_iff_ne_zero.mp (Nat.two_pow_pos i)
   simp [this]
theorem pow_two_8 (w : Nat) : 2 ^ (8 * w) = 256 ^ w := by
 rw [Nat.pow_mul]
theorem half_eq {w : Nat} (h : 0 < w) : 256 ^ w / 2 = 2 ^ (8 * w - 1) := by
 rw [← pow_two_8]
 have e : 8 * w = (8 * w - 1) + 1 := by omega
 rw [e, Nat.pow_succ, Nat.mul_div_cancel _ (by decide)]
 simp
theorem signed_eq {w x : Nat} (h : 0 < w) : signed (8 * w) x = if (x : Int) ≥ ((256 ^ w / 2 : Nat) : Int) then (x : Int) - ((256 ^ w : Nat) : Int) else (x : Int) := by
 unfold signed
 rw [half_eq h]
 by_cases q : x < 2 ^ (8 * w - 1)
 · rw [if_pos q, if_neg (by omega)]
 · rw [if_neg q, if_pos (by omega), ← pow_two_8]
   simp
theorem sign_bit {w d : Nat} (h : 0 < w) (hd : d < 256 ^ w) : bitAt d (8 * w - 1) = decide (256 ^ w / 2 ≤ d) := by
 rw [half_eq h]
 unfold bitAt
 have e : 256 ^ w = 2 * 2 ^ (8 * w - 1) := by
   rw [← pow_two_8]
   have e : 8 * w = (8 * w - 1) + 1 := by omega
   conv => lhs; rw [e]
   rw [Nat.pow_succ, Nat.mul_comm]
 have p := Nat.two_pow_pos (8 * w - 1)
 by_cases q : 2 ^ (8 * w - 1) ≤ d
 · have : d / 2 ^ (8 * w - 1) = 1 := by
     rw [Nat.div_eq_iff (by omega)]
     omega
   simp [this, q]
 · have : d / 2 ^ (8 * w - 1) = 0 := Nat.div_eq_of_lt (by omega)
   simp [this, q]
theorem even8_mod (d : Nat) : even8 d = even8 (d % 256) := by
 unfold even8
 have e : ∀ i ∈ List.range 8, bitAt d i = bitAt (d % 256) i := fun i hi => by
   have hi : i < 8 := List.mem_range.mp hi
   rw [bitAt_eq, bitAt_eq, show (256 : Nat) = 2 ^ 8 by decide, Nat.testBit_mod_two_pow]
   simp [hi]
 rw [List.filter_congr e]
def folded (b : Nat) : Nat :=
 let x := b ^^^ (b / 2 ^ 4)
 let y := x ^^^ (x / 2 ^ 2)
 y ^^^ (y / 2 ^ 1)
theorem folded_even : ∀ b : Nat, b < 256 → (decide (folded b % 2 = 0)) = even8 b := by decide +kernel
theorem sub_mod {a b M : Nat} (ha : a < M) (hb : b < M) : (((a + M - b) % M : Nat) : Int) = ((a : Int) - (b : Int)) % (M : Int) := by
 have h : ((a + M - b : Nat) : Int) = ((a : Int) - b) + M := by omega
 rw [Int.natCast_emod, h, Int.add_emod_right]
theorem pow_le_64 {w : Nat} (hw : fine w = true) : 256 ^ w ≤ 2 ^ 64 := by
 have h : w = 1 ∨ w = 2 ∨ w = 4 ∨ w = 8 := by
   unfold fine at hw
   simpa [Bool.or_eq_true, or_assoc] using hw
 rcases h with rfl | rfl | rfl | rfl <;> decide
theorem merged_lt {w old v : Nat} (hw : fine w = true) (h : old < 2 ^ 64) : merged w old v < 2 ^ 64 := by
 have h8 := pow_le_64 hw
 have hv : v % 256 ^ w < 256 ^ w := Nat.mod_lt _ (Nat.pow_pos (by decide))
 unfold merged
 split
 · rename_i h4
   have h3 : w = 1 ∨ w = 2 := by
     have h : w = 1 ∨ w = 2 ∨ w = 4 ∨ w = 8 := by
       unfold fine at hw
       simpa [Bool.or_eq_true, or_assoc] using hw
     omega
   have e := Nat.div_add_mod old (256 ^ w)
   have d : old / 256 ^ w < 2 ^ 64 / 256 ^ w := by
     rcases h3 with rfl | rfl
     · exact (Nat.div_lt_iff_lt_mul (by decide)).mpr (by omega)
     · exact (Nat.div_lt_iff_lt_mul (by decide)).mpr (by omega)
   rcases h3 with rfl | rfl
   · omega
   · omega
 · omega
end Rm

namespace Rm
open Rw
theorem isW {w : Nat} : fine w = true ↔ (w = 1 ∨ w = 2 ∨ w = 4 ∨ w = 8) := by
 unfold fine
 simp [Bool.or_eq_true, or_assoc]
theorem element_none {op w : Nat} {s : State} (h : op ≤ 4) :
   (element op w s).isNone = (([0, 2, 4].contains op && !there s.mem s.m.si w) || ([0, 1, 3, 4].contains op && !there s.mem s.m.di w)) := by
 have : op = 0 ∨ op = 1 ∨ op = 2 ∨ op = 3 ∨ op = 4 := by omega
 unfold element
 rcases this with rfl | rfl | rfl | rfl | rfl <;> cases h1 : there s.mem s.m.si w <;> cases h2 : there s.mem s.m.di w <;> simp [h1, h2]
theorem stops_eq {op rep f : Nat} : stops op rep f = ([3, 4].contains op && (if rep = 1 then !bitAt f ZERO else bitAt f ZERO)) := by
 unfold stops looks
 congr 1
 by_cases h3 : op = 3 <;> by_cases h4 : op = 4 <;> simp [h3, h4]
def plus (k : Nat) (r : Int × Nat × State) : Int × Nat × State := (r.1, r.2.1 + k, r.2.2)
theorem plus_plus (j k : Nat) (r : Int × Nat × State) : plus k (plus j r) = plus (k + j) r := by
 unfold plus
 simp
 omega
theorem go_done {op w rep n : Nat} {s : State} (h : rep ≠ 0 ∧ s.m.c = 0) : go op w rep n s = (0, 0, s) := by
 cases n with
 | zero => unfold go; rw [if_pos h]
 | succ n => unfold go; rw [if_pos h]
theorem go_most {op w rep : Nat} {s : State} (h : ¬ (rep ≠ 0 ∧ s.m.c = 0)) : go op w rep 0 s = (1, 0, s) := by
 unfold go; rw [if_neg h]
theorem go_lack {op w rep n : Nat} {s : State} (h : ¬ (rep ≠ 0 ∧ s.m.c = 0)) (e : element op w s = none) : go op w rep (n + 1) s = (3, 0, s) := by
 unfold go; rw [if_neg h, e]
theorem go_once {op w n : Nat} {s t : State} (e : element op w s = some t) : go op w 0 (n + 1) s = (0, 1, t) := by
 unfold go; rw [if_neg (by simp), e]; simp
theorem go_stop {op w rep n : Nat} {s t : State} (h : ¬ (rep ≠ 0 ∧ s.m.c = 0)) (hr : rep ≠ 0) (e : element op w s = some t) (hs : stops op rep t.m.flags = true) : go op w rep (n + 1) s = (0, 1, t.less) := by
 unfold go; rw [if_neg h, e]; simp only; rw [if_neg hr, if_pos hs]
theorem go_on {op w rep n : Nat} {s t : State} (h : ¬ (rep ≠ 0 ∧ s.m.c = 0)) (hr : rep ≠ 0) (e : element op w s = some t) (hs : stops op rep t.m.flags = false) : go op w rep (n + 1) s = plus 1 (go op w rep n t.less) := by
 conv => lhs; unfold go
 rw [if_neg h, e]; simp only; rw [if_neg hr, if_neg (by rw [hs]; simp)]; rfl
theorem go_le : ∀ (n : Nat) {op w rep : Nat} {s : State}, (go op w rep n s).2.1 ≤ n
 | 0, _, _, _, _ => by unfold go; exact Nat.le_refl _
 | n + 1, op, w, rep, s => by
   unfold go
   split
   · exact Nat.zero_le _
   · cases element op w s with
     | none => exact Nat.zero_le _
     | some t =>
       simp only
       split
       · exact Nat.succ_le_succ (Nat.zero_le _)
       · split
         · exact Nat.succ_le_succ (Nat.zero_le _)
         · exact Nat.succ_le_succ (go_le n)
theorem run_settled {p : List Ins} {f n : Nat} {s : State} {a : Int} (h : settled p s = some a) : runFrom p f n s = (a, 0, s) := by
 cases f with
 | zero => unfold runFrom; rw [h]; rfl
 | succ f => unfold runFrom; rw [h]
theorem run_most {p : List Ins} {f : Nat} {s : State} (h : settled p s = none) : runFrom p f 0 s = (1, 0, s) := by
 cases f with
 | zero => unfold runFrom; rw [h]; rfl
 | succ f => unfold runFrom; rw [h]; simp
theorem run_str {p : List Ins} {f n : Nat} {s : State} (h : settled p s = none) (hn : n ≠ 0) (ho : (instrAt p s).op ≤ 4) :
   runFrom p (f + 1) n s = (let r := go (instrAt p s).op (instrAt p s).width (instrAt p s).rep n s
     if r.1 = 0 then plus (max 1 r.2.1) (runFrom p f (n - max 1 r.2.1) r.2.2.next) else r) := by
 conv => lhs; unfold runFrom
 rw [h]
 simp only
 rw [if_neg hn, if_pos ho]
 rfl
theorem run_plain_none {p : List Ins} {f n : Nat} {s : State} (h : settled p s = none) (hn : n ≠ 0) (ho : ¬ (instrAt p s).op ≤ 4) (e : exec s (instrAt p s) = none) : runFrom p (f + 1) n s = (3, 0, s) := by
 conv => lhs; unfold runFrom
 rw [h]
 simp only
 rw [if_neg hn, if_neg ho, e]
theorem run_plain_some {p : List Ins} {f n : Nat} {s t : State} (h : settled p s = none) (hn : n ≠ 0) (ho : ¬ (instrAt p s).op ≤ 4) (e : exec s (instrAt p s) = some t) : runFrom p (f + 1) n s = plus 1 (runFrom p f (n - 1) t) := by
 conv => lhs; unfold runFrom
 rw [h]
 simp only
 rw [if_neg hn, if_neg ho, e]
 rfl
def insAt (l : List Int) (j : Nat) : Ins :=
 ⟨(l.getD (8 * j) 0).toNat, (l.getD (8 * j + 1) 0).toNat, (l.getD (8 * j + 2) 0).toNat, (l.getD (8 * j + 3) 0).toNat, (l.getD (8 * j + 4) 0).toNat, (l.getD (8 * j + 5) 0).toNat, (l.getD (8 * j + 6) 0).toNat, (l.getD (8 * j + 7) 0).toNat⟩
theorem getD_drop (l : List Int) (a i : Nat) : (l.drop a).getD i 0 = l.getD (a + i) 0 := by
 simp [List.getD_eq_getElem?_getD, List.getElem?_drop]
theorem insAt_drop (l : List Int) (j : Nat) : insAt (l.drop 8) j = insAt l (j + 1) := by
 unfold insAt
 simp only [getD_drop]
 have e : ∀ i, 8 + (8 * j + i) = 8 * (j + 1) + i := fun i => by omega
 have e0 : 8 + 8 * j = 8 * (j + 1) := by omega
 simp only [e, e0]
theorem insIn_eq : ∀ (f n : Nat) (l : List Int), l.length = 8 * n → n ≤ f → RwReelSeed.insIn f l = (List.range n).map (insAt l)
 | 0, n, l, h, hn => by
   have : n = 0 := by omega
   subst this
   rfl
 | f + 1, 0, l, h, hn => by
   have : l = [] := List.length_eq_zero_iff.mp (by omega)
   subst this
   rfl
 | f + 1, n + 1, l, h, hn => by
   have ih := insIn_eq f n (l.drop 8) (by rw [List.length_drop]; omega) (by omega)
   unfold RwReelSeed.insIn
   have ne : ¬ l.isEmpty = true := by
     intro e
     rw [List.isEmpty_iff] at e
     subst e
     simp at h
   rw [if_neg ne, ih, List.range_succ_eq_map, List.map_cons, List.map_map]
   show insAt l 0 :: List.map (insAt (List.drop 8 l)) (List.range n) = _
   congr 1
   refine List.map_congr_left fun j _ => ?_
   exact insAt_drop l j
theorem insIn_len {l : List Int} {n : Nat} (h : l.length = 8 * n) : (RwReelSeed.insIn l.length l).length = n := by
 rw [insIn_eq l.length n l h (by omega)]
 simp
theorem insIn_get {l : List Int} {n j : Nat} (h : l.length = 8 * n) (hj : j < n) : (RwReelSeed.insIn l.length l)[j]? = some (insAt l j) := by
 rw [insIn_eq l.length n l h (by omega)]
 simp [hj]
theorem findIdx_some {α : Type} {f : α → Bool} {l : List α} {i : Nat} {x : α} (h : l[i]? = some x) (hx : f x = true) (hb : ∀ (j : Nat) (y : α), j < i → l[j]? = some y → f y = false) : l.findIdx? f = some i := by
 rw [List.findIdx?_eq_some_iff_getElem]
 obtain ⟨hl, e⟩ := List.getElem?_eq_some_iff.mp h
 refine ⟨hl, by rw [e]; exact hx, fun j hj => ?_⟩
 have := hb j l[j] hj (List.getElem?_eq_getElem (by omega))
 simp [this]
theorem findIdx_none {α : Type} {f : α → Bool} {l : List α} (hb : ∀ (j : Nat) (y : α), l[j]? = some y → f y = false) : l.findIdx? f = none := by
 rw [List.findIdx?_eq_none_iff]
 intro x hx
 obtain ⟨j, hj⟩ := List.getElem?_of_mem hx
 exact hb j x hj
end Rm

namespace Rm
open Rw
theorem row_in {x n w len i : Nat} (h : x + n * w ≤ len) (hi : i < n) : x + i * w + w ≤ len := by
 have : (i + 1) * w ≤ n * w := Nat.mul_le_mul_right w hi
 rw [Nat.add_mul] at this
 omega
theorem moved_len {w dst src : Nat} : ∀ (l : List Nat) {m : Bytes}, (∀ i ∈ l, dst + i * w + w ≤ m.length) → (movedBy w dst src m l).length = m.length
 | [], _, _ => rfl
 | j :: r, m, h => by
   have h1 : (poke m (dst + j * w) w (at_ m src w j)).length = m.length := poke_len _ (h j (by simp))
   have ih := moved_len (w := w) (dst := dst) (src := src) r (m := poke m (dst + j * w) w (at_ m src w j)) (fun i hi => by rw [h1]; exact h i (by simp [hi]))
   show (movedBy w dst src (poke m (dst + j * w) w (at_ m src w j)) r).length = m.length
   rw [ih, h1]
theorem order_len (down : Bool) (n : Nat) : (order down n).length = n := by
 unfold order
 cases down <;> simp
theorem order_lt {down : Bool} {n i : Nat} (h : i ∈ order down n) : i < n := by
 unfold order at h
 cases down with
 | false => simpa using h
 | true => simpa using h
theorem moved_take_len {w dst src n : Nat} {m : Bytes} {down : Bool} (i : Nat) (h : dst + n * w ≤ m.length) : (movedBy w dst src m ((order down n).take i)).length = m.length :=
 moved_len _ fun _ hj => row_in h (order_lt (List.mem_of_mem_take hj))
theorem moved_all {w dst src n : Nat} {m : Bytes} {down : Bool} : movedBy w dst src m ((order down n).take n) = copied m dst src n w down := by
 unfold copied
 rw [List.take_of_length_le (by rw [order_len]; exact Nat.le_refl _)]
def filledTo (m : Bytes) (dst w v i : Nat) : Bytes := (List.range i).foldl (fun m i => poke m (dst + i * w) w v) m
theorem filledTo_succ (m : Bytes) (dst w v i : Nat) : filledTo m dst w v (i + 1) = poke (filledTo m dst w v i) (dst + i * w) w v := by
 unfold filledTo
 rw [List.range_succ, List.foldl_append]
 rfl
theorem filledTo_len {m : Bytes} {dst w n : Nat} (v : Nat) (h : dst + n * w ≤ m.length) : ∀ i, i ≤ n → (filledTo m dst w v i).length = m.length
 | 0, _ => rfl
 | i + 1, hi => by
   have ih := filledTo_len v h i (by omega)
   rw [filledTo_succ, poke_len _ (by rw [ih]; exact row_in h hi), ih]
theorem el0 {w : Nat} {s : State} : element 0 w s = (if there s.mem s.m.si w = true ∧ there s.mem s.m.di w = true then some ⟨{ s.m with si := on s.m.flags s.m.si w, di := on s.m.flags s.m.di w }, poke s.mem s.m.di w (peek s.mem s.m.si w)⟩ else none) := rfl
theorem el1 {w : Nat} {s : State} : element 1 w s = (if there s.mem s.m.di w = true then some ⟨{ s.m with di := on s.m.flags s.m.di w }, poke s.mem s.m.di w (s.m.a % 256 ^ w)⟩ else none) := rfl
theorem el2 {w : Nat} {s : State} : element 2 w s = (if there s.mem s.m.si w = true then some ⟨{ s.m with a := merged w s.m.a (peek s.mem s.m.si w), si := on s.m.flags s.m.si w }, s.mem⟩ else none) := rfl
theorem el3 {w : Nat} {s : State} : element 3 w s = (if there s.mem s.m.di w = true then some ⟨{ s.m with flags := compared w (s.m.a % 256 ^ w) (peek s.mem s.m.di w) s.m.flags, di := on s.m.flags s.m.di w }, s.mem⟩ else none) := rfl
theorem el4 {w : Nat} {s : State} : element 4 w s = (if there s.mem s.m.si w = true ∧ there s.mem s.m.di w = true then some ⟨{ s.m with flags := compared w (peek s.mem s.m.si w) (peek s.mem s.m.di w) s.m.flags, si := on s.m.flags s.m.si w, di := on s.m.flags s.m.di w }, s.mem⟩ else none) := rfl
theorem element_c {op w : Nat} {s t : State} (h : element op w s = some t) : t.m.c = s.m.c := by
 unfold element at h
 simp only at h
 repeat' split at h
 all_goals first
   | (cases h; rfl)
   | (cases h)
theorem less_c {s : State} (h : s.m.c ≠ 0) (h2 : s.m.c < 2 ^ 64) : s.less.m.c = s.m.c - 1 := by
 show (s.m.c + WORD - 1) % WORD = s.m.c - 1
 unfold WORD
 omega
theorem less_flags : ∀ u : State, u.less.m.flags = u.m.flags
 | ⟨⟨_, _, _, _, f, _⟩, _⟩ => Eq.refl f
theorem less_place : ∀ u : State, u.less.m.place = u.m.place
 | ⟨⟨_, _, _, _, _, p⟩, _⟩ => Eq.refl p
theorem less_a : ∀ u : State, u.less.m.a = u.m.a
 | ⟨⟨a, _, _, _, _, _⟩, _⟩ => Eq.refl a
theorem less_si : ∀ u : State, u.less.m.si = u.m.si
 | ⟨⟨_, _, si, _, _, _⟩, _⟩ => Eq.refl si
theorem less_di : ∀ u : State, u.less.m.di = u.m.di
 | ⟨⟨_, _, _, di, _, _⟩, _⟩ => Eq.refl di
theorem less_mem0 : ∀ u : State, u.less.mem = u.mem
 | ⟨_, b⟩ => Eq.refl b
theorem less_mem (u : State) : (⟨u.less.m, u.mem⟩ : State) = u.less := by
 have h := less_mem0 u
 generalize u.less = v at h ⊢
 cases v
 rw [← h]
theorem on_compared (w a b f x v : Nat) : on (compared w a b f) x v = on f x v := by
 unfold on
 have e : bitAt (compared w a b f) DOWN = bitAt f DOWN := by
   rw [bitAt_eq, bitAt_eq]
   show (putBit (putBit (putBit (putBit (putBit (putBit f (0, _)) (2, _)) (4, _)) (6, _)) (7, _)) (11, _)).testBit 10 = _
   simp only [putBit_testBit]
   rfl
 rw [e]
theorem row_iff {z : RwReelSeed.State} {x n w : Int} :
   RwReelSeed.row z x n w = (decide (w = 1 ∨ w = 2 ∨ w = 4 ∨ w = 8) && (decide (0 ≤ x) && (decide (0 ≤ n) && decide (x + n * w ≤ (z.s.mem.length : Int))))) := by
 unfold RwReelSeed.row RwReelSeed.nats fine holdsRow
 rw [Bool.eq_iff_iff]
 simp only [List.all_cons, List.all_nil, Bool.and_true, Bool.and_eq_true, decide_eq_true_eq, Bool.or_eq_true, beq_iff_eq]
 constructor
 · rintro ⟨⟨hx, hn, hw⟩, hf, hl⟩
   have hw' : w = 1 ∨ w = 2 ∨ w = 4 ∨ w = 8 := by omega
   refine ⟨hw', hx, hn, ?_⟩
   have : ((x.toNat + n.toNat * w.toNat : Nat) : Int) ≤ (z.s.mem.length : Int) := Int.ofNat_le.mpr hl
   rw [Int.natCast_add, Int.natCast_mul, Int.toNat_of_nonneg hx, Int.toNat_of_nonneg hn, Int.toNat_of_nonneg hw] at this
   exact this
 · rintro ⟨hw, hx, hn, hl⟩
   have hw0 : 0 ≤ w := by omega
   refine ⟨⟨hx, hn, hw0⟩, by omega, ?_⟩
   apply Int.ofNat_le.mp
   rw [Int.natCast_add, Int.natCast_mul, Int.toNat_of_nonneg hx, Int.toNat_of_nonneg hn, Int.toNat_of_nonneg hw0]
   exact hl
end Rm

namespace Rm
open Rw
structure Fit (N : Nat) (n : Ins) : Prop where
 op : n.op ≤ 14
 x : n.x ≤ 3
 y : n.y ≤ 3
 w : n.op ≤ 4 → fine n.width = true
 r : n.op ≤ 4 → n.rep ≤ 2
 t : n.op = 10 ∨ n.op = 11 ∨ n.op = 14 → fine n.width = true
 c : n.op = 9 → n.cond ≤ 6
 to : n.op = 9 → n.to < N
theorem ill_eq (N : Nat) (n : Ins) : ill N n = (decide (14 < n.op) || (decide (3 < n.x) || (decide (3 < n.y) ||
   (if n.op ≤ 4 then (!fine n.width || decide (2 < n.rep)) else if n.op = 10 ∨ n.op = 11 ∨ n.op = 14 then (decide (n.width = 1) || !fine n.width) else (decide (n.op = 9) && (decide (6 < n.cond) || decide (N ≤ n.to))))))) := by
 have hw : ∀ op, op ≤ 4 → (widths op).contains n.width = fine n.width := fun op h => by
   unfold widths fine
   rw [if_pos h, Bool.eq_iff_iff]
   simp [or_assoc]
 have ht : (!([2, 4, 8].contains n.width)) = (decide (n.width = 1) || !fine n.width) := by
   unfold fine
   rw [Bool.eq_iff_iff]
   simp
   omega
 unfold ill
 rw [ht]
 by_cases h4 : n.op ≤ 4
 · rw [if_pos h4, hw _ h4, decide_eq_true h4]
   have a : (n.op == 10) = false := beq_eq_false_iff_ne.mpr (by omega)
   have b : (n.op == 11) = false := beq_eq_false_iff_ne.mpr (by omega)
   have c : (n.op == 14) = false := beq_eq_false_iff_ne.mpr (by omega)
   have d : (n.op == 9) = false := beq_eq_false_iff_ne.mpr (by omega)
   rw [a, b, c, d]
   simp [Bool.or_assoc]
 · rw [if_neg h4, decide_eq_false h4]
   by_cases hT : n.op = 10 ∨ n.op = 11 ∨ n.op = 14
   · rw [if_pos hT]
     have a : (n.op == 10 || n.op == 11 || n.op == 14) = true := by
       rcases hT with h | h | h <;> simp [h]
     have d : (n.op == 9) = false := beq_eq_false_iff_ne.mpr (by omega)
     rw [a, d]
     simp [Bool.or_assoc]
   · rw [if_neg hT]
     have a : (n.op == 10) = false := beq_eq_false_iff_ne.mpr (by omega)
     have b : (n.op == 11) = false := beq_eq_false_iff_ne.mpr (by omega)
     have c : (n.op == 14) = false := beq_eq_false_iff_ne.mpr (by omega)
     rw [a, b, c]
     simp [Bool.or_assoc, Bool.beq_eq_decide_eq]
theorem fit_of {N : Nat} {n : Ins} (h : ill N n = false) : Fit N n := by
 rw [ill_eq] at h
 simp only [Bool.or_eq_false_iff, decide_eq_false_iff_not] at h
 obtain ⟨h1, h2, h3, h4⟩ := h
 refine ⟨by omega, by omega, by omega, fun g => ?_, fun g => ?_, fun g => ?_, fun g => ?_, fun g => ?_⟩
 · rw [if_pos g] at h4
   simp at h4
   exact h4.1
 · rw [if_pos g] at h4
   simp at h4
   exact h4.2
 · rw [if_neg (by omega), if_pos g] at h4
   simp at h4
   exact h4.2
 · rw [if_neg (by omega), if_neg (by omega)] at h4
   simp [g] at h4
   exact h4.1
 · rw [if_neg (by omega), if_neg (by omega)] at h4
   simp [g] at h4
   exact h4.2
section
variable {s : State} {i : Ins}
theorem ex5 (h : i.op = 5) : exec s i = some (s.put i.x i.k).next := by unfold exec; simp only [h]; rfl
theorem ex6 (h : i.op = 6) : exec s i = some (s.put i.x ((s.m.get i.x + i.k) % WORD)).next := by unfold exec; rw [if_neg (by omega), if_pos h]
theorem ex7 (h : i.op = 7) : exec s i = some (s.put i.x (s.m.get i.y)).next := by unfold exec; rw [if_neg (by omega), if_neg (by omega), if_pos h]
theorem ex8 (h : i.op = 8) : exec s i = some ({ s with m := { s.m with flags := giving s.m.flags [(DOWN, bitAt i.k 0)] } } : State).next := by unfold exec; rw [if_neg (by omega), if_neg (by omega), if_neg (by omega), if_pos h]
theorem ex9 (h : i.op = 9) : exec s i = some (if holds s.m i.cond = true then s.goTo i.to else s.next) := by
 unfold exec; rw [if_neg (by omega), if_neg (by omega), if_neg (by omega), if_neg (by omega), if_pos h]
theorem ex10 (h : i.op = 10) : exec s i = some (s.put i.x (merged i.width (s.m.get i.x) (turned i.width (s.m.get i.x)))).next := by
 unfold exec; rw [if_neg (by omega), if_neg (by omega), if_neg (by omega), if_neg (by omega), if_neg (by omega), if_pos h]
theorem ex11 (h : i.op = 11) : exec s i = (if there s.mem s.m.si i.width = true then some (s.put i.x (merged i.width (s.m.get i.x) (turned i.width (peek s.mem s.m.si i.width)))).next else none) := by
 unfold exec; rw [if_neg (by omega), if_neg (by omega), if_neg (by omega), if_neg (by omega), if_neg (by omega), if_neg (by omega), if_pos h]
theorem ex12 (h : i.op = 12) : exec s i = some ((s.put i.x (s.m.get i.y)).put i.y (s.m.get i.x)).next := by
 unfold exec; rw [if_neg (by omega), if_neg (by omega), if_neg (by omega), if_neg (by omega), if_neg (by omega), if_neg (by omega), if_neg (by omega), if_pos h]
theorem ex14 (h : i.op = 14) : exec s i = (if there s.mem s.m.di i.width = true then some ({ s with mem := poke s.mem s.m.di i.width (turned i.width (s.m.get i.x)) } : State).next else none) := by
 unfold exec; rw [if_neg (by omega), if_neg (by omega), if_neg (by omega), if_neg (by omega), if_neg (by omega), if_neg (by omega), if_neg (by omega), if_neg (by omega)]
end
theorem put_next (s : State) (r v : Nat) : (s.put r v).next = s.next.put r v := by
 unfold State.next State.goTo State.put Machine.put
 split
 · rfl
 · split
   · rfl
   · split <;> rfl
theorem get_next (s : State) (r : Nat) : s.next.m.get r = s.m.get r := rfl
end Rm

namespace Rm
open Rw
theorem better_le (a b : Bytes) : (better a b).length ≤ a.length := by
 unfold better
 split
 · exact Nat.le_refl _
 · rename_i h
   by_cases e : a.length < b.length
   · exact absurd (.inl e) h
   · omega
theorem fold_better_le : ∀ (l : List Bytes) (a : Bytes), (l.foldl better a).length ≤ a.length
 | [], _ => Nat.le_refl _
 | b :: r, a => Nat.le_trans (fold_better_le r (better a b)) (better_le a b)
theorem bests_le (t : Bytes) : ∀ k, k ≤ t.length → ((bests t k).headD []).length ≤ 2 * k
 | 0, _ => by simp [bests]
 | k + 1, h => by
   have ih := bests_le t k (by omega)
   have hb : bests t (k + 1) = ((formsAt t (t.length - (k + 1)) (bests t k)).drop 1).foldl better ((formsAt t (t.length - (k + 1)) (bests t k)).headD []) :: bests t k := rfl
   rw [hb]
   refine Nat.le_trans (fold_better_le _ _) ?_
   obtain ⟨n, hn⟩ : ∃ n, min 128 (t.length - (t.length - (k + 1))) = n + 1 := ⟨min 128 (t.length - (t.length - (k + 1))) - 1, by omega⟩
   unfold formsAt
   simp only
   rw [hn, List.range_succ_eq_map, List.map_cons, List.cons_append, List.headD_cons]
   have e : (bests t k).getD 0 [] = (bests t k).headD [] := by
     cases bests t k <;> rfl
   simp only [List.length_append, List.length_cons, List.length_take, e]
   omega
theorem packed_le (t : Bytes) : (packed t).length ≤ 2 * t.length := bests_le t t.length (Nat.le_refl _)
theorem unpackFrom_le (room : Nat) : ∀ (n : Nat) (out s t : Bytes), out.length ≤ room → unpackFrom room n out s = .ok t → t.length ≤ room
 | 0, out, [], t, h, e => by
   cases e
   exact h
 | 0, out, b :: r, t, h, e => by
   cases e
   exact h
 | n + 1, out, [], t, h, e => by
   cases e
   exact h
 | n + 1, out, b :: r, t, h, e => by
   unfold unpackFrom at e
   cases c : command out b r with
   | error x =>
     rw [c] at e
     cases e
   | ok x =>
     rw [c] at e
     simp only at e
     split at e
     · cases e
     · rename_i hx
       exact unpackFrom_le room n x.1 x.2 t (by omega) e
theorem found_len (z : RwReelSeed.State) (ok : Bool) (i : Unit → Nat) : (RwReelSeed.found z ok i).2.length ≤ 2 := by
 unfold RwReelSeed.found RwReelSeed.tells RwReelSeed.no
 split <;> simp
theorem made_len (z : RwReelSeed.State) (ok : Bool) (b : Unit → Bytes) : (RwReelSeed.made z ok b).2.length ≤ 1 := by
 unfold RwReelSeed.made RwReelSeed.tells RwReelSeed.no
 split <;> simp
theorem answer_len {z : RwReelSeed.State} (hm : z.s.mem.length ≤ 256) : ∀ c : RwReelSeed.Call, (RwReelSeed.step z c).2.length ≤ 5000
 | .memory b => by
   show (if _ then _ else _ : RwReelSeed.State × List Int).2.length ≤ 5000
   split <;> simp [RwReelSeed.tells, RwReelSeed.no]
 | .machine a c si di f p => by
   show (if _ then _ else _ : RwReelSeed.State × List Int).2.length ≤ 5000
   split <;> simp [RwReelSeed.tells, RwReelSeed.no]
 | .program l => by
   show (if _ then _ else _ : RwReelSeed.State × List Int).2.length ≤ 5000
   split
   · simp [RwReelSeed.no]
   · split <;> simp [RwReelSeed.tells]
 | .do_ op w r n => by
   show (if _ then _ else _ : RwReelSeed.State × List Int).2.length ≤ 5000
   split <;> simp [RwReelSeed.tells, RwReelSeed.no, RwReelSeed.ran]
 | .run n => by
   show (if _ then _ else _ : RwReelSeed.State × List Int).2.length ≤ 5000
   split <;> simp [RwReelSeed.tells, RwReelSeed.no, RwReelSeed.ran]
 | .tell => by
   show (RwReelSeed.tells (RwReelSeed.machineNums z.s.m)).length ≤ 5000
   simp [RwReelSeed.tells, RwReelSeed.machineNums]
 | .bytes => by
   show (RwReelSeed.tells (RwReelSeed.nums z.s.mem)).length ≤ 5000
   simp [RwReelSeed.tells, RwReelSeed.nums]
   omega
 | .copy .. => Nat.le_trans (made_len _ _ _) (by decide)
 | .fill .. => Nat.le_trans (made_len _ _ _) (by decide)
 | .echo .. => Nat.le_trans (made_len _ _ _) (by decide)
 | .first .. => Nat.le_trans (found_len _ _ _) (by decide)
 | .last .. => Nat.le_trans (found_len _ _ _) (by decide)
 | .differ .. => Nat.le_trans (found_len _ _ _) (by decide)
 | .count .. => Nat.le_trans (found_len _ _ _) (by decide)
 | .turn .. => Nat.le_trans (made_len _ _ _) (by decide)
 | .swap .. => Nat.le_trans (made_len _ _ _) (by decide)
 | .unpack room b => by
   show (if _ then _ else _ : List Int).length ≤ 5000
   split
   · simp [RwReelSeed.no]
   · rename_i h
     cases e : unpack room.toNat (RwReelSeed.bytesOf b) with
     | error x => simp
     | ok t =>
       have h1 := unpackFrom_le room.toNat _ [] _ t (Nat.zero_le _) e
       have h2 : room ≤ 4096 := by
         by_cases g : room ≤ 4096
         · exact g
         · refine absurd (.inl ?_) h
           unfold RwReelSeed.within RwReelSeed.ROOM
           rw [decide_eq_false g, Bool.and_false]
       simp [RwReelSeed.tells, RwReelSeed.nums]
       omega
 | .pack b => by
   show (if _ then _ else _ : List Int).length ≤ 5000
   split
   · rename_i h
     have h1 := packed_le (RwReelSeed.bytesOf b)
     have h2 : b.length ≤ 64 := by
       unfold RwReelSeed.areBytes RwReelSeed.PACK at h
       simp at h
       exact h.1
     simp only [RwReelSeed.tells, RwReelSeed.nums, List.length_cons, List.length_map]
     unfold RwReelSeed.bytesOf at h1 ⊢
     rw [List.length_map] at h1
     omega
   · simp [RwReelSeed.no]
theorem neutral_len {z : RwReelSeed.State} (hm : z.s.mem.length ≤ 256) (c : List (List Int)) : (ReelNeutral.step z c).2.length ≤ 5000 := by
 unfold ReelNeutral.step
 split
 · exact answer_len hm _
 · simp
end Rm

namespace Rm
open Rw
theorem before_irrefl : ∀ a : Bytes, before a a = false
 | [] => rfl
 | x :: r => by
   show (decide (x < x) || (x == x && before r r)) = false
   rw [before_irrefl r, Bool.and_false, Bool.or_false]
   exact decide_eq_false (by simp)
theorem before_cons (x y : UInt8) (r s : Bytes) : before (x :: r) (y :: s) = true ↔ x < y ∨ (x = y ∧ before r s = true) := by
 show (decide (x < y) || (x == y && before r s)) = true ↔ _
 simp
theorem before_trans : ∀ {a b c : Bytes}, before a b = true → before b c = true → before a c = true
 | [], [], _, h, _ => by cases h
 | [], _ :: _, [], _, h => by cases h
 | [], _ :: _, _ :: _, _, _ => rfl
 | _ :: _, [], _, h, _ => by cases h
 | _ :: _, _ :: _, [], _, h => by cases h
 | x :: r, y :: s, z :: t, h, h2 => by
   rw [before_cons] at h h2 ⊢
   rcases h with h | ⟨rfl, h⟩
   · rcases h2 with h2 | ⟨rfl, h2⟩
     · exact .inl (UInt8.lt_trans h h2)
     · exact .inl h
   · rcases h2 with h2 | ⟨rfl, h2⟩
     · exact .inl h2
     · exact .inr ⟨rfl, before_trans h h2⟩
theorem before_total : ∀ {a b : Bytes}, before a b = false → before b a = false → a = b
 | [], [], _, _ => rfl
 | [], _ :: _, h, _ => by cases h
 | _ :: _, [], _, h => by cases h
 | x :: r, y :: s, h, h2 => by
   have g1 : ¬ (x < y ∨ (x = y ∧ before r s = true)) := fun q => by rw [(before_cons x y r s).mpr q] at h; cases h
   have g2 : ¬ (y < x ∨ (y = x ∧ before s r = true)) := fun q => by rw [(before_cons y x s r).mpr q] at h2; cases h2
   have e : x = y := by
     apply UInt8.le_antisymm
     · exact UInt8.not_lt.mp fun q => g2 (.inl q)
     · exact UInt8.not_lt.mp fun q => g1 (.inl q)
   subst e
   have e2 : r = s := by
     apply before_total
     · cases q : before r s with
       | false => rfl
       | true => exact absurd (.inr ⟨rfl, q⟩) g1
     · cases q : before s r with
       | false => rfl
       | true => exact absurd (.inr ⟨rfl, q⟩) g2
   rw [e2]
def Less (a b : Bytes) : Prop := a.length < b.length ∨ (a.length = b.length ∧ before a b = true)
instance (a b : Bytes) : Decidable (Less a b) := by unfold Less; exact inferInstance
theorem better_eq (a b : Bytes) : better a b = if Less a b then a else b := rfl
theorem less_irrefl (a : Bytes) : ¬ Less a a := by
 rintro (h | ⟨_, h⟩)
 · omega
 · rw [before_irrefl] at h; cases h
theorem less_trans {a b c : Bytes} (h : Less a b) (h2 : Less b c) : Less a c := by
 rcases h with h | ⟨e, h⟩
 · rcases h2 with h2 | ⟨e2, h2⟩
   · exact .inl (by omega)
   · exact .inl (by omega)
 · rcases h2 with h2 | ⟨e2, h2⟩
   · exact .inl (by omega)
   · exact .inr ⟨by omega, before_trans h h2⟩
theorem less_total {a b : Bytes} (h : ¬ Less a b) (h2 : ¬ Less b a) : a = b := by
 have e : a.length = b.length := by
   have g1 : ¬ a.length < b.length := fun q => h (.inl q)
   have g2 : ¬ b.length < a.length := fun q => h2 (.inl q)
   omega
 apply before_total
 · cases q : before a b with
   | false => rfl
   | true => exact absurd (.inr ⟨e, q⟩) h
 · cases q : before b a with
   | false => rfl
   | true => exact absurd (.inr ⟨e.symm, q⟩) h2
theorem nless_trans {a b c : Bytes} (h : ¬ Less b a) (h2 : ¬ Less c b) : ¬ Less c a := by
 intro q
 by_cases e : a = b
 · subst e
   exact h2 q
 · have hab : Less a b := by
     by_cases g : Less a b
     · exact g
     · exact absurd (less_total g h) e
   exact h2 (less_trans q hab)
theorem fold_least : ∀ (l : List Bytes) (a : Bytes), (l.foldl better a) ∈ a :: l ∧ ∀ y ∈ a :: l, ¬ Less y (l.foldl better a)
 | [], a => ⟨by simp, fun y hy => by simp at hy; subst hy; exact less_irrefl _⟩
 | b :: r, a => by
   obtain ⟨h1, h2⟩ := fold_least r (better a b)
   have hb : better a b = a ∨ better a b = b := by
     rw [better_eq]
     split
     · exact .inl rfl
     · exact .inr rfl
   have ha : ¬ Less a (better a b) ∧ ¬ Less b (better a b) := by
     rw [better_eq]
     split
     · rename_i h
       exact ⟨less_irrefl _, fun q => less_irrefl _ (less_trans q h)⟩
     · rename_i h
       exact ⟨h, less_irrefl _⟩
   refine ⟨?_, fun y hy => ?_⟩
   · show (r.foldl better (better a b)) ∈ a :: b :: r
     rcases List.mem_cons.mp h1 with q | q
     · rw [q]
       rcases hb with e | e <;> rw [e] <;> simp
     · exact List.mem_cons.mpr (.inr (List.mem_cons.mpr (.inr q)))
   · show ¬ Less y (r.foldl better (better a b))
     have hm := h2 (better a b) (by simp)
     rcases List.mem_cons.mp hy with q | q
     · subst q
       exact nless_trans hm ha.1
     · rcases List.mem_cons.mp q with q | q
       · subst q
         exact nless_trans hm ha.2
       · exact h2 y (by simp [q])
theorem best_eq {l : List Bytes} {r : Bytes} (hr : r ∈ l) (hm : ∀ y ∈ l, ¬ Less y r) : (l.drop 1).foldl better (l.headD []) = r := by
 cases l with
 | nil => simp at hr
 | cons a l =>
   obtain ⟨h1, h2⟩ := fold_least l a
   exact less_total (hm _ h1) (h2 r hr)
end Rm

namespace Rm
open Rw
def rowTo (m : Bytes) (x n w i : Nat) : Bytes := (List.range i).foldl (fun u i => poke u (x + i * w) w (at_ m x w (n - 1 - i))) m
def bytesTo (m : Bytes) (x w i : Nat) : Bytes := (List.range i).foldl (fun u i => poke u (x + i * w) w (turned w (at_ m x w i))) m
theorem rowTo_succ (m : Bytes) (x n w i : Nat) : rowTo m x n w (i + 1) = poke (rowTo m x n w i) (x + i * w) w (at_ m x w (n - 1 - i)) := by
 unfold rowTo
 rw [List.range_succ, List.foldl_append]
 rfl
theorem bytesTo_succ (m : Bytes) (x w i : Nat) : bytesTo m x w (i + 1) = poke (bytesTo m x w i) (x + i * w) w (turned w (at_ m x w i)) := by
 unfold bytesTo
 rw [List.range_succ, List.foldl_append]
 rfl
theorem rowTo_len {m : Bytes} {x n w : Nat} (h : x + n * w ≤ m.length) : ∀ i, i ≤ n → (rowTo m x n w i).length = m.length
 | 0, _ => rfl
 | i + 1, hi => by
   have ih := rowTo_len h i (by omega)
   rw [rowTo_succ, poke_len _ (by rw [ih]; exact row_in h hi), ih]
theorem bytesTo_len {m : Bytes} {x n w : Nat} (h : x + n * w ≤ m.length) : ∀ i, i ≤ n → (bytesTo m x w i).length = m.length
 | 0, _ => rfl
 | i + 1, hi => by
   have ih := bytesTo_len h i (by omega)
   rw [bytesTo_succ, poke_len _ (by rw [ih]; exact row_in h hi), ih]
end Rm

namespace Rm
open Rw
def need (v : Nat) : Nat := if v < 128 then v + 1 else if v < 192 then 1 else 2
def mkn (v : Nat) : Nat := if v < 128 then v + 1 else if v < 192 then v - 125 else v - 189
def backOf (nd : Bytes) : Nat := peek nd 0 2
def madeOf (out : Bytes) (v : Nat) (nd : Bytes) : Bytes := if v < 128 then out ++ nd else if v < 192 then out ++ List.replicate (v - 125) (nd.getD 0 0) else repeated (backOf nd) (v - 189) out
def fault (v : Nat) (nd : Bytes) (k room : Nat) : Int := if nd.length < need v then -2 else if 192 ≤ v ∧ ¬ (1 ≤ backOf nd ∧ backOf nd ≤ k) then -3 else if room < k + mkn v then -4 else 0
theorem repeated_len (p : Nat) : ∀ (n : Nat) (out : Bytes), (repeated p n out).length = out.length + n
 | 0, _ => rfl
 | n + 1, out => by
   show (repeated p n _).length = _
   rw [repeated_len p n, List.length_append]
   simp
   omega
theorem repeated_snoc (p : Nat) : ∀ (n : Nat) (out : Bytes), repeated p (n + 1) out = repeated p n out ++ [(repeated p n out).getD ((repeated p n out).length - p) 0]
 | 0, _ => rfl
 | n + 1, out => by
   show repeated p (n + 1) (out ++ [out.getD (out.length - p) 0]) = _
   rw [repeated_snoc p n]
   rfl
theorem madeOf_len {out nd : Bytes} {v : Nat} (h : nd.length = need v) : (madeOf out v nd).length = out.length + mkn v := by
 unfold madeOf mkn
 unfold need at h
 split
 · rename_i g
   rw [if_pos g] at h
   rw [List.length_append, h]
 · split
   · rw [List.length_append, List.length_replicate]
   · rw [repeated_len]
theorem take_need {r : Bytes} {n : Nat} : (r.take n).length < n ↔ r.length < n := by
 rw [List.length_take]
 omega
theorem command_eq (out : Bytes) (b : UInt8) (r : Bytes) : command out b r =
   if r.length < need b.toNat then .error SHORT else if 192 ≤ b.toNat ∧ ¬ (1 ≤ backOf (r.take (need b.toNat)) ∧ backOf (r.take (need b.toNat)) ≤ out.length) then .error PERIOD
   else .ok (madeOf out b.toNat (r.take (need b.toNat)), r.drop (need b.toNat)) := by
 unfold command
 simp only
 by_cases g1 : b.toNat < 128
 · have hn : need b.toNat = b.toNat + 1 := by unfold need; rw [if_pos g1]
   rw [if_pos g1, hn]
   by_cases g2 : r.length < b.toNat + 1
   · rw [if_pos g2, if_pos g2]
   · rw [if_neg g2, if_neg g2, if_neg (by omega)]
     unfold madeOf
     rw [if_pos g1]
 · rw [if_neg g1]
   by_cases g3 : b.toNat < 192
   · have hn : need b.toNat = 1 := by unfold need; rw [if_neg g1, if_pos g3]
     rw [if_pos g3, hn]
     cases r with
     | nil => simp
     | cons c q =>
       rw [if_neg (by simp), if_neg (by omega)]
       unfold madeOf
       rw [if_neg g1, if_pos g3]
       simp
   · have hn : need b.toNat = 2 := by unfold need; rw [if_neg g1, if_neg g3]
     rw [if_neg g3, hn]
     match r with
     | [] => simp
     | [x] => simp
     | x :: y :: q =>
       have hb : backOf ((x :: y :: q).take 2) = x.toNat + 256 * y.toNat := by
         unfold backOf peek little
         simp
       simp only
       rw [if_neg (show ¬ (x :: y :: q).length < 2 by simp), hb]
       by_cases g4 : x.toNat + 256 * y.toNat = 0 ∨ out.length < x.toNat + 256 * y.toNat
       · rw [if_pos g4, if_pos ⟨by omega, by omega⟩]
       · rw [if_neg g4, if_neg (by omega)]
         unfold madeOf
         rw [if_neg g1, if_neg g3, hb]
         rfl
theorem unpack_step (room n : Nat) (out : Bytes) (b : UInt8) (r : Bytes) : unpackFrom room (n + 1) out (b :: r) =
   if fault b.toNat (r.take (need b.toNat)) out.length room ≠ 0 then .error (fault b.toNat (r.take (need b.toNat)) out.length room) else unpackFrom room n (madeOf out b.toNat (r.take (need b.toNat))) (r.drop (need b.toNat)) := by
 show (match command out b r with
   | .error e => (Except.error e : Except Int Bytes)
   | .ok x => if room < x.1.length then Except.error LONG else unpackFrom room n x.1 x.2) = _
 rw [command_eq]
 unfold fault
 by_cases g1 : r.length < need b.toNat
 · rw [if_pos g1, if_pos (take_need.mpr g1)]
   rfl
 · have hl : (r.take (need b.toNat)).length = need b.toNat := by rw [List.length_take]; omega
   rw [if_neg g1, if_neg (by omega : ¬ (r.take (need b.toNat)).length < need b.toNat)]
   by_cases g2 : 192 ≤ b.toNat ∧ ¬ (1 ≤ backOf (r.take (need b.toNat)) ∧ backOf (r.take (need b.toNat)) ≤ out.length)
   · rw [if_pos g2, if_pos g2]
     rfl
   · rw [if_neg g2, if_neg g2]
     simp only
     rw [madeOf_len hl]
     by_cases g3 : room < out.length + mkn b.toNat
     · rw [if_pos g3, if_pos g3]
       rfl
     · rw [if_neg g3, if_neg g3]
       rfl
theorem need_pos (v : Nat) : 1 ≤ need v := by
 unfold need
 split
 · omega
 · split <;> omega
end Rm

namespace Rm
open Rw
theorem tw_len {f : Nat → Bool} : ∀ {m j : Nat}, j ≤ m → (∀ i, i < j → f i = true) → (j = m ∨ f j = false) → ((List.range m).takeWhile f).length = j := by
 have key : ∀ (l : List Nat) (j : Nat), j ≤ l.length → (∀ i x, i < j → l[i]? = some x → f x = true) → (j = l.length ∨ ∃ x, l[j]? = some x ∧ f x = false) → (l.takeWhile f).length = j := by
   intro l
   induction l with
   | nil => intro j hj _ _; simp at hj; simp [hj]
   | cons a r ih =>
     intro j hj h1 h2
     cases j with
     | zero =>
       rcases h2 with h2 | ⟨x, hx, h2⟩
       · simp at h2
       · simp at hx
         subst hx
         rw [List.takeWhile_cons, if_neg (by rw [h2]; simp)]
         rfl
     | succ j =>
       rw [List.takeWhile_cons, if_pos (h1 0 a (by omega) rfl), List.length_cons, ih j (by simpa using hj) (fun i x hi hx => h1 (i + 1) x (by omega) hx) ?_]
       rcases h2 with h2 | ⟨x, hx, h2⟩
       · exact .inl (by simpa using h2)
       · exact .inr ⟨x, by simpa using hx, h2⟩
 intro m j hj h1 h2
 refine key _ _ (by simpa using hj) (fun i x hi hx => ?_) ?_
 · rw [List.getElem?_range (by omega)] at hx
   cases hx
   exact h1 i hi
 · rcases h2 with h2 | h2
   · exact .inl (by simpa using h2)
   · by_cases e : j = m
     · exact .inl (by simpa using e)
     · exact .inr ⟨j, List.getElem?_range (by omega), h2⟩
def eLen (t : Bytes) (p b : Nat) : Nat := ((List.range (t.length - p)).takeWhile fun j => t.getD (p + j) 0 == t.getD (p + j - b) 0).length
theorem eLen_is {t : Bytes} {p b j : Nat} (hj : j ≤ t.length - p) (h1 : ∀ i, i < j → t.getD (p + i) 0 = t.getD (p + i - b) 0) (h2 : j = t.length - p ∨ t.getD (p + j) 0 ≠ t.getD (p + j - b) 0) : eLen t p b = j := by
 unfold eLen
 refine tw_len hj (fun i hi => by rw [h1 i hi]; simp) ?_
 rcases h2 with h2 | h2
 · exact .inl h2
 · exact .inr (beq_eq_false_iff_ne.mpr h2)
theorem eLen_ex (t : Bytes) (p b : Nat) : ∃ j, j ≤ t.length - p ∧ (∀ i, i < j → t.getD (p + i) 0 = t.getD (p + i - b) 0) ∧ (j = t.length - p ∨ t.getD (p + j) 0 ≠ t.getD (p + j - b) 0) := by
 have key : ∀ n : Nat, n ≤ t.length - p → (∀ i, i < n → t.getD (p + i) 0 = t.getD (p + i - b) 0) ∨ ∃ j, j < n ∧ (∀ i, i < j → t.getD (p + i) 0 = t.getD (p + i - b) 0) ∧ t.getD (p + j) 0 ≠ t.getD (p + j - b) 0 := by
   intro n
   induction n with
   | zero => intro _; exact .inl fun i hi => by omega
   | succ n ih =>
     intro hn
     rcases ih (by omega) with h | ⟨j, h1, h2, h3⟩
     · by_cases e : t.getD (p + n) 0 = t.getD (p + n - b) 0
       · refine .inl fun i hi => ?_
         by_cases e2 : i = n
         · subst e2; exact e
         · exact h i (by omega)
       · exact .inr ⟨n, by omega, h, e⟩
     · exact .inr ⟨j, by omega, h2, h3⟩
 rcases key _ (Nat.le_refl _) with h | ⟨j, h1, h2, h3⟩
 · exact ⟨_, Nat.le_refl _, h, .inl rfl⟩
 · exact ⟨j, by omega, h2, .inr h3⟩
theorem le_eLen {t : Bytes} {p b k : Nat} : k ≤ eLen t p b ↔ k ≤ t.length - p ∧ ∀ j, j < k → t.getD (p + j) 0 = t.getD (p + j - b) 0 := by
 obtain ⟨j, h1, h2, h3⟩ := eLen_ex t p b
 rw [eLen_is h1 h2 h3]
 constructor
 · exact fun h => ⟨by omega, fun i hi => h2 i (by omega)⟩
 · rintro ⟨h4, h5⟩
   rcases h3 with h3 | h3
   · omega
   · by_cases e : k ≤ j
     · exact e
     · exact absurd (h5 j (by omega)) h3
theorem eLen_le (t : Bytes) (p b : Nat) : eLen t p b ≤ t.length - p := (le_eLen.mp (Nat.le_refl _)).1
def plainC (t : Bytes) (i : Nat) : List Bytes := (List.range (t.length - i)).map fun k => UInt8.ofNat k :: (t.drop i).take (k + 1)
def repC (t : Bytes) (i : Nat) : List Bytes := (List.range (eLen t (i + 1) 1 + 2 - 3)).map fun k => [UInt8.ofNat (k + 128), t.getD i 0]
def echoesOf (b lo hi : Nat) : List Bytes := (List.range (hi - lo)).map fun k => [UInt8.ofNat (lo + 1 + k + 189), UInt8.ofNat b, 0]
def echoC (t : Bytes) (i : Nat) : Nat → Nat × List Bytes
 | 0 => (2, [])
 | j + 1 => (max (echoC t i j).1 (eLen t i (j + 1)), (echoC t i j).2 ++ echoesOf (j + 1) (echoC t i j).1 (eLen t i (j + 1)))
def cmdsAt (t : Bytes) (i : Nat) : List Bytes := plainC t i ++ repC t i ++ (echoC t i i).2
def B (t : Bytes) (i : Nat) : Bytes := (bests t (t.length - i)).headD []
def formOf (t : Bytes) (i : Nat) (c : Bytes) : Bytes := c ++ B t (i + mkn (c.headD 0).toNat)
def textsAt (t : Bytes) (i : Nat) : List Bytes := (cmdsAt t i).map (formOf t i)
theorem B_end (t : Bytes) : B t t.length = [] := by
 unfold B
 rw [Nat.sub_self]
 rfl
theorem rest_get (t : Bytes) : ∀ (k j : Nat), k ≤ t.length → j ≤ k → (bests t k).getD j [] = B t (t.length - k + j)
 | 0, j, _, hj => by
   have e : j = 0 := by omega
   subst e
   rw [Nat.sub_zero, Nat.add_zero, B_end]
   rfl
 | k + 1, 0, hk, _ => by
   unfold B
   rw [show t.length - (t.length - (k + 1) + 0) = k + 1 by omega]
   rfl
 | k + 1, j + 1, hk, hj => by
   have ih := rest_get t k j (by omega) (by omega)
   show (bests t k).getD j [] = _
   rw [ih]
   congr 1
   omega
theorem toNat_of {k : Nat} (h : k < 256) : (UInt8.ofNat k).toNat = k := by
 rw [UInt8.toNat_ofNat']
 exact Nat.mod_eq_of_lt h
theorem mkn_plain {k : Nat} (h : k < 128) : mkn k = k + 1 := by unfold mkn; rw [if_pos h]
theorem mkn_rep {k : Nat} (h : k < 64) : mkn (k + 128) = k + 3 := by unfold mkn; rw [if_neg (by omega), if_pos (by omega)]; omega
theorem mkn_echo {k : Nat} (h : 3 ≤ k) : mkn (k + 189) = k := by unfold mkn; rw [if_neg (by omega), if_neg (by omega)]; omega
theorem echo_has {t : Bytes} {i : Nat} : ∀ (j K : Nat), 3 ≤ K → K ≤ (echoC t i j).1 → ∃ b, 1 ≤ b ∧ b ≤ j ∧ [UInt8.ofNat (K + 189), UInt8.ofNat b, 0] ∈ (echoC t i j).2
 | 0, K, h1, h2 => by simp [echoC] at h2; omega
 | j + 1, K, h1, h2 => by
   by_cases g : K ≤ (echoC t i j).1
   · obtain ⟨b, b1, b2, b3⟩ := echo_has j K h1 g
     exact ⟨b, b1, by omega, List.mem_append_left _ b3⟩
   · have h2 : K ≤ max (echoC t i j).1 (eLen t i (j + 1)) := h2
     refine ⟨j + 1, by omega, Nat.le_refl _, List.mem_append_right _ ?_⟩
     unfold echoesOf
     refine List.mem_map.mpr ⟨K - ((echoC t i j).1 + 1), List.mem_range.mpr (by omega), ?_⟩
     rw [show (echoC t i j).1 + 1 + (K - ((echoC t i j).1 + 1)) + 189 = K + 189 by omega]
theorem echo_two (t : Bytes) (i : Nat) : ∀ j, 2 ≤ (echoC t i j).1
 | 0 => Nat.le_refl _
 | j + 1 => by
   have := echo_two t i j
   show 2 ≤ max _ _
   omega
theorem echo_of {t : Bytes} {i : Nat} {c : Bytes} : ∀ (j : Nat), c ∈ (echoC t i j).2 → ∃ K b, 3 ≤ K ∧ 1 ≤ b ∧ b ≤ j ∧ K ≤ eLen t i b ∧ c = [UInt8.ofNat (K + 189), UInt8.ofNat b, 0]
 | 0, h => by simp [echoC] at h
 | j + 1, h => by
   rcases List.mem_append.mp h with h | h
   · obtain ⟨K, b, h1, h2, h3, h4, h5⟩ := echo_of j h
     exact ⟨K, b, h1, h2, by omega, h4, h5⟩
   · unfold echoesOf at h
     obtain ⟨k, hk, rfl⟩ := List.mem_map.mp h
     have hk := List.mem_range.mp hk
     have := echo_two t i j
     exact ⟨(echoC t i j).1 + 1 + k, j + 1, by omega, by omega, Nat.le_refl _, by omega, rfl⟩
theorem echo_mono {t : Bytes} {i : Nat} {c : Bytes} {a : Nat} : ∀ (b : Nat), a ≤ b → c ∈ (echoC t i a).2 → c ∈ (echoC t i b).2
 | 0, h, hc => by
   have : a = 0 := by omega
   subst this
   exact hc
 | b + 1, h, hc => by
   by_cases e : a = b + 1
   · subst e; exact hc
   · exact List.mem_append_left _ (echo_mono b (by omega) hc)
theorem echo_le {t : Bytes} {i b : Nat} (h1 : 1 ≤ b) : eLen t i b ≤ (echoC t i b).1 := by
 obtain ⟨k, rfl⟩ : ∃ k, b = k + 1 := ⟨b - 1, by omega⟩
 show _ ≤ max _ _
 omega
theorem rep_all {t : Bytes} {i K : Nat} (hi : i < t.length) (h3 : 1 ≤ K) (hK : K ≤ t.length - i) : ((t.drop i).take K).all (fun c => c == t.getD i 0) = true ↔ K ≤ eLen t (i + 1) 1 + 1 := by
 have e1 : ((t.drop i).take K).all (fun c => c == t.getD i 0) = true ↔ ∀ j, j < K → t.getD (i + j) 0 = t.getD i 0 := by
   rw [List.all_eq_true]
   constructor
   · intro h j hj
     have hm : ((t.drop i).take K)[j]? = some (t.getD (i + j) 0) := by
       rw [List.getElem?_take, if_pos hj, List.getElem?_drop, List.getD_eq_getElem?_getD, List.getElem?_eq_getElem (by omega)]
       rfl
     exact eq_of_beq (h _ (List.mem_of_getElem? hm))
   · intro h c hc
     obtain ⟨j, hj, e⟩ := List.getElem_of_mem hc
     rw [List.length_take, List.length_drop] at hj
     have := h j (by omega)
     rw [List.getElem_take, List.getElem_drop] at e
     rw [List.getD_eq_getElem?_getD, List.getElem?_eq_getElem (by omega)] at this
     simp only [Option.getD_some] at this
     rw [e] at this
     rw [this]
     simp
 rw [e1]
 have e2 : K ≤ eLen t (i + 1) 1 + 1 ↔ K - 1 ≤ eLen t (i + 1) 1 := by omega
 rw [e2, le_eLen]
 constructor
 · intro h
   refine ⟨by omega, fun j hj => ?_⟩
   have h1 := h (j + 1) (by omega)
   have h2 := h j (by omega)
   rw [show i + 1 + j = i + (j + 1) by omega, h1, show i + (j + 1) - 1 = i + j by omega, h2]
 · rintro ⟨_, h⟩ j
   induction j with
   | zero => intro _; rfl
   | succ j ih =>
     intro hj
     have := h j (by omega)
     rw [show i + (j + 1) = i + 1 + j by omega, this, show i + 1 + j - 1 = i + j by omega]
     exact ih (by omega)
theorem forms_of {t : Bytes} {i : Nat} {y : Bytes} {rest : List Bytes} (ht : t.length ≤ 64) (hi : i < t.length) : y ∈ formsAt t i rest ↔
   (∃ k, k < t.length - i ∧ y = (UInt8.ofNat k :: (t.drop i).take (k + 1)) ++ rest.getD k []) ∨
   (∃ K, 3 ≤ K ∧ K ≤ t.length - i ∧ K ≤ eLen t (i + 1) 1 + 1 ∧ y = [UInt8.ofNat (K + 125), t.getD i 0] ++ rest.getD (K - 1) []) ∨
   (∃ q K, q < i ∧ 3 ≤ K ∧ K ≤ eLen t i (q + 1) ∧ y = [UInt8.ofNat (K + 189), UInt8.ofNat (q + 1), 0] ++ rest.getD (K - 1) []) := by
 unfold formsAt
 simp only [List.mem_append, List.mem_map, List.mem_flatMap, List.mem_filter, List.mem_range, decide_eq_true_eq]
 have hm1 : min 128 (t.length - i) = t.length - i := by omega
 have hm2 : min 66 (t.length - i) = t.length - i := by omega
 rw [hm1, hm2]
 constructor
 · rintro (⟨k, hk, rfl⟩ | ⟨K, ⟨⟨hK, h3⟩, ha⟩, rfl⟩ | ⟨q, hq, K, ⟨⟨hK, h3⟩, ha⟩, rfl⟩)
   · exact .inl ⟨k, hk, rfl⟩
   · exact .inr (.inl ⟨K, h3, by omega, (rep_all hi (by omega) (by omega)).mp ha, rfl⟩)
   · refine .inr (.inr ⟨q, K, hq, h3, ?_, ?_⟩)
     · rw [le_eLen]
       refine ⟨by omega, fun j hj => ?_⟩
       have := List.all_eq_true.mp ha j (List.mem_range.mpr hj)
       exact eq_of_beq this
     · rw [Nat.mod_eq_of_lt (by omega : q + 1 < 256), Nat.div_eq_of_lt (by omega : q + 1 < 256)]
       rfl
 · rintro (⟨k, hk, rfl⟩ | ⟨K, h3, hK, he, rfl⟩ | ⟨q, K, hq, h3, he, rfl⟩)
   · exact .inl ⟨k, hk, rfl⟩
   · exact .inr (.inl ⟨K, ⟨⟨by omega, h3⟩, (rep_all hi (by omega) hK).mpr he⟩, rfl⟩)
   · obtain ⟨h4, h5⟩ := le_eLen.mp he
     refine .inr (.inr ⟨q, hq, K, ⟨⟨by omega, h3⟩, ?_⟩, ?_⟩)
     · rw [List.all_eq_true]
       intro j hj
       rw [h5 j (List.mem_range.mp hj)]
       simp
     · rw [Nat.mod_eq_of_lt (by omega : q + 1 < 256), Nat.div_eq_of_lt (by omega : q + 1 < 256)]
       rfl
theorem texts_of {t : Bytes} {i : Nat} {y : Bytes} (ht : t.length ≤ 64) (hi : i < t.length) : y ∈ textsAt t i ↔
   (∃ k, k < t.length - i ∧ y = (UInt8.ofNat k :: (t.drop i).take (k + 1)) ++ B t (i + 1 + k)) ∨
   (∃ K, 3 ≤ K ∧ K ≤ eLen t (i + 1) 1 + 1 ∧ y = [UInt8.ofNat (K + 125), t.getD i 0] ++ B t (i + K)) ∨
   (∃ c, c ∈ (echoC t i i).2 ∧ y = formOf t i c) := by
 have hle := eLen_le t (i + 1) 1
 unfold textsAt cmdsAt
 simp only [List.mem_map, List.mem_append]
 constructor
 · rintro ⟨c, (hc | hc) | hc, rfl⟩
   · unfold plainC at hc
     obtain ⟨k, hk, rfl⟩ := List.mem_map.mp hc
     have hk := List.mem_range.mp hk
     refine .inl ⟨k, hk, ?_⟩
     unfold formOf
     rw [show (List.headD (UInt8.ofNat k :: (t.drop i).take (k + 1)) 0) = UInt8.ofNat k from rfl, toNat_of (by omega), mkn_plain (by omega), show i + (k + 1) = i + 1 + k by omega]
   · unfold repC at hc
     obtain ⟨k, hk, rfl⟩ := List.mem_map.mp hc
     have hk := List.mem_range.mp hk
     refine .inr (.inl ⟨k + 3, by omega, by omega, ?_⟩)
     unfold formOf
     rw [show (List.headD [UInt8.ofNat (k + 128), t.getD i 0] 0) = UInt8.ofNat (k + 128) from rfl, toNat_of (by omega), mkn_rep (by omega)]
   · exact .inr (.inr ⟨c, hc, rfl⟩)
 · rintro (⟨k, hk, rfl⟩ | ⟨K, h3, hK, rfl⟩ | ⟨c, hc, rfl⟩)
   · refine ⟨_, .inl (.inl (List.mem_map.mpr ⟨k, List.mem_range.mpr hk, rfl⟩)), ?_⟩
     unfold formOf
     rw [show (List.headD (UInt8.ofNat k :: (t.drop i).take (k + 1)) 0) = UInt8.ofNat k from rfl, toNat_of (by omega), mkn_plain (by omega), show i + (k + 1) = i + 1 + k by omega]
   · refine ⟨[UInt8.ofNat (K - 3 + 128), t.getD i 0], .inl (.inr (List.mem_map.mpr ⟨K - 3, List.mem_range.mpr (by omega), rfl⟩)), ?_⟩
     unfold formOf
     rw [show (List.headD [UInt8.ofNat (K - 3 + 128), t.getD i 0] 0) = UInt8.ofNat (K - 3 + 128) from rfl, toNat_of (by omega), mkn_rep (by omega), show K - 3 + 3 = K by omega, show K - 3 + 128 = K + 125 by omega]
   · exact ⟨c, .inr hc, rfl⟩
theorem echo_form {t : Bytes} {i K : Nat} {b : Nat} (h3 : 3 ≤ K) (hK : K ≤ 64) : formOf t i [UInt8.ofNat (K + 189), UInt8.ofNat b, 0] = [UInt8.ofNat (K + 189), UInt8.ofNat b, 0] ++ B t (i + K) := by
 unfold formOf
 rw [show (List.headD [UInt8.ofNat (K + 189), UInt8.ofNat b, 0] 0) = UInt8.ofNat (K + 189) from rfl, toNat_of (by omega), mkn_echo h3]
theorem B_is {t : Bytes} {i : Nat} {r : Bytes} (ht : t.length ≤ 64) (hi : i < t.length) (hr : r ∈ textsAt t i) (hm : ∀ y ∈ textsAt t i, ¬ Less y r) : B t i = r := by
 obtain ⟨k, hk⟩ : ∃ k, t.length - i = k + 1 := ⟨t.length - i - 1, by omega⟩
 have eB : B t i = ((formsAt t i (bests t k)).drop 1).foldl better ((formsAt t i (bests t k)).headD []) := by
   unfold B
   rw [hk]
   show (((formsAt t (t.length - (k + 1)) (bests t k)).drop 1).foldl better ((formsAt t (t.length - (k + 1)) (bests t k)).headD [])) = _
   rw [show t.length - (k + 1) = i by omega]
 have rg : ∀ j, j ≤ k → (bests t k).getD j [] = B t (i + 1 + j) := fun j hj => by
   rw [rest_get t k j (by omega) hj, show t.length - k = i + 1 by omega]
 rw [eB]
 refine best_eq ?_ fun y hy => ?_
 · rw [forms_of ht hi]
   rcases (texts_of ht hi).mp hr with ⟨j, hj, rfl⟩ | ⟨K, h3, hK, rfl⟩ | ⟨c, hc, rfl⟩
   · exact .inl ⟨j, hj, by rw [rg j (by omega)]⟩
   · have hle := eLen_le t (i + 1) 1
     exact .inr (.inl ⟨K, h3, by omega, hK, by rw [rg (K - 1) (by omega), show i + 1 + (K - 1) = i + K by omega]⟩)
   · obtain ⟨K, b, h3, b1, b2, hK, rfl⟩ := echo_of i hc
     have hle := eLen_le t i b
     refine .inr (.inr ⟨b - 1, K, by omega, h3, by rw [show b - 1 + 1 = b by omega]; exact hK, ?_⟩)
     rw [echo_form h3 (by omega), rg (K - 1) (by omega), show i + 1 + (K - 1) = i + K by omega, show b - 1 + 1 = b by omega]
 · rcases (forms_of ht hi).mp hy with ⟨j, hj, rfl⟩ | ⟨K, h3, hKl, hK, rfl⟩ | ⟨q, K, hq, h3, hK, rfl⟩
   · exact hm _ ((texts_of ht hi).mpr (.inl ⟨j, hj, by rw [rg j (by omega)]⟩))
   · exact hm _ ((texts_of ht hi).mpr (.inr (.inl ⟨K, h3, hK, by rw [rg (K - 1) (by omega), show i + 1 + (K - 1) = i + K by omega]⟩)))
   · have hle := eLen_le t i (q + 1)
     obtain ⟨b, b1, b2, b3⟩ := echo_has (t := t) (i := i) (q + 1) K h3 (Nat.le_trans hK (echo_le (by omega)))
     have hx := hm _ ((texts_of ht hi).mpr (.inr (.inr ⟨_, echo_mono i (by omega) b3, rfl⟩)))
     rw [echo_form h3 (by omega)] at hx
     rw [rg (K - 1) (by omega), show i + 1 + (K - 1) = i + K by omega]
     refine nless_trans hx ?_
     rintro (h | ⟨_, h⟩)
     · simp at h
     · rw [List.cons_append, List.cons_append, List.cons_append, List.cons_append, List.cons_append, List.cons_append, before_cons, before_cons] at h
       rcases h with h | ⟨_, h⟩
       · exact absurd h (by simp)
       · rcases h with h | ⟨e, h⟩
         · have h := UInt8.lt_iff_toNat_lt.mp h
           rw [toNat_of (by omega), toNat_of (by omega)] at h
           omega
         · rw [before_irrefl] at h
           cases h
end Rm
namespace Rm
open Rw
theorem B_len {t : Bytes} {i : Nat} (h : t.length ≤ 64) : (B t i).length ≤ 128 := by
 have := bests_le t (t.length - i) (by omega)
 unfold B
 omega
theorem echo_len (t : Bytes) (i : Nat) : ∀ j, (echoC t i j).2.length = (echoC t i j).1 - 2
 | 0 => rfl
 | j + 1 => by
   have ih := echo_len t i j
   have h2 := echo_two t i j
   show ((echoC t i j).2 ++ echoesOf (j + 1) (echoC t i j).1 (eLen t i (j + 1))).length = max _ _ - 2
   unfold echoesOf
   rw [List.length_append, ih, List.length_map, List.length_range]
   omega
theorem echo_top (t : Bytes) (i : Nat) (h : t.length ≤ 64) : ∀ j, (echoC t i j).1 ≤ 64
 | 0 => by show 2 ≤ 64; omega
 | j + 1 => by
   have ih := echo_top t i h j
   have := eLen_le t i (j + 1)
   show max _ _ ≤ 64
   omega
theorem cmds_few {t : Bytes} {i : Nat} (h : t.length ≤ 64) : (cmdsAt t i).length ≤ 200 := by
 have h1 := echo_len t i i
 have h2 := echo_top t i h i
 have h3 := eLen_le t (i + 1) 1
 unfold cmdsAt plainC repC
 rw [List.length_append, List.length_append, List.length_map, List.length_range, List.length_map, List.length_range, h1]
 omega
theorem cmd_ok {t : Bytes} {i : Nat} {c : Bytes} (ht : t.length ≤ 64) (hi : i < t.length) (hc : c ∈ cmdsAt t i) : ∃ b r, c = b :: r ∧ 1 ≤ mkn b.toNat ∧ i + mkn b.toNat ≤ t.length ∧ c.length ≤ 70 := by
 unfold cmdsAt at hc
 rcases List.mem_append.mp hc with hc | hc
 · rcases List.mem_append.mp hc with hc | hc
   · unfold plainC at hc
     obtain ⟨k, hk, rfl⟩ := List.mem_map.mp hc
     have hk := List.mem_range.mp hk
     refine ⟨_, _, rfl, ?_, ?_, ?_⟩
     · rw [toNat_of (by omega), mkn_plain (by omega)]; omega
     · rw [toNat_of (by omega), mkn_plain (by omega)]; omega
     · rw [List.length_cons, List.length_take]; omega
   · unfold repC at hc
     obtain ⟨k, hk, rfl⟩ := List.mem_map.mp hc
     have hk := List.mem_range.mp hk
     have := eLen_le t (i + 1) 1
     refine ⟨_, _, rfl, ?_, ?_, ?_⟩
     · rw [toNat_of (by omega), mkn_rep (by omega)]; omega
     · rw [toNat_of (by omega), mkn_rep (by omega)]; omega
     · show 2 ≤ 70; omega
 · obtain ⟨K, b, h3, b1, b2, hK, rfl⟩ := echo_of i hc
   have := eLen_le t i b
   refine ⟨_, _, rfl, ?_, ?_, ?_⟩
   · rw [toNat_of (by omega), mkn_echo h3]; omega
   · rw [toNat_of (by omega), mkn_echo h3]; omega
   · show 3 ≤ 70; omega
end Rm

namespace L2
open PySem PySem.Spec PyProof.Rows
theorem Fn.c {X : Cx} {k j : Nat} {f : Addr} {ps : List Str} {sp : Sp} {x : Str} {p pos : Pos} {e : Expr} {es : List Expr} {t : TA} (F : Fn X.prog X.w X.K X.mg X.base k f ps sp) (hr : Room j X.A) (hm : X.mg x = some (.ref f)) (ha : PA X (e :: es) t) (hk : k ≤ j := by decide) (hg : Gl X x := by rfl)
   (hdb : (x == ("__debug__" : Str)) = false := by decide) (he : starEach (e :: es) X.env = (false, eval e X.env) :: starEach es X.env := by rfl) (hpl : (backTo pos (starEach es X.env)).any (·.1) = false := by rfl) :
   PE X (.Call (.Name x p) (e :: es) [] pos) (tCall sp [] E0 t) := F.call hr hk hg hm ha hdb he hpl
theorem Fn.on {P : Program} {w : World} {K : PySem.W.Frag} {mg : Str → Option Value} {base : Heap} {x qual : Str} {st : Stmt} {f : Addr} {N ps : List Str} {k : Nat} {sp : Sp} {rd : TS} (F : Df K x qual st f ps) (S : FnScope N ps (defScope st))
   (hb : ∀ (cdv : Value) (A : Around) (outer : List Env) (s : Shared) (H : Hp) (E : XK), Room k (A.deeper (envOfC qual (defScope st) s.heap.objs.size f cdv)) → PSs (cxOf CX0 P w K mg base N qual (defScope st) f cdv A outer s H E).nox (defBody st) rd)
   (hs : ∀ (vs : List V) (H : Hp) (Q : VK), sp vs H Q E0 → vs.length = ps.length ∧ rd { nx := fun _ H' => Q .non H', rt := Q } (start N vs) H) (he : ∀ vs H Q E, sp vs H Q E → sp vs H Q E0 := by exact fun _ _ _ _ h => h) : Fn P w K mg base (k + 1) f ps sp := Fn.of F S hb he hs
end L2
theorem L2.gi {X : L2.Cx} {x : PySem.Str} {n : Int} {pos : PySem.Pos} (hm : ∃ t, X.mg x = some (.int n t)) (hg : L2.Gl X x := by rfl) (hd : (x == ("__debug__" : PySem.Str)) = false := by decide) : L2.PE X (.Name x pos) (L2.tC (.int n)) := L2.pe_gint hg hm hd
local macro_rules | `(tactic| walk_at "sc") => `(tactic| exact ⟨rfl, rfl, rfl, by decide +kernel, rfl, by decide +kernel, by decide +kernel⟩)
theorem df_1 {Q : List Value → Prop} (h : ∀ a0, Q [a0]) : ∀ us, us.length = 1 → Q us
 | [_], _ => h _
local macro_rules | `(tactic| walk_at "df1") => `(tactic| exact fun _ _ _ _ _ _ => df_1 fun _ => rfl)
theorem df_2 {Q : List Value → Prop} (h : ∀ a0 a1, Q [a0, a1]) : ∀ us, us.length = 2 → Q us
 | [_, _], _ => h _ _
local macro_rules | `(tactic| walk_at "df2") => `(tactic| exact fun _ _ _ _ _ _ => df_2 fun _ _ => rfl)
theorem df_3 {Q : List Value → Prop} (h : ∀ a0 a1 a2, Q [a0, a1, a2]) : ∀ us, us.length = 3 → Q us
 | [_, _, _], _ => h _ _ _
local macro_rules | `(tactic| walk_at "df3") => `(tactic| exact fun _ _ _ _ _ _ => df_3 fun _ _ _ => rfl)
theorem df_4 {Q : List Value → Prop} (h : ∀ a0 a1 a2 a3, Q [a0, a1, a2, a3]) : ∀ us, us.length = 4 → Q us
 | [_, _, _, _], _ => h _ _ _ _
local macro_rules | `(tactic| walk_at "df4") => `(tactic| exact fun _ _ _ _ _ _ => df_4 fun _ _ _ _ => rfl)
theorem df_5 {Q : List Value → Prop} (h : ∀ a0 a1 a2 a3 a4, Q [a0, a1, a2, a3, a4]) : ∀ us, us.length = 5 → Q us
 | [_, _, _, _, _], _ => h _ _ _ _ _
local macro_rules | `(tactic| walk_at "df5") => `(tactic| exact fun _ _ _ _ _ _ => df_5 fun _ _ _ _ _ => rfl)
theorem df_6 {Q : List Value → Prop} (h : ∀ a0 a1 a2 a3 a4 a5, Q [a0, a1, a2, a3, a4, a5]) : ∀ us, us.length = 6 → Q us
 | [_, _, _, _, _, _], _ => h _ _ _ _ _ _
local macro_rules | `(tactic| walk_at "df6") => `(tactic| exact fun _ _ _ _ _ _ => df_6 fun _ _ _ _ _ _ => rfl)
theorem df_7 {Q : List Value → Prop} (h : ∀ a0 a1 a2 a3 a4 a5 a6, Q [a0, a1, a2, a3, a4, a5, a6]) : ∀ us, us.length = 7 → Q us
 | [_, _, _, _, _, _, _], _ => h _ _ _ _ _ _ _
local macro_rules | `(tactic| walk_at "df7") => `(tactic| exact fun _ _ _ _ _ _ => df_7 fun _ _ _ _ _ _ _ => rfl)
theorem df_8 {Q : List Value → Prop} (h : ∀ a0 a1 a2 a3 a4 a5 a6 a7, Q [a0, a1, a2, a3, a4, a5, a6, a7]) : ∀ us, us.length = 8 → Q us
 | [_, _, _, _, _, _, _, _], _ => h _ _ _ _ _ _ _ _
local macro_rules | `(tactic| walk_at "df8") => `(tactic| exact fun _ _ _ _ _ _ => df_8 fun _ _ _ _ _ _ _ _ => rfl)
namespace Sd
open PySem PySem.Spec PyProof.Rows L2
def top (i : Nat) : Stmt := PySem.Challenge.pw_stringdeeds_s01_answers.main.body.getD i (.Pass ⟨0, 0, 0, 0⟩)
abbrev s_z58 : Stmt := top 2
abbrev s_z75 : Stmt := top 3
abbrev s_z70 : Stmt := top 4
abbrev s_z33 : Stmt := top 5
abbrev s_z32 : Stmt := inClass (top 23) 0
abbrev s_y24 : Stmt := top 24
abbrev s_z96 : Stmt := top 25
abbrev s_z60 : Stmt := top 26
abbrev s_z21 : Stmt := top 27
abbrev s_z36 : Stmt := top 36
abbrev s_z61 : Stmt := top 37
abbrev s_z44 : Stmt := top 38
abbrev s_y6 : Stmt := top 39
abbrev s_z68 : Stmt := top 40
abbrev s_z42 : Stmt := top 41
abbrev s_z46 : Stmt := top 42
abbrev s_z17 : Stmt := top 43
abbrev s_z9 : Stmt := top 44
abbrev s_z26 : Stmt := top 45
abbrev s_z19 : Stmt := top 46
abbrev s_z87 : Stmt := top 47
abbrev s_z23 : Stmt := top 50
abbrev s_z79 : Stmt := top 51
abbrev s_z35 : Stmt := top 52
abbrev s_y16 : Stmt := top 53
abbrev s_z25 : Stmt := top 58
abbrev s_z51 : Stmt := top 59
abbrev s_y18 : Stmt := top 60
abbrev s_y46 : Stmt := top 61
abbrev s_y48 : Stmt := top 62
abbrev s_y47 : Stmt := top 63
abbrev s_y45 : Stmt := top 64
abbrev s_y50 : Stmt := top 65
abbrev s_z27 : Stmt := top 67
abbrev s_z0 : Stmt := top 68
abbrev s_z93 : Stmt := top 69
abbrev s_z7 : Stmt := inClass (top 82) 0
abbrev s_z13 : Stmt := top 83
abbrev s_z22 : Stmt := top 84
abbrev s_z6 : Stmt := top 85
abbrev s_y43 : Stmt := top 86
abbrev s_y44 : Stmt := top 87
abbrev s_z65 : Stmt := top 88
abbrev s_z8 : Stmt := top 89
abbrev s_y39 : Stmt := top 90
abbrev s_y49 : Stmt := top 91
abbrev s_z97 : Stmt := top 92
abbrev s_z43 : Stmt := top 93
abbrev s_z98 : Stmt := top 94
abbrev s_z39 : Stmt := top 95
abbrev s_z30 : Stmt := top 97
abbrev s_y3 : Stmt := top 98
abbrev s_z10 : Stmt := top 99
abbrev s_z59 : Stmt := top 100
abbrev s_y26 : Stmt := top 102
abbrev s_y7 : Stmt := top 103
abbrev s_z94 : Stmt := top 104
abbrev s_y2 : Stmt := top 105
abbrev s_z49 : Stmt := top 106
abbrev s_y11 : Stmt := top 107
abbrev s_y9 : Stmt := top 108
abbrev s_z47 : Stmt := top 109
abbrev s_z14 : Stmt := top 110
abbrev s_z40 : Stmt := top 111
abbrev s_y4 : Stmt := top 112
abbrev s_z95 : Stmt := top 113
abbrev s_z90 : Stmt := top 125
abbrev s_z74 : Stmt := top 126
abbrev s_z48 : Stmt := top 127
abbrev s_z41 : Stmt := top 128
abbrev s_z29 : Stmt := top 129
abbrev s_y19 : Stmt := top 130
abbrev s_y5 : Stmt := top 131
abbrev s_z91 : Stmt := top 132
abbrev s_z4 : Stmt := top 133
abbrev s_z34 : Stmt := top 134
abbrev s_z76 : Stmt := top 135
abbrev s_z89 : Stmt := top 136
abbrev s_z92 : Stmt := top 137
abbrev s_y29 : Stmt := top 138
abbrev s_z67 : Stmt := top 139
abbrev s_z80 : Stmt := top 140
abbrev s_z50 : Stmt := top 141
abbrev s_z66 : Stmt := top 142
abbrev s_z63 : Stmt := top 143
abbrev s_z73 : Stmt := top 144
abbrev s_z83 : Stmt := top 145
abbrev s_z56 : Stmt := top 146
abbrev s_z85 : Stmt := top 147
abbrev s_z11 : Stmt := inClass (top 151) 0
abbrev s_z3 : Stmt := inClass (top 151) 1
abbrev s_z12 : Stmt := inClass (top 151) 2
abbrev s_z1 : Stmt := inClass (top 151) 3
abbrev s_z2 : Stmt := inClass (top 151) 4
abbrev s_z53 : Stmt := top 152
abbrev s_y15 : Stmt := top 153
abbrev CxF (P : Program) (w : World) (K : PySem.W.Frag) (mg : Str → Option Value) (base : Heap) (N : List Str) (q : Str) (st : Stmt) (f : Addr) (cdv : Value) (Ar : Around) (outer : List Env) (s : Shared) (H : Hp) (E : XK) : Cx := (cxOf CX0 P w K mg base N q (defScope st) f cdv Ar outer s H E).nox
abbrev RoF (k : Nat) (Ar : Around) (q : Str) (st : Stmt) (s : Shared) (f : Addr) (cdv : Value) : Prop := Room k (Ar.deeper (envOfC q (defScope st) s.heap.objs.size f cdv))
structure Ad where
 z58 : Addr
 z75 : Addr
 z70 : Addr
 z33 : Addr
 z32 : Addr
 y24 : Addr
 z96 : Addr
 z60 : Addr
 z21 : Addr
 z36 : Addr
 z61 : Addr
 z44 : Addr
 y6 : Addr
 z68 : Addr
 z42 : Addr
 z46 : Addr
 z17 : Addr
 z9 : Addr
 z26 : Addr
 z19 : Addr
 z87 : Addr
 z23 : Addr
 z79 : Addr
 z35 : Addr
 y16 : Addr
 z25 : Addr
 z51 : Addr
 y18 : Addr
 y46 : Addr
 y48 : Addr
 y47 : Addr
 y45 : Addr
 y50 : Addr
 z27 : Addr
 z0 : Addr
 z93 : Addr
 z7 : Addr
 z13 : Addr
 z22 : Addr
 z6 : Addr
 y43 : Addr
 y44 : Addr
 z65 : Addr
 z8 : Addr
 y39 : Addr
 y49 : Addr
 z97 : Addr
 z43 : Addr
 z98 : Addr
 z39 : Addr
 z30 : Addr
 y3 : Addr
 z10 : Addr
 z59 : Addr
 y26 : Addr
 y7 : Addr
 z94 : Addr
 y2 : Addr
 z49 : Addr
 y11 : Addr
 y9 : Addr
 z47 : Addr
 z14 : Addr
 z40 : Addr
 y4 : Addr
 z95 : Addr
 z90 : Addr
 z74 : Addr
 z48 : Addr
 z41 : Addr
 z29 : Addr
 y19 : Addr
 y5 : Addr
 z91 : Addr
 z4 : Addr
 z34 : Addr
 z76 : Addr
 z89 : Addr
 z92 : Addr
 y29 : Addr
 z67 : Addr
 z80 : Addr
 z50 : Addr
 z66 : Addr
 z63 : Addr
 z73 : Addr
 z83 : Addr
 z56 : Addr
 z85 : Addr
 z11 : Addr
 z3 : Addr
 z12 : Addr
 z1 : Addr
 z2 : Addr
 z53 : Addr
 y15 : Addr
 y21 : Addr
 z57 : Addr
 z62 : Addr
 y38 : Addr
 y12 : Addr
 y23 : Addr
 z84 : Addr
 y34 : Addr
 z54 : Addr
 z55 : Addr
 y36 : Addr
abbrev tab_y38 (A : Ad) : List (Int × V) := [(1, V.int (256)), (2, V.int (65536)), (4, V.int (4294967296)), (8, V.int (18446744073709551616))]
abbrev tab_y12 (A : Ad) : List V := [V.int (0), V.int (2), V.int (4)]
abbrev tab_y23 (A : Ad) : List V := [V.int (0), V.int (1), V.int (3), V.int (4)]
abbrev tab_z84 (A : Ad) : List V := [V.int (3), V.int (4)]
abbrev tab_y34 (A : Ad) : List V := [V.ref A.y46, V.ref A.y48, V.ref A.y47, V.ref A.y45, V.ref A.y50]
abbrev tab_z54 (A : Ad) : List V := [V.int (10), V.int (11), V.int (14)]
abbrev tab_z55 (A : Ad) : List (Int × V) := [(5, V.ref A.y43), (6, V.ref A.y44), (7, V.ref A.z65), (8, V.ref A.z8), (9, V.ref A.y49), (10, V.ref A.z97), (11, V.ref A.z43), (12, V.ref A.z98), (14, V.ref A.z39)]
structure Txt (K : PySem.W.Frag) (mg : Str → Option Value) (A : Ad) : Prop where
 c_y1 : ∃ t, mg "REG_SIZE" = some (.int (18446744073709551616) t)
 c_y42 : ∃ t, mg "REG_A" = some (.int (0) t)
 c_y31 : ∃ t, mg "REG_C" = some (.int (1) t)
 c_y28 : ∃ t, mg "REG_SI" = some (.int (2) t)
 c_y27 : ∃ t, mg "REG_DI" = some (.int (3) t)
 c_y32 : ∃ t, mg "BIT_C" = some (.int (1) t)
 c_y33 : ∃ t, mg "BIT_P" = some (.int (4) t)
 c_y41 : ∃ t, mg "BIT_A" = some (.int (16) t)
 c_y40 : ∃ t, mg "BIT_Z" = some (.int (64) t)
 c_y37 : ∃ t, mg "BIT_S" = some (.int (128) t)
 c_y35 : ∃ t, mg "BIT_D" = some (.int (1024) t)
 c_y30 : ∃ t, mg "BIT_O" = some (.int (2048) t)
 c_y10 : ∃ t, mg "FINISHED" = some (.int (0) t)
 c_z77 : ∃ t, mg "MOST_DONE" = some (.int (1) t)
 c_z88 : ∃ t, mg "NO_MEMORY" = some (.int (3) t)
 c_z18 : ∃ t, mg "NO_INSTRUCTION" = some (.int (4) t)
 c_z37 : ∃ t, mg "FIRST_REPEAT" = some (.int (128) t)
 c_z64 : ∃ t, mg "FIRST_ECHO" = some (.int (192) t)
 c_z71 : ∃ t, mg "LEAST_MADE" = some (.int (3) t)
 c_y8 : ∃ t, mg "UNPACKED" = some (.int (0) t)
 c_z28 : ∃ t, mg "NOT_ALL_THERE" = some (.int (-2) t)
 c_z31 : ∃ t, mg "NOT_MADE_YET" = some (.int (-3) t)
 c_y14 : ∃ t, mg "NO_ROOM" = some (.int (-4) t)
 c_z24 : ∃ t, mg "COMPARED_BITS" = some (.int (2261) t)
 c_y25 : ∃ t, mg "FIELDS" = some (.int (8) t)
 c_z16 : ∃ t, mg "LAST_STRING_OP" = some (.int (4) t)
 c_y17 : ∃ t, mg "OP_JUMP" = some (.int (9) t)
 c_z20 : ∃ t, mg "OP_LOAD_TURNED" = some (.int (11) t)
 c_y20 : ∃ t, mg "OP_STOP" = some (.int (13) t)
 c_z15 : ∃ t, mg "OP_STORE_TURNED" = some (.int (14) t)
 c_y22 : ∃ t, mg "LAST_OP" = some (.int (14) t)
 c_z99 : ∃ t, mg "LAST_REG" = some (.int (3) t)
 c_y0 : ∃ t, mg "LAST_REP" = some (.int (2) t)
 c_z78 : ∃ t, mg "LAST_COND" = some (.int (6) t)
 c_y13 : ∃ t, mg "REFUSED" = some (.int (-1) t)
 c_y51 : ∃ t, mg "DONE" = some (.int (0) t)
 c_z69 : ∃ t, mg "MOST_BYTES" = some (.int (256) t)
 c_z45 : ∃ t, mg "MOST_PACKED" = some (.int (256) t)
 c_z81 : ∃ t, mg "MOST_ROOM" = some (.int (4096) t)
 c_z38 : ∃ t, mg "MOST_TO_PACK" = some (.int (64) t)
 c_z86 : ∃ t, mg "BYTE_SIZE" = some (.int (256) t)
 c_z82 : ∃ t, mg "HALF_SIZE" = some (.int (4294967296) t)
 c_z5 : ∃ t, mg "MOST_INSTRUCTIONS" = some (.int (64) t)
 c_z72 : ∃ t, mg "MOST_STEPS" = some (.int (10000) t)
 g_y38 : mg "SIZES" = some (.ref A.y38)
 g_y12 : mg "NEED_SI" = some (.ref A.y12)
 g_y23 : mg "NEED_DI" = some (.ref A.y23)
 g_z84 : mg "COMPARING" = some (.ref A.z84)
 g_y34 : mg "DEEDS" = some (.ref A.y34)
 g_z54 : mg "TURNING_OPS" = some (.ref A.z54)
 g_z55 : mg "PLAIN_DEEDS" = some (.ref A.z55)
 g_y36 : mg "CALLS" = some (.ref A.y36)
 b_all : mg "all" = none
 b_len : mg "len" = none
 b_list : mg "list" = none
 b_max : mg "max" = none
 b_min : mg "min" = none
 b_range : mg "range" = none
 b_reversed : mg "reversed" = none
 m_z58 : mg "has_element" = some (.ref A.z58)
 m_z75 : mg "number_at" = some (.ref A.z75)
 m_z70 : mg "put_number" = some (.ref A.z70)
 m_z33 : mg "turned_bytes" = some (.ref A.z33)
 m_y24 : mg "is_set" = some (.ref A.y24)
 m_z96 : mg "set_down" = some (.ref A.z96)
 m_z60 : mg "add_to_reg" = some (.ref A.z60)
 m_z21 : mg "write_by_width" = some (.ref A.z21)
 m_z36 : mg "bytes_needed" = some (.ref A.z36)
 m_z61 : mg "bytes_made" = some (.ref A.z61)
 m_z44 : mg "places_back" = some (.ref A.z44)
 m_y6 : mg "fault_of" = some (.ref A.y6)
 m_z68 : mg "make_bytes" = some (.ref A.z68)
 m_z42 : mg "unpack_text" = some (.ref A.z42)
 m_z46 : mg "echo_length" = some (.ref A.z46)
 m_z17 : mg "plain_commands" = some (.ref A.z17)
 m_z9 : mg "repeat_commands" = some (.ref A.z9)
 m_z26 : mg "echo_commands" = some (.ref A.z26)
 m_z19 : mg "size_and_bytes" = some (.ref A.z19)
 m_z87 : mg "pack_text" = some (.ref A.z87)
 m_z23 : mg "has_even_ones" = some (.ref A.z23)
 m_z79 : mg "with_sign" = some (.ref A.z79)
 m_z35 : mg "bits_of_rest" = some (.ref A.z35)
 m_y16 : mg "compare" = some (.ref A.y16)
 m_z25 : mg "number_at_reg" = some (.ref A.z25)
 m_z51 : mg "lowest_of_a" = some (.ref A.z51)
 m_y18 : mg "move_on" = some (.ref A.y18)
 m_y46 : mg "movs" = some (.ref A.y46)
 m_y48 : mg "stos" = some (.ref A.y48)
 m_y47 : mg "lods" = some (.ref A.y47)
 m_y45 : mg "scas" = some (.ref A.y45)
 m_y50 : mg "cmps" = some (.ref A.y50)
 m_z27 : mg "lacks_element" = some (.ref A.z27)
 m_z0 : mg "is_ended_by_comparison" = some (.ref A.z0)
 m_z93 : mg "do_string" = some (.ref A.z93)
 m_z13 : mg "instructions_of" = some (.ref A.z13)
 m_z22 : mg "is_ill_formed" = some (.ref A.z22)
 m_z6 : mg "first_ill_formed" = some (.ref A.z6)
 m_y43 : mg "put_k" = some (.ref A.y43)
 m_y44 : mg "add_k" = some (.ref A.y44)
 m_z65 : mg "take_other" = some (.ref A.z65)
 m_z8 : mg "choose_direction" = some (.ref A.z8)
 m_y39 : mg "holds" = some (.ref A.y39)
 m_y49 : mg "jump" = some (.ref A.y49)
 m_z97 : mg "turn_own" = some (.ref A.z97)
 m_z43 : mg "load_turned" = some (.ref A.z43)
 m_z98 : mg "exchange" = some (.ref A.z98)
 m_z39 : mg "store_turned" = some (.ref A.z39)
 m_z30 : mg "lacks_memory" = some (.ref A.z30)
 m_y3 : mg "do_plain" = some (.ref A.y3)
 m_z10 : mg "do_string_steps" = some (.ref A.z10)
 m_z59 : mg "run_program" = some (.ref A.z59)
 m_y26 : mg "is_row" = some (.ref A.y26)
 m_y7 : mg "in_order" = some (.ref A.y7)
 m_z94 : mg "copy_row" = some (.ref A.z94)
 m_y2 : mg "fill_row" = some (.ref A.y2)
 m_z49 : mg "row_numbers" = some (.ref A.z49)
 m_y11 : mg "put_row" = some (.ref A.y11)
 m_y9 : mg "are_like" = some (.ref A.y9)
 m_z47 : mg "find_in_row" = some (.ref A.z47)
 m_z14 : mg "find_difference" = some (.ref A.z14)
 m_z40 : mg "count_in_row" = some (.ref A.z40)
 m_y4 : mg "turn_row" = some (.ref A.y4)
 m_z95 : mg "swap_row" = some (.ref A.z95)
 m_z90 : mg "are_below" = some (.ref A.z90)
 m_z74 : mg "are_bytes" = some (.ref A.z74)
 m_z48 : mg "call_memory" = some (.ref A.z48)
 m_z41 : mg "call_machine" = some (.ref A.z41)
 m_z29 : mg "call_program" = some (.ref A.z29)
 m_y19 : mg "call_do" = some (.ref A.y19)
 m_y5 : mg "call_run" = some (.ref A.y5)
 m_z91 : mg "call_tell" = some (.ref A.z91)
 m_z4 : mg "call_memory_bytes" = some (.ref A.z4)
 m_z34 : mg "are_two_rows" = some (.ref A.z34)
 m_z76 : mg "call_copy" = some (.ref A.z76)
 m_z89 : mg "call_fill" = some (.ref A.z89)
 m_z92 : mg "call_echo" = some (.ref A.z92)
 m_y29 : mg "search" = some (.ref A.y29)
 m_z67 : mg "call_first" = some (.ref A.z67)
 m_z80 : mg "call_last" = some (.ref A.z80)
 m_z50 : mg "call_differ" = some (.ref A.z50)
 m_z66 : mg "call_count" = some (.ref A.z66)
 m_z63 : mg "change_row" = some (.ref A.z63)
 m_z73 : mg "call_turn" = some (.ref A.z73)
 m_z83 : mg "call_swap" = some (.ref A.z83)
 m_z56 : mg "call_unpack" = some (.ref A.z56)
 m_z85 : mg "call_pack" = some (.ref A.z85)
 m_z53 : mg "answer_next" = some (.ref A.z53)
 m_y15 : mg "answers" = some (.ref A.y15)
 d_z58 : Df K "has_element" "has_element" s_z58 A.z58 ["cells", "place", "width"]
 d_z75 : Df K "number_at" "number_at" s_z75 A.z75 ["cells", "place", "width"]
 d_z70 : Df K "put_number" "put_number" s_z70 A.z70 ["cells", "place", "width", "number"]
 d_z33 : Df K "turned_bytes" "turned_bytes" s_z33 A.z33 ["number", "width"]
 d_z32 : Df K "__init__" "Machine.__init__" s_z32 A.z32 ["self"]
 d_y24 : Df K "is_set" "is_set" s_y24 A.y24 ["machine", "bit"]
 d_z96 : Df K "set_down" "set_down" s_z96 A.z96 ["machine", "down"]
 d_z60 : Df K "add_to_reg" "add_to_reg" s_z60 A.z60 ["machine", "which", "number"]
 d_z21 : Df K "write_by_width" "write_by_width" s_z21 A.z21 ["machine", "which", "width", "number"]
 d_z36 : Df K "bytes_needed" "bytes_needed" s_z36 A.z36 ["head"]
 d_z61 : Df K "bytes_made" "bytes_made" s_z61 A.z61 ["head"]
 d_z44 : Df K "places_back" "places_back" s_z44 A.z44 ["needed"]
 d_y6 : Df K "fault_of" "fault_of" s_y6 A.y6 ["head", "needed", "how_many_made", "room"]
 d_z68 : Df K "make_bytes" "make_bytes" s_z68 A.z68 ["made", "head", "needed"]
 d_z42 : Df K "unpack_text" "unpack_text" s_z42 A.z42 ["packed", "room"]
 d_z46 : Df K "echo_length" "echo_length" s_z46 A.z46 ["data", "place", "back"]
 d_z17 : Df K "plain_commands" "plain_commands" s_z17 A.z17 ["data", "place"]
 d_z9 : Df K "repeat_commands" "repeat_commands" s_z9 A.z9 ["data", "place"]
 d_z26 : Df K "echo_commands" "echo_commands" s_z26 A.z26 ["data", "place"]
 d_z19 : Df K "size_and_bytes" "size_and_bytes" s_z19 A.z19 ["text"]
 d_z87 : Df K "pack_text" "pack_text" s_z87 A.z87 ["data"]
 d_z23 : Df K "has_even_ones" "has_even_ones" s_z23 A.z23 ["byte"]
 d_z79 : Df K "with_sign" "with_sign" s_z79 A.z79 ["number", "size"]
 d_z35 : Df K "bits_of_rest" "bits_of_rest" s_z35 A.z35 ["rest", "size"]
 d_y16 : Df K "compare" "compare" s_y16 A.y16 ["machine", "left", "right", "width"]
 d_z25 : Df K "number_at_reg" "number_at_reg" s_z25 A.z25 ["machine", "which", "width"]
 d_z51 : Df K "lowest_of_a" "lowest_of_a" s_z51 A.z51 ["machine", "width"]
 d_y18 : Df K "move_on" "move_on" s_y18 A.y18 ["machine", "which", "width"]
 d_y46 : Df K "movs" "movs" s_y46 A.y46 ["machine", "width"]
 d_y48 : Df K "stos" "stos" s_y48 A.y48 ["machine", "width"]
 d_y47 : Df K "lods" "lods" s_y47 A.y47 ["machine", "width"]
 d_y45 : Df K "scas" "scas" s_y45 A.y45 ["machine", "width"]
 d_y50 : Df K "cmps" "cmps" s_y50 A.y50 ["machine", "width"]
 d_z27 : Df K "lacks_element" "lacks_element" s_z27 A.z27 ["machine", "op", "width"]
 d_z0 : Df K "is_ended_by_comparison" "is_ended_by_comparison" s_z0 A.z0 ["machine", "op", "rep"]
 d_z93 : Df K "do_string" "do_string" s_z93 A.z93 ["machine", "op", "width", "rep", "most"]
 d_z7 : Df K "__init__" "Instruction.__init__" s_z7 A.z7 ["self", "numbers"]
 d_z13 : Df K "instructions_of" "instructions_of" s_z13 A.z13 ["numbers"]
 d_z22 : Df K "is_ill_formed" "is_ill_formed" s_z22 A.z22 ["instruction", "how_many"]
 d_z6 : Df K "first_ill_formed" "first_ill_formed" s_z6 A.z6 ["instructions"]
 d_y43 : Df K "put_k" "put_k" s_y43 A.y43 ["machine", "instruction"]
 d_y44 : Df K "add_k" "add_k" s_y44 A.y44 ["machine", "instruction"]
 d_z65 : Df K "take_other" "take_other" s_z65 A.z65 ["machine", "instruction"]
 d_z8 : Df K "choose_direction" "choose_direction" s_z8 A.z8 ["machine", "instruction"]
 d_y39 : Df K "holds" "holds" s_y39 A.y39 ["machine", "cond"]
 d_y49 : Df K "jump" "jump" s_y49 A.y49 ["machine", "instruction"]
 d_z97 : Df K "turn_own" "turn_own" s_z97 A.z97 ["machine", "instruction"]
 d_z43 : Df K "load_turned" "load_turned" s_z43 A.z43 ["machine", "instruction"]
 d_z98 : Df K "exchange" "exchange" s_z98 A.z98 ["machine", "instruction"]
 d_z39 : Df K "store_turned" "store_turned" s_z39 A.z39 ["machine", "instruction"]
 d_z30 : Df K "lacks_memory" "lacks_memory" s_z30 A.z30 ["machine", "instruction"]
 d_y3 : Df K "do_plain" "do_plain" s_y3 A.y3 ["machine", "instruction"]
 d_z10 : Df K "do_string_steps" "do_string_steps" s_z10 A.z10 ["machine", "instruction", "most"]
 d_z59 : Df K "run_program" "run_program" s_z59 A.z59 ["machine", "steps"]
 d_y26 : Df K "is_row" "is_row" s_y26 A.y26 ["cells", "place", "n", "width"]
 d_y7 : Df K "in_order" "in_order" s_y7 A.y7 ["n", "down"]
 d_z94 : Df K "copy_row" "copy_row" s_z94 A.z94 ["cells", "dst", "src", "n", "width", "down"]
 d_y2 : Df K "fill_row" "fill_row" s_y2 A.y2 ["cells", "dst", "n", "width", "number"]
 d_z49 : Df K "row_numbers" "row_numbers" s_z49 A.z49 ["cells", "place", "n", "width"]
 d_y11 : Df K "put_row" "put_row" s_y11 A.y11 ["cells", "place", "width", "numbers"]
 d_y9 : Df K "are_like" "are_like" s_y9 A.y9 ["cells", "place", "n", "width", "number"]
 d_z47 : Df K "find_in_row" "find_in_row" s_z47 A.z47 ["cells", "place", "n", "width", "number", "alike", "down"]
 d_z14 : Df K "find_difference" "find_difference" s_z14 A.z14 ["cells", "left", "right", "n", "width", "down"]
 d_z40 : Df K "count_in_row" "count_in_row" s_z40 A.z40 ["cells", "place", "n", "width", "number"]
 d_y4 : Df K "turn_row" "turn_row" s_y4 A.y4 ["cells", "place", "n", "width"]
 d_z95 : Df K "swap_row" "swap_row" s_z95 A.z95 ["cells", "place", "n", "width"]
 d_z90 : Df K "are_below" "are_below" s_z90 A.z90 ["numbers", "limit"]
 d_z74 : Df K "are_bytes" "are_bytes" s_z74 A.z74 ["data", "most"]
 d_z48 : Df K "call_memory" "call_memory" s_z48 A.z48 ["machine", "numbers", "data"]
 d_z41 : Df K "call_machine" "call_machine" s_z41 A.z41 ["machine", "numbers", "data"]
 d_z29 : Df K "call_program" "call_program" s_z29 A.z29 ["machine", "numbers", "data"]
 d_y19 : Df K "call_do" "call_do" s_y19 A.y19 ["machine", "numbers", "data"]
 d_y5 : Df K "call_run" "call_run" s_y5 A.y5 ["machine", "numbers", "data"]
 d_z91 : Df K "call_tell" "call_tell" s_z91 A.z91 ["machine", "numbers", "data"]
 d_z4 : Df K "call_memory_bytes" "call_memory_bytes" s_z4 A.z4 ["machine", "numbers", "data"]
 d_z34 : Df K "are_two_rows" "are_two_rows" s_z34 A.z34 ["cells", "one", "other", "n", "width"]
 d_z76 : Df K "call_copy" "call_copy" s_z76 A.z76 ["machine", "numbers", "data"]
 d_z89 : Df K "call_fill" "call_fill" s_z89 A.z89 ["machine", "numbers", "data"]
 d_z92 : Df K "call_echo" "call_echo" s_z92 A.z92 ["machine", "numbers", "data"]
 d_y29 : Df K "search" "search" s_y29 A.y29 ["machine", "numbers", "down"]
 d_z67 : Df K "call_first" "call_first" s_z67 A.z67 ["machine", "numbers", "data"]
 d_z80 : Df K "call_last" "call_last" s_z80 A.z80 ["machine", "numbers", "data"]
 d_z50 : Df K "call_differ" "call_differ" s_z50 A.z50 ["machine", "numbers", "data"]
 d_z66 : Df K "call_count" "call_count" s_z66 A.z66 ["machine", "numbers", "data"]
 d_z63 : Df K "change_row" "change_row" s_z63 A.z63 ["machine", "numbers", "change"]
 d_z73 : Df K "call_turn" "call_turn" s_z73 A.z73 ["machine", "numbers", "data"]
 d_z83 : Df K "call_swap" "call_swap" s_z83 A.z83 ["machine", "numbers", "data"]
 d_z56 : Df K "call_unpack" "call_unpack" s_z56 A.z56 ["machine", "numbers", "data"]
 d_z85 : Df K "call_pack" "call_pack" s_z85 A.z85 ["machine", "numbers", "data"]
 d_z11 : Df K "__init__" "CallReader.__init__" s_z11 A.z11 ["self", "calls"]
 d_z3 : Df K "is_at_end" "CallReader.is_at_end" s_z3 A.z3 ["self"]
 d_z12 : Df K "take" "CallReader.take" s_z12 A.z12 ["self", "how_many"]
 d_z1 : Df K "take_number" "CallReader.take_number" s_z1 A.z1 ["self"]
 d_z2 : Df K "take_list" "CallReader.take_list" s_z2 A.z2 ["self"]
 d_z53 : Df K "answer_next" "answer_next" s_z53 A.z53 ["machine", "reader"]
 d_y15 : Df K "answers" "answers" s_y15 A.y15 ["calls"]
 m_y21 : mg "Machine" = some (.ref A.y21)
 cl_y21 : Cls K A.y21
 k_y21 : Mk K A.y21 A.z32
 n_y21_cells : NoAttr K A.y21 "cells"
 n_y21_regs : NoAttr K A.y21 "regs"
 n_y21_flags : NoAttr K A.y21 "flags"
 n_y21_at : NoAttr K A.y21 "at"
 n_y21_program : NoAttr K A.y21 "program"
 m_z57 : mg "Instruction" = some (.ref A.z57)
 cl_z57 : Cls K A.z57
 k_z57 : Mk K A.z57 A.z7
 n_z57_op : NoAttr K A.z57 "op"
 n_z57_width : NoAttr K A.z57 "width"
 n_z57_rep : NoAttr K A.z57 "rep"
 n_z57_cond : NoAttr K A.z57 "cond"
 n_z57_to : NoAttr K A.z57 "to"
 n_z57_x : NoAttr K A.z57 "x"
 n_z57_y : NoAttr K A.z57 "y"
 n_z57_k : NoAttr K A.z57 "k"
 m_z62 : mg "CallReader" = some (.ref A.z62)
 cl_z62 : Cls K A.z62
 k_z62 : Mk K A.z62 A.z11
 n_z62_calls : NoAttr K A.z62 "calls"
 n_z62_place : NoAttr K A.z62 "place"
 m_z3 : Meth K A.z62 "is_at_end" A.z3
 m_z12 : Meth K A.z62 "take" A.z12
 m_z1 : Meth K A.z62 "take_number" A.z1
 m_z2 : Meth K A.z62 "take_list" A.z2
 t_y38 : KDic K A.y38 (tab_y38 A)
 t_y12 : KTup K A.y12 (tab_y12 A)
 t_y23 : KTup K A.y23 (tab_y23 A)
 t_z84 : KTup K A.z84 (tab_z84 A)
 t_y34 : KTup K A.y34 (tab_y34 A)
 t_z54 : KTup K A.z54 (tab_z54 A)
 t_z55 : KDic K A.z55 (tab_z55 A)
 t_y36 : ∃ ts : List Addr, KDic K A.y36 ([1, 2, 3, 4, 5, 6, 7, 8, 9, 10, 11, 12, 13, 14, 15, 16, 17, 18].zip (ts.map V.ref)) ∧ KTups K ts [[V.int (0), V.int (1), V.ref A.z48], [V.int (6), V.int (0), V.ref A.z41], [V.int (0), V.int (1), V.ref A.z29], [V.int (4), V.int (0), V.ref A.y19], [V.int (1), V.int (0), V.ref A.y5], [V.int (0), V.int (0), V.ref A.z91], [V.int (0), V.int (0), V.ref A.z4], [V.int (5), V.int (0), V.ref A.z76], [V.int (4), V.int (0), V.ref A.z89], [V.int (3), V.int (0), V.ref A.z92], [V.int (5), V.int (0), V.ref A.z67], [V.int (5), V.int (0), V.ref A.z80], [V.int (5), V.int (0), V.ref A.z50], [V.int (4), V.int (0), V.ref A.z66], [V.int (3), V.int (0), V.ref A.z73], [V.int (3), V.int (0), V.ref A.z83], [V.int (1), V.int (1), V.ref A.z56], [V.int (0), V.int (1), V.ref A.z85]]
abbrev bD (P : Program) (w : World) (K : PySem.W.Frag) (mg : Str → Option Value) (base : Heap) (f : Addr) (cdv : Value) (Ar : Around) (outer : List Env) (s : Shared) (H : Hp) (E : XK) (k : Nat) (q : Str) (st : Stmt) (N : List Str) (t : TS) : Prop := RoF k Ar q st s f cdv → PSs (CxF P w K mg base N q st f cdv Ar outer s H E) (defBody st) t
section
variable {P : Program} {w : World} {K : PySem.W.Frag} {mg : Str → Option Value} {base : Heap} {A : Ad} {f : Addr} {cdv : Value} {Ar : Around} {outer : List Env} {s : Shared} {H : Hp} {E : XK}
theorem sc_z58 : FnScope ["cells", "place", "width"] ["cells", "place", "width"] (defScope s_z58) := by walk_at "sc"
theorem st_z58 (a b c : V) : start ["cells", "place", "width"] [a, b, c] = [some a, some b, some c] := rfl
def rd_z58 (K : PySem.W.Frag) (A : Ad) : TS := (tRet (tOp (rI0 fun i j => .bl (decide (i ≤ j))) (tOp (rI0 fun i j => .int (i + j)) (tVar 1) (tVar 2)) (tCB rLenH (tCons (tVar 0) tNil))))
theorem bd_z58 (T : Txt K mg A) : bD P w K mg base f cdv Ar outer s H E 0 "has_element" s_z58 ["cells", "place", "width"] (rd_z58 K A) := fun hr => by
 have nd := sc_z58.nd
 exact (pss_one (ps_ret (pe_cmpR op_le (pe_op op_add (pv 1) (pv 2)) (pe_callB len_h (by rfl) T.b_len PySem.boot_len (pa_cons (pv 0) pa_nil)) (nomark _))))
theorem sc_z75 : FnScope ["cells", "place", "width", "number", "byte"] ["cells", "place", "width"] (defScope s_z75) := by walk_at "sc"
theorem st_z75 (a b c : V) : start ["cells", "place", "width", "number", "byte"] [a, b, c] = [some a, some b, some c, none, none] := rfl
def rd_z75 (K : PySem.W.Frag) (A : Ad) : TS := (tSeq (tAsg (tC (.int 0)) (gName 3)) (tSeq (tFor (iRev K (tCons (tSl rSlH (tVar 0) (tPart (tVar 1)) (tPart (tOp (rI0 fun i j => .int (i + j)) (tVar 1) (tVar 2)))) tNil)) (gName 4) (tAsg (tOp (rI0 fun i j => .int (i + j)) (tOp (rI CMul fun i j => .int (i * j)) (tVar 3) (tC (.int 256))) (tVar 4)) (gName 3))) (tRet (tVar 3))))
theorem bd_z75 (T : Txt K mg A) : bD P w K mg base f cdv Ar outer s H E 0 "number_at" s_z75 ["cells", "place", "width", "number", "byte"] (rd_z75 K A) := fun hr => by
 refine mq ?_; simp (disch := k_dflt (
 refine mz ?_
 have nd := sc_z75.nd
 exact (pss_cons (ps_set (i := 3) nd rfl (Or.inl rfl) pe_int) (pss_cons (ps_for PassesOwn.never rfl (pi_reversed (by rfl) T.b_reversed (pa_cons (pe_slice sl_h (pv 0) (po_some (pv 1)) (po_some (pe_op op_add (pv 1) (pv 2)))) pa_nil)) (pg_name (i := 4) nd rfl (Or.inl rfl)) (pss_one (ps_set (i := 3) nd rfl (Or.inl rfl) (pe_op op_add (pe_op op_mul (pv 3) pe_int) (pv 4))))) (pss_one (ps_ret (pv 3))))))) only [↓mr]
theorem sc_z70 : FnScope ["cells", "place", "width", "number", "rest", "i"] ["cells", "place", "width", "number"] (defScope s_z70) := by walk_at "sc"
theorem st_z70 (a b c d : V) : start ["cells", "place", "width", "number", "rest", "i"] [a, b, c, d] = [some a, some b, some c, some d, none, none] := rfl
def rd_z70 (K : PySem.W.Frag) (A : Ad) : TS := (tSeq (tAsg (tVar 3) (gName 4)) (tFor (iRng1 (tCons (tVar 2) tNil)) (gName 5) (tSeq (tAsg (tOp (rI (fun _ j => 0 < j) fun i j => .int (i % j)) (tVar 4) (tC (.int 256))) (gSub (tVar 0) (tOp (rI0 fun i j => .int (i + j)) (tVar 1) (tVar 5)) rSetL)) (tAsg (tOp (rI CDiv fun i j => .int (i / j)) (tVar 4) (tC (.int 256))) (gName 4)))))
theorem bd_z70 (T : Txt K mg A) : bD P w K mg base f cdv Ar outer s H E 0 "put_number" s_z70 ["cells", "place", "width", "number", "rest", "i"] (rd_z70 K A) := fun hr => by
 refine mq ?_; simp (disch := k_dflt (
 refine mz ?_
 have nd := sc_z70.nd
 exact (pss_cons (ps_set (i := 4) nd rfl (Or.inl rfl) (pv 3)) (pss_one (ps_for PassesOwn.never rfl (pi_range1 (by rfl) T.b_range (pa_cons (pv 2) pa_nil)) (pg_name (i := 5) nd rfl (Or.inl rfl)) (pss_cons (ps_asg (pe_op op_mod (pv 4) pe_int) (pg_sub (pv 0) (pe_op op_add (pv 1) (pv 5)) set_list)) (pss_one (ps_set (i := 4) nd rfl (Or.inl rfl) (pe_op op_fdiv (pv 4) pe_int))))))))) only [↓mr]
theorem sc_z33 : FnScope ["number", "width", "rest", "turned", "i"] ["number", "width"] (defScope s_z33) := by walk_at "sc"
theorem st_z33 (a b : V) : start ["number", "width", "rest", "turned", "i"] [a, b] = [some a, some b, none, none, none] := rfl
def rd_z33 (K : PySem.W.Frag) (A : Ad) : TS := (tSeq (tAsg (tVar 0) (gName 2)) (tSeq (tAsg (tC (.int 0)) (gName 3)) (tSeq (tFor (iRng1 (tCons (tVar 1) tNil)) (gName 4) (tSeq (tAsg (tOp (rI0 fun i j => .int (i + j)) (tOp (rI CMul fun i j => .int (i * j)) (tVar 3) (tC (.int 256))) (tOp (rI (fun _ j => 0 < j) fun i j => .int (i % j)) (tVar 2) (tC (.int 256)))) (gName 3)) (tAsg (tOp (rI CDiv fun i j => .int (i / j)) (tVar 2) (tC (.int 256))) (gName 2)))) (tRet (tVar 3)))))
theorem bd_z33 (T : Txt K mg A) : bD P w K mg base f cdv Ar outer s H E 0 "turned_bytes" s_z33 ["number", "width", "rest", "turned", "i"] (rd_z33 K A) := fun hr => by
 refine mq ?_; simp (disch := k_dflt (
 refine mz ?_
 have nd := sc_z33.nd
 exact (pss_cons (ps_set (i := 2) nd rfl (Or.inl rfl) (pv 0)) (pss_cons (ps_set (i := 3) nd rfl (Or.inl rfl) pe_int) (pss_cons (ps_for PassesOwn.never rfl (pi_range1 (by rfl) T.b_range (pa_cons (pv 1) pa_nil)) (pg_name (i := 4) nd rfl (Or.inl rfl)) (pss_cons (ps_set (i := 3) nd rfl (Or.inl rfl) (pe_op op_add (pe_op op_mul (pv 3) pe_int) (pe_op op_mod (pv 2) pe_int))) (pss_one (ps_set (i := 2) nd rfl (Or.inl rfl) (pe_op op_fdiv (pv 2) pe_int))))) (pss_one (ps_ret (pv 3)))))))) only [↓mr]
theorem sc_z32 : FnScope ["self"] ["self"] (defScope s_z32) := by walk_at "sc"
theorem st_z32 (a : V) : start ["self"] [a] = [some a] := rfl
def rd_z32 (K : PySem.W.Frag) (A : Ad) : TS := (tSeq (sFld K (tVar 0) (tLst tNil) "cells") (tSeq (sFld K (tVar 0) (tLst (tCons (tC (.int 0)) (tCons (tC (.int 0)) (tCons (tC (.int 0)) (tCons (tC (.int 0)) tNil))))) "regs") (tSeq (sFld K (tVar 0) (tC (.int 0)) "flags") (tSeq (sFld K (tVar 0) (tC (.int 0)) "at") (sFld K (tVar 0) (tLst tNil) "program")))))
theorem bd_z32 (T : Txt K mg A) : bD P w K mg base f cdv Ar outer s H E 0 "Machine.__init__" s_z32 ["self"] (rd_z32 K A) := fun hr => by
 have nd := sc_z32.nd
 exact (pss_cons (ps_fld (pv 0) (pe_lst pa_nil) rfl) (pss_cons (ps_fld (pv 0) (pe_lst (pa_cons pe_int (pa_cons pe_int (pa_cons pe_int (pa_cons pe_int pa_nil))))) rfl) (pss_cons (ps_fld (pv 0) pe_int rfl) (pss_cons (ps_fld (pv 0) pe_int rfl) (pss_one (ps_fld (pv 0) (pe_lst pa_nil) rfl))))))
theorem sc_y24 : FnScope ["machine", "bit"] ["machine", "bit"] (defScope s_y24) := by walk_at "sc"
theorem st_y24 (a b : V) : start ["machine", "bit"] [a, b] = [some a, some b] := rfl
def rd_y24 (K : PySem.W.Frag) (A : Ad) : TS := (tRet (tOp rNe (tOp (rI0 fun i j => .int (Builtin.bitAnd i j)) (tFld K (tVar 0) "flags") (tVar 1)) (tC (.int 0))))
theorem bd_y24 (T : Txt K mg A) : bD P w K mg base f cdv Ar outer s H E 0 "is_set" s_y24 ["machine", "bit"] (rd_y24 K A) := fun hr => by
 have nd := sc_y24.nd
 exact (pss_one (ps_ret (pe_cmpR op_ne (pe_op op_and (pe_fld (pv 0) rfl) (pv 1)) pe_int (nomark _))))
theorem sc_z96 : FnScope ["machine", "down"] ["machine", "down"] (defScope s_z96) := by walk_at "sc"
theorem st_z96 (a b : V) : start ["machine", "down"] [a, b] = [some a, some b] := rfl
def rd_z96 (K : PySem.W.Frag) (A : Ad) : TS := (tSeq (sFld K (tVar 0) (tOp (rI0 fun i j => .int (Builtin.bitAnd i j)) (tFld K (tVar 0) "flags") (tUn (rU fun i => .int (Builtin.bitNot i)) (tC (.int (1024))))) "flags") (tIfS (tB (tVar 1)) (sFld K (tVar 0) (tOp (rI0 fun i j => .int (Builtin.bitOr i j)) (tFld K (tVar 0) "flags") (tC (.int (1024)))) "flags") tNext))
theorem bd_z96 (T : Txt K mg A) : bD P w K mg base f cdv Ar outer s H E 0 "set_down" s_z96 ["machine", "down"] (rd_z96 K A) := fun hr => by
 have nd := sc_z96.nd
 exact (pss_cons (ps_fld (pv 0) (pe_op op_and (pe_fld (pv 0) rfl) (pe_un un_inv (gi T.c_y35))) rfl) (pss_one (ps_if (pt_val (pv 1)) (pss_one (ps_fld (pv 0) (pe_op op_or (pe_fld (pv 0) rfl) (gi T.c_y35)) rfl)) pss_nil)))
theorem sc_z60 : FnScope ["machine", "which", "number"] ["machine", "which", "number"] (defScope s_z60) := by walk_at "sc"
theorem st_z60 (a b c : V) : start ["machine", "which", "number"] [a, b, c] = [some a, some b, some c] := rfl
def rd_z60 (K : PySem.W.Frag) (A : Ad) : TS := (tAsg (tOp (rI (fun _ j => 0 < j) fun i j => .int (i % j)) (tOp (rI0 fun i j => .int (i + j)) (tOp rIxH (tFld K (tVar 0) "regs") (tVar 1)) (tVar 2)) (tC (.int (18446744073709551616)))) (gSub (tFld K (tVar 0) "regs") (tVar 1) rSetL))
theorem bd_z60 (T : Txt K mg A) : bD P w K mg base f cdv Ar outer s H E 0 "add_to_reg" s_z60 ["machine", "which", "number"] (rd_z60 K A) := fun hr => by
 have nd := sc_z60.nd
 exact (pss_one (ps_asg (pe_op op_mod (pe_op op_add (pe_ix ix_h (pe_fld (pv 0) rfl) (pv 1) (fun _ _ => rfl)) (pv 2)) (gi T.c_y1)) (pg_sub (pe_fld (pv 0) rfl) (pv 1) set_list)))
theorem sc_z21 : FnScope ["machine", "which", "width", "number", "upper", "old"] ["machine", "which", "width", "number"] (defScope s_z21) := by walk_at "sc"
theorem st_z21 (a b c d : V) : start ["machine", "which", "width", "number", "upper", "old"] [a, b, c, d] = [some a, some b, some c, some d, none, none] := rfl
def rd_z21 (K : PySem.W.Frag) (A : Ad) : TS := (tSeq (tAsg (tC (.int 0)) (gName 4)) (tSeq (tIfS (tTest (tOp (rI0 fun i j => .bl (decide (i < j))) (tVar 2) (tC (.int 4)))) (tSeq (tAsg (tOp rIxH (tFld K (tVar 0) "regs") (tVar 1)) (gName 5)) (tAsg (tOp (rI0 fun i j => .int (i - j)) (tVar 5) (tOp (rI (fun _ j => 0 < j) fun i j => .int (i % j)) (tVar 5) (tDicGet A.y38 (tab_y38 A) (tC (.ref A.y38)) (tVar 2)))) (gName 4))) tNext) (tAsg (tOp (rI0 fun i j => .int (i + j)) (tVar 4) (tVar 3)) (gSub (tFld K (tVar 0) "regs") (tVar 1) rSetL))))
theorem bd_z21 (T : Txt K mg A) : bD P w K mg base f cdv Ar outer s H E 0 "write_by_width" s_z21 ["machine", "which", "width", "number", "upper", "old"] (rd_z21 K A) := fun hr => by
 refine mq ?_; simp (disch := k_dflt (
 refine mz ?_
 have nd := sc_z21.nd
 exact (pss_cons (ps_set (i := 4) nd rfl (Or.inl rfl) pe_int) (pss_cons (ps_if (pt_cmpR op_lt (pv 2) pe_int (nomark _)) (pss_cons (ps_set (i := 5) nd rfl (Or.inl rfl) (pe_ix ix_h (pe_fld (pv 0) rfl) (pv 1) (fun _ _ => rfl))) (pss_one (ps_set (i := 4) nd rfl (Or.inl rfl) (pe_op op_sub (pv 5) (pe_op op_mod (pv 5) (pe_dicget T.t_y38 (pe_glob (by rfl) T.g_y38 (by rfl)) (pv 2) (fun _ _ => rfl))))))) pss_nil) (pss_one (ps_asg (pe_op op_add (pv 4) (pv 3)) (pg_sub (pe_fld (pv 0) rfl) (pv 1) set_list))))))) only [↓mr]
theorem sc_z36 : FnScope ["head"] ["head"] (defScope s_z36) := by walk_at "sc"
theorem st_z36 (a : V) : start ["head"] [a] = [some a] := rfl
def rd_z36 (K : PySem.W.Frag) (A : Ad) : TS := (tSeq (tIfS (tTest (tOp (rI0 fun i j => .bl (decide (i < j))) (tVar 0) (tC (.int (128))))) (tRet (tOp (rI0 fun i j => .int (i + j)) (tVar 0) (tC (.int 1)))) tNext) (tSeq (tIfS (tTest (tOp (rI0 fun i j => .bl (decide (i < j))) (tVar 0) (tC (.int (192))))) (tRet (tC (.int 1))) tNext) (tRet (tC (.int 2)))))
theorem bd_z36 (T : Txt K mg A) : bD P w K mg base f cdv Ar outer s H E 0 "bytes_needed" s_z36 ["head"] (rd_z36 K A) := fun hr => by
 have nd := sc_z36.nd
 exact (pss_cons (ps_if (pt_cmpR op_lt (pv 0) (gi T.c_z37) (nomark _)) (pss_one (ps_ret (pe_op op_add (pv 0) pe_int))) pss_nil) (pss_cons (ps_if (pt_cmpR op_lt (pv 0) (gi T.c_z64) (nomark _)) (pss_one (ps_ret pe_int)) pss_nil) (pss_one (ps_ret pe_int))))
theorem sc_z61 : FnScope ["head"] ["head"] (defScope s_z61) := by walk_at "sc"
theorem st_z61 (a : V) : start ["head"] [a] = [some a] := rfl
def rd_z61 (K : PySem.W.Frag) (A : Ad) : TS := (tSeq (tIfS (tTest (tOp (rI0 fun i j => .bl (decide (i < j))) (tVar 0) (tC (.int (128))))) (tRet (tOp (rI0 fun i j => .int (i + j)) (tVar 0) (tC (.int 1)))) tNext) (tSeq (tIfS (tTest (tOp (rI0 fun i j => .bl (decide (i < j))) (tVar 0) (tC (.int (192))))) (tRet (tOp (rI0 fun i j => .int (i + j)) (tOp (rI0 fun i j => .int (i - j)) (tVar 0) (tC (.int (128)))) (tC (.int (3))))) tNext) (tRet (tOp (rI0 fun i j => .int (i + j)) (tOp (rI0 fun i j => .int (i - j)) (tVar 0) (tC (.int (192)))) (tC (.int (3)))))))
theorem bd_z61 (T : Txt K mg A) : bD P w K mg base f cdv Ar outer s H E 0 "bytes_made" s_z61 ["head"] (rd_z61 K A) := fun hr => by
 refine mq ?_; simp (disch := k_dflt (
 refine mz ?_
 have nd := sc_z61.nd
 exact (pss_cons (ps_if (pt_cmpR op_lt (pv 0) (gi T.c_z37) (nomark _)) (pss_one (ps_ret (pe_op op_add (pv 0) pe_int))) pss_nil) (pss_cons (ps_if (pt_cmpR op_lt (pv 0) (gi T.c_z64) (nomark _)) (pss_one (ps_ret (pe_op op_add (pe_op op_sub (pv 0) (gi T.c_z37)) (gi T.c_z71)))) pss_nil) (pss_one (ps_ret (pe_op op_add (pe_op op_sub (pv 0) (gi T.c_z64)) (gi T.c_z71)))))))) only [↓mr]
theorem sc_z46 : FnScope ["data", "place", "back", "end"] ["data", "place", "back"] (defScope s_z46) := by walk_at "sc"
theorem st_z46 (a b c : V) : start ["data", "place", "back", "end"] [a, b, c] = [some a, some b, some c, none] := rfl
def rd_z46 (K : PySem.W.Frag) (A : Ad) : TS := (tSeq (tAsg (tVar 1) (gName 3)) (tSeq (tWhile (tAnd (tTest (tOp (rI0 fun i j => .bl (decide (i < j))) (tVar 3) (tCB rLenH (tCons (tVar 0) tNil)))) (tTest (tOp rEq (tOp rIxH (tVar 0) (tVar 3)) (tOp rIxH (tVar 0) (tOp (rI0 fun i j => .int (i - j)) (tVar 3) (tVar 2)))))) (tAug 3 (tC (.int 1)) (ipI fun i j => i + j))) (tRet (tOp (rI0 fun i j => .int (i - j)) (tVar 3) (tVar 1)))))
theorem bd_z46 (T : Txt K mg A) : bD P w K mg base f cdv Ar outer s H E 0 "echo_length" s_z46 ["data", "place", "back", "end"] (rd_z46 K A) := fun hr => by
 refine mq ?_; simp (disch := k_dflt (
 refine mz ?_
 have nd := sc_z46.nd
 exact (pss_cons (ps_set (i := 3) nd rfl (Or.inl rfl) (pv 1)) (pss_cons (ps_while PassesOwn.never (PW.pt (pw_and (pt_cmpR op_lt (pv 3) (pe_callB len_h (by rfl) T.b_len PySem.boot_len (pa_cons (pv 0) pa_nil)) (nomark _)) (pw_and1 (pt_cmpR op_eq (pe_ix ix_h (pv 0) (pv 3) (fun _ _ => rfl)) (pe_ix ix_h (pv 0) (pe_op op_sub (pv 3) (pv 2)) (fun _ _ => rfl)) (nomark _))))) (pss_one (ps_aug (i := 3) nd rfl (Or.inl rfl) pe_int ip_add))) (pss_one (ps_ret (pe_op op_sub (pv 3) (pv 1)))))))) only [↓mr]
theorem sc_z17 : FnScope ["data", "place", "end"] ["data", "place"] (defScope s_z17) := by walk_at "sc"
theorem st_z17 (a b : V) : start ["data", "place", "end"] [a, b] = [some a, some b, none] := rfl
def rd_z17 (K : PySem.W.Frag) (A : Ad) : TS := (tRet (tLc (iRng2 (tCons (tOp (rI0 fun i j => .int (i + j)) (tVar 1) (tC (.int 1))) (tCons (tOp (rI0 fun i j => .int (i + j)) (tCB rLenH (tCons (tVar 0) tNil)) (tC (.int 1))) tNil))) (gName 2) tYes (tOp rCat (tLst (tCons (tOp (rI0 fun i j => .int (i - j)) (tOp (rI0 fun i j => .int (i - j)) (tVar 2) (tVar 1)) (tC (.int 1))) tNil)) (tSl rSlH (tVar 0) (tPart (tVar 1)) (tPart (tVar 2)))) [2]))
theorem bd_z17 (T : Txt K mg A) : bD P w K mg base f cdv Ar outer s H E 0 "plain_commands" s_z17 ["data", "place", "end"] (rd_z17 K A) := fun hr => by
 refine mq ?_; simp (disch := k_dflt (
 refine mz ?_
 have nd := sc_z17.nd
 exact (pss_one (ps_ret (pe_lc rfl nd (pi_range2 (by rfl) T.b_range (pa_cons (pe_op op_add (pv 1) pe_int) (pa_cons (pe_op op_add (pe_callB len_h (by rfl) T.b_len PySem.boot_len (pa_cons (pv 0) pa_nil)) pe_int) pa_nil))) (blkOk_by (own := [("end", 2)]) (by show blkC ["data", "place", "end"] (defScope s_z17) _ _ = true; decide +kernel)) (fun _ _ _ _ _ => pg_name (i := 2) nd rfl (Or.inl rfl)) (fun _ _ _ _ _ => pts_nil) (fun _ _ _ _ _ => (pe_op op_cat (pe_lst (pa_cons (pe_op op_sub (pe_op op_sub (pv 2) (pv 1)) pe_int) pa_nil)) (pe_slice sl_h (pv 0) (po_some (pv 1)) (po_some (pv 2)))))))))) only [↓mr]
theorem sc_z19 : FnScope ["text"] ["text"] (defScope s_z19) := by walk_at "sc"
theorem st_z19 (a : V) : start ["text"] [a] = [some a] := rfl
def rd_z19 (K : PySem.W.Frag) (A : Ad) : TS := (tRet (tTup (tCons (tCB rLenH (tCons (tVar 0) tNil)) (tCons (tVar 0) tNil))))
theorem bd_z19 (T : Txt K mg A) : bD P w K mg base f cdv Ar outer s H E 0 "size_and_bytes" s_z19 ["text"] (rd_z19 K A) := fun hr => by
 have nd := sc_z19.nd
 exact (pss_one (ps_ret (pe_tup (pa_cons (pe_callB len_h (by rfl) T.b_len PySem.boot_len (pa_cons (pv 0) pa_nil)) (pa_cons (pv 0) pa_nil)))))
theorem sc_z23 : FnScope ["byte", "folded"] ["byte"] (defScope s_z23) := by walk_at "sc"
theorem st_z23 (a : V) : start ["byte", "folded"] [a] = [some a, none] := rfl
def rd_z23 (K : PySem.W.Frag) (A : Ad) : TS := (tSeq (tAsg (tOp (rI0 fun i j => .int (Builtin.bitXor i j)) (tVar 0) (tOp (rI (fun _ j => 0 ≤ j) fun i j => .int (i / 2 ^ j.toNat)) (tVar 0) (tC (.int 4)))) (gName 1)) (tSeq (tAsg (tOp (rI0 fun i j => .int (Builtin.bitXor i j)) (tVar 1) (tOp (rI (fun _ j => 0 ≤ j) fun i j => .int (i / 2 ^ j.toNat)) (tVar 1) (tC (.int 2)))) (gName 1)) (tRet (tOp rEq (tOp (rI (fun _ j => 0 < j) fun i j => .int (i % j)) (tOp (rI0 fun i j => .int (Builtin.bitXor i j)) (tVar 1) (tOp (rI (fun _ j => 0 ≤ j) fun i j => .int (i / 2 ^ j.toNat)) (tVar 1) (tC (.int 1)))) (tC (.int 2))) (tC (.int 0))))))
theorem bd_z23 (T : Txt K mg A) : bD P w K mg base f cdv Ar outer s H E 0 "has_even_ones" s_z23 ["byte", "folded"] (rd_z23 K A) := fun hr => by
 have nd := sc_z23.nd
 exact (pss_cons (ps_set (i := 1) nd rfl (Or.inl rfl) (pe_op op_xor (pv 0) (pe_op op_shr (pv 0) pe_int))) (pss_cons (ps_set (i := 1) nd rfl (Or.inl rfl) (pe_op op_xor (pv 1) (pe_op op_shr (pv 1) pe_int))) (pss_one (ps_ret (pe_cmpR op_eq (pe_op op_mod (pe_op op_xor (pv 1) (pe_op op_shr (pv 1) pe_int)) pe_int) pe_int (nomark _))))))
theorem sc_z79 : FnScope ["number", "size"] ["number", "size"] (defScope s_z79) := by walk_at "sc"
theorem st_z79 (a b : V) : start ["number", "size"] [a, b] = [some a, some b] := rfl
def rd_z79 (K : PySem.W.Frag) (A : Ad) : TS := (tSeq (tIfS (tTest (tOp (rI0 fun i j => .bl (decide (j ≤ i))) (tVar 0) (tOp (rI CDiv fun i j => .int (i / j)) (tVar 1) (tC (.int 2))))) (tRet (tOp (rI0 fun i j => .int (i - j)) (tVar 0) (tVar 1))) tNext) (tRet (tVar 0)))
theorem bd_z79 (T : Txt K mg A) : bD P w K mg base f cdv Ar outer s H E 0 "with_sign" s_z79 ["number", "size"] (rd_z79 K A) := fun hr => by
 have nd := sc_z79.nd
 exact (pss_cons (ps_if (pt_cmpR op_ge (pv 0) (pe_op op_fdiv (pv 1) pe_int) (nomark _)) (pss_one (ps_ret (pe_op op_sub (pv 0) (pv 1)))) pss_nil) (pss_one (ps_ret (pv 0))))
theorem sc_z51 : FnScope ["machine", "width"] ["machine", "width"] (defScope s_z51) := by walk_at "sc"
theorem st_z51 (a b : V) : start ["machine", "width"] [a, b] = [some a, some b] := rfl
def rd_z51 (K : PySem.W.Frag) (A : Ad) : TS := (tRet (tOp (rI (fun _ j => 0 < j) fun i j => .int (i % j)) (tOp rIxH (tFld K (tVar 0) "regs") (tC (.int (0)))) (tDicGet A.y38 (tab_y38 A) (tC (.ref A.y38)) (tVar 1))))
theorem bd_z51 (T : Txt K mg A) : bD P w K mg base f cdv Ar outer s H E 0 "lowest_of_a" s_z51 ["machine", "width"] (rd_z51 K A) := fun hr => by
 have nd := sc_z51.nd
 exact (pss_one (ps_ret (pe_op op_mod (pe_ix ix_h (pe_fld (pv 0) rfl) (gi T.c_y42) (fun _ _ => rfl)) (pe_dicget T.t_y38 (pe_glob (by rfl) T.g_y38 (by rfl)) (pv 1) (fun _ _ => rfl)))))
theorem sc_z7 : FnScope ["self", "numbers"] ["self", "numbers"] (defScope s_z7) := by walk_at "sc"
theorem st_z7 (a b : V) : start ["self", "numbers"] [a, b] = [some a, some b] := rfl
def rd_z7 (K : PySem.W.Frag) (A : Ad) : TS := (tSeq (sFld K (tVar 0) (tOp rIxH (tVar 1) (tC (.int 0))) "op") (tSeq (sFld K (tVar 0) (tOp rIxH (tVar 1) (tC (.int 1))) "width") (tSeq (sFld K (tVar 0) (tOp rIxH (tVar 1) (tC (.int 2))) "rep") (tSeq (sFld K (tVar 0) (tOp rIxH (tVar 1) (tC (.int 3))) "cond") (tSeq (sFld K (tVar 0) (tOp rIxH (tVar 1) (tC (.int 4))) "to") (tSeq (sFld K (tVar 0) (tOp rIxH (tVar 1) (tC (.int 5))) "x") (tSeq (sFld K (tVar 0) (tOp rIxH (tVar 1) (tC (.int 6))) "y") (sFld K (tVar 0) (tOp rIxH (tVar 1) (tC (.int 7))) "k"))))))))
theorem bd_z7 (T : Txt K mg A) : bD P w K mg base f cdv Ar outer s H E 0 "Instruction.__init__" s_z7 ["self", "numbers"] (rd_z7 K A) := fun hr => by
 refine mq ?_; simp (disch := k_dflt (
 refine mz ?_
 have nd := sc_z7.nd
 exact (pss_cons (ps_fld (pv 0) (pe_ix ix_h (pv 1) pe_int (fun _ _ => rfl)) rfl) (pss_cons (ps_fld (pv 0) (pe_ix ix_h (pv 1) pe_int (fun _ _ => rfl)) rfl) (pss_cons (ps_fld (pv 0) (pe_ix ix_h (pv 1) pe_int (fun _ _ => rfl)) rfl) (pss_cons (ps_fld (pv 0) (pe_ix ix_h (pv 1) pe_int (fun _ _ => rfl)) rfl) (pss_cons (ps_fld (pv 0) (pe_ix ix_h (pv 1) pe_int (fun _ _ => rfl)) rfl) (pss_cons (ps_fld (pv 0) (pe_ix ix_h (pv 1) pe_int (fun _ _ => rfl)) rfl) (pss_cons (ps_fld (pv 0) (pe_ix ix_h (pv 1) pe_int (fun _ _ => rfl)) rfl) (pss_one (ps_fld (pv 0) (pe_ix ix_h (pv 1) pe_int (fun _ _ => rfl)) rfl))))))))))) only [↓mr]
theorem sc_z22 : FnScope ["instruction", "how_many", "op"] ["instruction", "how_many"] (defScope s_z22) := by walk_at "sc"
theorem st_z22 (a b : V) : start ["instruction", "how_many", "op"] [a, b] = [some a, some b, none] := rfl
def rd_z22 (K : PySem.W.Frag) (A : Ad) : TS := (tSeq (tAsg (tFld K (tVar 0) "op") (gName 2)) (tSeq (tIfS (tOr (tTest (tOp (rI0 fun i j => .bl (decide (j < i))) (tVar 2) (tC (.int (14))))) (tOr (tTest (tOp (rI0 fun i j => .bl (decide (j < i))) (tFld K (tVar 0) "x") (tC (.int (3))))) (tTest (tOp (rI0 fun i j => .bl (decide (j < i))) (tFld K (tVar 0) "y") (tC (.int (3))))))) (tRet (tC (.bl true))) tNext) (tSeq (tIfS (tTest (tOp (rI0 fun i j => .bl (decide (i ≤ j))) (tVar 2) (tC (.int (4))))) (tRet (tOrV (tOp (rInDic A.y38 (tab_y38 A) true) (tFld K (tVar 0) "width") (tC (.ref A.y38))) (tOp (rI0 fun i j => .bl (decide (j < i))) (tFld K (tVar 0) "rep") (tC (.int (2)))))) tNext) (tSeq (tIfS (tTest (tOp (rInTab A.z54 [10, 11, 14] false) (tVar 2) (tC (.ref A.z54)))) (tRet (tOrV (tOp rEq (tFld K (tVar 0) "width") (tC (.int 1))) (tOp (rInDic A.y38 (tab_y38 A) true) (tFld K (tVar 0) "width") (tC (.ref A.y38))))) tNext) (tRet (tAndV (tOp rEq (tVar 2) (tC (.int (9)))) (tOrV (tOp (rI0 fun i j => .bl (decide (j < i))) (tFld K (tVar 0) "cond") (tC (.int (6)))) (tOp (rI0 fun i j => .bl (decide (j ≤ i))) (tFld K (tVar 0) "to") (tVar 1)))))))))
theorem bd_z22 (T : Txt K mg A) : bD P w K mg base f cdv Ar outer s H E 0 "is_ill_formed" s_z22 ["instruction", "how_many", "op"] (rd_z22 K A) := fun hr => by
 refine mq ?_; simp (disch := k_dflt (
 refine mz ?_
 have nd := sc_z22.nd
 exact (pss_cons (ps_set (i := 2) nd rfl (Or.inl rfl) (pe_fld (pv 0) rfl)) (pss_cons (ps_if (PW.pt (pw_or (pt_cmpR op_gt (pv 2) (gi T.c_y22) (nomark _)) (pw_or (pt_cmpR op_gt (pe_fld (pv 0) rfl) (gi T.c_z99) (nomark _)) (pw_or1 (pt_cmpR op_gt (pe_fld (pv 0) rfl) (gi T.c_z99) (nomark _)))))) (pss_one (ps_ret pe_bl)) pss_nil) (pss_cons (ps_if (pt_cmpR op_le (pv 2) (gi T.c_z16) (nomark _)) (pss_one (ps_ret (pe_or (pe_cmpR (notin_dic T.t_y38) (pe_fld (pv 0) rfl) (pe_glob (by rfl) T.g_y38 (by rfl)) (by with_unfolding_all rfl)) (pe_one (pe_cmpR op_gt (pe_fld (pv 0) rfl) (gi T.c_y0) (nomark _)))))) pss_nil) (pss_cons (ps_if (pt_cmpR (in_tab (l := [10, 11, 14]) T.t_z54) (pv 2) (pe_glob (by rfl) T.g_z54 (by rfl)) (by with_unfolding_all rfl)) (pss_one (ps_ret (pe_or (pe_cmpR op_eq (pe_fld (pv 0) rfl) pe_int (nomark _)) (pe_one (pe_cmpR (notin_dic T.t_y38) (pe_fld (pv 0) rfl) (pe_glob (by rfl) T.g_y38 (by rfl)) (by with_unfolding_all rfl)))))) pss_nil) (pss_one (ps_ret (pe_and (pe_cmpR op_eq (pv 2) (gi T.c_y17) (nomark _)) (pe_one (pe_or (pe_cmpR op_gt (pe_fld (pv 0) rfl) (gi T.c_z78) (nomark _)) (pe_one (pe_cmpR op_ge (pe_fld (pv 0) rfl) (pv 1) (nomark _)))))))))))))) only [↓mr]
theorem sc_y43 : FnScope ["machine", "instruction"] ["machine", "instruction"] (defScope s_y43) := by walk_at "sc"
theorem st_y43 (a b : V) : start ["machine", "instruction"] [a, b] = [some a, some b] := rfl
def rd_y43 (K : PySem.W.Frag) (A : Ad) : TS := (tAsg (tFld K (tVar 1) "k") (gSub (tFld K (tVar 0) "regs") (tFld K (tVar 1) "x") rSetL))
theorem bd_y43 (T : Txt K mg A) : bD P w K mg base f cdv Ar outer s H E 0 "put_k" s_y43 ["machine", "instruction"] (rd_y43 K A) := fun hr => by
 have nd := sc_y43.nd
 exact (pss_one (ps_asg (pe_fld (pv 1) rfl) (pg_sub (pe_fld (pv 0) rfl) (pe_fld (pv 1) rfl) set_list)))
theorem sc_z65 : FnScope ["machine", "instruction"] ["machine", "instruction"] (defScope s_z65) := by walk_at "sc"
theorem st_z65 (a b : V) : start ["machine", "instruction"] [a, b] = [some a, some b] := rfl
def rd_z65 (K : PySem.W.Frag) (A : Ad) : TS := (tAsg (tOp rIxH (tFld K (tVar 0) "regs") (tFld K (tVar 1) "y")) (gSub (tFld K (tVar 0) "regs") (tFld K (tVar 1) "x") rSetL))
theorem bd_z65 (T : Txt K mg A) : bD P w K mg base f cdv Ar outer s H E 0 "take_other" s_z65 ["machine", "instruction"] (rd_z65 K A) := fun hr => by
 have nd := sc_z65.nd
 exact (pss_one (ps_asg (pe_ix ix_h (pe_fld (pv 0) rfl) (pe_fld (pv 1) rfl) (fun _ _ => rfl)) (pg_sub (pe_fld (pv 0) rfl) (pe_fld (pv 1) rfl) set_list)))
theorem sc_z98 : FnScope ["machine", "instruction", "old"] ["machine", "instruction"] (defScope s_z98) := by walk_at "sc"
theorem st_z98 (a b : V) : start ["machine", "instruction", "old"] [a, b] = [some a, some b, none] := rfl
def rd_z98 (K : PySem.W.Frag) (A : Ad) : TS := (tSeq (tAsg (tOp rIxH (tFld K (tVar 0) "regs") (tFld K (tVar 1) "x")) (gName 2)) (tSeq (tAsg (tOp rIxH (tFld K (tVar 0) "regs") (tFld K (tVar 1) "y")) (gSub (tFld K (tVar 0) "regs") (tFld K (tVar 1) "x") rSetL)) (tAsg (tVar 2) (gSub (tFld K (tVar 0) "regs") (tFld K (tVar 1) "y") rSetL))))
theorem bd_z98 (T : Txt K mg A) : bD P w K mg base f cdv Ar outer s H E 0 "exchange" s_z98 ["machine", "instruction", "old"] (rd_z98 K A) := fun hr => by
 refine mq ?_; simp (disch := k_dflt (
 refine mz ?_
 have nd := sc_z98.nd
 exact (pss_cons (ps_set (i := 2) nd rfl (Or.inl rfl) (pe_ix ix_h (pe_fld (pv 0) rfl) (pe_fld (pv 1) rfl) (fun _ _ => rfl))) (pss_cons (ps_asg (pe_ix ix_h (pe_fld (pv 0) rfl) (pe_fld (pv 1) rfl) (fun _ _ => rfl)) (pg_sub (pe_fld (pv 0) rfl) (pe_fld (pv 1) rfl) set_list)) (pss_one (ps_asg (pv 2) (pg_sub (pe_fld (pv 0) rfl) (pe_fld (pv 1) rfl) set_list))))))) only [↓mr]
theorem sc_y26 : FnScope ["cells", "place", "n", "width"] ["cells", "place", "n", "width"] (defScope s_y26) := by walk_at "sc"
theorem st_y26 (a b c d : V) : start ["cells", "place", "n", "width"] [a, b, c, d] = [some a, some b, some c, some d] := rfl
def rd_y26 (K : PySem.W.Frag) (A : Ad) : TS := (tSeq (tIfS (tOr (tTest (tOp (rInDic A.y38 (tab_y38 A) true) (tVar 3) (tC (.ref A.y38)))) (tOr (tTest (tOp (rI0 fun i j => .bl (decide (i < j))) (tVar 1) (tC (.int 0)))) (tTest (tOp (rI0 fun i j => .bl (decide (i < j))) (tVar 2) (tC (.int 0)))))) (tRet (tC (.bl false))) tNext) (tRet (tOp (rI0 fun i j => .bl (decide (i ≤ j))) (tOp (rI0 fun i j => .int (i + j)) (tVar 1) (tOp (rI CMul fun i j => .int (i * j)) (tVar 2) (tVar 3))) (tCB rLenH (tCons (tVar 0) tNil)))))
theorem bd_y26 (T : Txt K mg A) : bD P w K mg base f cdv Ar outer s H E 0 "is_row" s_y26 ["cells", "place", "n", "width"] (rd_y26 K A) := fun hr => by
 refine mq ?_; simp (disch := k_dflt (
 refine mz ?_
 have nd := sc_y26.nd
 exact (pss_cons (ps_if (PW.pt (pw_or (pt_cmpR (notin_dic T.t_y38) (pv 3) (pe_glob (by rfl) T.g_y38 (by rfl)) (by with_unfolding_all rfl)) (pw_or (pt_cmpR op_lt (pv 1) pe_int (nomark _)) (pw_or1 (pt_cmpR op_lt (pv 2) pe_int (nomark _)))))) (pss_one (ps_ret pe_bl)) pss_nil) (pss_one (ps_ret (pe_cmpR op_le (pe_op op_add (pv 1) (pe_op op_mul (pv 2) (pv 3))) (pe_callB len_h (by rfl) T.b_len PySem.boot_len (pa_cons (pv 0) pa_nil)) (nomark _))))))) only [↓mr]
theorem sc_y7 : FnScope ["n", "down"] ["n", "down"] (defScope s_y7) := by walk_at "sc"
theorem st_y7 (a b : V) : start ["n", "down"] [a, b] = [some a, some b] := rfl
def rd_y7 (K : PySem.W.Frag) (A : Ad) : TS := (tRet (tIf (tB (tVar 1)) (tLR3 (tCons (tOp (rI0 fun i j => .int (i - j)) (tVar 0) (tC (.int 1))) (tCons (tUn (rU fun i => .int (-i)) (tC (.int 1))) (tCons (tUn (rU fun i => .int (-i)) (tC (.int 1))) tNil)))) (tLR1 (tCons (tVar 0) tNil))))
theorem bd_y7 (T : Txt K mg A) : bD P w K mg base f cdv Ar outer s H E 0 "in_order" s_y7 ["n", "down"] (rd_y7 K A) := fun hr => by
 have nd := sc_y7.nd
 exact (pss_one (ps_ret (pe_ifExp (pt_val (pv 1)) (pe_listRange3 rfl (by rfl) T.b_list (by rfl) T.b_range (pa_cons (pe_op op_sub (pv 0) pe_int) (pa_cons (pe_un un_neg pe_int) (pa_cons (pe_un un_neg pe_int) pa_nil)))) (pe_listRange1 rfl (by rfl) T.b_list (by rfl) T.b_range (pa_cons (pv 0) pa_nil)))))
theorem sc_z90 : FnScope ["numbers", "limit", "number"] ["numbers", "limit"] (defScope s_z90) := by walk_at "sc"
theorem st_z90 (a b : V) : start ["numbers", "limit", "number"] [a, b] = [some a, some b, none] := rfl
def rd_z90 (K : PySem.W.Frag) (A : Ad) : TS := (tRet (tCB rAllH (tCons (tLc (iList K (tVar 0)) (gName 2) tYes (tChain (rI0 fun i j => .bl (decide (i ≤ j))) (rI0 fun i j => .bl (decide (i < j))) (tC (.int 0)) (tVar 2) (tVar 1)) [2]) tNil)))
theorem bd_z90 (T : Txt K mg A) : bD P w K mg base f cdv Ar outer s H E 0 "are_below" s_z90 ["numbers", "limit", "number"] (rd_z90 K A) := fun hr => by
 refine mq ?_; simp (disch := k_dflt (
 refine mz ?_
 have nd := sc_z90.nd
 exact (pss_one (ps_ret (pe_callB (all_h rfl) (by rfl) T.b_all PyProof.Rows.boot_all (pa_cons (pe_lc rfl nd (pi_list (pv 0)) (blkOk_by (own := [("number", 2)]) (by show blkC ["numbers", "limit", "number"] (defScope s_z90) _ _ = true; decide +kernel)) (fun _ _ _ _ _ => pg_name (i := 2) nd rfl (Or.inl rfl)) (fun _ _ _ _ _ => pts_nil) (fun _ _ _ _ _ => (pe_chain op_le op_lt pe_int (pv 2) (pv 1)))) pa_nil)))))) only [↓mr]
theorem sc_z91 : FnScope ["machine", "numbers", "data"] ["machine", "numbers", "data"] (defScope s_z91) := by walk_at "sc"
theorem st_z91 (a b c : V) : start ["machine", "numbers", "data"] [a, b, c] = [some a, some b, some c] := rfl
def rd_z91 (K : PySem.W.Frag) (A : Ad) : TS := (tRet (tOp rCat (tOp rCat (tLst (tCons (tC (.int (0))) tNil)) (tFld K (tVar 0) "regs")) (tLst (tCons (tFld K (tVar 0) "flags") (tCons (tFld K (tVar 0) "at") tNil)))))
theorem bd_z91 (T : Txt K mg A) : bD P w K mg base f cdv Ar outer s H E 0 "call_tell" s_z91 ["machine", "numbers", "data"] (rd_z91 K A) := fun hr => by
 have nd := sc_z91.nd
 exact (pss_one (ps_ret (pe_op op_cat (pe_op op_cat (pe_lst (pa_cons (gi T.c_y51) pa_nil)) (pe_fld (pv 0) rfl)) (pe_lst (pa_cons (pe_fld (pv 0) rfl) (pa_cons (pe_fld (pv 0) rfl) pa_nil))))))
theorem sc_z4 : FnScope ["machine", "numbers", "data"] ["machine", "numbers", "data"] (defScope s_z4) := by walk_at "sc"
theorem st_z4 (a b c : V) : start ["machine", "numbers", "data"] [a, b, c] = [some a, some b, some c] := rfl
def rd_z4 (K : PySem.W.Frag) (A : Ad) : TS := (tRet (tOp rCat (tLst (tCons (tC (.int (0))) tNil)) (tFld K (tVar 0) "cells")))
theorem bd_z4 (T : Txt K mg A) : bD P w K mg base f cdv Ar outer s H E 0 "call_memory_bytes" s_z4 ["machine", "numbers", "data"] (rd_z4 K A) := fun hr => by
 have nd := sc_z4.nd
 exact (pss_one (ps_ret (pe_op op_cat (pe_lst (pa_cons (gi T.c_y51) pa_nil)) (pe_fld (pv 0) rfl))))
theorem sc_z11 : FnScope ["self", "calls"] ["self", "calls"] (defScope s_z11) := by walk_at "sc"
theorem st_z11 (a b : V) : start ["self", "calls"] [a, b] = [some a, some b] := rfl
def rd_z11 (K : PySem.W.Frag) (A : Ad) : TS := (tSeq (sFld K (tVar 0) (tVar 1) "calls") (sFld K (tVar 0) (tC (.int 0)) "place"))
theorem bd_z11 (T : Txt K mg A) : bD P w K mg base f cdv Ar outer s H E 0 "CallReader.__init__" s_z11 ["self", "calls"] (rd_z11 K A) := fun hr => by
 have nd := sc_z11.nd
 exact (pss_cons (ps_fld (pv 0) (pv 1) rfl) (pss_one (ps_fld (pv 0) pe_int rfl)))
theorem sc_z3 : FnScope ["self"] ["self"] (defScope s_z3) := by walk_at "sc"
theorem st_z3 (a : V) : start ["self"] [a] = [some a] := rfl
def rd_z3 (K : PySem.W.Frag) (A : Ad) : TS := (tRet (tOp (rI0 fun i j => .bl (decide (j ≤ i))) (tFld K (tVar 0) "place") (tCB (rLen K) (tCons (tFld K (tVar 0) "calls") tNil))))
theorem bd_z3 (T : Txt K mg A) : bD P w K mg base f cdv Ar outer s H E 0 "CallReader.is_at_end" s_z3 ["self"] (rd_z3 K A) := fun hr => by
 have nd := sc_z3.nd
 exact (pss_one (ps_ret (pe_cmpR op_ge (pe_fld (pv 0) rfl) (pe_callB call_len_seq (by rfl) T.b_len PySem.boot_len (pa_cons (pe_fld (pv 0) rfl) pa_nil)) (nomark _))))
theorem sc_z12 : FnScope ["self", "how_many", "begin"] ["self", "how_many"] (defScope s_z12) := by walk_at "sc"
theorem st_z12 (a b : V) : start ["self", "how_many", "begin"] [a, b] = [some a, some b, none] := rfl
def rd_z12 (K : PySem.W.Frag) (A : Ad) : TS := (tSeq (tAsg (tFld K (tVar 0) "place") (gName 2)) (tSeq (sFld K (tVar 0) (tOp (rI0 fun i j => .int (i + j)) (tVar 2) (tVar 1)) "place") (tRet (tSl (rSlL K) (tFld K (tVar 0) "calls") (tPart (tVar 2)) (tPart (tFld K (tVar 0) "place"))))))
theorem bd_z12 (T : Txt K mg A) : bD P w K mg base f cdv Ar outer s H E 0 "CallReader.take" s_z12 ["self", "how_many", "begin"] (rd_z12 K A) := fun hr => by
 have nd := sc_z12.nd
 exact (pss_cons (ps_set (i := 2) nd rfl (Or.inl rfl) (pe_fld (pv 0) rfl)) (pss_cons (ps_fld (pv 0) (pe_op op_add (pv 2) (pv 1)) rfl) (pss_one (ps_ret (pe_slice sl_list (pe_fld (pv 0) rfl) (po_some (pv 2)) (po_some (pe_fld (pv 0) rfl)))))))
theorem sc_z44 : FnScope ["needed"] ["needed"] (defScope s_z44) := by walk_at "sc"
theorem st_z44 (a : V) : start ["needed"] [a] = [some a] := rfl
def rd_z44 (K : PySem.W.Frag) (A : Ad) (sp_z75 : Sp) : TS := (tRet (tCall sp_z75 [] E0 (tCons (tVar 0) (tCons (tC (.int 0)) (tCons (tC (.int 2)) tNil)))))
theorem bd_z44 (T : Txt K mg A) {sp_z75 : Sp} (F_z75 : Fn P w K mg base 1 A.z75 ["cells", "place", "width"] sp_z75) : bD P w K mg base f cdv Ar outer s H E 1 "places_back" s_z44 ["needed"] (rd_z44 K A sp_z75) := fun hr => by
 have nd := sc_z44.nd
 exact (pss_one (ps_ret (F_z75.c hr T.m_z75 (pa_cons (pv 0) (pa_cons pe_int (pa_cons pe_int pa_nil))))))
theorem sc_z9 : FnScope ["data", "place", "same", "n"] ["data", "place"] (defScope s_z9) := by walk_at "sc"
theorem st_z9 (a b : V) : start ["data", "place", "same", "n"] [a, b] = [some a, some b, none, none] := rfl
def rd_z9 (K : PySem.W.Frag) (A : Ad) (sp_z46 : Sp) : TS := (tSeq (tAsg (tOp (rI0 fun i j => .int (i + j)) (tC (.int 1)) (tCall sp_z46 [] E0 (tCons (tVar 0) (tCons (tOp (rI0 fun i j => .int (i + j)) (tVar 1) (tC (.int 1))) (tCons (tC (.int 1)) tNil))))) (gName 2)) (tRet (tLc (iRng2 (tCons (tC (.int (3))) (tCons (tOp (rI0 fun i j => .int (i + j)) (tVar 2) (tC (.int 1))) tNil))) (gName 3) tYes (tLst (tCons (tOp (rI0 fun i j => .int (i - j)) (tOp (rI0 fun i j => .int (i + j)) (tC (.int (128))) (tVar 3)) (tC (.int (3)))) (tCons (tOp rIxH (tVar 0) (tVar 1)) tNil))) [3])))
theorem bd_z9 (T : Txt K mg A) {sp_z46 : Sp} (F_z46 : Fn P w K mg base 1 A.z46 ["data", "place", "back"] sp_z46) : bD P w K mg base f cdv Ar outer s H E 1 "repeat_commands" s_z9 ["data", "place", "same", "n"] (rd_z9 K A sp_z46) := fun hr => by
 refine mq ?_; simp (disch := k_dflt (
 refine mz ?_
 have nd := sc_z9.nd
 exact (pss_cons (ps_set (i := 2) nd rfl (Or.inl rfl) (pe_op op_add pe_int (F_z46.c hr T.m_z46 (pa_cons (pv 0) (pa_cons (pe_op op_add (pv 1) pe_int) (pa_cons pe_int pa_nil)))))) (pss_one (ps_ret (pe_lc rfl nd (pi_range2 (by rfl) T.b_range (pa_cons (gi T.c_z71) (pa_cons (pe_op op_add (pv 2) pe_int) pa_nil))) (blkOk_by (own := [("n", 3)]) (by show blkC ["data", "place", "same", "n"] (defScope s_z9) _ _ = true; decide +kernel)) (fun _ _ _ _ _ => pg_name (i := 3) nd rfl (Or.inl rfl)) (fun _ _ _ _ _ => pts_nil) (fun _ _ _ _ _ => (pe_lst (pa_cons (pe_op op_sub (pe_op op_add (gi T.c_z37) (pv 3)) (gi T.c_z71)) (pa_cons (pe_ix ix_h (pv 0) (pv 1) (fun _ _ => rfl)) pa_nil)))))))))) only [↓mr]
theorem sc_z26 : FnScope ["data", "place", "commands", "longest", "back", "length", "n"] ["data", "place"] (defScope s_z26) := by walk_at "sc"
theorem st_z26 (a b : V) : start ["data", "place", "commands", "longest", "back", "length", "n"] [a, b] = [some a, some b, none, none, none, none, none] := rfl
def rd_z26 (K : PySem.W.Frag) (A : Ad) (sp_z46 : Sp) : TS := (tSeq (tAsg (tLst tNil) (gName 2)) (tSeq (tAsg (tOp (rI0 fun i j => .int (i - j)) (tC (.int (3))) (tC (.int 1))) (gName 3)) (tSeq (tFor (iRng2 (tCons (tC (.int 1)) (tCons (tOp (rI0 fun i j => .int (i + j)) (tVar 1) (tC (.int 1))) tNil))) (gName 4) (tSeq (tAsg (tCall sp_z46 [] E0 (tCons (tVar 0) (tCons (tVar 1) (tCons (tVar 4) tNil)))) (gName 5)) (tSeq (tDrop (tBM K "list" rExtend (tVar 2) (tCons (tLc (iRng2 (tCons (tOp (rI0 fun i j => .int (i + j)) (tVar 3) (tC (.int 1))) (tCons (tOp (rI0 fun i j => .int (i + j)) (tVar 5) (tC (.int 1))) tNil))) (gName 6) tYes (tLst (tCons (tOp (rI0 fun i j => .int (i - j)) (tOp (rI0 fun i j => .int (i + j)) (tC (.int (192))) (tVar 6)) (tC (.int (3)))) (tCons (tVar 4) (tCons (tC (.int 0)) tNil)))) [6]) tNil))) (tAsg (tCB rMax2 (tCons (tVar 3) (tCons (tVar 5) tNil))) (gName 3))))) (tRet (tVar 2)))))
theorem bd_z26 (T : Txt K mg A) {sp_z46 : Sp} (F_z46 : Fn P w K mg base 1 A.z46 ["data", "place", "back"] sp_z46) : bD P w K mg base f cdv Ar outer s H E 1 "echo_commands" s_z26 ["data", "place", "commands", "longest", "back", "length", "n"] (rd_z26 K A sp_z46) := fun hr => by
 refine mq ?_; simp (disch := k_dflt (
 refine mz ?_
 have nd := sc_z26.nd
 exact (pss_cons (ps_set (i := 2) nd rfl (Or.inl rfl) (pe_lst pa_nil)) (pss_cons (ps_set (i := 3) nd rfl (Or.inl rfl) (pe_op op_sub (gi T.c_z71) pe_int)) (pss_cons (ps_for PassesOwn.never rfl (pi_range2 (by rfl) T.b_range (pa_cons pe_int (pa_cons (pe_op op_add (pv 1) pe_int) pa_nil))) (pg_name (i := 4) nd rfl (Or.inr rfl)) (pss_cons (ps_set (i := 5) nd rfl (Or.inl rfl) (F_z46.c hr T.m_z46 (pa_cons (pv 0) (pa_cons (pv 1) (pa_cons (pv 4) pa_nil))))) (pss_cons (ps_expr (pe_bm PySem.F.plainAttrs_list PySem.F.slot_list_extend PySem.F.type_list_extend mt_extend (pv 2) (pa_cons (pe_lc rfl nd (pi_range2 (by rfl) T.b_range (pa_cons (pe_op op_add (pv 3) pe_int) (pa_cons (pe_op op_add (pv 5) pe_int) pa_nil))) (blkOk_by (own := [("n", 6)]) (by show blkC ["data", "place", "commands", "longest", "back", "length", "n"] (defScope s_z26) _ _ = true; decide +kernel)) (fun _ _ _ _ _ => pg_name (i := 6) nd rfl (Or.inl rfl)) (fun _ _ _ _ _ => pts_nil) (fun _ _ _ _ _ => (pe_lst (pa_cons (pe_op op_sub (pe_op op_add (gi T.c_z64) (pv 6)) (gi T.c_z71)) (pa_cons (pv 4) (pa_cons pe_int pa_nil)))))) pa_nil))) (pss_one (ps_set (i := 3) nd rfl (Or.inl rfl) (pe_callB (call_max2 rfl) (by rfl) T.b_max PyProof.Rows.boot_max (pa_cons (pv 3) (pa_cons (pv 5) pa_nil)))))))) (pss_one (ps_ret (pv 2)))))))) only [↓mr]
theorem sc_z35 : FnScope ["rest", "size", "bits"] ["rest", "size"] (defScope s_z35) := by walk_at "sc"
theorem st_z35 (a b : V) : start ["rest", "size", "bits"] [a, b] = [some a, some b, none] := rfl
def rd_z35 (K : PySem.W.Frag) (A : Ad) (sp_z23 : Sp) : TS := (tSeq (tAsg (tC (.int 0)) (gName 2)) (tSeq (tIfS (tTest (tOp rEq (tVar 0) (tC (.int 0)))) (tAug 2 (tC (.int (64))) (ipI fun i j => i + j)) tNext) (tSeq (tIfS (tTest (tOp (rI0 fun i j => .bl (decide (j ≤ i))) (tVar 0) (tOp (rI CDiv fun i j => .int (i / j)) (tVar 1) (tC (.int 2))))) (tAug 2 (tC (.int (128))) (ipI fun i j => i + j)) tNext) (tSeq (tIfS (tB (tCall sp_z23 [] E0 (tCons (tOp (rI (fun _ j => 0 < j) fun i j => .int (i % j)) (tVar 0) (tC (.int 256))) tNil))) (tAug 2 (tC (.int (4))) (ipI fun i j => i + j)) tNext) (tRet (tVar 2))))))
theorem bd_z35 (T : Txt K mg A) {sp_z23 : Sp} (F_z23 : Fn P w K mg base 1 A.z23 ["byte"] sp_z23) : bD P w K mg base f cdv Ar outer s H E 1 "bits_of_rest" s_z35 ["rest", "size", "bits"] (rd_z35 K A sp_z23) := fun hr => by
 refine mq ?_; simp (disch := k_dflt (
 refine mz ?_
 have nd := sc_z35.nd
 exact (pss_cons (ps_set (i := 2) nd rfl (Or.inl rfl) pe_int) (pss_cons (ps_if (pt_cmpR op_eq (pv 0) pe_int (nomark _)) (pss_one (ps_aug (i := 2) nd rfl (Or.inl rfl) (gi T.c_y40) ip_add)) pss_nil) (pss_cons (ps_if (pt_cmpR op_ge (pv 0) (pe_op op_fdiv (pv 1) pe_int) (nomark _)) (pss_one (ps_aug (i := 2) nd rfl (Or.inl rfl) (gi T.c_y37) ip_add)) pss_nil) (pss_cons (ps_if (pt_val (F_z23.c hr T.m_z23 (pa_cons (pe_op op_mod (pv 0) pe_int) pa_nil))) (pss_one (ps_aug (i := 2) nd rfl (Or.inl rfl) (gi T.c_y33) ip_add)) pss_nil) (pss_one (ps_ret (pv 2))))))))) only [↓mr]
theorem sc_z25 : FnScope ["machine", "which", "width"] ["machine", "which", "width"] (defScope s_z25) := by walk_at "sc"
theorem st_z25 (a b c : V) : start ["machine", "which", "width"] [a, b, c] = [some a, some b, some c] := rfl
def rd_z25 (K : PySem.W.Frag) (A : Ad) (sp_z75 : Sp) : TS := (tRet (tCall sp_z75 [] E0 (tCons (tFld K (tVar 0) "cells") (tCons (tOp rIxH (tFld K (tVar 0) "regs") (tVar 1)) (tCons (tVar 2) tNil)))))
theorem bd_z25 (T : Txt K mg A) {sp_z75 : Sp} (F_z75 : Fn P w K mg base 1 A.z75 ["cells", "place", "width"] sp_z75) : bD P w K mg base f cdv Ar outer s H E 1 "number_at_reg" s_z25 ["machine", "which", "width"] (rd_z25 K A sp_z75) := fun hr => by
 have nd := sc_z25.nd
 exact (pss_one (ps_ret (F_z75.c hr T.m_z75 (pa_cons (pe_fld (pv 0) rfl) (pa_cons (pe_ix ix_h (pe_fld (pv 0) rfl) (pv 1) (fun _ _ => rfl)) (pa_cons (pv 2) pa_nil))))))
theorem sc_y18 : FnScope ["machine", "which", "width"] ["machine", "which", "width"] (defScope s_y18) := by walk_at "sc"
theorem st_y18 (a b c : V) : start ["machine", "which", "width"] [a, b, c] = [some a, some b, some c] := rfl
def rd_y18 (K : PySem.W.Frag) (A : Ad) (sp_z60 : Sp) (sp_y24 : Sp) : TS := (tDrop (tCall sp_z60 [] E0 (tCons (tVar 0) (tCons (tVar 1) (tCons (tIf (tB (tCall sp_y24 [] E0 (tCons (tVar 0) (tCons (tC (.int (1024))) tNil)))) (tUn (rU fun i => .int (-i)) (tVar 2)) (tVar 2)) tNil)))))
theorem bd_y18 (T : Txt K mg A) {sp_z60 : Sp} (F_z60 : Fn P w K mg base 1 A.z60 ["machine", "which", "number"] sp_z60) {sp_y24 : Sp} (F_y24 : Fn P w K mg base 1 A.y24 ["machine", "bit"] sp_y24) : bD P w K mg base f cdv Ar outer s H E 1 "move_on" s_y18 ["machine", "which", "width"] (rd_y18 K A sp_z60 sp_y24) := fun hr => by
 have nd := sc_y18.nd
 exact (pss_one (ps_expr (F_z60.c hr T.m_z60 (pa_cons (pv 0) (pa_cons (pv 1) (pa_cons (pe_ifExp (pt_val (F_y24.c hr T.m_y24 (pa_cons (pv 0) (pa_cons (gi T.c_y35) pa_nil)))) (pe_un un_neg (pv 2)) (pv 2)) pa_nil))))))
theorem sc_z27 : FnScope ["machine", "op", "width"] ["machine", "op", "width"] (defScope s_z27) := by walk_at "sc"
theorem st_z27 (a b c : V) : start ["machine", "op", "width"] [a, b, c] = [some a, some b, some c] := rfl
def rd_z27 (K : PySem.W.Frag) (A : Ad) (sp_z58 : Sp) : TS := (tSeq (tIfS (tAnd (tTest (tOp (rInTab A.y12 [0, 2, 4] false) (tVar 1) (tC (.ref A.y12)))) (tNot (tB (tCall sp_z58 [] E0 (tCons (tFld K (tVar 0) "cells") (tCons (tOp rIxH (tFld K (tVar 0) "regs") (tC (.int (2)))) (tCons (tVar 2) tNil))))))) (tRet (tC (.bl true))) tNext) (tRet (tAndV (tOp (rInTab A.y23 [0, 1, 3, 4] false) (tVar 1) (tC (.ref A.y23))) (tNotV (tCall sp_z58 [] E0 (tCons (tFld K (tVar 0) "cells") (tCons (tOp rIxH (tFld K (tVar 0) "regs") (tC (.int (3)))) (tCons (tVar 2) tNil))))))))
theorem bd_z27 (T : Txt K mg A) {sp_z58 : Sp} (F_z58 : Fn P w K mg base 1 A.z58 ["cells", "place", "width"] sp_z58) : bD P w K mg base f cdv Ar outer s H E 1 "lacks_element" s_z27 ["machine", "op", "width"] (rd_z27 K A sp_z58) := fun hr => by
 refine mq ?_; simp (disch := k_dflt (
 refine mz ?_
 have nd := sc_z27.nd
 exact (pss_cons (ps_if (PW.pt (pw_and (pt_cmpR (in_tab (l := [0, 2, 4]) T.t_y12) (pv 1) (pe_glob (by rfl) T.g_y12 (by rfl)) (by with_unfolding_all rfl)) (pw_and1 (pt_not (pt_val (F_z58.c hr T.m_z58 (pa_cons (pe_fld (pv 0) rfl) (pa_cons (pe_ix ix_h (pe_fld (pv 0) rfl) (gi T.c_y28) (fun _ _ => rfl)) (pa_cons (pv 2) pa_nil))))))))) (pss_one (ps_ret pe_bl)) pss_nil) (pss_one (ps_ret (pe_and (pe_cmpR (in_tab (l := [0, 1, 3, 4]) T.t_y23) (pv 1) (pe_glob (by rfl) T.g_y23 (by rfl)) (by with_unfolding_all rfl)) (pe_one (pe_not (F_z58.c hr T.m_z58 (pa_cons (pe_fld (pv 0) rfl) (pa_cons (pe_ix ix_h (pe_fld (pv 0) rfl) (gi T.c_y27) (fun _ _ => rfl)) (pa_cons (pv 2) pa_nil)))))))))))) only [↓mr]
theorem sc_z0 : FnScope ["machine", "op", "rep", "alike"] ["machine", "op", "rep"] (defScope s_z0) := by walk_at "sc"
theorem st_z0 (a b c : V) : start ["machine", "op", "rep", "alike"] [a, b, c] = [some a, some b, some c, none] := rfl
def rd_z0 (K : PySem.W.Frag) (A : Ad) (sp_y24 : Sp) : TS := (tSeq (tIfS (tTest (tOp (rInTab A.z84 [3, 4] true) (tVar 1) (tC (.ref A.z84)))) (tRet (tC (.bl false))) tNext) (tSeq (tAsg (tCall sp_y24 [] E0 (tCons (tVar 0) (tCons (tC (.int (64))) tNil))) (gName 3)) (tRet (tIf (tTest (tOp rEq (tVar 2) (tC (.int 1)))) (tNotV (tVar 3)) (tVar 3)))))
theorem bd_z0 (T : Txt K mg A) {sp_y24 : Sp} (F_y24 : Fn P w K mg base 1 A.y24 ["machine", "bit"] sp_y24) : bD P w K mg base f cdv Ar outer s H E 1 "is_ended_by_comparison" s_z0 ["machine", "op", "rep", "alike"] (rd_z0 K A sp_y24) := fun hr => by
 refine mq ?_; simp (disch := k_dflt (
 refine mz ?_
 have nd := sc_z0.nd
 exact (pss_cons (ps_if (pt_cmpR (notin_tab (l := [3, 4]) T.t_z84) (pv 1) (pe_glob (by rfl) T.g_z84 (by rfl)) (by with_unfolding_all rfl)) (pss_one (ps_ret pe_bl)) pss_nil) (pss_cons (ps_set (i := 3) nd rfl (Or.inl rfl) (F_y24.c hr T.m_y24 (pa_cons (pv 0) (pa_cons (gi T.c_y40) pa_nil)))) (pss_one (ps_ret (pe_ifExp (pt_cmpR op_eq (pv 2) pe_int (nomark _)) (pe_not (pv 3)) (pv 3)))))))) only [↓mr]
theorem sc_z6 : FnScope ["instructions", "i"] ["instructions"] (defScope s_z6) := by walk_at "sc"
theorem st_z6 (a : V) : start ["instructions", "i"] [a] = [some a, none] := rfl
def rd_z6 (K : PySem.W.Frag) (A : Ad) (sp_z22 : Sp) : TS := (tSeq (tFor (iRng1 (tCons (tCB rLenH (tCons (tVar 0) tNil)) tNil)) (gName 1) (tIfS (tB (tCall sp_z22 [] E0 (tCons (tOp rIxH (tVar 0) (tVar 1)) (tCons (tCB rLenH (tCons (tVar 0) tNil)) tNil)))) (tRet (tVar 1)) tNext)) (tRet (tC .non)))
theorem bd_z6 (T : Txt K mg A) {sp_z22 : Sp} (F_z22 : Fn P w K mg base 1 A.z22 ["instruction", "how_many"] sp_z22) : bD P w K mg base f cdv Ar outer s H E 1 "first_ill_formed" s_z6 ["instructions", "i"] (rd_z6 K A sp_z22) := fun hr => by
 refine mq ?_; simp (disch := k_dflt (
 refine mz ?_
 have nd := sc_z6.nd
 exact (pss_cons (ps_for PassesOwn.never rfl (pi_range1 (by rfl) T.b_range (pa_cons (pe_callB len_h (by rfl) T.b_len PySem.boot_len (pa_cons (pv 0) pa_nil)) pa_nil)) (pg_name (i := 1) nd rfl (Or.inl rfl)) (pss_one (ps_if (pt_val (F_z22.c hr T.m_z22 (pa_cons (pe_ix ix_h (pv 0) (pv 1) (fun _ _ => rfl)) (pa_cons (pe_callB len_h (by rfl) T.b_len PySem.boot_len (pa_cons (pv 0) pa_nil)) pa_nil)))) (pss_one (ps_ret (pv 1))) pss_nil))) (pss_one (ps_ret pe_non))))) only [↓mr]
theorem sc_y44 : FnScope ["machine", "instruction"] ["machine", "instruction"] (defScope s_y44) := by walk_at "sc"
theorem st_y44 (a b : V) : start ["machine", "instruction"] [a, b] = [some a, some b] := rfl
def rd_y44 (K : PySem.W.Frag) (A : Ad) (sp_z60 : Sp) : TS := (tDrop (tCall sp_z60 [] E0 (tCons (tVar 0) (tCons (tFld K (tVar 1) "x") (tCons (tFld K (tVar 1) "k") tNil)))))
theorem bd_y44 (T : Txt K mg A) {sp_z60 : Sp} (F_z60 : Fn P w K mg base 1 A.z60 ["machine", "which", "number"] sp_z60) : bD P w K mg base f cdv Ar outer s H E 1 "add_k" s_y44 ["machine", "instruction"] (rd_y44 K A sp_z60) := fun hr => by
 have nd := sc_y44.nd
 exact (pss_one (ps_expr (F_z60.c hr T.m_z60 (pa_cons (pv 0) (pa_cons (pe_fld (pv 1) rfl) (pa_cons (pe_fld (pv 1) rfl) pa_nil))))))
theorem sc_z8 : FnScope ["machine", "instruction"] ["machine", "instruction"] (defScope s_z8) := by walk_at "sc"
theorem st_z8 (a b : V) : start ["machine", "instruction"] [a, b] = [some a, some b] := rfl
def rd_z8 (K : PySem.W.Frag) (A : Ad) (sp_z96 : Sp) : TS := (tDrop (tCall sp_z96 [] E0 (tCons (tVar 0) (tCons (tOp rEq (tOp (rI (fun _ j => 0 < j) fun i j => .int (i % j)) (tFld K (tVar 1) "k") (tC (.int 2))) (tC (.int 1))) tNil))))
theorem bd_z8 (T : Txt K mg A) {sp_z96 : Sp} (F_z96 : Fn P w K mg base 1 A.z96 ["machine", "down"] sp_z96) : bD P w K mg base f cdv Ar outer s H E 1 "choose_direction" s_z8 ["machine", "instruction"] (rd_z8 K A sp_z96) := fun hr => by
 have nd := sc_z8.nd
 exact (pss_one (ps_expr (F_z96.c hr T.m_z96 (pa_cons (pv 0) (pa_cons (pe_cmpR op_eq (pe_op op_mod (pe_fld (pv 1) rfl) pe_int) pe_int (nomark _)) pa_nil)))))
theorem sc_y39 : FnScope ["machine", "cond"] ["machine", "cond"] (defScope s_y39) := by walk_at "sc"
theorem st_y39 (a b : V) : start ["machine", "cond"] [a, b] = [some a, some b] := rfl
def rd_y39 (K : PySem.W.Frag) (A : Ad) (sp_y24 : Sp) : TS := (tSeq (tIfS (tTest (tOp rEq (tVar 1) (tC (.int 0)))) (tRet (tC (.bl true))) tNext) (tSeq (tIfS (tTest (tOp (rI0 fun i j => .bl (decide (i ≤ j))) (tVar 1) (tC (.int 2)))) (tRet (tOp rEq (tCall sp_y24 [] E0 (tCons (tVar 0) (tCons (tC (.int (64))) tNil))) (tOp rEq (tVar 1) (tC (.int 1))))) tNext) (tSeq (tIfS (tTest (tOp (rI0 fun i j => .bl (decide (i ≤ j))) (tVar 1) (tC (.int 4)))) (tRet (tOp rEq (tCall sp_y24 [] E0 (tCons (tVar 0) (tCons (tC (.int (1))) tNil))) (tOp rEq (tVar 1) (tC (.int 3))))) tNext) (tRet (tOp rEq (tOp rEq (tOp rIxH (tFld K (tVar 0) "regs") (tC (.int (1)))) (tC (.int 0))) (tOp rEq (tVar 1) (tC (.int 5))))))))
theorem bd_y39 (T : Txt K mg A) {sp_y24 : Sp} (F_y24 : Fn P w K mg base 1 A.y24 ["machine", "bit"] sp_y24) : bD P w K mg base f cdv Ar outer s H E 1 "holds" s_y39 ["machine", "cond"] (rd_y39 K A sp_y24) := fun hr => by
 refine mq ?_; simp (disch := k_dflt (
 refine mz ?_
 have nd := sc_y39.nd
 exact (pss_cons (ps_if (pt_cmpR op_eq (pv 1) pe_int (nomark _)) (pss_one (ps_ret pe_bl)) pss_nil) (pss_cons (ps_if (pt_cmpR op_le (pv 1) pe_int (nomark _)) (pss_one (ps_ret (pe_cmpR op_eq (F_y24.c hr T.m_y24 (pa_cons (pv 0) (pa_cons (gi T.c_y40) pa_nil))) (pe_cmpR op_eq (pv 1) pe_int (nomark _)) (nomark _)))) pss_nil) (pss_cons (ps_if (pt_cmpR op_le (pv 1) pe_int (nomark _)) (pss_one (ps_ret (pe_cmpR op_eq (F_y24.c hr T.m_y24 (pa_cons (pv 0) (pa_cons (gi T.c_y32) pa_nil))) (pe_cmpR op_eq (pv 1) pe_int (nomark _)) (nomark _)))) pss_nil) (pss_one (ps_ret (pe_cmpR op_eq (pe_cmpR op_eq (pe_ix ix_h (pe_fld (pv 0) rfl) (gi T.c_y31) (fun _ _ => rfl)) pe_int (nomark _)) (pe_cmpR op_eq (pv 1) pe_int (nomark _)) (nomark _))))))))) only [↓mr]
theorem sc_z97 : FnScope ["machine", "instruction", "width"] ["machine", "instruction"] (defScope s_z97) := by walk_at "sc"
theorem st_z97 (a b : V) : start ["machine", "instruction", "width"] [a, b] = [some a, some b, none] := rfl
def rd_z97 (K : PySem.W.Frag) (A : Ad) (sp_z21 : Sp) (sp_z33 : Sp) : TS := (tSeq (tAsg (tFld K (tVar 1) "width") (gName 2)) (tDrop (tCall sp_z21 [] E0 (tCons (tVar 0) (tCons (tFld K (tVar 1) "x") (tCons (tVar 2) (tCons (tCall sp_z33 [] E0 (tCons (tOp rIxH (tFld K (tVar 0) "regs") (tFld K (tVar 1) "x")) (tCons (tVar 2) tNil))) tNil)))))))
theorem bd_z97 (T : Txt K mg A) {sp_z21 : Sp} (F_z21 : Fn P w K mg base 1 A.z21 ["machine", "which", "width", "number"] sp_z21) {sp_z33 : Sp} (F_z33 : Fn P w K mg base 1 A.z33 ["number", "width"] sp_z33) : bD P w K mg base f cdv Ar outer s H E 1 "turn_own" s_z97 ["machine", "instruction", "width"] (rd_z97 K A sp_z21 sp_z33) := fun hr => by
 have nd := sc_z97.nd
 exact (pss_cons (ps_set (i := 2) nd rfl (Or.inl rfl) (pe_fld (pv 1) rfl)) (pss_one (ps_expr (F_z21.c hr T.m_z21 (pa_cons (pv 0) (pa_cons (pe_fld (pv 1) rfl) (pa_cons (pv 2) (pa_cons (F_z33.c hr T.m_z33 (pa_cons (pe_ix ix_h (pe_fld (pv 0) rfl) (pe_fld (pv 1) rfl) (fun _ _ => rfl)) (pa_cons (pv 2) pa_nil))) pa_nil))))))))
theorem sc_z43 : FnScope ["machine", "instruction", "width", "number"] ["machine", "instruction"] (defScope s_z43) := by walk_at "sc"
theorem st_z43 (a b : V) : start ["machine", "instruction", "width", "number"] [a, b] = [some a, some b, none, none] := rfl
def rd_z43 (K : PySem.W.Frag) (A : Ad) (sp_z75 : Sp) (sp_z21 : Sp) (sp_z33 : Sp) : TS := (tSeq (tAsg (tFld K (tVar 1) "width") (gName 2)) (tSeq (tAsg (tCall sp_z75 [] E0 (tCons (tFld K (tVar 0) "cells") (tCons (tOp rIxH (tFld K (tVar 0) "regs") (tC (.int (2)))) (tCons (tVar 2) tNil)))) (gName 3)) (tDrop (tCall sp_z21 [] E0 (tCons (tVar 0) (tCons (tFld K (tVar 1) "x") (tCons (tVar 2) (tCons (tCall sp_z33 [] E0 (tCons (tVar 3) (tCons (tVar 2) tNil))) tNil))))))))
theorem bd_z43 (T : Txt K mg A) {sp_z75 : Sp} (F_z75 : Fn P w K mg base 1 A.z75 ["cells", "place", "width"] sp_z75) {sp_z21 : Sp} (F_z21 : Fn P w K mg base 1 A.z21 ["machine", "which", "width", "number"] sp_z21) {sp_z33 : Sp} (F_z33 : Fn P w K mg base 1 A.z33 ["number", "width"] sp_z33) : bD P w K mg base f cdv Ar outer s H E 1 "load_turned" s_z43 ["machine", "instruction", "width", "number"] (rd_z43 K A sp_z75 sp_z21 sp_z33) := fun hr => by
 refine mq ?_; simp (disch := k_dflt (
 refine mz ?_
 have nd := sc_z43.nd
 exact (pss_cons (ps_set (i := 2) nd rfl (Or.inl rfl) (pe_fld (pv 1) rfl)) (pss_cons (ps_set (i := 3) nd rfl (Or.inl rfl) (F_z75.c hr T.m_z75 (pa_cons (pe_fld (pv 0) rfl) (pa_cons (pe_ix ix_h (pe_fld (pv 0) rfl) (gi T.c_y28) (fun _ _ => rfl)) (pa_cons (pv 2) pa_nil))))) (pss_one (ps_expr (F_z21.c hr T.m_z21 (pa_cons (pv 0) (pa_cons (pe_fld (pv 1) rfl) (pa_cons (pv 2) (pa_cons (F_z33.c hr T.m_z33 (pa_cons (pv 3) (pa_cons (pv 2) pa_nil))) pa_nil))))))))))) only [↓mr]
theorem sc_z39 : FnScope ["machine", "instruction", "width", "number"] ["machine", "instruction"] (defScope s_z39) := by walk_at "sc"
theorem st_z39 (a b : V) : start ["machine", "instruction", "width", "number"] [a, b] = [some a, some b, none, none] := rfl
def rd_z39 (K : PySem.W.Frag) (A : Ad) (sp_z33 : Sp) (sp_z70 : Sp) : TS := (tSeq (tAsg (tFld K (tVar 1) "width") (gName 2)) (tSeq (tAsg (tCall sp_z33 [] E0 (tCons (tOp rIxH (tFld K (tVar 0) "regs") (tFld K (tVar 1) "x")) (tCons (tVar 2) tNil))) (gName 3)) (tDrop (tCall sp_z70 [] E0 (tCons (tFld K (tVar 0) "cells") (tCons (tOp rIxH (tFld K (tVar 0) "regs") (tC (.int (3)))) (tCons (tVar 2) (tCons (tVar 3) tNil))))))))
theorem bd_z39 (T : Txt K mg A) {sp_z33 : Sp} (F_z33 : Fn P w K mg base 1 A.z33 ["number", "width"] sp_z33) {sp_z70 : Sp} (F_z70 : Fn P w K mg base 1 A.z70 ["cells", "place", "width", "number"] sp_z70) : bD P w K mg base f cdv Ar outer s H E 1 "store_turned" s_z39 ["machine", "instruction", "width", "number"] (rd_z39 K A sp_z33 sp_z70) := fun hr => by
 refine mq ?_; simp (disch := k_dflt (
 refine mz ?_
 have nd := sc_z39.nd
 exact (pss_cons (ps_set (i := 2) nd rfl (Or.inl rfl) (pe_fld (pv 1) rfl)) (pss_cons (ps_set (i := 3) nd rfl (Or.inl rfl) (F_z33.c hr T.m_z33 (pa_cons (pe_ix ix_h (pe_fld (pv 0) rfl) (pe_fld (pv 1) rfl) (fun _ _ => rfl)) (pa_cons (pv 2) pa_nil)))) (pss_one (ps_expr (F_z70.c hr T.m_z70 (pa_cons (pe_fld (pv 0) rfl) (pa_cons (pe_ix ix_h (pe_fld (pv 0) rfl) (gi T.c_y27) (fun _ _ => rfl)) (pa_cons (pv 2) (pa_cons (pv 3) pa_nil))))))))))) only [↓mr]
theorem sc_z30 : FnScope ["machine", "instruction"] ["machine", "instruction"] (defScope s_z30) := by walk_at "sc"
theorem st_z30 (a b : V) : start ["machine", "instruction"] [a, b] = [some a, some b] := rfl
def rd_z30 (K : PySem.W.Frag) (A : Ad) (sp_z58 : Sp) : TS := (tSeq (tIfS (tTest (tOp rEq (tFld K (tVar 1) "op") (tC (.int (11))))) (tRet (tNotV (tCall sp_z58 [] E0 (tCons (tFld K (tVar 0) "cells") (tCons (tOp rIxH (tFld K (tVar 0) "regs") (tC (.int (2)))) (tCons (tFld K (tVar 1) "width") tNil)))))) tNext) (tSeq (tIfS (tTest (tOp rEq (tFld K (tVar 1) "op") (tC (.int (14))))) (tRet (tNotV (tCall sp_z58 [] E0 (tCons (tFld K (tVar 0) "cells") (tCons (tOp rIxH (tFld K (tVar 0) "regs") (tC (.int (3)))) (tCons (tFld K (tVar 1) "width") tNil)))))) tNext) (tRet (tC (.bl false)))))
theorem bd_z30 (T : Txt K mg A) {sp_z58 : Sp} (F_z58 : Fn P w K mg base 1 A.z58 ["cells", "place", "width"] sp_z58) : bD P w K mg base f cdv Ar outer s H E 1 "lacks_memory" s_z30 ["machine", "instruction"] (rd_z30 K A sp_z58) := fun hr => by
 refine mq ?_; simp (disch := k_dflt (
 refine mz ?_
 have nd := sc_z30.nd
 exact (pss_cons (ps_if (pt_cmpR op_eq (pe_fld (pv 1) rfl) (gi T.c_z20) (nomark _)) (pss_one (ps_ret (pe_not (F_z58.c hr T.m_z58 (pa_cons (pe_fld (pv 0) rfl) (pa_cons (pe_ix ix_h (pe_fld (pv 0) rfl) (gi T.c_y28) (fun _ _ => rfl)) (pa_cons (pe_fld (pv 1) rfl) pa_nil))))))) pss_nil) (pss_cons (ps_if (pt_cmpR op_eq (pe_fld (pv 1) rfl) (gi T.c_z15) (nomark _)) (pss_one (ps_ret (pe_not (F_z58.c hr T.m_z58 (pa_cons (pe_fld (pv 0) rfl) (pa_cons (pe_ix ix_h (pe_fld (pv 0) rfl) (gi T.c_y27) (fun _ _ => rfl)) (pa_cons (pe_fld (pv 1) rfl) pa_nil))))))) pss_nil) (pss_one (ps_ret pe_bl)))))) only [↓mr]
theorem sc_z94 : FnScope ["cells", "dst", "src", "n", "width", "down", "i", "offset"] ["cells", "dst", "src", "n", "width", "down"] (defScope s_z94) := by walk_at "sc"
theorem st_z94 (a b c d e f : V) : start ["cells", "dst", "src", "n", "width", "down", "i", "offset"] [a, b, c, d, e, f] = [some a, some b, some c, some d, some e, some f, none, none] := rfl
def rd_z94 (K : PySem.W.Frag) (A : Ad) (sp_y7 : Sp) (sp_z70 : Sp) (sp_z75 : Sp) : TS := (tFor (iList K (tCall sp_y7 [] E0 (tCons (tVar 3) (tCons (tVar 5) tNil)))) (gName 6) (tSeq (tAsg (tOp (rI CMul fun i j => .int (i * j)) (tVar 6) (tVar 4)) (gName 7)) (tDrop (tCall sp_z70 [] E0 (tCons (tVar 0) (tCons (tOp (rI0 fun i j => .int (i + j)) (tVar 1) (tVar 7)) (tCons (tVar 4) (tCons (tCall sp_z75 [] E0 (tCons (tVar 0) (tCons (tOp (rI0 fun i j => .int (i + j)) (tVar 2) (tVar 7)) (tCons (tVar 4) tNil)))) tNil))))))))
theorem bd_z94 (T : Txt K mg A) {sp_y7 : Sp} (F_y7 : Fn P w K mg base 1 A.y7 ["n", "down"] sp_y7) {sp_z70 : Sp} (F_z70 : Fn P w K mg base 1 A.z70 ["cells", "place", "width", "number"] sp_z70) {sp_z75 : Sp} (F_z75 : Fn P w K mg base 1 A.z75 ["cells", "place", "width"] sp_z75) : bD P w K mg base f cdv Ar outer s H E 1 "copy_row" s_z94 ["cells", "dst", "src", "n", "width", "down", "i", "offset"] (rd_z94 K A sp_y7 sp_z70 sp_z75) := fun hr => by
 refine mq ?_; simp (disch := k_dflt (
 refine mz ?_
 have nd := sc_z94.nd
 exact (pss_one (ps_for PassesOwn.never rfl (pi_list (F_y7.c hr T.m_y7 (pa_cons (pv 3) (pa_cons (pv 5) pa_nil)))) (pg_name (i := 6) nd rfl (Or.inl rfl)) (pss_cons (ps_set (i := 7) nd rfl (Or.inl rfl) (pe_op op_mul (pv 6) (pv 4))) (pss_one (ps_expr (F_z70.c hr T.m_z70 (pa_cons (pv 0) (pa_cons (pe_op op_add (pv 1) (pv 7)) (pa_cons (pv 4) (pa_cons (F_z75.c hr T.m_z75 (pa_cons (pv 0) (pa_cons (pe_op op_add (pv 2) (pv 7)) (pa_cons (pv 4) pa_nil)))) pa_nil)))))))))))) only [↓mr]
theorem sc_y2 : FnScope ["cells", "dst", "n", "width", "number", "i"] ["cells", "dst", "n", "width", "number"] (defScope s_y2) := by walk_at "sc"
theorem st_y2 (a b c d e : V) : start ["cells", "dst", "n", "width", "number", "i"] [a, b, c, d, e] = [some a, some b, some c, some d, some e, none] := rfl
def rd_y2 (K : PySem.W.Frag) (A : Ad) (sp_z70 : Sp) : TS := (tFor (iRng1 (tCons (tVar 2) tNil)) (gName 5) (tDrop (tCall sp_z70 [] E0 (tCons (tVar 0) (tCons (tOp (rI0 fun i j => .int (i + j)) (tVar 1) (tOp (rI CMul fun i j => .int (i * j)) (tVar 5) (tVar 3))) (tCons (tVar 3) (tCons (tVar 4) tNil)))))))
theorem bd_y2 (T : Txt K mg A) {sp_z70 : Sp} (F_z70 : Fn P w K mg base 1 A.z70 ["cells", "place", "width", "number"] sp_z70) : bD P w K mg base f cdv Ar outer s H E 1 "fill_row" s_y2 ["cells", "dst", "n", "width", "number", "i"] (rd_y2 K A sp_z70) := fun hr => by
 have nd := sc_y2.nd
 exact (pss_one (ps_for PassesOwn.never rfl (pi_range1 (by rfl) T.b_range (pa_cons (pv 2) pa_nil)) (pg_name (i := 5) nd rfl (Or.inl rfl)) (pss_one (ps_expr (F_z70.c hr T.m_z70 (pa_cons (pv 0) (pa_cons (pe_op op_add (pv 1) (pe_op op_mul (pv 5) (pv 3))) (pa_cons (pv 3) (pa_cons (pv 4) pa_nil)))))))))
theorem sc_z49 : FnScope ["cells", "place", "n", "width", "i"] ["cells", "place", "n", "width"] (defScope s_z49) := by walk_at "sc"
theorem st_z49 (a b c d : V) : start ["cells", "place", "n", "width", "i"] [a, b, c, d] = [some a, some b, some c, some d, none] := rfl
def rd_z49 (K : PySem.W.Frag) (A : Ad) (sp_z75 : Sp) : TS := (tRet (tLc (iRng1 (tCons (tVar 2) tNil)) (gName 4) tYes (tCall sp_z75 [] E0 (tCons (tVar 0) (tCons (tOp (rI0 fun i j => .int (i + j)) (tVar 1) (tOp (rI CMul fun i j => .int (i * j)) (tVar 4) (tVar 3))) (tCons (tVar 3) tNil)))) [4]))
theorem bd_z49 (T : Txt K mg A) {sp_z75 : Sp} (F_z75 : Fn P w K mg base 1 A.z75 ["cells", "place", "width"] sp_z75) : bD P w K mg base f cdv Ar outer s H E 1 "row_numbers" s_z49 ["cells", "place", "n", "width", "i"] (rd_z49 K A sp_z75) := fun hr => by
 refine mq ?_; simp (disch := k_dflt (
 refine mz ?_
 have nd := sc_z49.nd
 exact (pss_one (ps_ret (pe_lc rfl nd (pi_range1 (by rfl) T.b_range (pa_cons (pv 2) pa_nil)) (blkOk_by (own := [("i", 4)]) (by show blkC ["cells", "place", "n", "width", "i"] (defScope s_z49) _ _ = true; decide +kernel)) (fun _ _ _ _ _ => pg_name (i := 4) nd rfl (Or.inl rfl)) (fun _ _ _ _ _ => pts_nil) (fun _ _ _ _ _ => (F_z75.c hr T.m_z75 (pa_cons (pv 0) (pa_cons (pe_op op_add (pv 1) (pe_op op_mul (pv 4) (pv 3))) (pa_cons (pv 3) pa_nil)))))))))) only [↓mr]
theorem sc_y11 : FnScope ["cells", "place", "width", "numbers", "i"] ["cells", "place", "width", "numbers"] (defScope s_y11) := by walk_at "sc"
theorem st_y11 (a b c d : V) : start ["cells", "place", "width", "numbers", "i"] [a, b, c, d] = [some a, some b, some c, some d, none] := rfl
def rd_y11 (K : PySem.W.Frag) (A : Ad) (sp_z70 : Sp) : TS := (tFor (iRng1 (tCons (tCB rLenH (tCons (tVar 3) tNil)) tNil)) (gName 4) (tDrop (tCall sp_z70 [] E0 (tCons (tVar 0) (tCons (tOp (rI0 fun i j => .int (i + j)) (tVar 1) (tOp (rI CMul fun i j => .int (i * j)) (tVar 4) (tVar 2))) (tCons (tVar 2) (tCons (tOp rIxH (tVar 3) (tVar 4)) tNil)))))))
theorem bd_y11 (T : Txt K mg A) {sp_z70 : Sp} (F_z70 : Fn P w K mg base 1 A.z70 ["cells", "place", "width", "number"] sp_z70) : bD P w K mg base f cdv Ar outer s H E 1 "put_row" s_y11 ["cells", "place", "width", "numbers", "i"] (rd_y11 K A sp_z70) := fun hr => by
 refine mq ?_; simp (disch := k_dflt (
 refine mz ?_
 have nd := sc_y11.nd
 exact (pss_one (ps_for PassesOwn.never rfl (pi_range1 (by rfl) T.b_range (pa_cons (pe_callB len_h (by rfl) T.b_len PySem.boot_len (pa_cons (pv 3) pa_nil)) pa_nil)) (pg_name (i := 4) nd rfl (Or.inl rfl)) (pss_one (ps_expr (F_z70.c hr T.m_z70 (pa_cons (pv 0) (pa_cons (pe_op op_add (pv 1) (pe_op op_mul (pv 4) (pv 2))) (pa_cons (pv 2) (pa_cons (pe_ix ix_h (pv 3) (pv 4) (fun _ _ => rfl)) pa_nil))))))))))) only [↓mr]
theorem sc_z74 : FnScope ["data", "most"] ["data", "most"] (defScope s_z74) := by walk_at "sc"
theorem st_z74 (a b : V) : start ["data", "most"] [a, b] = [some a, some b] := rfl
def rd_z74 (K : PySem.W.Frag) (A : Ad) (sp_z90 : Sp) : TS := (tRet (tAndV (tOp (rI0 fun i j => .bl (decide (i ≤ j))) (tCB rLenH (tCons (tVar 0) tNil)) (tVar 1)) (tCall sp_z90 [] E0 (tCons (tVar 0) (tCons (tC (.int (256))) tNil)))))
theorem bd_z74 (T : Txt K mg A) {sp_z90 : Sp} (F_z90 : Fn P w K mg base 1 A.z90 ["numbers", "limit"] sp_z90) : bD P w K mg base f cdv Ar outer s H E 1 "are_bytes" s_z74 ["data", "most"] (rd_z74 K A sp_z90) := fun hr => by
 have nd := sc_z74.nd
 exact (pss_one (ps_ret (pe_and (pe_cmpR op_le (pe_callB len_h (by rfl) T.b_len PySem.boot_len (pa_cons (pv 0) pa_nil)) (pv 1) (nomark _)) (pe_one (F_z90.c hr T.m_z90 (pa_cons (pv 0) (pa_cons (gi T.c_z86) pa_nil)))))))
theorem sc_z41 : FnScope ["machine", "numbers", "data"] ["machine", "numbers", "data"] (defScope s_z41) := by walk_at "sc"
theorem st_z41 (a b c : V) : start ["machine", "numbers", "data"] [a, b, c] = [some a, some b, some c] := rfl
def rd_z41 (K : PySem.W.Frag) (A : Ad) (sp_z90 : Sp) : TS := (tSeq (tIfS (tOr (tNot (tB (tCall sp_z90 [] E0 (tCons (tSl rSlH (tVar 1) tNoPart (tPart (tC (.int 4)))) (tCons (tC (.int (18446744073709551616))) tNil))))) (tNot (tB (tCall sp_z90 [] E0 (tCons (tSl rSlH (tVar 1) (tPart (tC (.int 4))) tNoPart) (tCons (tC (.int (4294967296))) tNil)))))) (tRet (tLst (tCons (tC (.int (-1))) tNil))) tNext) (tSeq (sFld K (tVar 0) (tSl rSlH (tVar 1) tNoPart (tPart (tC (.int 4)))) "regs") (tSeq (sFld K (tVar 0) (tOp rIxH (tVar 1) (tC (.int 4))) "flags") (tSeq (sFld K (tVar 0) (tOp rIxH (tVar 1) (tC (.int 5))) "at") (tRet (tLst (tCons (tC (.int (0))) tNil)))))))
theorem bd_z41 (T : Txt K mg A) {sp_z90 : Sp} (F_z90 : Fn P w K mg base 1 A.z90 ["numbers", "limit"] sp_z90) : bD P w K mg base f cdv Ar outer s H E 1 "call_machine" s_z41 ["machine", "numbers", "data"] (rd_z41 K A sp_z90) := fun hr => by
 refine mq ?_; simp (disch := k_dflt (
 refine mz ?_
 have nd := sc_z41.nd
 exact (pss_cons (ps_if (PW.pt (pw_or (pt_not (pt_val (F_z90.c hr T.m_z90 (pa_cons (pe_slice sl_h (pv 1) po_none (po_some pe_int)) (pa_cons (gi T.c_y1) pa_nil))))) (pw_or1 (pt_not (pt_val (F_z90.c hr T.m_z90 (pa_cons (pe_slice sl_h (pv 1) (po_some pe_int) po_none) (pa_cons (gi T.c_z82) pa_nil)))))))) (pss_one (ps_ret (pe_lst (pa_cons (gi T.c_y13) pa_nil)))) pss_nil) (pss_cons (ps_fld (pv 0) (pe_slice sl_h (pv 1) po_none (po_some pe_int)) rfl) (pss_cons (ps_fld (pv 0) (pe_ix ix_h (pv 1) pe_int (fun _ _ => rfl)) rfl) (pss_cons (ps_fld (pv 0) (pe_ix ix_h (pv 1) pe_int (fun _ _ => rfl)) rfl) (pss_one (ps_ret (pe_lst (pa_cons (gi T.c_y51) pa_nil)))))))))) only [↓mr]
theorem sc_z34 : FnScope ["cells", "one", "other", "n", "width"] ["cells", "one", "other", "n", "width"] (defScope s_z34) := by walk_at "sc"
theorem st_z34 (a b c d e : V) : start ["cells", "one", "other", "n", "width"] [a, b, c, d, e] = [some a, some b, some c, some d, some e] := rfl
def rd_z34 (K : PySem.W.Frag) (A : Ad) (sp_y26 : Sp) : TS := (tRet (tAndV (tCall sp_y26 [] E0 (tCons (tVar 0) (tCons (tVar 1) (tCons (tVar 3) (tCons (tVar 4) tNil))))) (tCall sp_y26 [] E0 (tCons (tVar 0) (tCons (tVar 2) (tCons (tVar 3) (tCons (tVar 4) tNil)))))))
theorem bd_z34 (T : Txt K mg A) {sp_y26 : Sp} (F_y26 : Fn P w K mg base 1 A.y26 ["cells", "place", "n", "width"] sp_y26) : bD P w K mg base f cdv Ar outer s H E 1 "are_two_rows" s_z34 ["cells", "one", "other", "n", "width"] (rd_z34 K A sp_y26) := fun hr => by
 have nd := sc_z34.nd
 exact (pss_one (ps_ret (pe_and (F_y26.c hr T.m_y26 (pa_cons (pv 0) (pa_cons (pv 1) (pa_cons (pv 3) (pa_cons (pv 4) pa_nil))))) (pe_one (F_y26.c hr T.m_y26 (pa_cons (pv 0) (pa_cons (pv 2) (pa_cons (pv 3) (pa_cons (pv 4) pa_nil)))))))))
theorem sc_z1 : FnScope ["self"] ["self"] (defScope s_z1) := by walk_at "sc"
theorem st_z1 (a : V) : start ["self"] [a] = [some a] := rfl
def rd_z1 (K : PySem.W.Frag) (A : Ad) (sp_z12 : Sp) : TS := (tRet (tOp rIxH (tMeth A.z62 "take" sp_z12 [] E0 (tVar 0) (tCons (tC (.int 1)) tNil)) (tC (.int 0))))
theorem bd_z1 (T : Txt K mg A) {sp_z12 : Sp} (F_z12 : Fn P w K mg base 1 A.z12 ["self", "how_many"] sp_z12) : bD P w K mg base f cdv Ar outer s H E 1 "CallReader.take_number" s_z1 ["self"] (rd_z1 K A sp_z12) := fun hr => by
 have nd := sc_z1.nd
 exact (pss_one (ps_ret (pe_ix ix_h (F_z12.meth hr (by decide) T.cl_z62 T.m_z12 (pv 0) (pa_cons pe_int pa_nil)) pe_int (fun _ _ => rfl))))
theorem sc_y6 : FnScope ["head", "needed", "how_many_made", "room"] ["head", "needed", "how_many_made", "room"] (defScope s_y6) := by walk_at "sc"
theorem st_y6 (a b c d : V) : start ["head", "needed", "how_many_made", "room"] [a, b, c, d] = [some a, some b, some c, some d] := rfl
def rd_y6 (K : PySem.W.Frag) (A : Ad) (sp_z36 : Sp) (sp_z44 : Sp) (sp_z61 : Sp) : TS := (tSeq (tIfS (tTest (tOp (rI0 fun i j => .bl (decide (i < j))) (tCB rLenH (tCons (tVar 1) tNil)) (tCall sp_z36 [] E0 (tCons (tVar 0) tNil)))) (tRet (tC (.int (-2)))) tNext) (tSeq (tIfS (tAnd (tTest (tOp (rI0 fun i j => .bl (decide (j ≤ i))) (tVar 0) (tC (.int (192))))) (tNot (tTest (tChain (rI0 fun i j => .bl (decide (i ≤ j))) (rI0 fun i j => .bl (decide (i ≤ j))) (tC (.int 1)) (tCall sp_z44 [] E0 (tCons (tVar 1) tNil)) (tVar 2))))) (tRet (tC (.int (-3)))) tNext) (tSeq (tIfS (tTest (tOp (rI0 fun i j => .bl (decide (j < i))) (tOp (rI0 fun i j => .int (i + j)) (tVar 2) (tCall sp_z61 [] E0 (tCons (tVar 0) tNil))) (tVar 3))) (tRet (tC (.int (-4)))) tNext) (tRet (tC (.int (0)))))))
theorem bd_y6 (T : Txt K mg A) {sp_z36 : Sp} (F_z36 : Fn P w K mg base 1 A.z36 ["head"] sp_z36) {sp_z44 : Sp} (F_z44 : Fn P w K mg base 2 A.z44 ["needed"] sp_z44) {sp_z61 : Sp} (F_z61 : Fn P w K mg base 1 A.z61 ["head"] sp_z61) : bD P w K mg base f cdv Ar outer s H E 2 "fault_of" s_y6 ["head", "needed", "how_many_made", "room"] (rd_y6 K A sp_z36 sp_z44 sp_z61) := fun hr => by
 refine mq ?_; simp (disch := k_dflt (
 refine mz ?_
 have nd := sc_y6.nd
 exact (pss_cons (ps_if (pt_cmpR op_lt (pe_callB len_h (by rfl) T.b_len PySem.boot_len (pa_cons (pv 1) pa_nil)) (F_z36.c hr T.m_z36 (pa_cons (pv 0) pa_nil)) (nomark _)) (pss_one (ps_ret (gi T.c_z28))) pss_nil) (pss_cons (ps_if (PW.pt (pw_and (pt_cmpR op_ge (pv 0) (gi T.c_z64) (nomark _)) (pw_and1 (pt_not (pt_chain op_le op_le pe_int (F_z44.c hr T.m_z44 (pa_cons (pv 1) pa_nil)) (pv 2)))))) (pss_one (ps_ret (gi T.c_z31))) pss_nil) (pss_cons (ps_if (pt_cmpR op_gt (pe_op op_add (pv 2) (F_z61.c hr T.m_z61 (pa_cons (pv 0) pa_nil))) (pv 3) (nomark _)) (pss_one (ps_ret (gi T.c_y14))) pss_nil) (pss_one (ps_ret (gi T.c_y8)))))))) only [↓mr]
theorem sc_z68 : FnScope ["made", "head", "needed", "back", "i"] ["made", "head", "needed"] (defScope s_z68) := by walk_at "sc"
theorem st_z68 (a b c : V) : start ["made", "head", "needed", "back", "i"] [a, b, c] = [some a, some b, some c, none, none] := rfl
def rd_z68 (K : PySem.W.Frag) (A : Ad) (sp_z61 : Sp) (sp_z44 : Sp) : TS := (tIfS (tTest (tOp (rI0 fun i j => .bl (decide (i < j))) (tVar 1) (tC (.int (128))))) (tDrop (tBM K "list" rExtend (tVar 0) (tCons (tVar 2) tNil))) (tIfS (tTest (tOp (rI0 fun i j => .bl (decide (i < j))) (tVar 1) (tC (.int (192))))) (tDrop (tBM K "list" rExtend (tVar 0) (tCons (tOp rRep (tVar 2) (tCall sp_z61 [] E0 (tCons (tVar 1) tNil))) tNil))) (tSeq (tAsg (tCall sp_z44 [] E0 (tCons (tVar 2) tNil)) (gName 3)) (tFor (iRng1 (tCons (tCall sp_z61 [] E0 (tCons (tVar 1) tNil)) tNil)) (gName 4) (tDrop (tBM K "list" rAppend (tVar 0) (tCons (tOp rIxH (tVar 0) (tOp (rI0 fun i j => .int (i - j)) (tCB rLenH (tCons (tVar 0) tNil)) (tVar 3))) tNil)))))))
theorem bd_z68 (T : Txt K mg A) {sp_z61 : Sp} (F_z61 : Fn P w K mg base 1 A.z61 ["head"] sp_z61) {sp_z44 : Sp} (F_z44 : Fn P w K mg base 2 A.z44 ["needed"] sp_z44) : bD P w K mg base f cdv Ar outer s H E 2 "make_bytes" s_z68 ["made", "head", "needed", "back", "i"] (rd_z68 K A sp_z61 sp_z44) := fun hr => by
 refine mq ?_; simp (disch := k_dflt (
 refine mz ?_
 have nd := sc_z68.nd
 exact (pss_one (ps_if (pt_cmpR op_lt (pv 1) (gi T.c_z37) (nomark _)) (pss_one (ps_expr (pe_bm PySem.F.plainAttrs_list PySem.F.slot_list_extend PySem.F.type_list_extend mt_extend (pv 0) (pa_cons (pv 2) pa_nil)))) (pss_one (ps_if (pt_cmpR op_lt (pv 1) (gi T.c_z64) (nomark _)) (pss_one (ps_expr (pe_bm PySem.F.plainAttrs_list PySem.F.slot_list_extend PySem.F.type_list_extend mt_extend (pv 0) (pa_cons (pe_op op_rep (pv 2) (F_z61.c hr T.m_z61 (pa_cons (pv 1) pa_nil))) pa_nil)))) (pss_cons (ps_set (i := 3) nd rfl (Or.inl rfl) (F_z44.c hr T.m_z44 (pa_cons (pv 2) pa_nil))) (pss_one (ps_for PassesOwn.never rfl (pi_range1 (by rfl) T.b_range (pa_cons (F_z61.c hr T.m_z61 (pa_cons (pv 1) pa_nil)) pa_nil)) (pg_name (i := 4) nd rfl (Or.inl rfl)) (pss_one (ps_expr (pe_bm PySem.F.plainAttrs_list PySem.F.slot_list_append PySem.F.type_list_append mt_append (pv 0) (pa_cons (pe_ix ix_h (pv 0) (pe_op op_sub (pe_callB len_h (by rfl) T.b_len PySem.boot_len (pa_cons (pv 0) pa_nil)) (pv 3)) (fun _ _ => rfl)) pa_nil))))))))))))) only [↓mr]
theorem sc_z87 : FnScope ["data", "best", "i", "place", "commands", "texts", "command"] ["data"] (defScope s_z87) := by walk_at "sc"
theorem st_z87 (a : V) : start ["data", "best", "i", "place", "commands", "texts", "command"] [a] = [some a, none, none, none, none, none, none] := rfl
def rd_z87 (K : PySem.W.Frag) (A : Ad) (sp_z17 : Sp) (sp_z9 : Sp) (sp_z26 : Sp) (sp_z61 : Sp) (sp_z19 : Sp) : TS := (tSeq (tAsg (tLc (iRng1 (tCons (tOp (rI0 fun i j => .int (i + j)) (tCB rLenH (tCons (tVar 0) tNil)) (tC (.int 1))) tNil)) (gName 2) tYes (tLst tNil) [2]) (gName 1)) (tSeq (tFor (iRng3 (tCons (tOp (rI0 fun i j => .int (i - j)) (tCB rLenH (tCons (tVar 0) tNil)) (tC (.int 1))) (tCons (tUn (rU fun i => .int (-i)) (tC (.int 1))) (tCons (tUn (rU fun i => .int (-i)) (tC (.int 1))) tNil)))) (gName 3) (tSeq (tAsg (tOp rCat (tOp rCat (tCall sp_z17 [] E0 (tCons (tVar 0) (tCons (tVar 3) tNil))) (tCall sp_z9 [] E0 (tCons (tVar 0) (tCons (tVar 3) tNil)))) (tCall sp_z26 [] E0 (tCons (tVar 0) (tCons (tVar 3) tNil)))) (gName 4)) (tSeq (tAsg (tLc (iList K (tVar 4)) (gName 6) tYes (tOp rCat (tVar 6) (tOp rIxH (tVar 1) (tOp (rI0 fun i j => .int (i + j)) (tVar 3) (tCall sp_z61 [] E0 (tCons (tOp rIxH (tVar 6) (tC (.int 0))) tNil))))) [6]) (gName 5)) (tAsg (tMinK sp_z19 (tCons (tVar 5) tNil)) (gSub (tVar 1) (tVar 3) rSetL))))) (tRet (tOp rIxH (tVar 1) (tC (.int 0))))))
theorem bd_z87 (T : Txt K mg A) {sp_z17 : Sp} (F_z17 : Fn P w K mg base 1 A.z17 ["data", "place"] sp_z17) {sp_z9 : Sp} (F_z9 : Fn P w K mg base 2 A.z9 ["data", "place"] sp_z9) {sp_z26 : Sp} (F_z26 : Fn P w K mg base 2 A.z26 ["data", "place"] sp_z26) {sp_z61 : Sp} (F_z61 : Fn P w K mg base 1 A.z61 ["head"] sp_z61) {sp_z19 : Sp} (F_z19 : Fn P w K mg base 1 A.z19 ["text"] sp_z19) : bD P w K mg base f cdv Ar outer s H E 2 "pack_text" s_z87 ["data", "best", "i", "place", "commands", "texts", "command"] (rd_z87 K A sp_z17 sp_z9 sp_z26 sp_z61 sp_z19) := fun hr => by
 refine mq ?_; simp (disch := k_dflt (
 refine mz ?_
 have nd := sc_z87.nd
 exact (pss_cons (ps_set (i := 1) nd rfl (Or.inr rfl) (pe_lc rfl nd (pi_range1 (by rfl) T.b_range (pa_cons (pe_op op_add (pe_callB len_h (by rfl) T.b_len PySem.boot_len (pa_cons (pv 0) pa_nil)) pe_int) pa_nil)) (blkOk_by (own := [("i", 2)]) (by show blkC ["data", "best", "i", "place", "commands", "texts", "command"] (defScope s_z87) _ _ = true; decide +kernel)) (fun _ _ _ _ _ => pg_name (i := 2) nd rfl (Or.inl rfl)) (fun _ _ _ _ _ => pts_nil) (fun _ _ _ _ _ => (pe_lst pa_nil)))) (pss_cons (ps_for PassesOwn.never rfl (pi_range3 (by rfl) T.b_range (pa_cons (pe_op op_sub (pe_callB len_h (by rfl) T.b_len PySem.boot_len (pa_cons (pv 0) pa_nil)) pe_int) (pa_cons (pe_un un_neg pe_int) (pa_cons (pe_un un_neg pe_int) pa_nil)))) (pg_name (i := 3) nd rfl (Or.inr rfl)) (pss_cons (ps_set (i := 4) nd rfl (Or.inl rfl) (pe_op op_cat (pe_op op_cat (F_z17.c hr T.m_z17 (pa_cons (pv 0) (pa_cons (pv 3) pa_nil))) (F_z9.c hr T.m_z9 (pa_cons (pv 0) (pa_cons (pv 3) pa_nil)))) (F_z26.c hr T.m_z26 (pa_cons (pv 0) (pa_cons (pv 3) pa_nil))))) (pss_cons (ps_setLc rfl nd rfl rfl (sw_true rfl rfl rfl rfl) (pi_list (pv 4)) (blkOk_by (own := [("command", 6)]) (by show blkC ["data", "best", "i", "place", "commands", "texts", "command"] (defScope s_z87) _ _ = true; decide +kernel)) (fun _ _ _ _ _ => pg_name (i := 6) nd rfl (Or.inl rfl)) (fun _ _ _ _ _ => pts_nil) (fun _ _ _ _ _ => (pe_op op_cat (pv 6) (pe_ix ix_h (pv 1) (pe_op op_add (pv 3) (F_z61.c hr T.m_z61 (pa_cons (pe_ix ix_h (pv 6) pe_int (fun _ _ => rfl)) pa_nil))) (fun _ _ => rfl))))) (pss_one (ps_asg (pe_minKey F_z19 hr (by decide) rfl (by rfl) T.b_min (by rfl) T.m_z19 (pa_cons (pv 5) pa_nil)) (pg_sub (pv 1) (pv 3) set_list)))))) (pss_one (ps_ret (pe_ix ix_h (pv 1) pe_int (fun _ _ => rfl)))))))) only [↓mr]
theorem sc_y16 : FnScope ["machine", "left", "right", "width", "size", "rest", "bits"] ["machine", "left", "right", "width"] (defScope s_y16) := by walk_at "sc"
theorem st_y16 (a b c d : V) : start ["machine", "left", "right", "width", "size", "rest", "bits"] [a, b, c, d] = [some a, some b, some c, some d, none, none, none] := rfl
def rd_y16 (K : PySem.W.Frag) (A : Ad) (sp_z35 : Sp) (sp_z79 : Sp) : TS := (tSeq (tAsg (tDicGet A.y38 (tab_y38 A) (tC (.ref A.y38)) (tVar 3)) (gName 4)) (tSeq (tAsg (tOp (rI (fun _ j => 0 < j) fun i j => .int (i % j)) (tOp (rI0 fun i j => .int (i - j)) (tVar 1) (tVar 2)) (tVar 4)) (gName 5)) (tSeq (tAsg (tCall sp_z35 [] E0 (tCons (tVar 5) (tCons (tVar 4) tNil))) (gName 6)) (tSeq (tIfS (tTest (tOp (rI0 fun i j => .bl (decide (i < j))) (tVar 1) (tVar 2))) (tAug 6 (tC (.int (1))) (ipI fun i j => i + j)) tNext) (tSeq (tIfS (tTest (tOp (rI0 fun i j => .bl (decide (i < j))) (tOp (rI (fun _ j => 0 < j) fun i j => .int (i % j)) (tVar 1) (tC (.int 16))) (tOp (rI (fun _ j => 0 < j) fun i j => .int (i % j)) (tVar 2) (tC (.int 16))))) (tAug 6 (tC (.int (16))) (ipI fun i j => i + j)) tNext) (tSeq (tIfS (tTest (tOp rNe (tOp (rI0 fun i j => .int (i - j)) (tCall sp_z79 [] E0 (tCons (tVar 1) (tCons (tVar 4) tNil))) (tCall sp_z79 [] E0 (tCons (tVar 2) (tCons (tVar 4) tNil)))) (tCall sp_z79 [] E0 (tCons (tVar 5) (tCons (tVar 4) tNil))))) (tAug 6 (tC (.int (2048))) (ipI fun i j => i + j)) tNext) (sFld K (tVar 0) (tOp (rI0 fun i j => .int (Builtin.bitOr i j)) (tOp (rI0 fun i j => .int (Builtin.bitAnd i j)) (tFld K (tVar 0) "flags") (tUn (rU fun i => .int (Builtin.bitNot i)) (tC (.int (2261))))) (tVar 6)) "flags")))))))
theorem bd_y16 (T : Txt K mg A) {sp_z35 : Sp} (F_z35 : Fn P w K mg base 2 A.z35 ["rest", "size"] sp_z35) {sp_z79 : Sp} (F_z79 : Fn P w K mg base 1 A.z79 ["number", "size"] sp_z79) : bD P w K mg base f cdv Ar outer s H E 2 "compare" s_y16 ["machine", "left", "right", "width", "size", "rest", "bits"] (rd_y16 K A sp_z35 sp_z79) := fun hr => by
 refine mq ?_; simp (disch := k_dflt (
 refine mz ?_
 have nd := sc_y16.nd
 exact (pss_cons (ps_set (i := 4) nd rfl (Or.inl rfl) (pe_dicget T.t_y38 (pe_glob (by rfl) T.g_y38 (by rfl)) (pv 3) (fun _ _ => rfl))) (pss_cons (ps_set (i := 5) nd rfl (Or.inl rfl) (pe_op op_mod (pe_op op_sub (pv 1) (pv 2)) (pv 4))) (pss_cons (ps_set (i := 6) nd rfl (Or.inl rfl) (F_z35.c hr T.m_z35 (pa_cons (pv 5) (pa_cons (pv 4) pa_nil)))) (pss_cons (ps_if (pt_cmpR op_lt (pv 1) (pv 2) (nomark _)) (pss_one (ps_aug (i := 6) nd rfl (Or.inl rfl) (gi T.c_y32) ip_add)) pss_nil) (pss_cons (ps_if (pt_cmpR op_lt (pe_op op_mod (pv 1) pe_int) (pe_op op_mod (pv 2) pe_int) (nomark _)) (pss_one (ps_aug (i := 6) nd rfl (Or.inl rfl) (gi T.c_y41) ip_add)) pss_nil) (pss_cons (ps_if (pt_cmpR op_ne (pe_op op_sub (F_z79.c hr T.m_z79 (pa_cons (pv 1) (pa_cons (pv 4) pa_nil))) (F_z79.c hr T.m_z79 (pa_cons (pv 2) (pa_cons (pv 4) pa_nil)))) (F_z79.c hr T.m_z79 (pa_cons (pv 5) (pa_cons (pv 4) pa_nil))) (nomark _)) (pss_one (ps_aug (i := 6) nd rfl (Or.inl rfl) (gi T.c_y30) ip_add)) pss_nil) (pss_one (ps_fld (pv 0) (pe_op op_or (pe_op op_and (pe_fld (pv 0) rfl) (pe_un un_inv (gi T.c_z24))) (pv 6)) rfl)))))))))) only [↓mr]
theorem sc_y46 : FnScope ["machine", "width", "number"] ["machine", "width"] (defScope s_y46) := by walk_at "sc"
theorem st_y46 (a b : V) : start ["machine", "width", "number"] [a, b] = [some a, some b, none] := rfl
def rd_y46 (K : PySem.W.Frag) (A : Ad) (sp_z25 : Sp) (sp_z70 : Sp) (sp_y18 : Sp) : TS := (tSeq (tAsg (tCall sp_z25 [] E0 (tCons (tVar 0) (tCons (tC (.int (2))) (tCons (tVar 1) tNil)))) (gName 2)) (tSeq (tDrop (tCall sp_z70 [] E0 (tCons (tFld K (tVar 0) "cells") (tCons (tOp rIxH (tFld K (tVar 0) "regs") (tC (.int (3)))) (tCons (tVar 1) (tCons (tVar 2) tNil)))))) (tSeq (tDrop (tCall sp_y18 [] E0 (tCons (tVar 0) (tCons (tC (.int (2))) (tCons (tVar 1) tNil))))) (tDrop (tCall sp_y18 [] E0 (tCons (tVar 0) (tCons (tC (.int (3))) (tCons (tVar 1) tNil))))))))
theorem bd_y46 (T : Txt K mg A) {sp_z25 : Sp} (F_z25 : Fn P w K mg base 2 A.z25 ["machine", "which", "width"] sp_z25) {sp_z70 : Sp} (F_z70 : Fn P w K mg base 1 A.z70 ["cells", "place", "width", "number"] sp_z70) {sp_y18 : Sp} (F_y18 : Fn P w K mg base 2 A.y18 ["machine", "which", "width"] sp_y18) : bD P w K mg base f cdv Ar outer s H E 2 "movs" s_y46 ["machine", "width", "number"] (rd_y46 K A sp_z25 sp_z70 sp_y18) := fun hr => by
 refine mq ?_; simp (disch := k_dflt (
 refine mz ?_
 have nd := sc_y46.nd
 exact (pss_cons (ps_set (i := 2) nd rfl (Or.inl rfl) (F_z25.c hr T.m_z25 (pa_cons (pv 0) (pa_cons (gi T.c_y28) (pa_cons (pv 1) pa_nil))))) (pss_cons (ps_expr (F_z70.c hr T.m_z70 (pa_cons (pe_fld (pv 0) rfl) (pa_cons (pe_ix ix_h (pe_fld (pv 0) rfl) (gi T.c_y27) (fun _ _ => rfl)) (pa_cons (pv 1) (pa_cons (pv 2) pa_nil)))))) (pss_cons (ps_expr (F_y18.c hr T.m_y18 (pa_cons (pv 0) (pa_cons (gi T.c_y28) (pa_cons (pv 1) pa_nil))))) (pss_one (ps_expr (F_y18.c hr T.m_y18 (pa_cons (pv 0) (pa_cons (gi T.c_y27) (pa_cons (pv 1) pa_nil))))))))))) only [↓mr]
theorem sc_y48 : FnScope ["machine", "width"] ["machine", "width"] (defScope s_y48) := by walk_at "sc"
theorem st_y48 (a b : V) : start ["machine", "width"] [a, b] = [some a, some b] := rfl
def rd_y48 (K : PySem.W.Frag) (A : Ad) (sp_z70 : Sp) (sp_y18 : Sp) : TS := (tSeq (tDrop (tCall sp_z70 [] E0 (tCons (tFld K (tVar 0) "cells") (tCons (tOp rIxH (tFld K (tVar 0) "regs") (tC (.int (3)))) (tCons (tVar 1) (tCons (tOp rIxH (tFld K (tVar 0) "regs") (tC (.int (0)))) tNil)))))) (tDrop (tCall sp_y18 [] E0 (tCons (tVar 0) (tCons (tC (.int (3))) (tCons (tVar 1) tNil))))))
theorem bd_y48 (T : Txt K mg A) {sp_z70 : Sp} (F_z70 : Fn P w K mg base 1 A.z70 ["cells", "place", "width", "number"] sp_z70) {sp_y18 : Sp} (F_y18 : Fn P w K mg base 2 A.y18 ["machine", "which", "width"] sp_y18) : bD P w K mg base f cdv Ar outer s H E 2 "stos" s_y48 ["machine", "width"] (rd_y48 K A sp_z70 sp_y18) := fun hr => by
 refine mq ?_; simp (disch := k_dflt (
 refine mz ?_
 have nd := sc_y48.nd
 exact (pss_cons (ps_expr (F_z70.c hr T.m_z70 (pa_cons (pe_fld (pv 0) rfl) (pa_cons (pe_ix ix_h (pe_fld (pv 0) rfl) (gi T.c_y27) (fun _ _ => rfl)) (pa_cons (pv 1) (pa_cons (pe_ix ix_h (pe_fld (pv 0) rfl) (gi T.c_y42) (fun _ _ => rfl)) pa_nil)))))) (pss_one (ps_expr (F_y18.c hr T.m_y18 (pa_cons (pv 0) (pa_cons (gi T.c_y27) (pa_cons (pv 1) pa_nil))))))))) only [↓mr]
theorem sc_y47 : FnScope ["machine", "width"] ["machine", "width"] (defScope s_y47) := by walk_at "sc"
theorem st_y47 (a b : V) : start ["machine", "width"] [a, b] = [some a, some b] := rfl
def rd_y47 (K : PySem.W.Frag) (A : Ad) (sp_z21 : Sp) (sp_z25 : Sp) (sp_y18 : Sp) : TS := (tSeq (tDrop (tCall sp_z21 [] E0 (tCons (tVar 0) (tCons (tC (.int (0))) (tCons (tVar 1) (tCons (tCall sp_z25 [] E0 (tCons (tVar 0) (tCons (tC (.int (2))) (tCons (tVar 1) tNil)))) tNil)))))) (tDrop (tCall sp_y18 [] E0 (tCons (tVar 0) (tCons (tC (.int (2))) (tCons (tVar 1) tNil))))))
theorem bd_y47 (T : Txt K mg A) {sp_z21 : Sp} (F_z21 : Fn P w K mg base 1 A.z21 ["machine", "which", "width", "number"] sp_z21) {sp_z25 : Sp} (F_z25 : Fn P w K mg base 2 A.z25 ["machine", "which", "width"] sp_z25) {sp_y18 : Sp} (F_y18 : Fn P w K mg base 2 A.y18 ["machine", "which", "width"] sp_y18) : bD P w K mg base f cdv Ar outer s H E 2 "lods" s_y47 ["machine", "width"] (rd_y47 K A sp_z21 sp_z25 sp_y18) := fun hr => by
 have nd := sc_y47.nd
 exact (pss_cons (ps_expr (F_z21.c hr T.m_z21 (pa_cons (pv 0) (pa_cons (gi T.c_y42) (pa_cons (pv 1) (pa_cons (F_z25.c hr T.m_z25 (pa_cons (pv 0) (pa_cons (gi T.c_y28) (pa_cons (pv 1) pa_nil)))) pa_nil)))))) (pss_one (ps_expr (F_y18.c hr T.m_y18 (pa_cons (pv 0) (pa_cons (gi T.c_y28) (pa_cons (pv 1) pa_nil)))))))
theorem sc_z13 : FnScope ["numbers", "i"] ["numbers"] (defScope s_z13) := by walk_at "sc"
theorem st_z13 (a : V) : start ["numbers", "i"] [a] = [some a, none] := rfl
def rd_z13 (K : PySem.W.Frag) (A : Ad) (sp_z7 : Sp) : TS := (tRet (tLc (iRng3 (tCons (tC (.int 0)) (tCons (tCB rLenH (tCons (tVar 0) tNil)) (tCons (tC (.int (8))) tNil)))) (gName 1) tYes (tMake A.z57 sp_z7 [] E0 (tCons (tSl rSlH (tVar 0) (tPart (tVar 1)) (tPart (tOp (rI0 fun i j => .int (i + j)) (tVar 1) (tC (.int (8)))))) tNil)) [1]))
theorem bd_z13 (T : Txt K mg A) {sp_z7 : Sp} (F_z7 : Fn P w K mg base 1 A.z7 ["self", "numbers"] sp_z7) : bD P w K mg base f cdv Ar outer s H E 2 "instructions_of" s_z13 ["numbers", "i"] (rd_z13 K A sp_z7) := fun hr => by
 refine mq ?_; simp (disch := k_dflt (
 refine mz ?_
 have nd := sc_z13.nd
 exact (pss_one (ps_ret (pe_lc rfl nd (pi_range3 (by rfl) T.b_range (pa_cons pe_int (pa_cons (pe_callB len_h (by rfl) T.b_len PySem.boot_len (pa_cons (pv 0) pa_nil)) (pa_cons (gi T.c_y25) pa_nil)))) (blkOk_by (own := [("i", 1)]) (by show blkC ["numbers", "i"] (defScope s_z13) _ _ = true; decide +kernel)) (fun _ _ _ _ _ => pg_name (i := 1) nd rfl (Or.inl rfl)) (fun _ _ _ _ _ => pts_nil) (fun _ _ _ _ _ => (F_z7.make hr (by decide) (by rfl) T.k_z57 T.m_z57 (pa_cons (pe_slice sl_h (pv 0) (po_some (pv 1)) (po_some (pe_op op_add (pv 1) (gi T.c_y25)))) pa_nil)))))))) only [↓mr]
theorem sc_y49 : FnScope ["machine", "instruction"] ["machine", "instruction"] (defScope s_y49) := by walk_at "sc"
theorem st_y49 (a b : V) : start ["machine", "instruction"] [a, b] = [some a, some b] := rfl
def rd_y49 (K : PySem.W.Frag) (A : Ad) (sp_y39 : Sp) : TS := (tIfS (tB (tCall sp_y39 [] E0 (tCons (tVar 0) (tCons (tFld K (tVar 1) "cond") tNil)))) (sFld K (tVar 0) (tFld K (tVar 1) "to") "at") tNext)
theorem bd_y49 (T : Txt K mg A) {sp_y39 : Sp} (F_y39 : Fn P w K mg base 2 A.y39 ["machine", "cond"] sp_y39) : bD P w K mg base f cdv Ar outer s H E 2 "jump" s_y49 ["machine", "instruction"] (rd_y49 K A sp_y39) := fun hr => by
 have nd := sc_y49.nd
 exact (pss_one (ps_if (pt_val (F_y39.c hr T.m_y39 (pa_cons (pv 0) (pa_cons (pe_fld (pv 1) rfl) pa_nil)))) (pss_one (ps_fld (pv 0) (pe_fld (pv 1) rfl) rfl)) pss_nil))
theorem sc_y9 : FnScope ["cells", "place", "n", "width", "number", "lowest", "element"] ["cells", "place", "n", "width", "number"] (defScope s_y9) := by walk_at "sc"
theorem st_y9 (a b c d e : V) : start ["cells", "place", "n", "width", "number", "lowest", "element"] [a, b, c, d, e] = [some a, some b, some c, some d, some e, none, none] := rfl
def rd_y9 (K : PySem.W.Frag) (A : Ad) (sp_z49 : Sp) : TS := (tSeq (tAsg (tOp (rI (fun _ j => 0 < j) fun i j => .int (i % j)) (tVar 4) (tDicGet A.y38 (tab_y38 A) (tC (.ref A.y38)) (tVar 3))) (gName 5)) (tRet (tLc (iList K (tCall sp_z49 [] E0 (tCons (tVar 0) (tCons (tVar 1) (tCons (tVar 2) (tCons (tVar 3) tNil)))))) (gName 6) tYes (tOp rEq (tVar 6) (tVar 5)) [6])))
theorem bd_y9 (T : Txt K mg A) {sp_z49 : Sp} (F_z49 : Fn P w K mg base 2 A.z49 ["cells", "place", "n", "width"] sp_z49) : bD P w K mg base f cdv Ar outer s H E 2 "are_like" s_y9 ["cells", "place", "n", "width", "number", "lowest", "element"] (rd_y9 K A sp_z49) := fun hr => by
 refine mq ?_; simp (disch := k_dflt (
 refine mz ?_
 have nd := sc_y9.nd
 exact (pss_cons (ps_set (i := 5) nd rfl (Or.inr rfl) (pe_op op_mod (pv 4) (pe_dicget T.t_y38 (pe_glob (by rfl) T.g_y38 (by rfl)) (pv 3) (fun _ _ => rfl)))) (pss_one (ps_ret (pe_lc rfl nd (pi_list (F_z49.c hr T.m_z49 (pa_cons (pv 0) (pa_cons (pv 1) (pa_cons (pv 2) (pa_cons (pv 3) pa_nil)))))) (blkOk_by (own := [("element", 6)]) (by show blkC ["cells", "place", "n", "width", "number", "lowest", "element"] (defScope s_y9) _ _ = true; decide +kernel)) (fun _ _ _ _ _ => pg_name (i := 6) nd rfl (Or.inl rfl)) (fun _ _ _ _ _ => pts_nil) (fun _ _ _ _ _ => (pe_cmpR op_eq (pv 6) (pv 5) (nomark _))))))))) only [↓mr]
theorem sc_z14 : FnScope ["cells", "left", "right", "n", "width", "down", "lefts", "rights", "i"] ["cells", "left", "right", "n", "width", "down"] (defScope s_z14) := by walk_at "sc"
theorem st_z14 (a b c d e f : V) : start ["cells", "left", "right", "n", "width", "down", "lefts", "rights", "i"] [a, b, c, d, e, f] = [some a, some b, some c, some d, some e, some f, none, none, none] := rfl
def rd_z14 (K : PySem.W.Frag) (A : Ad) (sp_z49 : Sp) (sp_y7 : Sp) : TS := (tSeq (tAsg (tCall sp_z49 [] E0 (tCons (tVar 0) (tCons (tVar 1) (tCons (tVar 3) (tCons (tVar 4) tNil))))) (gName 6)) (tSeq (tAsg (tCall sp_z49 [] E0 (tCons (tVar 0) (tCons (tVar 2) (tCons (tVar 3) (tCons (tVar 4) tNil))))) (gName 7)) (tSeq (tFor (iList K (tCall sp_y7 [] E0 (tCons (tVar 3) (tCons (tVar 5) tNil)))) (gName 8) (tIfS (tTest (tOp rNe (tOp rIxH (tVar 6) (tVar 8)) (tOp rIxH (tVar 7) (tVar 8)))) (tRet (tVar 8)) tNext)) (tRet (tVar 3)))))
theorem bd_z14 (T : Txt K mg A) {sp_z49 : Sp} (F_z49 : Fn P w K mg base 2 A.z49 ["cells", "place", "n", "width"] sp_z49) {sp_y7 : Sp} (F_y7 : Fn P w K mg base 1 A.y7 ["n", "down"] sp_y7) : bD P w K mg base f cdv Ar outer s H E 2 "find_difference" s_z14 ["cells", "left", "right", "n", "width", "down", "lefts", "rights", "i"] (rd_z14 K A sp_z49 sp_y7) := fun hr => by
 refine mq ?_; simp (disch := k_dflt (
 refine mz ?_
 have nd := sc_z14.nd
 exact (pss_cons (ps_set (i := 6) nd rfl (Or.inl rfl) (F_z49.c hr T.m_z49 (pa_cons (pv 0) (pa_cons (pv 1) (pa_cons (pv 3) (pa_cons (pv 4) pa_nil)))))) (pss_cons (ps_set (i := 7) nd rfl (Or.inl rfl) (F_z49.c hr T.m_z49 (pa_cons (pv 0) (pa_cons (pv 2) (pa_cons (pv 3) (pa_cons (pv 4) pa_nil)))))) (pss_cons (ps_for PassesOwn.never rfl (pi_list (F_y7.c hr T.m_y7 (pa_cons (pv 3) (pa_cons (pv 5) pa_nil)))) (pg_name (i := 8) nd rfl (Or.inl rfl)) (pss_one (ps_if (pt_cmpR op_ne (pe_ix ix_h (pv 6) (pv 8) (fun _ _ => rfl)) (pe_ix ix_h (pv 7) (pv 8) (fun _ _ => rfl)) (nomark _)) (pss_one (ps_ret (pv 8))) pss_nil))) (pss_one (ps_ret (pv 3)))))))) only [↓mr]
theorem sc_y4 : FnScope ["cells", "place", "n", "width", "numbers"] ["cells", "place", "n", "width"] (defScope s_y4) := by walk_at "sc"
theorem st_y4 (a b c d : V) : start ["cells", "place", "n", "width", "numbers"] [a, b, c, d] = [some a, some b, some c, some d, none] := rfl
def rd_y4 (K : PySem.W.Frag) (A : Ad) (sp_z49 : Sp) (sp_y11 : Sp) : TS := (tSeq (tAsg (tCall sp_z49 [] E0 (tCons (tVar 0) (tCons (tVar 1) (tCons (tVar 2) (tCons (tVar 3) tNil))))) (gName 4)) (tDrop (tCall sp_y11 [] E0 (tCons (tVar 0) (tCons (tVar 1) (tCons (tVar 3) (tCons (tRevL (tCons (tVar 4) tNil)) tNil)))))))
theorem bd_y4 (T : Txt K mg A) {sp_z49 : Sp} (F_z49 : Fn P w K mg base 2 A.z49 ["cells", "place", "n", "width"] sp_z49) {sp_y11 : Sp} (F_y11 : Fn P w K mg base 2 A.y11 ["cells", "place", "width", "numbers"] sp_y11) : bD P w K mg base f cdv Ar outer s H E 2 "turn_row" s_y4 ["cells", "place", "n", "width", "numbers"] (rd_y4 K A sp_z49 sp_y11) := fun hr => by
 have nd := sc_y4.nd
 exact (pss_cons (ps_set (i := 4) nd rfl (Or.inl rfl) (F_z49.c hr T.m_z49 (pa_cons (pv 0) (pa_cons (pv 1) (pa_cons (pv 2) (pa_cons (pv 3) pa_nil)))))) (pss_one (ps_expr (F_y11.c hr T.m_y11 (pa_cons (pv 0) (pa_cons (pv 1) (pa_cons (pv 3) (pa_cons (pe_listRev rfl (by rfl) T.b_list (by rfl) T.b_reversed (pa_cons (pv 4) pa_nil)) pa_nil))))))))
theorem sc_z95 : FnScope ["cells", "place", "n", "width", "numbers", "number"] ["cells", "place", "n", "width"] (defScope s_z95) := by walk_at "sc"
theorem st_z95 (a b c d : V) : start ["cells", "place", "n", "width", "numbers", "number"] [a, b, c, d] = [some a, some b, some c, some d, none, none] := rfl
def rd_z95 (K : PySem.W.Frag) (A : Ad) (sp_z49 : Sp) (sp_y11 : Sp) (sp_z33 : Sp) : TS := (tSeq (tAsg (tCall sp_z49 [] E0 (tCons (tVar 0) (tCons (tVar 1) (tCons (tVar 2) (tCons (tVar 3) tNil))))) (gName 4)) (tDrop (tCall sp_y11 [] E0 (tCons (tVar 0) (tCons (tVar 1) (tCons (tVar 3) (tCons (tLc (iList K (tVar 4)) (gName 5) tYes (tCall sp_z33 [] E0 (tCons (tVar 5) (tCons (tVar 3) tNil))) [5]) tNil)))))))
theorem bd_z95 (T : Txt K mg A) {sp_z49 : Sp} (F_z49 : Fn P w K mg base 2 A.z49 ["cells", "place", "n", "width"] sp_z49) {sp_y11 : Sp} (F_y11 : Fn P w K mg base 2 A.y11 ["cells", "place", "width", "numbers"] sp_y11) {sp_z33 : Sp} (F_z33 : Fn P w K mg base 1 A.z33 ["number", "width"] sp_z33) : bD P w K mg base f cdv Ar outer s H E 2 "swap_row" s_z95 ["cells", "place", "n", "width", "numbers", "number"] (rd_z95 K A sp_z49 sp_y11 sp_z33) := fun hr => by
 refine mq ?_; simp (disch := k_dflt (
 refine mz ?_
 have nd := sc_z95.nd
 exact (pss_cons (ps_set (i := 4) nd rfl (Or.inl rfl) (F_z49.c hr T.m_z49 (pa_cons (pv 0) (pa_cons (pv 1) (pa_cons (pv 2) (pa_cons (pv 3) pa_nil)))))) (pss_one (ps_expr (F_y11.c hr T.m_y11 (pa_cons (pv 0) (pa_cons (pv 1) (pa_cons (pv 3) (pa_cons (pe_lc rfl nd (pi_list (pv 4)) (blkOk_by (own := [("number", 5)]) (by show blkC ["cells", "place", "n", "width", "numbers", "number"] (defScope s_z95) _ _ = true; decide +kernel)) (fun _ _ _ _ _ => pg_name (i := 5) nd rfl (Or.inl rfl)) (fun _ _ _ _ _ => pts_nil) (fun _ _ _ _ _ => (F_z33.c hr T.m_z33 (pa_cons (pv 5) (pa_cons (pv 3) pa_nil))))) pa_nil)))))))))) only [↓mr]
theorem sc_z48 : FnScope ["machine", "numbers", "data"] ["machine", "numbers", "data"] (defScope s_z48) := by walk_at "sc"
theorem st_z48 (a b c : V) : start ["machine", "numbers", "data"] [a, b, c] = [some a, some b, some c] := rfl
def rd_z48 (K : PySem.W.Frag) (A : Ad) (sp_z74 : Sp) : TS := (tSeq (tIfS (tNot (tB (tCall sp_z74 [] E0 (tCons (tVar 2) (tCons (tC (.int (256))) tNil))))) (tRet (tLst (tCons (tC (.int (-1))) tNil))) tNext) (tSeq (sFld K (tVar 0) (tCB rListOfH (tCons (tVar 2) tNil)) "cells") (tRet (tLst (tCons (tC (.int (0))) tNil)))))
theorem bd_z48 (T : Txt K mg A) {sp_z74 : Sp} (F_z74 : Fn P w K mg base 2 A.z74 ["data", "most"] sp_z74) : bD P w K mg base f cdv Ar outer s H E 2 "call_memory" s_z48 ["machine", "numbers", "data"] (rd_z48 K A sp_z74) := fun hr => by
 refine mq ?_; simp (disch := k_dflt (
 refine mz ?_
 have nd := sc_z48.nd
 exact (pss_cons (ps_if (pt_not (pt_val (F_z74.c hr T.m_z74 (pa_cons (pv 2) (pa_cons (gi T.c_z69) pa_nil))))) (pss_one (ps_ret (pe_lst (pa_cons (gi T.c_y13) pa_nil)))) pss_nil) (pss_cons (ps_fld (pv 0) (pe_callTy listof_h (by rfl) T.b_list PyProof.Rows.boot_list (pa_cons (pv 2) pa_nil)) rfl) (pss_one (ps_ret (pe_lst (pa_cons (gi T.c_y51) pa_nil)))))))) only [↓mr]
theorem sc_z76 : FnScope ["machine", "numbers", "data", "dst", "src", "n", "width", "down"] ["machine", "numbers", "data"] (defScope s_z76) := by walk_at "sc"
theorem st_z76 (a b c : V) : start ["machine", "numbers", "data", "dst", "src", "n", "width", "down"] [a, b, c] = [some a, some b, some c, none, none, none, none, none] := rfl
def rd_z76 (K : PySem.W.Frag) (A : Ad) (sp_z34 : Sp) (sp_z94 : Sp) : TS := (tSeq (tAsg (tOp rIxH (tVar 1) (tC (.int 0))) (gName 3)) (tSeq (tAsg (tOp rIxH (tVar 1) (tC (.int 1))) (gName 4)) (tSeq (tAsg (tOp rIxH (tVar 1) (tC (.int 2))) (gName 5)) (tSeq (tAsg (tOp rIxH (tVar 1) (tC (.int 3))) (gName 6)) (tSeq (tAsg (tOp rIxH (tVar 1) (tC (.int 4))) (gName 7)) (tSeq (tIfS (tOr (tNot (tB (tCall sp_z34 [] E0 (tCons (tFld K (tVar 0) "cells") (tCons (tVar 3) (tCons (tVar 4) (tCons (tVar 5) (tCons (tVar 6) tNil)))))))) (tNot (tTest (tChain (rI0 fun i j => .bl (decide (i ≤ j))) (rI0 fun i j => .bl (decide (i ≤ j))) (tC (.int 0)) (tVar 7) (tC (.int 1)))))) (tRet (tLst (tCons (tC (.int (-1))) tNil))) tNext) (tSeq (tDrop (tCall sp_z94 [] E0 (tCons (tFld K (tVar 0) "cells") (tCons (tVar 3) (tCons (tVar 4) (tCons (tVar 5) (tCons (tVar 6) (tCons (tOp rEq (tVar 7) (tC (.int 1))) tNil)))))))) (tRet (tLst (tCons (tC (.int (0))) tNil))))))))))
theorem bd_z76 (T : Txt K mg A) {sp_z34 : Sp} (F_z34 : Fn P w K mg base 2 A.z34 ["cells", "one", "other", "n", "width"] sp_z34) {sp_z94 : Sp} (F_z94 : Fn P w K mg base 2 A.z94 ["cells", "dst", "src", "n", "width", "down"] sp_z94) : bD P w K mg base f cdv Ar outer s H E 2 "call_copy" s_z76 ["machine", "numbers", "data", "dst", "src", "n", "width", "down"] (rd_z76 K A sp_z34 sp_z94) := fun hr => by
 refine mq ?_; simp (disch := k_dflt (
 refine mz ?_
 have nd := sc_z76.nd
 exact (pss_cons (ps_set (i := 3) nd rfl (Or.inl rfl) (pe_ix ix_h (pv 1) pe_int (fun _ _ => rfl))) (pss_cons (ps_set (i := 4) nd rfl (Or.inl rfl) (pe_ix ix_h (pv 1) pe_int (fun _ _ => rfl))) (pss_cons (ps_set (i := 5) nd rfl (Or.inl rfl) (pe_ix ix_h (pv 1) pe_int (fun _ _ => rfl))) (pss_cons (ps_set (i := 6) nd rfl (Or.inl rfl) (pe_ix ix_h (pv 1) pe_int (fun _ _ => rfl))) (pss_cons (ps_set (i := 7) nd rfl (Or.inl rfl) (pe_ix ix_h (pv 1) pe_int (fun _ _ => rfl))) (pss_cons (ps_if (PW.pt (pw_or (pt_not (pt_val (F_z34.c hr T.m_z34 (pa_cons (pe_fld (pv 0) rfl) (pa_cons (pv 3) (pa_cons (pv 4) (pa_cons (pv 5) (pa_cons (pv 6) pa_nil)))))))) (pw_or1 (pt_not (pt_chain op_le op_le pe_int (pv 7) pe_int))))) (pss_one (ps_ret (pe_lst (pa_cons (gi T.c_y13) pa_nil)))) pss_nil) (pss_cons (ps_expr (F_z94.c hr T.m_z94 (pa_cons (pe_fld (pv 0) rfl) (pa_cons (pv 3) (pa_cons (pv 4) (pa_cons (pv 5) (pa_cons (pv 6) (pa_cons (pe_cmpR op_eq (pv 7) pe_int (nomark _)) pa_nil)))))))) (pss_one (ps_ret (pe_lst (pa_cons (gi T.c_y51) pa_nil))))))))))))) only [↓mr]
theorem sc_z89 : FnScope ["machine", "numbers", "data", "dst", "n", "width", "value"] ["machine", "numbers", "data"] (defScope s_z89) := by walk_at "sc"
theorem st_z89 (a b c : V) : start ["machine", "numbers", "data", "dst", "n", "width", "value"] [a, b, c] = [some a, some b, some c, none, none, none, none] := rfl
def rd_z89 (K : PySem.W.Frag) (A : Ad) (sp_y26 : Sp) (sp_y2 : Sp) : TS := (tSeq (tAsg (tOp rIxH (tVar 1) (tC (.int 0))) (gName 3)) (tSeq (tAsg (tOp rIxH (tVar 1) (tC (.int 1))) (gName 4)) (tSeq (tAsg (tOp rIxH (tVar 1) (tC (.int 2))) (gName 5)) (tSeq (tAsg (tOp rIxH (tVar 1) (tC (.int 3))) (gName 6)) (tSeq (tIfS (tOr (tNot (tB (tCall sp_y26 [] E0 (tCons (tFld K (tVar 0) "cells") (tCons (tVar 3) (tCons (tVar 4) (tCons (tVar 5) tNil))))))) (tNot (tTest (tChain (rI0 fun i j => .bl (decide (i ≤ j))) (rI0 fun i j => .bl (decide (i < j))) (tC (.int 0)) (tVar 6) (tC (.int (18446744073709551616))))))) (tRet (tLst (tCons (tC (.int (-1))) tNil))) tNext) (tSeq (tDrop (tCall sp_y2 [] E0 (tCons (tFld K (tVar 0) "cells") (tCons (tVar 3) (tCons (tVar 4) (tCons (tVar 5) (tCons (tVar 6) tNil))))))) (tRet (tLst (tCons (tC (.int (0))) tNil)))))))))
theorem bd_z89 (T : Txt K mg A) {sp_y26 : Sp} (F_y26 : Fn P w K mg base 1 A.y26 ["cells", "place", "n", "width"] sp_y26) {sp_y2 : Sp} (F_y2 : Fn P w K mg base 2 A.y2 ["cells", "dst", "n", "width", "number"] sp_y2) : bD P w K mg base f cdv Ar outer s H E 2 "call_fill" s_z89 ["machine", "numbers", "data", "dst", "n", "width", "value"] (rd_z89 K A sp_y26 sp_y2) := fun hr => by
 refine mq ?_; simp (disch := k_dflt (
 refine mz ?_
 have nd := sc_z89.nd
 exact (pss_cons (ps_set (i := 3) nd rfl (Or.inl rfl) (pe_ix ix_h (pv 1) pe_int (fun _ _ => rfl))) (pss_cons (ps_set (i := 4) nd rfl (Or.inl rfl) (pe_ix ix_h (pv 1) pe_int (fun _ _ => rfl))) (pss_cons (ps_set (i := 5) nd rfl (Or.inl rfl) (pe_ix ix_h (pv 1) pe_int (fun _ _ => rfl))) (pss_cons (ps_set (i := 6) nd rfl (Or.inl rfl) (pe_ix ix_h (pv 1) pe_int (fun _ _ => rfl))) (pss_cons (ps_if (PW.pt (pw_or (pt_not (pt_val (F_y26.c hr T.m_y26 (pa_cons (pe_fld (pv 0) rfl) (pa_cons (pv 3) (pa_cons (pv 4) (pa_cons (pv 5) pa_nil))))))) (pw_or1 (pt_not (pt_chain op_le op_lt pe_int (pv 6) (gi T.c_y1)))))) (pss_one (ps_ret (pe_lst (pa_cons (gi T.c_y13) pa_nil)))) pss_nil) (pss_cons (ps_expr (F_y2.c hr T.m_y2 (pa_cons (pe_fld (pv 0) rfl) (pa_cons (pv 3) (pa_cons (pv 4) (pa_cons (pv 5) (pa_cons (pv 6) pa_nil))))))) (pss_one (ps_ret (pe_lst (pa_cons (gi T.c_y51) pa_nil)))))))))))) only [↓mr]
theorem sc_z92 : FnScope ["machine", "numbers", "data", "at", "period", "n"] ["machine", "numbers", "data"] (defScope s_z92) := by walk_at "sc"
theorem st_z92 (a b c : V) : start ["machine", "numbers", "data", "at", "period", "n"] [a, b, c] = [some a, some b, some c, none, none, none] := rfl
def rd_z92 (K : PySem.W.Frag) (A : Ad) (sp_y26 : Sp) (sp_z94 : Sp) : TS := (tSeq (tAsg (tOp rIxH (tVar 1) (tC (.int 0))) (gName 3)) (tSeq (tAsg (tOp rIxH (tVar 1) (tC (.int 1))) (gName 4)) (tSeq (tAsg (tOp rIxH (tVar 1) (tC (.int 2))) (gName 5)) (tSeq (tIfS (tOr (tNot (tB (tCall sp_y26 [] E0 (tCons (tFld K (tVar 0) "cells") (tCons (tVar 3) (tCons (tVar 5) (tCons (tC (.int 1)) tNil))))))) (tNot (tTest (tChain (rI0 fun i j => .bl (decide (i ≤ j))) (rI0 fun i j => .bl (decide (i ≤ j))) (tC (.int 1)) (tVar 4) (tVar 3))))) (tRet (tLst (tCons (tC (.int (-1))) tNil))) tNext) (tSeq (tDrop (tCall sp_z94 [] E0 (tCons (tFld K (tVar 0) "cells") (tCons (tVar 3) (tCons (tOp (rI0 fun i j => .int (i - j)) (tVar 3) (tVar 4)) (tCons (tVar 5) (tCons (tC (.int 1)) (tCons (tC (.bl false)) tNil)))))))) (tRet (tLst (tCons (tC (.int (0))) tNil))))))))
theorem bd_z92 (T : Txt K mg A) {sp_y26 : Sp} (F_y26 : Fn P w K mg base 1 A.y26 ["cells", "place", "n", "width"] sp_y26) {sp_z94 : Sp} (F_z94 : Fn P w K mg base 2 A.z94 ["cells", "dst", "src", "n", "width", "down"] sp_z94) : bD P w K mg base f cdv Ar outer s H E 2 "call_echo" s_z92 ["machine", "numbers", "data", "at", "period", "n"] (rd_z92 K A sp_y26 sp_z94) := fun hr => by
 refine mq ?_; simp (disch := k_dflt (
 refine mz ?_
 have nd := sc_z92.nd
 exact (pss_cons (ps_set (i := 3) nd rfl (Or.inl rfl) (pe_ix ix_h (pv 1) pe_int (fun _ _ => rfl))) (pss_cons (ps_set (i := 4) nd rfl (Or.inl rfl) (pe_ix ix_h (pv 1) pe_int (fun _ _ => rfl))) (pss_cons (ps_set (i := 5) nd rfl (Or.inl rfl) (pe_ix ix_h (pv 1) pe_int (fun _ _ => rfl))) (pss_cons (ps_if (PW.pt (pw_or (pt_not (pt_val (F_y26.c hr T.m_y26 (pa_cons (pe_fld (pv 0) rfl) (pa_cons (pv 3) (pa_cons (pv 5) (pa_cons pe_int pa_nil))))))) (pw_or1 (pt_not (pt_chain op_le op_le pe_int (pv 4) (pv 3)))))) (pss_one (ps_ret (pe_lst (pa_cons (gi T.c_y13) pa_nil)))) pss_nil) (pss_cons (ps_expr (F_z94.c hr T.m_z94 (pa_cons (pe_fld (pv 0) rfl) (pa_cons (pv 3) (pa_cons (pe_op op_sub (pv 3) (pv 4)) (pa_cons (pv 5) (pa_cons pe_int (pa_cons pe_bl pa_nil)))))))) (pss_one (ps_ret (pe_lst (pa_cons (gi T.c_y51) pa_nil))))))))))) only [↓mr]
theorem sc_z2 : FnScope ["self"] ["self"] (defScope s_z2) := by walk_at "sc"
theorem st_z2 (a : V) : start ["self"] [a] = [some a] := rfl
def rd_z2 (K : PySem.W.Frag) (A : Ad) (sp_z12 : Sp) (sp_z1 : Sp) : TS := (tRet (tMeth A.z62 "take" sp_z12 [] E0 (tVar 0) (tCons (tMeth A.z62 "take_number" sp_z1 [] E0 (tVar 0) tNil) tNil)))
theorem bd_z2 (T : Txt K mg A) {sp_z12 : Sp} (F_z12 : Fn P w K mg base 1 A.z12 ["self", "how_many"] sp_z12) {sp_z1 : Sp} (F_z1 : Fn P w K mg base 2 A.z1 ["self"] sp_z1) : bD P w K mg base f cdv Ar outer s H E 2 "CallReader.take_list" s_z2 ["self"] (rd_z2 K A sp_z12 sp_z1) := fun hr => by
 have nd := sc_z2.nd
 exact (pss_one (ps_ret (F_z12.meth hr (by decide) T.cl_z62 T.m_z12 (pv 0) (pa_cons (F_z1.meth0 hr (by decide) T.cl_z62 T.m_z1 (pv 0)) pa_nil))))
theorem sc_z42 : FnScope ["packed", "room", "made", "place", "head", "behind", "needed", "fault"] ["packed", "room"] (defScope s_z42) := by walk_at "sc"
theorem st_z42 (a b : V) : start ["packed", "room", "made", "place", "head", "behind", "needed", "fault"] [a, b] = [some a, some b, none, none, none, none, none, none] := rfl
def rd_z42 (K : PySem.W.Frag) (A : Ad) (sp_z36 : Sp) (sp_y6 : Sp) (sp_z68 : Sp) : TS := (tSeq (tAsg (tLst tNil) (gName 2)) (tSeq (tAsg (tC (.int 0)) (gName 3)) (tSeq (tWhile (tTest (tOp (rI0 fun i j => .bl (decide (i < j))) (tVar 3) (tCB rLenH (tCons (tVar 0) tNil)))) (tSeq (tAsg (tOp rIxH (tVar 0) (tVar 3)) (gName 4)) (tSeq (tAsg (tOp (rI0 fun i j => .int (i + j)) (tOp (rI0 fun i j => .int (i + j)) (tVar 3) (tC (.int 1))) (tCall sp_z36 [] E0 (tCons (tVar 4) tNil))) (gName 5)) (tSeq (tAsg (tSl rSlH (tVar 0) (tPart (tOp (rI0 fun i j => .int (i + j)) (tVar 3) (tC (.int 1)))) (tPart (tVar 5))) (gName 6)) (tSeq (tAsg (tCall sp_y6 [] E0 (tCons (tVar 4) (tCons (tVar 6) (tCons (tCB rLenH (tCons (tVar 2) tNil)) (tCons (tVar 1) tNil))))) (gName 7)) (tSeq (tIfS (tTest (tOp rNe (tVar 7) (tC (.int (0))))) (tRet (tTup (tCons (tVar 7) (tCons (tLst tNil) tNil)))) tNext) (tSeq (tDrop (tCall sp_z68 [] E0 (tCons (tVar 2) (tCons (tVar 4) (tCons (tVar 6) tNil))))) (tAsg (tVar 5) (gName 3))))))))) (tRet (tTup (tCons (tC (.int (0))) (tCons (tVar 2) tNil)))))))
theorem bd_z42 (T : Txt K mg A) {sp_z36 : Sp} (F_z36 : Fn P w K mg base 1 A.z36 ["head"] sp_z36) {sp_y6 : Sp} (F_y6 : Fn P w K mg base 3 A.y6 ["head", "needed", "how_many_made", "room"] sp_y6) {sp_z68 : Sp} (F_z68 : Fn P w K mg base 3 A.z68 ["made", "head", "needed"] sp_z68) : bD P w K mg base f cdv Ar outer s H E 3 "unpack_text" s_z42 ["packed", "room", "made", "place", "head", "behind", "needed", "fault"] (rd_z42 K A sp_z36 sp_y6 sp_z68) := fun hr => by
 refine mq ?_; simp (disch := k_dflt (
 refine mz ?_
 have nd := sc_z42.nd
 exact (pss_cons (ps_set (i := 2) nd rfl (Or.inl rfl) (pe_lst pa_nil)) (pss_cons (ps_set (i := 3) nd rfl (Or.inl rfl) pe_int) (pss_cons (ps_while PassesOwn.never (pt_cmpR op_lt (pv 3) (pe_callB len_h (by rfl) T.b_len PySem.boot_len (pa_cons (pv 0) pa_nil)) (nomark _)) (pss_cons (ps_set (i := 4) nd rfl (Or.inl rfl) (pe_ix ix_h (pv 0) (pv 3) (fun _ _ => rfl))) (pss_cons (ps_set (i := 5) nd rfl (Or.inl rfl) (pe_op op_add (pe_op op_add (pv 3) pe_int) (F_z36.c hr T.m_z36 (pa_cons (pv 4) pa_nil)))) (pss_cons (ps_set (i := 6) nd rfl (Or.inl rfl) (pe_slice sl_h (pv 0) (po_some (pe_op op_add (pv 3) pe_int)) (po_some (pv 5)))) (pss_cons (ps_set (i := 7) nd rfl (Or.inl rfl) (F_y6.c hr T.m_y6 (pa_cons (pv 4) (pa_cons (pv 6) (pa_cons (pe_callB len_h (by rfl) T.b_len PySem.boot_len (pa_cons (pv 2) pa_nil)) (pa_cons (pv 1) pa_nil)))))) (pss_cons (ps_if (pt_cmpR op_ne (pv 7) (gi T.c_y8) (nomark _)) (pss_one (ps_ret (pe_tup (pa_cons (pv 7) (pa_cons (pe_lst pa_nil) pa_nil))))) pss_nil) (pss_cons (ps_expr (F_z68.c hr T.m_z68 (pa_cons (pv 2) (pa_cons (pv 4) (pa_cons (pv 6) pa_nil))))) (pss_one (ps_set (i := 3) nd rfl (Or.inl rfl) (pv 5)))))))))) (pss_one (ps_ret (pe_tup (pa_cons (gi T.c_y8) (pa_cons (pv 2) pa_nil)))))))))) only [↓mr]
theorem sc_y45 : FnScope ["machine", "width"] ["machine", "width"] (defScope s_y45) := by walk_at "sc"
theorem st_y45 (a b : V) : start ["machine", "width"] [a, b] = [some a, some b] := rfl
def rd_y45 (K : PySem.W.Frag) (A : Ad) (sp_y16 : Sp) (sp_z25 : Sp) (sp_z51 : Sp) (sp_y18 : Sp) : TS := (tSeq (tDrop (tCall sp_y16 [] E0 (tCons (tVar 0) (tCons (tCall sp_z51 [] E0 (tCons (tVar 0) (tCons (tVar 1) tNil))) (tCons (tCall sp_z25 [] E0 (tCons (tVar 0) (tCons (tC (.int (3))) (tCons (tVar 1) tNil)))) (tCons (tVar 1) tNil)))))) (tDrop (tCall sp_y18 [] E0 (tCons (tVar 0) (tCons (tC (.int (3))) (tCons (tVar 1) tNil))))))
theorem bd_y45 (T : Txt K mg A) {sp_y16 : Sp} (F_y16 : Fn P w K mg base 3 A.y16 ["machine", "left", "right", "width"] sp_y16) {sp_z25 : Sp} (F_z25 : Fn P w K mg base 2 A.z25 ["machine", "which", "width"] sp_z25) {sp_z51 : Sp} (F_z51 : Fn P w K mg base 1 A.z51 ["machine", "width"] sp_z51) {sp_y18 : Sp} (F_y18 : Fn P w K mg base 2 A.y18 ["machine", "which", "width"] sp_y18) : bD P w K mg base f cdv Ar outer s H E 3 "scas" s_y45 ["machine", "width"] (rd_y45 K A sp_y16 sp_z25 sp_z51 sp_y18) := fun hr => by
 refine mq ?_; simp (disch := k_dflt (
 refine mz ?_
 have nd := sc_y45.nd
 exact (pss_cons (ps_expr (F_y16.c hr T.m_y16 (pa_cons (pv 0) (pa_cons (F_z51.c hr T.m_z51 (pa_cons (pv 0) (pa_cons (pv 1) pa_nil))) (pa_cons (F_z25.c hr T.m_z25 (pa_cons (pv 0) (pa_cons (gi T.c_y27) (pa_cons (pv 1) pa_nil)))) (pa_cons (pv 1) pa_nil)))))) (pss_one (ps_expr (F_y18.c hr T.m_y18 (pa_cons (pv 0) (pa_cons (gi T.c_y27) (pa_cons (pv 1) pa_nil))))))))) only [↓mr]
theorem sc_y50 : FnScope ["machine", "width", "left", "right"] ["machine", "width"] (defScope s_y50) := by walk_at "sc"
theorem st_y50 (a b : V) : start ["machine", "width", "left", "right"] [a, b] = [some a, some b, none, none] := rfl
def rd_y50 (K : PySem.W.Frag) (A : Ad) (sp_z25 : Sp) (sp_y16 : Sp) (sp_y18 : Sp) : TS := (tSeq (tAsg (tCall sp_z25 [] E0 (tCons (tVar 0) (tCons (tC (.int (2))) (tCons (tVar 1) tNil)))) (gName 2)) (tSeq (tAsg (tCall sp_z25 [] E0 (tCons (tVar 0) (tCons (tC (.int (3))) (tCons (tVar 1) tNil)))) (gName 3)) (tSeq (tDrop (tCall sp_y16 [] E0 (tCons (tVar 0) (tCons (tVar 2) (tCons (tVar 3) (tCons (tVar 1) tNil)))))) (tSeq (tDrop (tCall sp_y18 [] E0 (tCons (tVar 0) (tCons (tC (.int (2))) (tCons (tVar 1) tNil))))) (tDrop (tCall sp_y18 [] E0 (tCons (tVar 0) (tCons (tC (.int (3))) (tCons (tVar 1) tNil)))))))))
theorem bd_y50 (T : Txt K mg A) {sp_z25 : Sp} (F_z25 : Fn P w K mg base 2 A.z25 ["machine", "which", "width"] sp_z25) {sp_y16 : Sp} (F_y16 : Fn P w K mg base 3 A.y16 ["machine", "left", "right", "width"] sp_y16) {sp_y18 : Sp} (F_y18 : Fn P w K mg base 2 A.y18 ["machine", "which", "width"] sp_y18) : bD P w K mg base f cdv Ar outer s H E 3 "cmps" s_y50 ["machine", "width", "left", "right"] (rd_y50 K A sp_z25 sp_y16 sp_y18) := fun hr => by
 refine mq ?_; simp (disch := k_dflt (
 refine mz ?_
 have nd := sc_y50.nd
 exact (pss_cons (ps_set (i := 2) nd rfl (Or.inl rfl) (F_z25.c hr T.m_z25 (pa_cons (pv 0) (pa_cons (gi T.c_y28) (pa_cons (pv 1) pa_nil))))) (pss_cons (ps_set (i := 3) nd rfl (Or.inl rfl) (F_z25.c hr T.m_z25 (pa_cons (pv 0) (pa_cons (gi T.c_y27) (pa_cons (pv 1) pa_nil))))) (pss_cons (ps_expr (F_y16.c hr T.m_y16 (pa_cons (pv 0) (pa_cons (pv 2) (pa_cons (pv 3) (pa_cons (pv 1) pa_nil)))))) (pss_cons (ps_expr (F_y18.c hr T.m_y18 (pa_cons (pv 0) (pa_cons (gi T.c_y28) (pa_cons (pv 1) pa_nil))))) (pss_one (ps_expr (F_y18.c hr T.m_y18 (pa_cons (pv 0) (pa_cons (gi T.c_y27) (pa_cons (pv 1) pa_nil)))))))))))) only [↓mr]
theorem sc_y3 : FnScope ["machine", "instruction", "deed"] ["machine", "instruction"] (defScope s_y3) := by walk_at "sc"
theorem st_y3 (a b : V) : start ["machine", "instruction", "deed"] [a, b] = [some a, some b, none] := rfl
def rd_y3 (K : PySem.W.Frag) (A : Ad) (OK : Nat → Addr → List Str → Sp → Prop) (sp_z30 : Sp) : TS := (tSeq (tIfS (tB (tCall sp_z30 [] E0 (tCons (tVar 0) (tCons (tVar 1) tNil)))) (tRet (tTup (tCons (tC (.int (3))) (tCons (tC (.int 0)) tNil)))) tNext) (tSeq (tAsg (tDicGet A.z55 (tab_z55 A) (tC (.ref A.z55)) (tFld K (tVar 1) "op")) (gName 2)) (tSeq (sFldAug K (tVar 0) (tC (.int 1)) rAdd "at") (tSeq (tDrop (tCallV OK 2 (tCons (tVar 0) (tCons (tVar 1) tNil)))) (tRet (tTup (tCons (tC (.int (0))) (tCons (tC (.int 1)) tNil))))))))
theorem bd_y3 (T : Txt K mg A) {sp_z30 : Sp} (F_z30 : Fn P w K mg base 2 A.z30 ["machine", "instruction"] sp_z30) : bD P w K mg base f cdv Ar outer s H E 3 "do_plain" s_y3 ["machine", "instruction", "deed"] (rd_y3 K A (fun k f ps sp => Fn P w K mg base k f ps sp ∧ k ≤ 3) sp_z30) := fun hr => by
 refine mq ?_; simp (disch := k_dflt (
 refine mz ?_
 have nd := sc_y3.nd
 exact (pss_cons (ps_if (pt_val (F_z30.c hr T.m_z30 (pa_cons (pv 0) (pa_cons (pv 1) pa_nil)))) (pss_one (ps_ret (pe_tup (pa_cons (gi T.c_z88) (pa_cons pe_int pa_nil))))) pss_nil) (pss_cons (ps_set (i := 2) nd rfl (Or.inl rfl) (pe_dicget T.t_z55 (pe_glob (by rfl) T.g_z55 (by rfl)) (pe_fld (pv 1) rfl) (fun _ _ => rfl))) (pss_cons (ps_fldaug (pv 0) pe_int in_add) (pss_cons (ps_expr (pe_callV 2 hr (pa_cons (pv 0) (pa_cons (pv 1) pa_nil)))) (pss_one (ps_ret (pe_tup (pa_cons (gi T.c_y10) (pa_cons pe_int pa_nil))))))))))) only [↓mr]
theorem sc_z47 : FnScope ["cells", "place", "n", "width", "number", "alike", "down", "likeness", "i"] ["cells", "place", "n", "width", "number", "alike", "down"] (defScope s_z47) := by walk_at "sc"
theorem st_z47 (a b c d e f g : V) : start ["cells", "place", "n", "width", "number", "alike", "down", "likeness", "i"] [a, b, c, d, e, f, g] = [some a, some b, some c, some d, some e, some f, some g, none, none] := rfl
def rd_z47 (K : PySem.W.Frag) (A : Ad) (sp_y9 : Sp) (sp_y7 : Sp) : TS := (tSeq (tAsg (tCall sp_y9 [] E0 (tCons (tVar 0) (tCons (tVar 1) (tCons (tVar 2) (tCons (tVar 3) (tCons (tVar 4) tNil)))))) (gName 7)) (tSeq (tFor (iList K (tCall sp_y7 [] E0 (tCons (tVar 2) (tCons (tVar 6) tNil)))) (gName 8) (tIfS (tTest (tOp rEq (tOp rIxH (tVar 7) (tVar 8)) (tVar 5))) (tRet (tVar 8)) tNext)) (tRet (tVar 2))))
theorem bd_z47 (T : Txt K mg A) {sp_y9 : Sp} (F_y9 : Fn P w K mg base 3 A.y9 ["cells", "place", "n", "width", "number"] sp_y9) {sp_y7 : Sp} (F_y7 : Fn P w K mg base 1 A.y7 ["n", "down"] sp_y7) : bD P w K mg base f cdv Ar outer s H E 3 "find_in_row" s_z47 ["cells", "place", "n", "width", "number", "alike", "down", "likeness", "i"] (rd_z47 K A sp_y9 sp_y7) := fun hr => by
 refine mq ?_; simp (disch := k_dflt (
 refine mz ?_
 have nd := sc_z47.nd
 exact (pss_cons (ps_set (i := 7) nd rfl (Or.inl rfl) (F_y9.c hr T.m_y9 (pa_cons (pv 0) (pa_cons (pv 1) (pa_cons (pv 2) (pa_cons (pv 3) (pa_cons (pv 4) pa_nil))))))) (pss_cons (ps_for PassesOwn.never rfl (pi_list (F_y7.c hr T.m_y7 (pa_cons (pv 2) (pa_cons (pv 6) pa_nil)))) (pg_name (i := 8) nd rfl (Or.inl rfl)) (pss_one (ps_if (pt_cmpR op_eq (pe_ix ix_h (pv 7) (pv 8) (fun _ _ => rfl)) (pv 5) (nomark _)) (pss_one (ps_ret (pv 8))) pss_nil))) (pss_one (ps_ret (pv 2))))))) only [↓mr]
theorem sc_z40 : FnScope ["cells", "place", "n", "width", "number"] ["cells", "place", "n", "width", "number"] (defScope s_z40) := by walk_at "sc"
theorem st_z40 (a b c d e : V) : start ["cells", "place", "n", "width", "number"] [a, b, c, d, e] = [some a, some b, some c, some d, some e] := rfl
def rd_z40 (K : PySem.W.Frag) (A : Ad) (sp_y9 : Sp) : TS := (tRet (tBM K "list" rCountT (tCall sp_y9 [] E0 (tCons (tVar 0) (tCons (tVar 1) (tCons (tVar 2) (tCons (tVar 3) (tCons (tVar 4) tNil)))))) (tCons (tC (.bl true)) tNil)))
theorem bd_z40 (T : Txt K mg A) {sp_y9 : Sp} (F_y9 : Fn P w K mg base 3 A.y9 ["cells", "place", "n", "width", "number"] sp_y9) : bD P w K mg base f cdv Ar outer s H E 3 "count_in_row" s_z40 ["cells", "place", "n", "width", "number"] (rd_z40 K A sp_y9) := fun hr => by
 have nd := sc_z40.nd
 exact (pss_one (ps_ret (pe_bm PySem.F.plainAttrs_list PySem.F.slot_list_count PySem.F.type_list_count mt_count_true (F_y9.c hr T.m_y9 (pa_cons (pv 0) (pa_cons (pv 1) (pa_cons (pv 2) (pa_cons (pv 3) (pa_cons (pv 4) pa_nil)))))) (pa_cons pe_bl pa_nil))))
theorem sc_z29 : FnScope ["machine", "numbers", "data", "instructions", "ill_formed"] ["machine", "numbers", "data"] (defScope s_z29) := by walk_at "sc"
theorem st_z29 (a b c : V) : start ["machine", "numbers", "data", "instructions", "ill_formed"] [a, b, c] = [some a, some b, some c, none, none] := rfl
def rd_z29 (K : PySem.W.Frag) (A : Ad) (sp_z90 : Sp) (sp_z13 : Sp) (sp_z6 : Sp) : TS := (tSeq (tIfS (tOr (tTest (tOp rNe (tOp (rI (fun _ j => 0 < j) fun i j => .int (i % j)) (tCB rLenH (tCons (tVar 2) tNil)) (tC (.int (8)))) (tC (.int 0)))) (tOr (tTest (tOp (rI0 fun i j => .bl (decide (j < i))) (tCB rLenH (tCons (tVar 2) tNil)) (tOp (rI CMul fun i j => .int (i * j)) (tC (.int (64))) (tC (.int (8)))))) (tNot (tB (tCall sp_z90 [] E0 (tCons (tVar 2) (tCons (tC (.int (18446744073709551616))) tNil))))))) (tRet (tLst (tCons (tC (.int (-1))) tNil))) tNext) (tSeq (tAsg (tCall sp_z13 [] E0 (tCons (tVar 2) tNil)) (gName 3)) (tSeq (tAsg (tCall sp_z6 [] E0 (tCons (tVar 3) tNil)) (gName 4)) (tSeq (tIfS (tB (tNotN (tVar 4))) (tRet (tLst (tCons (tC (.int (0))) (tCons (tC (.int 1)) (tCons (tVar 4) tNil))))) tNext) (tSeq (sFld K (tVar 0) (tVar 3) "program") (tRet (tLst (tCons (tC (.int (0))) (tCons (tC (.int 0)) (tCons (tC (.int 0)) tNil))))))))))
theorem bd_z29 (T : Txt K mg A) {sp_z90 : Sp} (F_z90 : Fn P w K mg base 1 A.z90 ["numbers", "limit"] sp_z90) {sp_z13 : Sp} (F_z13 : Fn P w K mg base 3 A.z13 ["numbers"] sp_z13) {sp_z6 : Sp} (F_z6 : Fn P w K mg base 2 A.z6 ["instructions"] sp_z6) : bD P w K mg base f cdv Ar outer s H E 3 "call_program" s_z29 ["machine", "numbers", "data", "instructions", "ill_formed"] (rd_z29 K A sp_z90 sp_z13 sp_z6) := fun hr => by
 refine mq ?_; simp (disch := k_dflt (
 refine mz ?_
 have nd := sc_z29.nd
 exact (pss_cons (ps_if (PW.pt (pw_or (pt_cmpR op_ne (pe_op op_mod (pe_callB len_h (by rfl) T.b_len PySem.boot_len (pa_cons (pv 2) pa_nil)) (gi T.c_y25)) pe_int (nomark _)) (pw_or (pt_cmpR op_gt (pe_callB len_h (by rfl) T.b_len PySem.boot_len (pa_cons (pv 2) pa_nil)) (pe_op op_mul (gi T.c_z5) (gi T.c_y25)) (nomark _)) (pw_or1 (pt_not (pt_val (F_z90.c hr T.m_z90 (pa_cons (pv 2) (pa_cons (gi T.c_y1) pa_nil))))))))) (pss_one (ps_ret (pe_lst (pa_cons (gi T.c_y13) pa_nil)))) pss_nil) (pss_cons (ps_set (i := 3) nd rfl (Or.inl rfl) (F_z13.c hr T.m_z13 (pa_cons (pv 2) pa_nil))) (pss_cons (ps_set (i := 4) nd rfl (Or.inl rfl) (F_z6.c hr T.m_z6 (pa_cons (pv 3) pa_nil))) (pss_cons (ps_if (pt_cmp (pc_notN (pv 4))) (pss_one (ps_ret (pe_lst (pa_cons (gi T.c_y51) (pa_cons pe_int (pa_cons (pv 4) pa_nil)))))) pss_nil) (pss_cons (ps_fld (pv 0) (pv 3) rfl) (pss_one (ps_ret (pe_lst (pa_cons (gi T.c_y51) (pa_cons pe_int (pa_cons pe_int pa_nil))))))))))))) only [↓mr]
theorem sc_z50 : FnScope ["machine", "numbers", "data", "x", "y", "n", "width", "down"] ["machine", "numbers", "data"] (defScope s_z50) := by walk_at "sc"
theorem st_z50 (a b c : V) : start ["machine", "numbers", "data", "x", "y", "n", "width", "down"] [a, b, c] = [some a, some b, some c, none, none, none, none, none] := rfl
def rd_z50 (K : PySem.W.Frag) (A : Ad) (sp_z34 : Sp) (sp_z14 : Sp) : TS := (tSeq (tAsg (tOp rIxH (tVar 1) (tC (.int 0))) (gName 3)) (tSeq (tAsg (tOp rIxH (tVar 1) (tC (.int 1))) (gName 4)) (tSeq (tAsg (tOp rIxH (tVar 1) (tC (.int 2))) (gName 5)) (tSeq (tAsg (tOp rIxH (tVar 1) (tC (.int 3))) (gName 6)) (tSeq (tAsg (tOp rIxH (tVar 1) (tC (.int 4))) (gName 7)) (tSeq (tIfS (tOr (tNot (tB (tCall sp_z34 [] E0 (tCons (tFld K (tVar 0) "cells") (tCons (tVar 3) (tCons (tVar 4) (tCons (tVar 5) (tCons (tVar 6) tNil)))))))) (tNot (tTest (tChain (rI0 fun i j => .bl (decide (i ≤ j))) (rI0 fun i j => .bl (decide (i ≤ j))) (tC (.int 0)) (tVar 7) (tC (.int 1)))))) (tRet (tLst (tCons (tC (.int (-1))) tNil))) tNext) (tRet (tLst (tCons (tC (.int (0))) (tCons (tCall sp_z14 [] E0 (tCons (tFld K (tVar 0) "cells") (tCons (tVar 3) (tCons (tVar 4) (tCons (tVar 5) (tCons (tVar 6) (tCons (tOp rEq (tVar 7) (tC (.int 1))) tNil))))))) tNil))))))))))
theorem bd_z50 (T : Txt K mg A) {sp_z34 : Sp} (F_z34 : Fn P w K mg base 2 A.z34 ["cells", "one", "other", "n", "width"] sp_z34) {sp_z14 : Sp} (F_z14 : Fn P w K mg base 3 A.z14 ["cells", "left", "right", "n", "width", "down"] sp_z14) : bD P w K mg base f cdv Ar outer s H E 3 "call_differ" s_z50 ["machine", "numbers", "data", "x", "y", "n", "width", "down"] (rd_z50 K A sp_z34 sp_z14) := fun hr => by
 refine mq ?_; simp (disch := k_dflt (
 refine mz ?_
 have nd := sc_z50.nd
 exact (pss_cons (ps_set (i := 3) nd rfl (Or.inl rfl) (pe_ix ix_h (pv 1) pe_int (fun _ _ => rfl))) (pss_cons (ps_set (i := 4) nd rfl (Or.inl rfl) (pe_ix ix_h (pv 1) pe_int (fun _ _ => rfl))) (pss_cons (ps_set (i := 5) nd rfl (Or.inl rfl) (pe_ix ix_h (pv 1) pe_int (fun _ _ => rfl))) (pss_cons (ps_set (i := 6) nd rfl (Or.inl rfl) (pe_ix ix_h (pv 1) pe_int (fun _ _ => rfl))) (pss_cons (ps_set (i := 7) nd rfl (Or.inl rfl) (pe_ix ix_h (pv 1) pe_int (fun _ _ => rfl))) (pss_cons (ps_if (PW.pt (pw_or (pt_not (pt_val (F_z34.c hr T.m_z34 (pa_cons (pe_fld (pv 0) rfl) (pa_cons (pv 3) (pa_cons (pv 4) (pa_cons (pv 5) (pa_cons (pv 6) pa_nil)))))))) (pw_or1 (pt_not (pt_chain op_le op_le pe_int (pv 7) pe_int))))) (pss_one (ps_ret (pe_lst (pa_cons (gi T.c_y13) pa_nil)))) pss_nil) (pss_one (ps_ret (pe_lst (pa_cons (gi T.c_y51) (pa_cons (F_z14.c hr T.m_z14 (pa_cons (pe_fld (pv 0) rfl) (pa_cons (pv 3) (pa_cons (pv 4) (pa_cons (pv 5) (pa_cons (pv 6) (pa_cons (pe_cmpR op_eq (pv 7) pe_int (nomark _)) pa_nil))))))) pa_nil))))))))))))) only [↓mr]
theorem sc_z63 : FnScope ["machine", "numbers", "change", "at", "n", "width"] ["machine", "numbers", "change"] (defScope s_z63) := by walk_at "sc"
theorem st_z63 (a b c : V) : start ["machine", "numbers", "change", "at", "n", "width"] [a, b, c] = [some a, some b, some c, none, none, none] := rfl
def rd_z63 (K : PySem.W.Frag) (A : Ad) (OK : Nat → Addr → List Str → Sp → Prop) (sp_y26 : Sp) : TS := (tSeq (tAsg (tOp rIxH (tVar 1) (tC (.int 0))) (gName 3)) (tSeq (tAsg (tOp rIxH (tVar 1) (tC (.int 1))) (gName 4)) (tSeq (tAsg (tOp rIxH (tVar 1) (tC (.int 2))) (gName 5)) (tSeq (tIfS (tNot (tB (tCall sp_y26 [] E0 (tCons (tFld K (tVar 0) "cells") (tCons (tVar 3) (tCons (tVar 4) (tCons (tVar 5) tNil))))))) (tRet (tLst (tCons (tC (.int (-1))) tNil))) tNext) (tSeq (tDrop (tCallV OK 2 (tCons (tFld K (tVar 0) "cells") (tCons (tVar 3) (tCons (tVar 4) (tCons (tVar 5) tNil)))))) (tRet (tLst (tCons (tC (.int (0))) tNil))))))))
theorem bd_z63 (T : Txt K mg A) {sp_y26 : Sp} (F_y26 : Fn P w K mg base 1 A.y26 ["cells", "place", "n", "width"] sp_y26) : bD P w K mg base f cdv Ar outer s H E 3 "change_row" s_z63 ["machine", "numbers", "change", "at", "n", "width"] (rd_z63 K A (fun k f ps sp => Fn P w K mg base k f ps sp ∧ k ≤ 3) sp_y26) := fun hr => by
 refine mq ?_; simp (disch := k_dflt (
 refine mz ?_
 have nd := sc_z63.nd
 exact (pss_cons (ps_set (i := 3) nd rfl (Or.inl rfl) (pe_ix ix_h (pv 1) pe_int (fun _ _ => rfl))) (pss_cons (ps_set (i := 4) nd rfl (Or.inl rfl) (pe_ix ix_h (pv 1) pe_int (fun _ _ => rfl))) (pss_cons (ps_set (i := 5) nd rfl (Or.inl rfl) (pe_ix ix_h (pv 1) pe_int (fun _ _ => rfl))) (pss_cons (ps_if (pt_not (pt_val (F_y26.c hr T.m_y26 (pa_cons (pe_fld (pv 0) rfl) (pa_cons (pv 3) (pa_cons (pv 4) (pa_cons (pv 5) pa_nil))))))) (pss_one (ps_ret (pe_lst (pa_cons (gi T.c_y13) pa_nil)))) pss_nil) (pss_cons (ps_expr (pe_callV 2 hr (pa_cons (pe_fld (pv 0) rfl) (pa_cons (pv 3) (pa_cons (pv 4) (pa_cons (pv 5) pa_nil)))))) (pss_one (ps_ret (pe_lst (pa_cons (gi T.c_y51) pa_nil))))))))))) only [↓mr]
theorem sc_z85 : FnScope ["machine", "numbers", "data"] ["machine", "numbers", "data"] (defScope s_z85) := by walk_at "sc"
theorem st_z85 (a b c : V) : start ["machine", "numbers", "data"] [a, b, c] = [some a, some b, some c] := rfl
def rd_z85 (K : PySem.W.Frag) (A : Ad) (sp_z74 : Sp) (sp_z87 : Sp) : TS := (tSeq (tIfS (tNot (tB (tCall sp_z74 [] E0 (tCons (tVar 2) (tCons (tC (.int (64))) tNil))))) (tRet (tLst (tCons (tC (.int (-1))) tNil))) tNext) (tRet (tOp rCat (tLst (tCons (tC (.int (0))) tNil)) (tCall sp_z87 [] E0 (tCons (tVar 2) tNil)))))
theorem bd_z85 (T : Txt K mg A) {sp_z74 : Sp} (F_z74 : Fn P w K mg base 2 A.z74 ["data", "most"] sp_z74) {sp_z87 : Sp} (F_z87 : Fn P w K mg base 3 A.z87 ["data"] sp_z87) : bD P w K mg base f cdv Ar outer s H E 3 "call_pack" s_z85 ["machine", "numbers", "data"] (rd_z85 K A sp_z74 sp_z87) := fun hr => by
 have nd := sc_z85.nd
 exact (pss_cons (ps_if (pt_not (pt_val (F_z74.c hr T.m_z74 (pa_cons (pv 2) (pa_cons (gi T.c_z38) pa_nil))))) (pss_one (ps_ret (pe_lst (pa_cons (gi T.c_y13) pa_nil)))) pss_nil) (pss_one (ps_ret (pe_op op_cat (pe_lst (pa_cons (gi T.c_y51) pa_nil)) (F_z87.c hr T.m_z87 (pa_cons (pv 2) pa_nil))))))
theorem sc_z93 : FnScope ["machine", "op", "width", "rep", "most", "deed", "done"] ["machine", "op", "width", "rep", "most"] (defScope s_z93) := by walk_at "sc"
theorem st_z93 (a b c d e : V) : start ["machine", "op", "width", "rep", "most", "deed", "done"] [a, b, c, d, e] = [some a, some b, some c, some d, some e, none, none] := rfl
def rd_z93 (K : PySem.W.Frag) (A : Ad) (OK : Nat → Addr → List Str → Sp → Prop) (sp_z27 : Sp) (sp_z0 : Sp) : TS := (tSeq (tAsg (tOp (rIxTab A.y34 (tab_y34 A)) (tC (.ref A.y34)) (tVar 1)) (gName 5)) (tSeq (tAsg (tC (.int 0)) (gName 6)) (tWhile tYes (tSeq (tIfS (tAnd (tTest (tOp rNe (tVar 3) (tC (.int 0)))) (tTest (tOp rEq (tOp rIxH (tFld K (tVar 0) "regs") (tC (.int (1)))) (tC (.int 0))))) (tRet (tTup (tCons (tC (.int (0))) (tCons (tVar 6) tNil)))) tNext) (tSeq (tIfS (tTest (tOp rEq (tVar 6) (tVar 4))) (tRet (tTup (tCons (tC (.int (1))) (tCons (tVar 6) tNil)))) tNext) (tSeq (tIfS (tB (tCall sp_z27 [] E0 (tCons (tVar 0) (tCons (tVar 1) (tCons (tVar 2) tNil))))) (tRet (tTup (tCons (tC (.int (3))) (tCons (tVar 6) tNil)))) tNext) (tSeq (tDrop (tCallV OK 5 (tCons (tVar 0) (tCons (tVar 2) tNil)))) (tSeq (tAug 6 (tC (.int 1)) (ipI fun i j => i + j)) (tSeq (tIfS (tTest (tOp rEq (tVar 3) (tC (.int 0)))) (tRet (tTup (tCons (tC (.int (0))) (tCons (tVar 6) tNil)))) tNext) (tSeq (tAugS (tFld K (tVar 0) "regs") (tC (.int (1))) (tC (.int 1)) rIxH (ipI fun i j => i - j) rSetL) (tIfS (tB (tCall sp_z0 [] E0 (tCons (tVar 0) (tCons (tVar 1) (tCons (tVar 3) tNil))))) (tRet (tTup (tCons (tC (.int (0))) (tCons (tVar 6) tNil)))) tNext)))))))))))
theorem bd_z93 (T : Txt K mg A) {sp_z27 : Sp} (F_z27 : Fn P w K mg base 2 A.z27 ["machine", "op", "width"] sp_z27) {sp_z0 : Sp} (F_z0 : Fn P w K mg base 2 A.z0 ["machine", "op", "rep"] sp_z0) : bD P w K mg base f cdv Ar outer s H E 4 "do_string" s_z93 ["machine", "op", "width", "rep", "most", "deed", "done"] (rd_z93 K A (fun k f ps sp => Fn P w K mg base k f ps sp ∧ k ≤ 4) sp_z27 sp_z0) := fun hr => by
 refine mq ?_; simp (disch := k_dflt (
 refine mz ?_
 have nd := sc_z93.nd
 exact (pss_cons (ps_set (i := 5) nd rfl (Or.inl rfl) (pe_ix (ix_tab T.t_y34) (pe_glob (by rfl) T.g_y34 (by rfl)) (pv 1) (fun _ _ => rfl))) (pss_cons (ps_set (i := 6) nd rfl (Or.inl rfl) pe_int) (pss_one (ps_while PassesOwn.never pt_yes (pss_cons (ps_if (PW.pt (pw_and (pt_cmpR op_ne (pv 3) pe_int (nomark _)) (pw_and1 (pt_cmpR op_eq (pe_ix ix_h (pe_fld (pv 0) rfl) (gi T.c_y31) (fun _ _ => rfl)) pe_int (nomark _))))) (pss_one (ps_ret (pe_tup (pa_cons (gi T.c_y10) (pa_cons (pv 6) pa_nil))))) pss_nil) (pss_cons (ps_if (pt_cmpR op_eq (pv 6) (pv 4) (nomark _)) (pss_one (ps_ret (pe_tup (pa_cons (gi T.c_z77) (pa_cons (pv 6) pa_nil))))) pss_nil) (pss_cons (ps_if (pt_val (F_z27.c hr T.m_z27 (pa_cons (pv 0) (pa_cons (pv 1) (pa_cons (pv 2) pa_nil))))) (pss_one (ps_ret (pe_tup (pa_cons (gi T.c_z88) (pa_cons (pv 6) pa_nil))))) pss_nil) (pss_cons (ps_expr (pe_callV 5 hr (pa_cons (pv 0) (pa_cons (pv 2) pa_nil)))) (pss_cons (ps_aug (i := 6) nd rfl (Or.inl rfl) pe_int ip_add) (pss_cons (ps_if (pt_cmpR op_eq (pv 3) pe_int (nomark _)) (pss_one (ps_ret (pe_tup (pa_cons (gi T.c_y10) (pa_cons (pv 6) pa_nil))))) pss_nil) (pss_cons (ps_augS (pe_fld (pv 0) rfl) (gi T.c_y31) get_h pe_int ip_sub set_list) (pss_one (ps_if (pt_val (F_z0.c hr T.m_z0 (pa_cons (pv 0) (pa_cons (pv 1) (pa_cons (pv 3) pa_nil))))) (pss_one (ps_ret (pe_tup (pa_cons (gi T.c_y10) (pa_cons (pv 6) pa_nil))))) pss_nil))))))))))))))) only [↓mr]
theorem sc_y29 : FnScope ["machine", "numbers", "down", "at", "n", "width", "value", "alike"] ["machine", "numbers", "down"] (defScope s_y29) := by walk_at "sc"
theorem st_y29 (a b c : V) : start ["machine", "numbers", "down", "at", "n", "width", "value", "alike"] [a, b, c] = [some a, some b, some c, none, none, none, none, none] := rfl
def rd_y29 (K : PySem.W.Frag) (A : Ad) (sp_y26 : Sp) (sp_z47 : Sp) : TS := (tSeq (tAsg (tOp rIxH (tVar 1) (tC (.int 0))) (gName 3)) (tSeq (tAsg (tOp rIxH (tVar 1) (tC (.int 1))) (gName 4)) (tSeq (tAsg (tOp rIxH (tVar 1) (tC (.int 2))) (gName 5)) (tSeq (tAsg (tOp rIxH (tVar 1) (tC (.int 3))) (gName 6)) (tSeq (tAsg (tOp rIxH (tVar 1) (tC (.int 4))) (gName 7)) (tSeq (tIfS (tOr (tNot (tB (tCall sp_y26 [] E0 (tCons (tFld K (tVar 0) "cells") (tCons (tVar 3) (tCons (tVar 4) (tCons (tVar 5) tNil))))))) (tOr (tNot (tTest (tChain (rI0 fun i j => .bl (decide (i ≤ j))) (rI0 fun i j => .bl (decide (i < j))) (tC (.int 0)) (tVar 6) (tC (.int (18446744073709551616)))))) (tNot (tTest (tChain (rI0 fun i j => .bl (decide (i ≤ j))) (rI0 fun i j => .bl (decide (i ≤ j))) (tC (.int 0)) (tVar 7) (tC (.int 1))))))) (tRet (tLst (tCons (tC (.int (-1))) tNil))) tNext) (tRet (tLst (tCons (tC (.int (0))) (tCons (tCall sp_z47 [] E0 (tCons (tFld K (tVar 0) "cells") (tCons (tVar 3) (tCons (tVar 4) (tCons (tVar 5) (tCons (tVar 6) (tCons (tOp rEq (tVar 7) (tC (.int 1))) (tCons (tVar 2) tNil)))))))) tNil))))))))))
theorem bd_y29 (T : Txt K mg A) {sp_y26 : Sp} (F_y26 : Fn P w K mg base 1 A.y26 ["cells", "place", "n", "width"] sp_y26) {sp_z47 : Sp} (F_z47 : Fn P w K mg base 4 A.z47 ["cells", "place", "n", "width", "number", "alike", "down"] sp_z47) : bD P w K mg base f cdv Ar outer s H E 4 "search" s_y29 ["machine", "numbers", "down", "at", "n", "width", "value", "alike"] (rd_y29 K A sp_y26 sp_z47) := fun hr => by
 refine mq ?_; simp (disch := k_dflt (
 refine mz ?_
 have nd := sc_y29.nd
 exact (pss_cons (ps_set (i := 3) nd rfl (Or.inl rfl) (pe_ix ix_h (pv 1) pe_int (fun _ _ => rfl))) (pss_cons (ps_set (i := 4) nd rfl (Or.inl rfl) (pe_ix ix_h (pv 1) pe_int (fun _ _ => rfl))) (pss_cons (ps_set (i := 5) nd rfl (Or.inl rfl) (pe_ix ix_h (pv 1) pe_int (fun _ _ => rfl))) (pss_cons (ps_set (i := 6) nd rfl (Or.inl rfl) (pe_ix ix_h (pv 1) pe_int (fun _ _ => rfl))) (pss_cons (ps_set (i := 7) nd rfl (Or.inl rfl) (pe_ix ix_h (pv 1) pe_int (fun _ _ => rfl))) (pss_cons (ps_if (PW.pt (pw_or (pt_not (pt_val (F_y26.c hr T.m_y26 (pa_cons (pe_fld (pv 0) rfl) (pa_cons (pv 3) (pa_cons (pv 4) (pa_cons (pv 5) pa_nil))))))) (pw_or (pt_not (pt_chain op_le op_lt pe_int (pv 6) (gi T.c_y1))) (pw_or1 (pt_not (pt_chain op_le op_le pe_int (pv 7) pe_int)))))) (pss_one (ps_ret (pe_lst (pa_cons (gi T.c_y13) pa_nil)))) pss_nil) (pss_one (ps_ret (pe_lst (pa_cons (gi T.c_y51) (pa_cons (F_z47.c hr T.m_z47 (pa_cons (pe_fld (pv 0) rfl) (pa_cons (pv 3) (pa_cons (pv 4) (pa_cons (pv 5) (pa_cons (pv 6) (pa_cons (pe_cmpR op_eq (pv 7) pe_int (nomark _)) (pa_cons (pv 2) pa_nil)))))))) pa_nil))))))))))))) only [↓mr]
theorem sc_z66 : FnScope ["machine", "numbers", "data", "at", "n", "width", "value"] ["machine", "numbers", "data"] (defScope s_z66) := by walk_at "sc"
theorem st_z66 (a b c : V) : start ["machine", "numbers", "data", "at", "n", "width", "value"] [a, b, c] = [some a, some b, some c, none, none, none, none] := rfl
def rd_z66 (K : PySem.W.Frag) (A : Ad) (sp_y26 : Sp) (sp_z40 : Sp) : TS := (tSeq (tAsg (tOp rIxH (tVar 1) (tC (.int 0))) (gName 3)) (tSeq (tAsg (tOp rIxH (tVar 1) (tC (.int 1))) (gName 4)) (tSeq (tAsg (tOp rIxH (tVar 1) (tC (.int 2))) (gName 5)) (tSeq (tAsg (tOp rIxH (tVar 1) (tC (.int 3))) (gName 6)) (tSeq (tIfS (tOr (tNot (tB (tCall sp_y26 [] E0 (tCons (tFld K (tVar 0) "cells") (tCons (tVar 3) (tCons (tVar 4) (tCons (tVar 5) tNil))))))) (tNot (tTest (tChain (rI0 fun i j => .bl (decide (i ≤ j))) (rI0 fun i j => .bl (decide (i < j))) (tC (.int 0)) (tVar 6) (tC (.int (18446744073709551616))))))) (tRet (tLst (tCons (tC (.int (-1))) tNil))) tNext) (tRet (tLst (tCons (tC (.int (0))) (tCons (tCall sp_z40 [] E0 (tCons (tFld K (tVar 0) "cells") (tCons (tVar 3) (tCons (tVar 4) (tCons (tVar 5) (tCons (tVar 6) tNil)))))) tNil)))))))))
theorem bd_z66 (T : Txt K mg A) {sp_y26 : Sp} (F_y26 : Fn P w K mg base 1 A.y26 ["cells", "place", "n", "width"] sp_y26) {sp_z40 : Sp} (F_z40 : Fn P w K mg base 4 A.z40 ["cells", "place", "n", "width", "number"] sp_z40) : bD P w K mg base f cdv Ar outer s H E 4 "call_count" s_z66 ["machine", "numbers", "data", "at", "n", "width", "value"] (rd_z66 K A sp_y26 sp_z40) := fun hr => by
 refine mq ?_; simp (disch := k_dflt (
 refine mz ?_
 have nd := sc_z66.nd
 exact (pss_cons (ps_set (i := 3) nd rfl (Or.inl rfl) (pe_ix ix_h (pv 1) pe_int (fun _ _ => rfl))) (pss_cons (ps_set (i := 4) nd rfl (Or.inl rfl) (pe_ix ix_h (pv 1) pe_int (fun _ _ => rfl))) (pss_cons (ps_set (i := 5) nd rfl (Or.inl rfl) (pe_ix ix_h (pv 1) pe_int (fun _ _ => rfl))) (pss_cons (ps_set (i := 6) nd rfl (Or.inl rfl) (pe_ix ix_h (pv 1) pe_int (fun _ _ => rfl))) (pss_cons (ps_if (PW.pt (pw_or (pt_not (pt_val (F_y26.c hr T.m_y26 (pa_cons (pe_fld (pv 0) rfl) (pa_cons (pv 3) (pa_cons (pv 4) (pa_cons (pv 5) pa_nil))))))) (pw_or1 (pt_not (pt_chain op_le op_lt pe_int (pv 6) (gi T.c_y1)))))) (pss_one (ps_ret (pe_lst (pa_cons (gi T.c_y13) pa_nil)))) pss_nil) (pss_one (ps_ret (pe_lst (pa_cons (gi T.c_y51) (pa_cons (F_z40.c hr T.m_z40 (pa_cons (pe_fld (pv 0) rfl) (pa_cons (pv 3) (pa_cons (pv 4) (pa_cons (pv 5) (pa_cons (pv 6) pa_nil)))))) pa_nil)))))))))))) only [↓mr]
theorem sc_z73 : FnScope ["machine", "numbers", "data"] ["machine", "numbers", "data"] (defScope s_z73) := by walk_at "sc"
theorem st_z73 (a b c : V) : start ["machine", "numbers", "data"] [a, b, c] = [some a, some b, some c] := rfl
def rd_z73 (K : PySem.W.Frag) (A : Ad) (sp_z63 : Sp) : TS := (tRet (tCall sp_z63 [] E0 (tCons (tVar 0) (tCons (tVar 1) (tCons (tC (.ref A.y4)) tNil)))))
theorem bd_z73 (T : Txt K mg A) {sp_z63 : Sp} (F_z63 : Fn P w K mg base 4 A.z63 ["machine", "numbers", "change"] sp_z63) : bD P w K mg base f cdv Ar outer s H E 4 "call_turn" s_z73 ["machine", "numbers", "data"] (rd_z73 K A sp_z63) := fun hr => by
 have nd := sc_z73.nd
 exact (pss_one (ps_ret (F_z63.c hr T.m_z63 (pa_cons (pv 0) (pa_cons (pv 1) (pa_cons (pe_glob (by rfl) T.m_y4 (by rfl)) pa_nil))))))
theorem sc_z83 : FnScope ["machine", "numbers", "data"] ["machine", "numbers", "data"] (defScope s_z83) := by walk_at "sc"
theorem st_z83 (a b c : V) : start ["machine", "numbers", "data"] [a, b, c] = [some a, some b, some c] := rfl
def rd_z83 (K : PySem.W.Frag) (A : Ad) (sp_z63 : Sp) : TS := (tRet (tCall sp_z63 [] E0 (tCons (tVar 0) (tCons (tVar 1) (tCons (tC (.ref A.z95)) tNil)))))
theorem bd_z83 (T : Txt K mg A) {sp_z63 : Sp} (F_z63 : Fn P w K mg base 4 A.z63 ["machine", "numbers", "change"] sp_z63) : bD P w K mg base f cdv Ar outer s H E 4 "call_swap" s_z83 ["machine", "numbers", "data"] (rd_z83 K A sp_z63) := fun hr => by
 have nd := sc_z83.nd
 exact (pss_one (ps_ret (F_z63.c hr T.m_z63 (pa_cons (pv 0) (pa_cons (pv 1) (pa_cons (pe_glob (by rfl) T.m_z95 (by rfl)) pa_nil))))))
theorem sc_z56 : FnScope ["machine", "numbers", "data", "room", "outcome"] ["machine", "numbers", "data"] (defScope s_z56) := by walk_at "sc"
theorem st_z56 (a b c : V) : start ["machine", "numbers", "data", "room", "outcome"] [a, b, c] = [some a, some b, some c, none, none] := rfl
def rd_z56 (K : PySem.W.Frag) (A : Ad) (sp_z74 : Sp) (sp_z42 : Sp) : TS := (tSeq (tAsg (tOp rIxH (tVar 1) (tC (.int 0))) (gName 3)) (tSeq (tIfS (tOr (tNot (tTest (tChain (rI0 fun i j => .bl (decide (i ≤ j))) (rI0 fun i j => .bl (decide (i ≤ j))) (tC (.int 0)) (tVar 3) (tC (.int (4096)))))) (tNot (tB (tCall sp_z74 [] E0 (tCons (tVar 2) (tCons (tC (.int (256))) tNil)))))) (tRet (tLst (tCons (tC (.int (-1))) tNil))) tNext) (tSeq (tAsg (tCall sp_z42 [] E0 (tCons (tVar 2) (tCons (tVar 3) tNil))) (gName 4)) (tSeq (tIfS (tTest (tOp rNe (tOp (rIxT K) (tVar 4) (tC (.int 0))) (tC (.int (0))))) (tRet (tLst (tCons (tOp (rIxT K) (tVar 4) (tC (.int 0))) tNil))) tNext) (tRet (tOp rCat (tLst (tCons (tC (.int (0))) tNil)) (tOp (rIxT K) (tVar 4) (tC (.int 1)))))))))
theorem bd_z56 (T : Txt K mg A) {sp_z74 : Sp} (F_z74 : Fn P w K mg base 2 A.z74 ["data", "most"] sp_z74) {sp_z42 : Sp} (F_z42 : Fn P w K mg base 4 A.z42 ["packed", "room"] sp_z42) : bD P w K mg base f cdv Ar outer s H E 4 "call_unpack" s_z56 ["machine", "numbers", "data", "room", "outcome"] (rd_z56 K A sp_z74 sp_z42) := fun hr => by
 refine mq ?_; simp (disch := k_dflt (
 refine mz ?_
 have nd := sc_z56.nd
 exact (pss_cons (ps_set (i := 3) nd rfl (Or.inl rfl) (pe_ix ix_h (pv 1) pe_int (fun _ _ => rfl))) (pss_cons (ps_if (PW.pt (pw_or (pt_not (pt_chain op_le op_le pe_int (pv 3) (gi T.c_z81))) (pw_or1 (pt_not (pt_val (F_z74.c hr T.m_z74 (pa_cons (pv 2) (pa_cons (gi T.c_z45) pa_nil)))))))) (pss_one (ps_ret (pe_lst (pa_cons (gi T.c_y13) pa_nil)))) pss_nil) (pss_cons (ps_set (i := 4) nd rfl (Or.inl rfl) (F_z42.c hr T.m_z42 (pa_cons (pv 2) (pa_cons (pv 3) pa_nil)))) (pss_cons (ps_if (pt_cmpR op_ne (pe_ix ix_tup (pv 4) pe_int (fun _ _ => rfl)) (gi T.c_y8) (nomark _)) (pss_one (ps_ret (pe_lst (pa_cons (pe_ix ix_tup (pv 4) pe_int (fun _ _ => rfl)) pa_nil)))) pss_nil) (pss_one (ps_ret (pe_op op_cat (pe_lst (pa_cons (gi T.c_y51) pa_nil)) (pe_ix ix_tup (pv 4) pe_int (fun _ _ => rfl))))))))))) only [↓mr]
theorem sc_z10 : FnScope ["machine", "instruction", "most", "outcome"] ["machine", "instruction", "most"] (defScope s_z10) := by walk_at "sc"
theorem st_z10 (a b c : V) : start ["machine", "instruction", "most", "outcome"] [a, b, c] = [some a, some b, some c, none] := rfl
def rd_z10 (K : PySem.W.Frag) (A : Ad) (sp_z93 : Sp) : TS := (tSeq (tAsg (tCall sp_z93 [] E0 (tCons (tVar 0) (tCons (tFld K (tVar 1) "op") (tCons (tFld K (tVar 1) "width") (tCons (tFld K (tVar 1) "rep") (tCons (tVar 2) tNil)))))) (gName 3)) (tSeq (tIfS (tTest (tOp rNe (tOp (rIxT K) (tVar 3) (tC (.int 0))) (tC (.int (0))))) (tRet (tVar 3)) tNext) (tSeq (sFldAug K (tVar 0) (tC (.int 1)) rAdd "at") (tRet (tTup (tCons (tC (.int (0))) (tCons (tCB rMax2 (tCons (tOp (rIxT K) (tVar 3) (tC (.int 1))) (tCons (tC (.int 1)) tNil))) tNil)))))))
theorem bd_z10 (T : Txt K mg A) {sp_z93 : Sp} (F_z93 : Fn P w K mg base 5 A.z93 ["machine", "op", "width", "rep", "most"] sp_z93) : bD P w K mg base f cdv Ar outer s H E 5 "do_string_steps" s_z10 ["machine", "instruction", "most", "outcome"] (rd_z10 K A sp_z93) := fun hr => by
 refine mq ?_; simp (disch := k_dflt (
 refine mz ?_
 have nd := sc_z10.nd
 exact (pss_cons (ps_set (i := 3) nd rfl (Or.inl rfl) (F_z93.c hr T.m_z93 (pa_cons (pv 0) (pa_cons (pe_fld (pv 1) rfl) (pa_cons (pe_fld (pv 1) rfl) (pa_cons (pe_fld (pv 1) rfl) (pa_cons (pv 2) pa_nil))))))) (pss_cons (ps_if (pt_cmpR op_ne (pe_ix ix_tup (pv 3) pe_int (fun _ _ => rfl)) (gi T.c_y10) (nomark _)) (pss_one (ps_ret (pv 3))) pss_nil) (pss_cons (ps_fldaug (pv 0) pe_int in_add) (pss_one (ps_ret (pe_tup (pa_cons (gi T.c_y10) (pa_cons (pe_callB (call_max2 rfl) (by rfl) T.b_max PyProof.Rows.boot_max (pa_cons (pe_ix ix_tup (pv 3) pe_int (fun _ _ => rfl)) (pa_cons pe_int pa_nil))) pa_nil)))))))))) only [↓mr]
theorem sc_y19 : FnScope ["machine", "numbers", "data", "op", "width", "rep", "most", "outcome"] ["machine", "numbers", "data"] (defScope s_y19) := by walk_at "sc"
theorem st_y19 (a b c : V) : start ["machine", "numbers", "data", "op", "width", "rep", "most", "outcome"] [a, b, c] = [some a, some b, some c, none, none, none, none, none] := rfl
def rd_y19 (K : PySem.W.Frag) (A : Ad) (sp_z93 : Sp) : TS := (tSeq (tAsg (tOp rIxH (tVar 1) (tC (.int 0))) (gName 3)) (tSeq (tAsg (tOp rIxH (tVar 1) (tC (.int 1))) (gName 4)) (tSeq (tAsg (tOp rIxH (tVar 1) (tC (.int 2))) (gName 5)) (tSeq (tAsg (tOp rIxH (tVar 1) (tC (.int 3))) (gName 6)) (tSeq (tIfS (tOr (tNot (tTest (tChain (rI0 fun i j => .bl (decide (i ≤ j))) (rI0 fun i j => .bl (decide (i < j))) (tC (.int 0)) (tVar 3) (tCB (rLenTab A.y34 (tab_y34 A).length) (tCons (tC (.ref A.y34)) tNil))))) (tTest (tOp (rInDic A.y38 (tab_y38 A) true) (tVar 4) (tC (.ref A.y38))))) (tRet (tLst (tCons (tC (.int (-1))) tNil))) tNext) (tSeq (tIfS (tOr (tNot (tTest (tChain (rI0 fun i j => .bl (decide (i ≤ j))) (rI0 fun i j => .bl (decide (i ≤ j))) (tC (.int 0)) (tVar 5) (tC (.int 2))))) (tNot (tTest (tChain (rI0 fun i j => .bl (decide (i ≤ j))) (rI0 fun i j => .bl (decide (i ≤ j))) (tC (.int 0)) (tVar 6) (tC (.int (10000))))))) (tRet (tLst (tCons (tC (.int (-1))) tNil))) tNext) (tSeq (tAsg (tCall sp_z93 [] E0 (tCons (tVar 0) (tCons (tVar 3) (tCons (tVar 4) (tCons (tVar 5) (tCons (tVar 6) tNil)))))) (gName 7)) (tRet (tLst (tCons (tC (.int (0))) (tCons (tOp (rIxT K) (tVar 7) (tC (.int 0))) (tCons (tOp (rIxT K) (tVar 7) (tC (.int 1))) tNil))))))))))))
theorem bd_y19 (T : Txt K mg A) {sp_z93 : Sp} (F_z93 : Fn P w K mg base 5 A.z93 ["machine", "op", "width", "rep", "most"] sp_z93) : bD P w K mg base f cdv Ar outer s H E 5 "call_do" s_y19 ["machine", "numbers", "data", "op", "width", "rep", "most", "outcome"] (rd_y19 K A sp_z93) := fun hr => by
 refine mq ?_; simp (disch := k_dflt (
 refine mz ?_
 have nd := sc_y19.nd
 exact (pss_cons (ps_set (i := 3) nd rfl (Or.inl rfl) (pe_ix ix_h (pv 1) pe_int (fun _ _ => rfl))) (pss_cons (ps_set (i := 4) nd rfl (Or.inl rfl) (pe_ix ix_h (pv 1) pe_int (fun _ _ => rfl))) (pss_cons (ps_set (i := 5) nd rfl (Or.inl rfl) (pe_ix ix_h (pv 1) pe_int (fun _ _ => rfl))) (pss_cons (ps_set (i := 6) nd rfl (Or.inl rfl) (pe_ix ix_h (pv 1) pe_int (fun _ _ => rfl))) (pss_cons (ps_if (PW.pt (pw_or (pt_not (pt_chain op_le op_lt pe_int (pv 3) (pe_callB (len_tab T.t_y34) (by rfl) T.b_len PySem.boot_len (pa_cons (pe_glob (by rfl) T.g_y34 (by rfl)) pa_nil)))) (pw_or1 (pt_cmpR (notin_dic T.t_y38) (pv 4) (pe_glob (by rfl) T.g_y38 (by rfl)) (by with_unfolding_all rfl))))) (pss_one (ps_ret (pe_lst (pa_cons (gi T.c_y13) pa_nil)))) pss_nil) (pss_cons (ps_if (PW.pt (pw_or (pt_not (pt_chain op_le op_le pe_int (pv 5) pe_int)) (pw_or1 (pt_not (pt_chain op_le op_le pe_int (pv 6) (gi T.c_z72)))))) (pss_one (ps_ret (pe_lst (pa_cons (gi T.c_y13) pa_nil)))) pss_nil) (pss_cons (ps_set (i := 7) nd rfl (Or.inl rfl) (F_z93.c hr T.m_z93 (pa_cons (pv 0) (pa_cons (pv 3) (pa_cons (pv 4) (pa_cons (pv 5) (pa_cons (pv 6) pa_nil))))))) (pss_one (ps_ret (pe_lst (pa_cons (gi T.c_y51) (pa_cons (pe_ix ix_tup (pv 7) pe_int (fun _ _ => rfl)) (pa_cons (pe_ix ix_tup (pv 7) pe_int (fun _ _ => rfl)) pa_nil))))))))))))))) only [↓mr]
theorem sc_z67 : FnScope ["machine", "numbers", "data"] ["machine", "numbers", "data"] (defScope s_z67) := by walk_at "sc"
theorem st_z67 (a b c : V) : start ["machine", "numbers", "data"] [a, b, c] = [some a, some b, some c] := rfl
def rd_z67 (K : PySem.W.Frag) (A : Ad) (sp_y29 : Sp) : TS := (tRet (tCall sp_y29 [] E0 (tCons (tVar 0) (tCons (tVar 1) (tCons (tC (.bl false)) tNil)))))
theorem bd_z67 (T : Txt K mg A) {sp_y29 : Sp} (F_y29 : Fn P w K mg base 5 A.y29 ["machine", "numbers", "down"] sp_y29) : bD P w K mg base f cdv Ar outer s H E 5 "call_first" s_z67 ["machine", "numbers", "data"] (rd_z67 K A sp_y29) := fun hr => by
 have nd := sc_z67.nd
 exact (pss_one (ps_ret (F_y29.c hr T.m_y29 (pa_cons (pv 0) (pa_cons (pv 1) (pa_cons pe_bl pa_nil))))))
theorem sc_z80 : FnScope ["machine", "numbers", "data"] ["machine", "numbers", "data"] (defScope s_z80) := by walk_at "sc"
theorem st_z80 (a b c : V) : start ["machine", "numbers", "data"] [a, b, c] = [some a, some b, some c] := rfl
def rd_z80 (K : PySem.W.Frag) (A : Ad) (sp_y29 : Sp) : TS := (tRet (tCall sp_y29 [] E0 (tCons (tVar 0) (tCons (tVar 1) (tCons (tC (.bl true)) tNil)))))
theorem bd_z80 (T : Txt K mg A) {sp_y29 : Sp} (F_y29 : Fn P w K mg base 5 A.y29 ["machine", "numbers", "down"] sp_y29) : bD P w K mg base f cdv Ar outer s H E 5 "call_last" s_z80 ["machine", "numbers", "data"] (rd_z80 K A sp_y29) := fun hr => by
 have nd := sc_z80.nd
 exact (pss_one (ps_ret (F_y29.c hr T.m_y29 (pa_cons (pv 0) (pa_cons (pv 1) (pa_cons pe_bl pa_nil))))))
theorem sc_z59 : FnScope ["machine", "steps", "done", "instruction", "outcome"] ["machine", "steps"] (defScope s_z59) := by walk_at "sc"
theorem st_z59 (a b : V) : start ["machine", "steps", "done", "instruction", "outcome"] [a, b] = [some a, some b, none, none, none] := rfl
def rd_z59 (K : PySem.W.Frag) (A : Ad) (sp_z10 : Sp) (sp_y3 : Sp) : TS := (tSeq (tAsg (tC (.int 0)) (gName 2)) (tWhile tYes (tSeq (tIfS (tTest (tOp (rI0 fun i j => .bl (decide (j ≤ i))) (tFld K (tVar 0) "at") (tCB rLenH (tCons (tFld K (tVar 0) "program") tNil)))) (tRet (tTup (tCons (tC (.int (4))) (tCons (tVar 2) tNil)))) tNext) (tSeq (tAsg (tOp rIxH (tFld K (tVar 0) "program") (tFld K (tVar 0) "at")) (gName 3)) (tSeq (tIfS (tTest (tOp rEq (tFld K (tVar 3) "op") (tC (.int (13))))) (tRet (tTup (tCons (tC (.int (0))) (tCons (tVar 2) tNil)))) tNext) (tSeq (tIfS (tTest (tOp rEq (tVar 2) (tVar 1))) (tRet (tTup (tCons (tC (.int (1))) (tCons (tVar 2) tNil)))) tNext) (tSeq (tIfS (tTest (tOp (rI0 fun i j => .bl (decide (i ≤ j))) (tFld K (tVar 3) "op") (tC (.int (4))))) (tAsg (tCall sp_z10 [] E0 (tCons (tVar 0) (tCons (tVar 3) (tCons (tOp (rI0 fun i j => .int (i - j)) (tVar 1) (tVar 2)) tNil)))) (gName 4)) (tAsg (tCall sp_y3 [] E0 (tCons (tVar 0) (tCons (tVar 3) tNil))) (gName 4))) (tSeq (tAug 2 (tOp (rIxT K) (tVar 4) (tC (.int 1))) (ipI fun i j => i + j)) (tIfS (tTest (tOp rNe (tOp (rIxT K) (tVar 4) (tC (.int 0))) (tC (.int (0))))) (tRet (tTup (tCons (tOp (rIxT K) (tVar 4) (tC (.int 0))) (tCons (tVar 2) tNil)))) tNext)))))))))
theorem bd_z59 (T : Txt K mg A) {sp_z10 : Sp} (F_z10 : Fn P w K mg base 6 A.z10 ["machine", "instruction", "most"] sp_z10) {sp_y3 : Sp} (F_y3 : Fn P w K mg base 4 A.y3 ["machine", "instruction"] sp_y3) : bD P w K mg base f cdv Ar outer s H E 6 "run_program" s_z59 ["machine", "steps", "done", "instruction", "outcome"] (rd_z59 K A sp_z10 sp_y3) := fun hr => by
 refine mq ?_; simp (disch := k_dflt (
 refine mz ?_
 have nd := sc_z59.nd
 exact (pss_cons (ps_set (i := 2) nd rfl (Or.inl rfl) pe_int) (pss_one (ps_while PassesOwn.never pt_yes (pss_cons (ps_if (pt_cmpR op_ge (pe_fld (pv 0) rfl) (pe_callB len_h (by rfl) T.b_len PySem.boot_len (pa_cons (pe_fld (pv 0) rfl) pa_nil)) (nomark _)) (pss_one (ps_ret (pe_tup (pa_cons (gi T.c_z18) (pa_cons (pv 2) pa_nil))))) pss_nil) (pss_cons (ps_set (i := 3) nd rfl (Or.inl rfl) (pe_ix ix_h (pe_fld (pv 0) rfl) (pe_fld (pv 0) rfl) (fun _ _ => rfl))) (pss_cons (ps_if (pt_cmpR op_eq (pe_fld (pv 3) rfl) (gi T.c_y20) (nomark _)) (pss_one (ps_ret (pe_tup (pa_cons (gi T.c_y10) (pa_cons (pv 2) pa_nil))))) pss_nil) (pss_cons (ps_if (pt_cmpR op_eq (pv 2) (pv 1) (nomark _)) (pss_one (ps_ret (pe_tup (pa_cons (gi T.c_z77) (pa_cons (pv 2) pa_nil))))) pss_nil) (pss_cons (ps_if (pt_cmpR op_le (pe_fld (pv 3) rfl) (gi T.c_z16) (nomark _)) (pss_one (ps_set (i := 4) nd rfl (Or.inl rfl) (F_z10.c hr T.m_z10 (pa_cons (pv 0) (pa_cons (pv 3) (pa_cons (pe_op op_sub (pv 1) (pv 2)) pa_nil)))))) (pss_one (ps_set (i := 4) nd rfl (Or.inl rfl) (F_y3.c hr T.m_y3 (pa_cons (pv 0) (pa_cons (pv 3) pa_nil)))))) (pss_cons (ps_aug (i := 2) nd rfl (Or.inl rfl) (pe_ix ix_tup (pv 4) pe_int (fun _ _ => rfl)) ip_add) (pss_one (ps_if (pt_cmpR op_ne (pe_ix ix_tup (pv 4) pe_int (fun _ _ => rfl)) (gi T.c_y10) (nomark _)) (pss_one (ps_ret (pe_tup (pa_cons (pe_ix ix_tup (pv 4) pe_int (fun _ _ => rfl)) (pa_cons (pv 2) pa_nil))))) pss_nil))))))))))))) only [↓mr]
theorem sc_y5 : FnScope ["machine", "numbers", "data", "steps", "outcome"] ["machine", "numbers", "data"] (defScope s_y5) := by walk_at "sc"
theorem st_y5 (a b c : V) : start ["machine", "numbers", "data", "steps", "outcome"] [a, b, c] = [some a, some b, some c, none, none] := rfl
def rd_y5 (K : PySem.W.Frag) (A : Ad) (sp_z59 : Sp) : TS := (tSeq (tAsg (tOp rIxH (tVar 1) (tC (.int 0))) (gName 3)) (tSeq (tIfS (tNot (tTest (tChain (rI0 fun i j => .bl (decide (i ≤ j))) (rI0 fun i j => .bl (decide (i ≤ j))) (tC (.int 0)) (tVar 3) (tC (.int (10000)))))) (tRet (tLst (tCons (tC (.int (-1))) tNil))) tNext) (tSeq (tAsg (tCall sp_z59 [] E0 (tCons (tVar 0) (tCons (tVar 3) tNil))) (gName 4)) (tRet (tLst (tCons (tC (.int (0))) (tCons (tOp (rIxT K) (tVar 4) (tC (.int 0))) (tCons (tOp (rIxT K) (tVar 4) (tC (.int 1))) tNil))))))))
theorem bd_y5 (T : Txt K mg A) {sp_z59 : Sp} (F_z59 : Fn P w K mg base 7 A.z59 ["machine", "steps"] sp_z59) : bD P w K mg base f cdv Ar outer s H E 7 "call_run" s_y5 ["machine", "numbers", "data", "steps", "outcome"] (rd_y5 K A sp_z59) := fun hr => by
 refine mq ?_; simp (disch := k_dflt (
 refine mz ?_
 have nd := sc_y5.nd
 exact (pss_cons (ps_set (i := 3) nd rfl (Or.inl rfl) (pe_ix ix_h (pv 1) pe_int (fun _ _ => rfl))) (pss_cons (ps_if (pt_not (pt_chain op_le op_le pe_int (pv 3) (gi T.c_z72))) (pss_one (ps_ret (pe_lst (pa_cons (gi T.c_y13) pa_nil)))) pss_nil) (pss_cons (ps_set (i := 4) nd rfl (Or.inl rfl) (F_z59.c hr T.m_z59 (pa_cons (pv 0) (pa_cons (pv 3) pa_nil)))) (pss_one (ps_ret (pe_lst (pa_cons (gi T.c_y51) (pa_cons (pe_ix ix_tup (pv 4) pe_int (fun _ _ => rfl)) (pa_cons (pe_ix ix_tup (pv 4) pe_int (fun _ _ => rfl)) pa_nil))))))))))) only [↓mr]
theorem sc_z53 : FnScope ["machine", "reader", "number", "shape", "numbers", "data", "work"] ["machine", "reader"] (defScope s_z53) := by walk_at "sc"
theorem st_z53 (a b : V) : start ["machine", "reader", "number", "shape", "numbers", "data", "work"] [a, b] = [some a, some b, none, none, none, none, none] := rfl
def rd_z53 (K : PySem.W.Frag) (A : Ad) (OK : Nat → Addr → List Str → Sp → Prop) (sp_z1 : Sp) (sp_z12 : Sp) (sp_z2 : Sp) : TS := (tSeq (tAsg (tMeth A.z62 "take_number" sp_z1 [] E0 (tVar 1) tNil) (gName 2)) (tSeq (tIfS (tTest (tOp (rKIn K true) (tVar 2) (tC (.ref A.y36)))) tNever tNext) (tSeq (tAsg (tKGet K (tC (.ref A.y36)) (tVar 2)) (gName 3)) (tSeq (tAsg (tMeth A.z62 "take" sp_z12 [] E0 (tVar 1) (tCons (tOp (rIxT K) (tVar 3) (tC (.int 0))) tNil)) (gName 4)) (tSeq (tAsg (tIf (tTest (tOp rEq (tOp (rIxT K) (tVar 3) (tC (.int 1))) (tC (.int 1)))) (tMeth A.z62 "take_list" sp_z2 [] E0 (tVar 1) tNil) (tLst tNil)) (gName 5)) (tSeq (tAsg (tOp (rIxT K) (tVar 3) (tC (.int 2))) (gName 6)) (tRet (tCallV OK 6 (tCons (tVar 0) (tCons (tVar 4) (tCons (tVar 5) tNil)))))))))))
theorem bd_z53 (T : Txt K mg A) {sp_z1 : Sp} (F_z1 : Fn P w K mg base 2 A.z1 ["self"] sp_z1) {sp_z12 : Sp} (F_z12 : Fn P w K mg base 1 A.z12 ["self", "how_many"] sp_z12) {sp_z2 : Sp} (F_z2 : Fn P w K mg base 3 A.z2 ["self"] sp_z2) : bD P w K mg base f cdv Ar outer s H E 8 "answer_next" s_z53 ["machine", "reader", "number", "shape", "numbers", "data", "work"] (rd_z53 K A (fun k f ps sp => Fn P w K mg base k f ps sp ∧ k ≤ 8) sp_z1 sp_z12 sp_z2) := fun hr => by
 refine mq ?_; simp (disch := k_dflt (
 refine mz ?_
 have nd := sc_z53.nd
 exact (pss_cons (ps_set (i := 2) nd rfl (Or.inl rfl) (F_z1.meth0 hr (by decide) T.cl_z62 T.m_z1 (pv 1))) (pss_cons (ps_if (pt_cmpR op_knotin (pv 2) (pe_glob (by rfl) T.g_y36 (by rfl)) (by with_unfolding_all rfl)) (pss_one ps_never) pss_nil) (pss_cons (ps_set (i := 3) nd rfl (Or.inl rfl) (pe_kget (pe_glob (by rfl) T.g_y36 (by rfl)) (pv 2) (fun _ _ => rfl))) (pss_cons (ps_set (i := 4) nd rfl (Or.inl rfl) (F_z12.meth hr (by decide) T.cl_z62 T.m_z12 (pv 1) (pa_cons (pe_ix ix_tup (pv 3) pe_int (fun _ _ => rfl)) pa_nil))) (pss_cons (ps_set (i := 5) nd rfl (Or.inl rfl) (pe_ifExp (pt_cmpR op_eq (pe_ix ix_tup (pv 3) pe_int (fun _ _ => rfl)) pe_int (nomark _)) (F_z2.meth0 hr (by decide) T.cl_z62 T.m_z2 (pv 1)) (pe_lst pa_nil))) (pss_cons (ps_set (i := 6) nd rfl (Or.inl rfl) (pe_ix ix_tup (pv 3) pe_int (fun _ _ => rfl))) (pss_one (ps_ret (pe_callV 6 hr (pa_cons (pv 0) (pa_cons (pv 4) (pa_cons (pv 5) pa_nil)))))))))))))) only [↓mr]
theorem sc_y15 : FnScope ["calls", "machine", "reader", "given", "answer"] ["calls"] (defScope s_y15) := by walk_at "sc"
theorem st_y15 (a : V) : start ["calls", "machine", "reader", "given", "answer"] [a] = [some a, none, none, none, none] := rfl
def rd_y15 (K : PySem.W.Frag) (A : Ad) (sp_z32 : Sp) (sp_z11 : Sp) (sp_z3 : Sp) (sp_z53 : Sp) : TS := (tSeq (tAsg (tMake A.y21 sp_z32 [] E0 tNil) (gName 1)) (tSeq (tAsg (tMake A.z62 sp_z11 [] E0 (tCons (tVar 0) tNil)) (gName 2)) (tSeq (tAsg (tLst tNil) (gName 3)) (tSeq (tWhile (tNot (tB (tMeth A.z62 "is_at_end" sp_z3 [] E0 (tVar 2) tNil))) (tSeq (tAsg (tCall sp_z53 [] E0 (tCons (tVar 1) (tCons (tVar 2) tNil))) (gName 4)) (tSeq (tDrop (tBM K "list" rAppend (tVar 3) (tCons (tCB rLenH (tCons (tVar 4) tNil)) tNil))) (tDrop (tBM K "list" rExtend (tVar 3) (tCons (tVar 4) tNil)))))) (tRet (tVar 3))))))
theorem bd_y15 (T : Txt K mg A) {sp_z32 : Sp} (F_z32 : Fn P w K mg base 1 A.z32 ["self"] sp_z32) {sp_z11 : Sp} (F_z11 : Fn P w K mg base 1 A.z11 ["self", "calls"] sp_z11) {sp_z3 : Sp} (F_z3 : Fn P w K mg base 1 A.z3 ["self"] sp_z3) {sp_z53 : Sp} (F_z53 : Fn P w K mg base 9 A.z53 ["machine", "reader"] sp_z53) : bD P w K mg base f cdv Ar outer s H E 9 "answers" s_y15 ["calls", "machine", "reader", "given", "answer"] (rd_y15 K A sp_z32 sp_z11 sp_z3 sp_z53) := fun hr => by
 refine mq ?_; simp (disch := k_dflt (
 refine mz ?_
 have nd := sc_y15.nd
 exact (pss_cons (ps_set (i := 1) nd rfl (Or.inl rfl) (F_z32.make0 hr (by decide) (by rfl) T.k_y21 T.m_y21)) (pss_cons (ps_set (i := 2) nd rfl (Or.inl rfl) (F_z11.make hr (by decide) (by rfl) T.k_z62 T.m_z62 (pa_cons (pv 0) pa_nil))) (pss_cons (ps_set (i := 3) nd rfl (Or.inl rfl) (pe_lst pa_nil)) (pss_cons (ps_while PassesOwn.never (pt_not (pt_val (F_z3.meth0 hr (by decide) T.cl_z62 T.m_z3 (pv 2)))) (pss_cons (ps_set (i := 4) nd rfl (Or.inl rfl) (F_z53.c hr T.m_z53 (pa_cons (pv 1) (pa_cons (pv 2) pa_nil)))) (pss_cons (ps_expr (pe_bm PySem.F.plainAttrs_list PySem.F.slot_list_append PySem.F.type_list_append mt_append (pv 3) (pa_cons (pe_callB len_h (by rfl) T.b_len PySem.boot_len (pa_cons (pv 4) pa_nil)) pa_nil))) (pss_one (ps_expr (pe_bm PySem.F.plainAttrs_list PySem.F.slot_list_extend PySem.F.type_list_extend mt_extend (pv 3) (pa_cons (pv 4) pa_nil))))))) (pss_one (ps_ret (pv 3))))))))) only [↓mr]
end
end Sd
namespace Sd
open PySem PySem.Spec PyProof.Rows L2
abbrev Z := RwReelSeed.State
def bv (m : Rw.Bytes) : List V := (RwReelSeed.nums m).map V.int
def rv (m : Rw.Machine) : List V := [.int m.a, .int m.c, .int m.si, .int m.di]
def mf (ca ra pa : Addr) (f p : Int) : List (Str × V) := [("cells", .ref ca), ("regs", .ref ra), ("flags", .int f), ("at", .int p), ("program", .ref pa)]
def insf (i : Rw.Ins) : List (Str × V) := [("op", .int i.op), ("width", .int i.width), ("rep", .int i.rep), ("cond", .int i.cond), ("to", .int i.to), ("x", .int i.x), ("y", .int i.y), ("k", .int i.k)]
section
variable {ca ra pa ca' ra' pa' : Addr} {f p f' p' : Int} {i : Rw.Ins}
theorem mf_cells : (mf ca ra pa f p).lookup ("cells" : Str) = some (.ref ca) := by rfl
theorem mf_regs : (mf ca ra pa f p).lookup ("regs" : Str) = some (.ref ra) := by rfl
theorem mf_flags : (mf ca ra pa f p).lookup ("flags" : Str) = some (.int f) := by rfl
theorem mf_at : (mf ca ra pa f p).lookup ("at" : Str) = some (.int p) := by rfl
theorem mf_program : (mf ca ra pa f p).lookup ("program" : Str) = some (.ref pa) := by rfl
theorem mf_set_cells : putF "cells" (.ref ca') (mf ca ra pa f p) = mf ca' ra pa f p := by rfl
theorem mf_set_regs : putF "regs" (.ref ra') (mf ca ra pa f p) = mf ca ra' pa f p := by rfl
theorem mf_set_flags : putF "flags" (.int f') (mf ca ra pa f p) = mf ca ra pa f' p := by rfl
theorem mf_set_at : putF "at" (.int p') (mf ca ra pa f p) = mf ca ra pa f p' := by rfl
theorem mf_set_program : putF "program" (.ref pa') (mf ca ra pa f p) = mf ca ra pa' f p := by rfl
theorem mf_short : ((mf ca ra pa f p).length < 1000) = True := by simp [mf]
theorem if_op : (insf i).lookup ("op" : Str) = some (.int i.op) := by rfl
theorem if_width : (insf i).lookup ("width" : Str) = some (.int i.width) := by rfl
theorem if_rep : (insf i).lookup ("rep" : Str) = some (.int i.rep) := by rfl
theorem if_cond : (insf i).lookup ("cond" : Str) = some (.int i.cond) := by rfl
theorem if_to : (insf i).lookup ("to" : Str) = some (.int i.to) := by rfl
theorem if_x : (insf i).lookup ("x" : Str) = some (.int i.x) := by rfl
theorem if_y : (insf i).lookup ("y" : Str) = some (.int i.y) := by rfl
theorem if_k : (insf i).lookup ("k" : Str) = some (.int i.k) := by rfl
end
theorem short0 : (([] : List V).length ≤ sizeLine) = True := by simp
theorem short1 {a : V} : ([a].length ≤ sizeLine) = True := eq_true (by show 1 ≤ sizeLine; decide)
theorem short2 {a b : V} : ([a, b].length ≤ sizeLine) = True := eq_true (by show 2 ≤ sizeLine; decide)
theorem short3 {a b c : V} : ([a, b, c].length ≤ sizeLine) = True := eq_true (by show 3 ≤ sizeLine; decide)
theorem short4 {a b c d : V} : ([a, b, c, d].length ≤ sizeLine) = True := eq_true (by show 4 ≤ sizeLine; decide)
theorem rv_at {m : Rw.Machine} {r : Nat} (h : r ≤ 3) : atI (rv m) (r : Int) = some (.int (m.get r)) := by
 refine atI_nat ?_
 have : r = 0 ∨ r = 1 ∨ r = 2 ∨ r = 3 := by omega
 rcases this with rfl | rfl | rfl | rfl <;> rfl
theorem rv_ix {m : Rw.Machine} {r : Nat} (h : r ≤ 3) : ixN (rv m).length (r : Int) = some r := by
 have e : (rv m).length = 4 := rfl
 rw [e]
 unfold ixN
 rw [if_pos (by omega), if_pos (by omega)]
 simp
theorem rv_set {m : Rw.Machine} {r v : Nat} (h : r ≤ 3) : (rv m).set r (.int v) = rv (m.put r v) := by
 have : r = 0 ∨ r = 1 ∨ r = 2 ∨ r = 3 := by omega
 rcases this with rfl | rfl | rfl | rfl <;> rfl
theorem put_flags {m : Rw.Machine} {r v : Nat} : (m.put r v).flags = m.flags := by
 unfold Rw.Machine.put
 split
 · rfl
 · split
   · rfl
   · split <;> rfl
theorem put_place {m : Rw.Machine} {r v : Nat} : (m.put r v).place = m.place := by
 unfold Rw.Machine.put
 split
 · rfl
 · split
   · rfl
   · split <;> rfl
structure Loc where
 p : Addr
 ca : Addr
 ra : Addr
 dx : Addr
 pa : Addr
 qs : List Addr
structure Regs (m : Rw.Machine) : Prop where
 a : m.a < 2 ^ 64
 c : m.c < 2 ^ 64
 si : m.si < 2 ^ 64
 di : m.di < 2 ^ 64
theorem Regs.get {m : Rw.Machine} (h : Regs m) (r : Nat) : m.get r < 2 ^ 64 := by
 unfold Rw.Machine.get
 split
 · exact h.a
 · split
   · exact h.c
   · split
     · exact h.si
     · exact h.di
theorem Regs.put {m : Rw.Machine} (h : Regs m) (r : Nat) {v : Nat} (hv : v < 2 ^ 64) : Regs (m.put r v) := by
 unfold Rw.Machine.put
 split
 · exact ⟨hv, h.c, h.si, h.di⟩
 · split
   · exact ⟨h.a, hv, h.si, h.di⟩
   · split
     · exact ⟨h.a, h.c, hv, h.di⟩
     · exact ⟨h.a, h.c, h.si, hv⟩
structure MachAt (A : Ad) (H : Hp) (L : Loc) (z : Z) : Prop where
 obj : H L.p = some (.ins A.y21 L.dx (mf L.ca L.ra L.pa z.s.m.flags z.s.m.place))
 cells : H L.ca = some (.lst (bv z.s.mem))
 regs : H L.ra = some (.lst (rv z.s.m))
 prog : H L.pa = some (.lst (L.qs.map V.ref))
 qlen : L.qs.length = z.p.length
 ins : ∀ (i : Nat) (q : Addr), L.qs[i]? = some q → ∃ (n : Rw.Ins) (dq : Addr), z.p[i]? = some n ∧ H q = some (.ins A.z57 dq (insf n))
 cr : L.ca ≠ L.ra
 pc : L.pa ≠ L.ca
 pr : L.pa ≠ L.ra
 mem : z.s.mem.length ≤ 256
 wf : Regs z.s.m
 good : ∀ n ∈ z.p, Rw.ill z.p.length n = false ∧ n.k < 2 ^ 64
def Fr (L : Loc) (H H' : Hp) : Prop := ∀ b o, H b = some o → b ≠ L.p → b ≠ L.ca → b ≠ L.ra → H' b = some o
theorem Fr.refl (L : Loc) (H : Hp) : Fr L H H := fun _ _ h _ _ _ => h
theorem Fr.trans {L : Loc} {H H1 H2 : Hp} (a : Fr L H H1) (b : Fr L H1 H2) : Fr L H H2 := fun c o h h1 h2 h3 => b c o (a c o h h1 h2 h3) h1 h2 h3
theorem Fr.of_same {L : Loc} {H H' : Hp} (h : Same H H') : Fr L H H' := fun b o e _ _ _ => h b o e
theorem same_upd {H : Hp} {a : Addr} {o : HO} (h : H a = none) : Same H (upd H a o) := fun b u e => by rw [upd_ne (ne_of_none e h)]; exact e
theorem upd_id {H : Hp} {a : Addr} {o : HO} (h : H a = some o) : upd H a o = H := by
 funext b
 unfold upd
 split
 · rename_i e
   rw [e, h]
 · rfl
section
variable {A : Ad} {H H' : Hp} {L : Loc} {z : Z}
theorem MachAt.p_ca (M : MachAt A H L z) : L.p ≠ L.ca := ne_of M.obj M.cells (by intro q; cases q)
theorem MachAt.p_ra (M : MachAt A H L z) : L.p ≠ L.ra := ne_of M.obj M.regs (by intro q; cases q)
theorem MachAt.p_pa (M : MachAt A H L z) : L.p ≠ L.pa := ne_of M.obj M.prog (by intro q; cases q)
theorem MachAt.same (M : MachAt A H L z) (s : Same H H') : MachAt A H' L z where
 obj := s _ _ M.obj
 cells := s _ _ M.cells
 regs := s _ _ M.regs
 prog := s _ _ M.prog
 qlen := M.qlen
 ins := fun i q h => by
   obtain ⟨n, dq, h1, h2⟩ := M.ins i q h
   exact ⟨n, dq, h1, s _ _ h2⟩
 cr := M.cr
 pc := M.pc
 pr := M.pr
 mem := M.mem
 wf := M.wf
 good := M.good
theorem MachAt.setCells (M : MachAt A H L z) {m : Rw.Bytes} (hm : m.length ≤ 256) : MachAt A (upd H L.ca (.lst (bv m))) L { z with s := { z.s with mem := m } } where
 obj := by rw [upd_ne M.p_ca]; exact M.obj
 cells := upd_same
 regs := by rw [upd_ne M.cr.symm]; exact M.regs
 prog := by rw [upd_ne M.pc]; exact M.prog
 qlen := M.qlen
 ins := fun i q h => by
   obtain ⟨n, dq, h1, h2⟩ := M.ins i q h
   exact ⟨n, dq, h1, by rw [upd_ne (ne_of h2 M.cells (by intro q; cases q))]; exact h2⟩
 cr := M.cr
 pc := M.pc
 pr := M.pr
 mem := hm
 wf := M.wf
 good := M.good
theorem MachAt.frCells (M : MachAt A H L z) {o : HO} : Fr L H (upd H L.ca o) := fun b u h _ h2 _ => by rw [upd_ne h2]; exact h
theorem MachAt.frRegs (M : MachAt A H L z) {o : HO} : Fr L H (upd H L.ra o) := fun b u h _ _ h3 => by rw [upd_ne h3]; exact h
theorem MachAt.frObj (M : MachAt A H L z) {o : HO} : Fr L H (upd H L.p o) := fun b u h h1 _ _ => by rw [upd_ne h1]; exact h
theorem MachAt.setRegs (M : MachAt A H L z) {m : Rw.Machine} (hm : Regs m) (hf : m.flags = z.s.m.flags) (hp : m.place = z.s.m.place) : MachAt A (upd H L.ra (.lst (rv m))) L { z with s := { z.s with m := m } } where
 obj := by rw [upd_ne M.p_ra, show m.flags = z.s.m.flags from hf, show m.place = z.s.m.place from hp]; exact M.obj
 cells := by rw [upd_ne M.cr]; exact M.cells
 regs := upd_same
 prog := by rw [upd_ne M.pr]; exact M.prog
 qlen := M.qlen
 ins := fun i q h => by
   obtain ⟨n, dq, h1, h2⟩ := M.ins i q h
   exact ⟨n, dq, h1, by rw [upd_ne (ne_of h2 M.regs (by intro q; cases q))]; exact h2⟩
 cr := M.cr
 pc := M.pc
 pr := M.pr
 mem := M.mem
 wf := hm
 good := M.good
theorem insf_ne {C C' dx dx' : Addr} {n : Rw.Ins} {ca ra pa : Addr} {f p : Int} : HO.ins C dx (insf n) ≠ HO.ins C' dx' (mf ca ra pa f p) := by
 intro q
 injection q with _ _ q
 have := congrArg List.length q
 simp [insf, mf] at this
theorem MachAt.setObj (M : MachAt A H L z) (f p : Nat) : MachAt A (upd H L.p (.ins A.y21 L.dx (mf L.ca L.ra L.pa f p))) L { z with s := { z.s with m := { z.s.m with flags := f, place := p } } } where
 obj := upd_same
 cells := by rw [upd_ne M.p_ca.symm]; exact M.cells
 regs := by rw [upd_ne M.p_ra.symm]; exact M.regs
 prog := by rw [upd_ne M.p_pa.symm]; exact M.prog
 qlen := M.qlen
 ins := fun i q h => by
   obtain ⟨n, dq, h1, h2⟩ := M.ins i q h
   exact ⟨n, dq, h1, by rw [upd_ne (ne_of h2 M.obj insf_ne)]; exact h2⟩
 cr := M.cr
 pc := M.pc
 pr := M.pr
 mem := M.mem
 wf := ⟨M.wf.a, M.wf.c, M.wf.si, M.wf.di⟩
 good := M.good
theorem MachAt.newCells (M : MachAt A H L z) {l : Addr} (hl : H l = none) {m : Rw.Bytes} (hm : m.length ≤ 256) : MachAt A (upd (upd H l (.lst (bv m))) L.p (.ins A.y21 L.dx (mf l L.ra L.pa z.s.m.flags z.s.m.place))) { L with ca := l } { z with s := { z.s with mem := m } } where
 obj := upd_same
 cells := by rw [upd_ne (ne_of_none M.obj hl).symm]; exact upd_same
 regs := by rw [upd_ne M.p_ra.symm, upd_ne (ne_of_none M.regs hl)]; exact M.regs
 prog := by rw [upd_ne M.p_pa.symm, upd_ne (ne_of_none M.prog hl)]; exact M.prog
 qlen := M.qlen
 ins := fun i q h => by
   obtain ⟨n, dq, h1, h2⟩ := M.ins i q h
   exact ⟨n, dq, h1, by rw [upd_ne (ne_of h2 M.obj insf_ne), upd_ne (ne_of_none h2 hl)]; exact h2⟩
 cr := (ne_of_none M.regs hl).symm
 pc := ne_of_none M.prog hl
 pr := M.pr
 mem := hm
 wf := M.wf
 good := M.good
theorem MachAt.newProg (M : MachAt A H L z) {l : Addr} {qs : List Addr} {p : List Rw.Ins} (hc : l ≠ L.ca) (hr : l ≠ L.ra) (hl : H l = some (.lst (qs.map V.ref))) (hq : qs.length = p.length) (hi : ∀ (i : Nat) (q : Addr), qs[i]? = some q → ∃ (n : Rw.Ins) (dq : Addr), p[i]? = some n ∧ H q = some (.ins A.z57 dq (insf n)))
   (hg : ∀ n ∈ p, Rw.ill p.length n = false ∧ n.k < 2 ^ 64) : MachAt A (upd H L.p (.ins A.y21 L.dx (mf L.ca L.ra l z.s.m.flags z.s.m.place))) { L with pa := l, qs := qs } { z with p := p } where
 obj := upd_same
 cells := by rw [upd_ne M.p_ca.symm]; exact M.cells
 regs := by rw [upd_ne M.p_ra.symm]; exact M.regs
 prog := by rw [upd_ne (ne_of hl M.obj (by intro q; cases q))]; exact hl
 qlen := hq
 ins := fun i q h => by
   obtain ⟨n, dq, h1, h2⟩ := hi i q h
   exact ⟨n, dq, h1, by rw [upd_ne (ne_of h2 M.obj insf_ne)]; exact h2⟩
 cr := M.cr
 pc := hc
 pr := hr
 mem := M.mem
 wf := M.wf
 good := hg
end
end Sd

namespace Sd
open PySem PySem.Spec PyProof.Rows L2
local macro_rules | `(tactic| walk_at $s:str) => do
 let x ← match s.getString with | "wp" => `(tIfS) | "wq" => `(tIf) | _ => Lean.Macro.throwUnsupported
 `(tactic| simp only [$x:term, tVar, tC, t2I, tOp, tUn, rI, rI0, rU, rEq, rNe, tTest, tChain, tB, tAnd, tOr, tNot, tAndV, tOrV, tNotV, tIf, tSeq, tNext, tAsg, gName, gSub, rSetL, tAug, ipI, tAugS, tDrop, tRet, tRetN,
 tNever, tFld, sFld, sFldAug, rAdd, rSub, tCB, tNil, tCons, tTup, tLst, rIxH, rLenH, rListOfH, rAllH, rSlH, tSl, tNoPart, tPart, rInTab, rInDic, tDicGet, rIxTab, rLenTab, tCall, tYes, scal, iRng1, iRng2, iRng3, iListH, tMake, tMeth, rMax2, rMin2, tIsN, tNotN, tLR1, tLR3, tRevL,
 upd_same, short0, short1, short2, short3, short4, mf_short, mf_cells, mf_regs, mf_flags, mf_at, mf_program, mf_set_cells, mf_set_regs, mf_set_flags, mf_set_at, mf_set_program, if_op, if_width, if_rep, if_cond, if_to, if_x, if_y, if_k,
 List.getElem?_cons_zero, List.getElem?_cons_succ, List.set_cons_zero, List.set_cons_succ, Option.some.injEq, V.int.injEq, V.ref.injEq, V.bl.injEq, HO.lst.injEq, HO.ins.injEq, List.cons.injEq, reduceCtorEq,
 exists_eq_left, exists_eq_left', exists_eq_right, exists_and_left, exists_and_right, and_true, true_and, and_false, false_and, exists_false, List.append_nil, and_assoc, decide_eq_true_eq, Bool.not_eq_true', decide_eq_false_iff_not, Bool.false_eq_true, if_true, if_false, *])
variable {P : Program} {w : World} {K : PySem.W.Frag} {mg : Str → Option Value} {base : Heap} {A : Ad}
theorem bv_len (m : Rw.Bytes) : (bv m).length = m.length := by unfold bv; rw [List.length_map, Rm.nums_len]
theorem ix_nat {n j : Nat} {i : Int} (h : i = (j : Int)) (hj : j < n) : ixN n i = some j := by
 subst h
 unfold ixN
 rw [if_pos (by omega), if_pos (by omega)]
 simp
theorem cut_nat {xs : List V} {a b : Nat} {i j : Int} (hi : i = (a : Int)) (hj : j = (b : Int)) (hb : b ≤ xs.length) (hab : a ≤ b) : cutV xs (some i) (some j) = (xs.drop a).take (b - a) := by
 subst hi hj
 unfold cutV
 rw [HT.sIx_nat, HT.sIx_nat, Nat.min_eq_left hb, Nat.min_eq_left (by omega)]
theorem bitAnd_nat (f m : Nat) : Builtin.bitAnd (f : Int) (m : Int) = ((f &&& m : Nat) : Int) := by
 unfold Builtin.bitAnd
 rw [decide_eq_true (show (0 : Int) ≤ (f : Int) by omega), decide_eq_true (show (0 : Int) ≤ (m : Int) by omega)]
 rfl
theorem bitNot_nat (m : Nat) : (Builtin.bitNot (Builtin.bitNot (m : Int))).toNat = m := by
 unfold Builtin.bitNot
 omega
theorem bitAnd_not (f m : Nat) : Builtin.bitAnd (f : Int) (Builtin.bitNot (m : Int)) = ((f - (f &&& m) : Nat) : Int) := by
 unfold Builtin.bitAnd
 rw [decide_eq_true (show (0 : Int) ≤ (f : Int) by omega), decide_eq_false (show ¬ (0 : Int) ≤ Builtin.bitNot (m : Int) by unfold Builtin.bitNot; omega)]
 show (f : Int) - (((f : Int).toNat &&& (Builtin.bitNot (Builtin.bitNot (m : Int))).toNat : Nat) : Int) = _
 rw [bitNot_nat, Int.toNat_natCast]
 have : (f &&& m) ≤ f := Nat.and_le_left
 generalize f &&& m = y at this ⊢
 omega
theorem bitOr_nat (f m : Nat) : Builtin.bitOr (f : Int) (m : Int) = ((f ||| m : Nat) : Int) := by
 unfold Builtin.bitOr
 have e : Builtin.bitAnd (Builtin.bitNot (f : Int)) (Builtin.bitNot (m : Int)) = Builtin.bitNot ((f ||| m : Nat) : Int) := by
   unfold Builtin.bitAnd
   rw [decide_eq_false (show ¬ (0 : Int) ≤ Builtin.bitNot (f : Int) by unfold Builtin.bitNot; omega), decide_eq_false (show ¬ (0 : Int) ≤ Builtin.bitNot (m : Int) by unfold Builtin.bitNot; omega)]
   show Builtin.bitNot (((Builtin.bitNot (Builtin.bitNot (f : Int))).toNat ||| (Builtin.bitNot (Builtin.bitNot (m : Int))).toNat : Nat) : Int) = _
   rw [bitNot_nat, bitNot_nat]
 rw [e]
 unfold Builtin.bitNot
 omega
theorem bitXor_nat (f m : Nat) : Builtin.bitXor (f : Int) (m : Int) = ((f ^^^ m : Nat) : Int) := by
 unfold Builtin.bitXor
 rw [bitOr_nat, bitAnd_nat]
 have h0 : (f ^^^ m) &&& (f &&& m) = 0 := by
   apply Nat.eq_of_testBit_eq
   intro j
   rw [Nat.testBit_and, Nat.testBit_xor, Nat.testBit_and, Nat.zero_testBit]
   cases f.testBit j <;> cases m.testBit j <;> rfl
 have h : (f ^^^ m) + (f &&& m) = f ||| m := by
   apply Nat.eq_of_testBit_eq
   intro j
   rw [Rm.add_testBit _ _ _ h0, Nat.testBit_xor, Nat.testBit_and, Nat.testBit_or]
   cases f.testBit j <;> cases m.testBit j <;> rfl
 rw [← h]
 generalize f &&& m = y
 generalize f ^^^ m = x
 omega
theorem Txt.mach (T : Txt K mg A) : Cls K A.y21 ∧ NoAttr K A.y21 "cells" ∧ NoAttr K A.y21 "regs" ∧ NoAttr K A.y21 "flags" ∧ NoAttr K A.y21 "at" ∧ NoAttr K A.y21 "program" :=
 ⟨T.cl_y21, T.n_y21_cells, T.n_y21_regs, T.n_y21_flags, T.n_y21_at, T.n_y21_program⟩
theorem Txt.instr (T : Txt K mg A) : Cls K A.z57 ∧ NoAttr K A.z57 "op" ∧ NoAttr K A.z57 "width" ∧ NoAttr K A.z57 "rep" ∧ NoAttr K A.z57 "cond" ∧ NoAttr K A.z57 "to" ∧ NoAttr K A.z57 "x" ∧ NoAttr K A.z57 "y" ∧ NoAttr K A.z57 "k" :=
 ⟨T.cl_z57, T.n_z57_op, T.n_z57_width, T.n_z57_rep, T.n_z57_cond, T.n_z57_to, T.n_z57_x, T.n_z57_y, T.n_z57_k⟩
def sp_z58 : Sp := fun vs H Q _ => ∃ (ca : Addr) (m : Rw.Bytes) (x w : Nat), vs = [.ref ca, .int x, .int w] ∧ H ca = some (.lst (bv m)) ∧ Q (.bl (Rw.there m x w)) H
theorem ok_z58 (T : Txt K mg A) : Fn P w K mg base 1 A.z58 ["cells", "place", "width"] sp_z58 := by
 refine Fn.on T.d_z58 sc_z58 (fun _ _ _ _ _ _ hr => bd_z58 T hr) fun vs H Q h => ?_
 obtain ⟨ca, m, x, w, rfl, hc, q⟩ := h
 refine ⟨rfl, ?_⟩
 rw [st_z58, rd_z58]
 walk_at "wp"
 unfold Rw.there at q
 rw [bv_len]
 rw [show decide ((x : Int) + (w : Int) ≤ (m.length : Int)) = decide (x + w ≤ m.length) from decide_eq_decide.mpr (by omega)]
 exact q
def sp_z33 : Sp := fun vs H Q _ => ∃ (v w : Nat), vs = [.int v, .int w] ∧ w ≤ 8 ∧ Q (.int (Rw.turned w v)) H
theorem ok_z33 (T : Txt K mg A) : Fn P w K mg base 1 A.z33 ["number", "width"] sp_z33 := by
 refine mq ?_; simp (disch := k_dflt (
 refine mz ?_
 refine Fn.on T.d_z33 sc_z33 (fun _ _ _ _ _ _ hr => bd_z33 T hr) fun vs H Q h => ?_
 obtain ⟨v, w, rfl, hw, q⟩ := h
 refine ⟨rfl, ?_⟩
 rw [st_z33, rd_z33]
 walk_at "wp"
 refine ⟨_, rfl, _, rfl, by omega, by omega, for_range (n := w) (fun i σ H' => H' = H ∧ ∃ o, σ = [some (.int v), some (.int w), some (.int ((v / 256 ^ i : Nat) : Int)), some (.int (Rw.turned i v)), o]) ?_ ?_ ?_⟩
 · exact ⟨rfl, none, by simp [Rw.turned, Rw.littleOf, Rw.little]⟩
 · rintro i σ H' hi ⟨rfl, o, rfl⟩
   walk_at "wp"
   have e := Rm.div_succ v i
   have e2 := Rm.turned_succ i v
   rw [e2]
   generalize v / 256 ^ i = y at e ⊢
   refine ⟨.inr ⟨by decide, by decide⟩, by decide, ⟨by decide, by decide⟩, by omega, by omega, _, rfl⟩
 · rintro σ H' ⟨rfl, o, rfl⟩
   walk_at "wp")) only [↓mr]
def sp_y24 (A : Ad) : Sp := fun vs H Q _ => ∃ (L : Loc) (z : Z) (i : Nat), vs = [.ref L.p, .int ((2 ^ i : Nat) : Int)] ∧ MachAt A H L z ∧ Q (.bl (Rw.bitAt z.s.m.flags i)) H
theorem ok_y24 (T : Txt K mg A) : Fn P w K mg base 1 A.y24 ["machine", "bit"] (sp_y24 A) := by
 refine mq ?_; simp (disch := k_dflt (
 refine mz ?_
 refine Fn.on T.d_y24 sc_y24 (fun _ _ _ _ _ _ hr => bd_y24 T hr) fun vs H Q h => ?_
 obtain ⟨L, z, i, rfl, M, q⟩ := h
 refine ⟨rfl, ?_⟩
 rw [st_y24, rd_y24]
 have h1 := M.obj
 obtain ⟨t1, t2, t3, t4, t5, t6⟩ := T.mach
 walk_at "wp"
 rw [bitAnd_nat, show (!decide (((z.s.m.flags &&& 2 ^ i : Nat) : Int) = 0)) = Rw.bitAt z.s.m.flags i from ?_]
 · exact q
 · rw [← Rm.and_bit]
   generalize z.s.m.flags &&& 2 ^ i = y
   rw [bne, Bool.beq_eq_decide_eq]
   congr 1
   exact decide_eq_decide.mpr (by omega))) only [↓mr]
def sp_z60 (A : Ad) : Sp := fun vs H Q _ => ∃ (L : Loc) (z : Z) (r : Nat) (n : Int), vs = [.ref L.p, .int r, .int n] ∧ r ≤ 3 ∧ MachAt A H L z ∧
 ∀ H', MachAt A H' L { z with s := z.s.put r (((z.s.m.get r : Int) + n) % 18446744073709551616).toNat } → Fr L H H' → Q .non H'
theorem ok_z60 (T : Txt K mg A) : Fn P w K mg base 1 A.z60 ["machine", "which", "number"] (sp_z60 A) := by
 refine mq ?_; simp (disch := k_dflt (
 refine mz ?_
 refine Fn.on T.d_z60 sc_z60 (fun _ _ _ _ _ _ hr => bd_z60 T hr) fun vs H Q h => ?_
 obtain ⟨L, z, r, n, rfl, hr, M, q⟩ := h
 refine ⟨rfl, ?_⟩
 rw [st_z60, rd_z60]
 have h1 := M.obj
 have h4 := M.regs
 have h5 := @rv_at z.s.m r hr
 have h6 := @rv_ix z.s.m r hr
 obtain ⟨t1, t2, t3, t4, t5, t6⟩ := T.mach
 walk_at "wp"
 refine ⟨by decide, ?_⟩
 have hb : (((z.s.m.get r : Int) + n) % 18446744073709551616).toNat < 2 ^ 64 := by omega
 have e : ((z.s.m.get r : Int) + n) % 18446744073709551616 = (((((z.s.m.get r : Int) + n) % 18446744073709551616).toNat : Nat) : Int) := by omega
 rw [e, rv_set hr]
 exact q _ (M.setRegs (M.wf.put r hb) put_flags put_place) M.frRegs)) only [↓mr]
def sp_z70 : Sp := fun vs H Q _ => ∃ (ca : Addr) (m : Rw.Bytes) (x w v : Nat), vs = [.ref ca, .int x, .int w, .int v] ∧ H ca = some (.lst (bv m)) ∧ m.length ≤ 256 ∧ x + w ≤ m.length ∧ Q .non (upd H ca (.lst (bv (Rw.poke m x w v))))
theorem ok_z70 (T : Txt K mg A) : Fn P w K mg base 1 A.z70 ["cells", "place", "width", "number"] sp_z70 := by
 refine mq ?_; simp (disch := k_dflt (
 refine mz ?_
 refine Fn.on T.d_z70 sc_z70 (fun _ _ _ _ _ _ hr => bd_z70 T hr) fun vs H Q h => ?_
 obtain ⟨ca, m, x, w, v, rfl, hc, hm, hx, q⟩ := h
 refine ⟨rfl, ?_⟩
 rw [st_z70, rd_z70]
 walk_at "wp"
 refine ⟨_, rfl, _, rfl, by omega, by omega, for_range (n := w) (fun i σ H' => H' = upd H ca (.lst (bv (Rw.poke m x i v))) ∧ ∃ o, σ = [some (.ref ca), some (.int x), some (.int w), some (.int v), some (.int ((v / 256 ^ i : Nat) : Int)), o]) ?_ ?_ ?_⟩
 · rw [Rm.poke_zero]
   exact ⟨(upd_id hc).symm, none, by simp⟩
 · rintro i σ H' hi ⟨rfl, o, rfl⟩
   have u := @upd_same H ca (.lst (bv (Rw.poke m x i v)))
   have e := Rm.div_succ v i
   have hl : (bv (Rw.poke m x i v)).length = m.length := by rw [bv_len, Rm.poke_len v (by omega)]
   have hk : ixN (bv (Rw.poke m x i v)).length ((x : Int) + (0 + (i : Int))) = some (x + i) := by
     rw [hl]
     exact ix_nat (by omega) (by omega)
   clear hl
   walk_at "wp"
   refine ⟨by decide, ⟨by decide, by decide⟩, ?_, by generalize v / 256 ^ i = y; omega, _, rfl⟩
   rw [upd_upd, Rm.poke_succ v (by omega)]
   unfold bv
   rw [← Rm.nums_set, List.map_set]
   rfl
 · rintro σ H' ⟨rfl, o, rfl⟩
   exact q)) only [↓mr]
def sp_z75 : Sp := fun vs H Q _ => ∃ (ca : Addr) (m : Rw.Bytes) (x w : Nat), vs = [.ref ca, .int x, .int w] ∧ H ca = some (.lst (bv m)) ∧ x + w ≤ m.length ∧ ∀ H', Same H H' → Q (.int (Rw.peek m x w)) H'
theorem ok_z75 (T : Txt K mg A) : Fn P w K mg base 1 A.z75 ["cells", "place", "width"] sp_z75 := by
 refine mq ?_; simp (disch := k_dflt (
 refine mz ?_
 refine Fn.on T.d_z75 sc_z75 (fun _ _ _ _ _ _ hr => bd_z75 T hr) fun vs H Q h => ?_
 obtain ⟨ca, m, x, w, rfl, hc, hx, q⟩ := h
 refine ⟨rfl, ?_⟩
 rw [st_z75, rd_z75]
 walk_at "wp"
 refine ⟨_, rfl, _, rfl, _, rfl, _, rfl, _, rfl, _, _, rfl, rfl, _, rfl, ca, _, rfl, hc, fun p hp => ?_⟩
 have hcut : cutV (bv m) (some (x : Int)) (some ((x : Int) + (w : Int))) = (((RwReelSeed.nums m).drop x).take w).map V.int := by
   rw [cut_nat (a := x) (b := x + w) rfl (by omega) (by rw [bv_len]; exact hx) (by omega)]
   unfold bv
   rw [← List.map_drop, ← List.map_take, show x + w - x = w by omega]
 rw [hcut]
 have hpk := Rm.readN_peek m x w
 generalize ((RwReelSeed.nums m).drop x).take w = ns at hpk ⊢
 refine ⟨p, _, rfl, SqL.of upd_same, for_rev (fun i σ H' => Same (upd H p (.lst (ns.map V.int))) H' ∧ ∃ o, σ = [some (.ref ca), some (.int x), some (.int w), some (.int (Rm.readN (ns.reverse.take i).reverse)), o]) ?_ ?_ ?_ ?_⟩
 · exact ⟨Same.refl _, none, by simp [Rm.readN]⟩
 · rintro i σ H' hi ⟨hS, o, rfl⟩
   exact SqL.of (hS _ _ upd_same)
 · rintro i y σ H' hi ⟨hS, o, rfl⟩
   rw [← List.map_reverse, List.getElem?_map] at hi
   obtain ⟨b, hb, rfl⟩ := Option.map_eq_some_iff.mp hi
   have e : Rm.readN (ns.reverse.take (i + 1)).reverse = Rm.readN (ns.reverse.take i).reverse * 256 + b := by
     obtain ⟨hl, eb⟩ := List.getElem?_eq_some_iff.mp hb
     rw [List.take_succ_eq_append_getElem hl, List.reverse_append, eb]
     rfl
   walk_at "wp"
   exact ⟨.inr ⟨by decide, by decide⟩, _, rfl⟩
 · rintro σ H' ⟨hS, o, rfl⟩
   walk_at "wp"
   rw [List.length_map, List.take_of_length_le (by rw [List.length_reverse]; exact Nat.le_refl _), List.reverse_reverse, hpk]
   exact q H' (Same.trans (same_upd hp) hS))) only [↓mr]
def sp_z96 (A : Ad) : Sp := fun vs H Q _ => ∃ (L : Loc) (z : Z) (b : Bool), vs = [.ref L.p, .bl b] ∧ MachAt A H L z ∧
 ∀ H', MachAt A H' L { z with s := { z.s with m := { z.s.m with flags := Rw.giving z.s.m.flags [(Rw.DOWN, b)] } } } → Fr L H H' → Q .non H'
theorem ok_z96 (T : Txt K mg A) : Fn P w K mg base 1 A.z96 ["machine", "down"] (sp_z96 A) := by
 refine mq ?_; simp (disch := k_dflt (
 refine mz ?_
 refine Fn.on T.d_z96 sc_z96 (fun _ _ _ _ _ _ hr => bd_z96 T hr) fun vs H Q h => ?_
 obtain ⟨L, z, b, rfl, M, q⟩ := h
 refine ⟨rfl, ?_⟩
 rw [st_z96, rd_z96]
 have h1 := M.obj
 have e : Builtin.bitAnd (z.s.m.flags : Int) (Builtin.bitNot 1024) = ((z.s.m.flags - (z.s.m.flags &&& 1024) : Nat) : Int) := bitAnd_not _ 1024
 obtain ⟨t1, t2, t3, t4, t5, t6⟩ := T.mach
 rw [Rm.giving_down] at q
 walk_at "wp"
 cases b with
 | true =>
   rw [if_pos rfl, upd_upd, show Builtin.bitOr ((z.s.m.flags - (z.s.m.flags &&& 1024) : Nat) : Int) 1024 = _ from bitOr_nat _ 1024]
   exact q _ (M.setObj _ z.s.m.place) M.frObj
 | false =>
   rw [if_neg (by simp)]
   rw [if_neg (by simp), Nat.or_zero] at q
   have q := q _ (M.setObj (z.s.m.flags - (z.s.m.flags &&& 1024)) z.s.m.place) M.frObj
   exact q)) only [↓mr]
theorem sizes_lookup {w : Nat} (hw : Rw.fine w = true) : List.lookup (w : Int) (tab_y38 A) = some (V.int ((256 ^ w : Nat) : Int)) := by
 rcases Rm.isW.mp hw with rfl | rfl | rfl | rfl <;> rfl
def sp_z21 (A : Ad) : Sp := fun vs H Q _ => ∃ (L : Loc) (z : Z) (r w v : Nat), vs = [.ref L.p, .int r, .int w, .int v] ∧ r ≤ 3 ∧ Rw.fine w = true ∧ v < 256 ^ w ∧ MachAt A H L z ∧
 ∀ H', MachAt A H' L { z with s := z.s.put r (Rw.merged w (z.s.m.get r) v) } → Fr L H H' → Q .non H'
theorem ok_z21 (T : Txt K mg A) : Fn P w K mg base 1 A.z21 ["machine", "which", "width", "number"] (sp_z21 A) := by
 refine mq ?_; simp (disch := k_dflt (
 refine mz ?_
 refine Fn.on T.d_z21 sc_z21 (fun _ _ _ _ _ _ hr => bd_z21 T hr) fun vs H Q h => ?_
 obtain ⟨L, z, r, w, v, rfl, hr, hw, hv, M, q⟩ := h
 refine ⟨rfl, ?_⟩
 rw [st_z21, rd_z21]
 have h1 := M.obj
 have h4 := M.regs
 have h5 := @rv_at z.s.m r hr
 have h6 := @rv_ix z.s.m r hr
 have h7 := @sizes_lookup A w hw
 have hg := M.wf.get r
 have hb : Rw.merged w (z.s.m.get r) v < 2 ^ 64 := Rm.merged_lt hw hg
 obtain ⟨t1, t2, t3, t4, t5, t6⟩ := T.mach
 walk_at "wp"
 have q := q _ (M.setRegs (M.wf.put r hb) put_flags put_place) M.frRegs
 rw [← rv_set hr] at q
 unfold Rw.merged at q
 rw [Nat.mod_eq_of_lt hv] at q
 by_cases h : w < 4
 · rw [if_pos (by omega)]
   rw [if_pos h] at q
   refine ⟨by have := Nat.pow_pos (n := w) (show 0 < 256 by decide); omega, ?_⟩
   have hle : z.s.m.get r % 256 ^ w ≤ z.s.m.get r := Nat.mod_le _ _
   have e : ((z.s.m.get r - z.s.m.get r % 256 ^ w + v : Nat) : Int) = (z.s.m.get r : Int) - (z.s.m.get r : Int) % ((256 ^ w : Nat) : Int) + (v : Int) := by
     rw [← Int.natCast_emod]
     generalize z.s.m.get r % 256 ^ w = y at hle ⊢
     omega
   rw [← e]
   exact q
 · rw [if_neg (by omega)]
   rw [if_neg h] at q
   rw [show (0 : Int) + (v : Int) = (v : Int) by omega]
   exact q)) only [↓mr]
def sp_z23 : Sp := fun vs H Q _ => ∃ (b : Nat), vs = [.int b] ∧ b < 256 ∧ Q (.bl (Rw.even8 b)) H
theorem ok_z23 (T : Txt K mg A) : Fn P w K mg base 1 A.z23 ["byte"] sp_z23 := by
 refine mq ?_; simp (disch := k_dflt (
 refine mz ?_
 refine Fn.on T.d_z23 sc_z23 (fun _ _ _ _ _ _ hr => bd_z23 T hr) fun vs H Q h => ?_
 obtain ⟨b, rfl, hb, q⟩ := h
 refine ⟨rfl, ?_⟩
 rw [st_z23, rd_z23]
 walk_at "wp"
 refine ⟨by decide, by decide, by decide, by decide, ?_⟩
 have e1 : ∀ x k : Nat, Builtin.bitXor (x : Int) ((x : Int) / 2 ^ (Int.toNat (k : Int))) = ((x ^^^ (x / 2 ^ k) : Nat) : Int) := fun x k => by
   rw [show (x : Int) / 2 ^ (Int.toNat (k : Int)) = ((x / 2 ^ k : Nat) : Int) from ?_, bitXor_nat]
   rw [Int.toNat_natCast, Int.natCast_ediv]
   simp
 have e4 := e1 b 4
 have e2 := e1 (b ^^^ (b / 2 ^ 4)) 2
 have e3 := e1 ((b ^^^ (b / 2 ^ 4)) ^^^ ((b ^^^ (b / 2 ^ 4)) / 2 ^ 2)) 1
 rw [show ((4 : Nat) : Int) = 4 from rfl] at e4
 rw [show ((2 : Nat) : Int) = 2 from rfl] at e2
 rw [show ((1 : Nat) : Int) = 1 from rfl] at e3
 rw [e4, e2, e3, ← Rm.folded_even b hb] at *
 rw [show (decide (((((b ^^^ b / 2 ^ 4) ^^^ (b ^^^ b / 2 ^ 4) / 2 ^ 2) ^^^ ((b ^^^ b / 2 ^ 4) ^^^ (b ^^^ b / 2 ^ 4) / 2 ^ 2) / 2 ^ 1 : Nat) : Int) % 2 = 0)) = decide (Rm.folded b % 2 = 0) from decide_eq_decide.mpr ?_]
 · exact q
 · unfold Rm.folded
   simp only
   generalize ((b ^^^ b / 2 ^ 4) ^^^ (b ^^^ b / 2 ^ 4) / 2 ^ 2) ^^^ ((b ^^^ b / 2 ^ 4) ^^^ (b ^^^ b / 2 ^ 4) / 2 ^ 2) / 2 ^ 1 = y
   omega)) only [↓mr]
def sp_z79 : Sp := fun vs H Q _ => ∃ (x w : Nat), vs = [.int x, .int ((256 ^ w : Nat) : Int)] ∧ 0 < w ∧ Q (.int (Rw.signed (8 * w) x)) H
theorem ok_z79 (T : Txt K mg A) : Fn P w K mg base 1 A.z79 ["number", "size"] sp_z79 := by
 refine mq ?_; simp (disch := k_dflt (
 refine mz ?_
 refine Fn.on T.d_z79 sc_z79 (fun _ _ _ _ _ _ hr => bd_z79 T hr) fun vs H Q h => ?_
 obtain ⟨x, w, rfl, hw, q⟩ := h
 refine ⟨rfl, ?_⟩
 rw [st_z79, rd_z79]
 walk_at "wp"
 refine ⟨⟨by decide, by decide⟩, ?_⟩
 rw [Rm.signed_eq hw] at q
 rw [show ((256 ^ w : Nat) : Int) / 2 = ((256 ^ w / 2 : Nat) : Int) by omega]
 by_cases h : ((256 ^ w / 2 : Nat) : Int) ≤ (x : Int)
 · rw [if_pos h]
   rw [if_pos h] at q
   exact q
 · rw [if_neg h]
   rw [if_neg h] at q
   exact q)) only [↓mr]
def sp_z51 (A : Ad) : Sp := fun vs H Q _ => ∃ (L : Loc) (z : Z) (w : Nat), vs = [.ref L.p, .int w] ∧ Rw.fine w = true ∧ MachAt A H L z ∧ Q (.int ((z.s.m.a % 256 ^ w : Nat) : Int)) H
theorem ok_z51 (T : Txt K mg A) : Fn P w K mg base 1 A.z51 ["machine", "width"] (sp_z51 A) := by
 refine mq ?_; simp (disch := k_dflt (
 refine mz ?_
 refine Fn.on T.d_z51 sc_z51 (fun _ _ _ _ _ _ hr => bd_z51 T hr) fun vs H Q h => ?_
 obtain ⟨L, z, w, rfl, hw, M, q⟩ := h
 refine ⟨rfl, ?_⟩
 rw [st_z51, rd_z51]
 have h1 := M.obj
 have h4 := M.regs
 have h5 : atI (rv z.s.m) 0 = some (V.int z.s.m.a) := rfl
 have h7 := @sizes_lookup A w hw
 obtain ⟨t1, t2, t3, t4, t5, t6⟩ := T.mach
 walk_at "wp"
 refine ⟨by have := Nat.pow_pos (n := w) (show 0 < 256 by decide); omega, ?_⟩
 rw [← Int.natCast_emod]
 exact q)) only [↓mr]
theorem if_add {c : TT} {i : Nat} {n : Int} {D : Ends} {σ : L2.St} {H : Hp} {x : Int} (b : Bool) (hs : σ[i]? = some (some (.int x))) (hc : ∀ Q : Bool → Hp → Prop, Q b H → c σ H Q) (h : D.nx (σ.set i (some (.int (x + if b then n else 0)))) H) :
   tIfS c (tAug i (tC (.int n)) (ipI fun i j => i + j)) tNext D σ H := by
 refine hc _ ?_
 cases b with
 | true =>
   rw [if_pos rfl]
   exact ⟨_, hs, _, _, rfl, rfl, h⟩
 | false =>
   rw [if_neg (by simp)]
   rw [if_neg (by simp), Int.add_zero] at h
   have e : σ.set i (some (.int x)) = σ := by
     obtain ⟨hl, e⟩ := List.getElem?_eq_some_iff.mp hs
     rw [← e, List.set_getElem_self]
   rw [e] at h
   exact h
theorem pow_pos_256 (w : Nat) : (0 : Int) < ((256 ^ w : Nat) : Int) := by
 have := Nat.pow_pos (n := w) (show 0 < 256 by decide)
 omega
def restBits (z s p : Bool) : Nat := (if z then 64 else 0) + (if s then 128 else 0) + (if p then 4 else 0)
def sp_z35 : Sp := fun vs H Q _ => ∃ (d w : Nat), vs = [.int d, .int ((256 ^ w : Nat) : Int)] ∧ 0 < w ∧ Q (.int ((restBits (decide (d = 0)) (decide (256 ^ w / 2 ≤ d)) (Rw.even8 d) : Nat) : Int)) H
theorem ok_z35 (T : Txt K mg A) : Fn P w K mg base 2 A.z35 ["rest", "size"] sp_z35 := by
 refine mq ?_; simp (disch := k_dflt (
 refine mz ?_
 refine Fn.on T.d_z35 sc_z35 (fun _ _ _ _ _ _ hr => bd_z35 T (ok_z23 T) hr) fun vs H Q h => ?_
 obtain ⟨d, w, rfl, hw, q⟩ := h
 refine ⟨rfl, ?_⟩
 rw [st_z35, rd_z35]
 walk_at "wq"
 refine if_add (decide (d = 0)) rfl (fun Q q => ?_) ?_
 · walk_at "wp"
   rw [show decide ((d : Int) = 0) = decide (d = 0) from decide_eq_decide.mpr (by omega)]
   exact q
 walk_at "wq"
 refine if_add (decide (256 ^ w / 2 ≤ d)) rfl (fun Q q => ?_) ?_
 · walk_at "wp"
   refine ⟨⟨by decide, by decide⟩, ?_⟩
   rw [show decide (((256 ^ w : Nat) : Int) / 2 ≤ (d : Int)) = decide (256 ^ w / 2 ≤ d) from decide_eq_decide.mpr (by omega)]
   exact q
 walk_at "wq"
 refine if_add (Rw.even8 d) rfl (fun Q q => ?_) ?_
 · walk_at "wp"
   refine ⟨by decide, d % 256, by simp, Nat.mod_lt _ (by decide), ?_⟩
   rw [← Rm.even8_mod]
   exact ⟨_, rfl, q⟩
 walk_at "wp"
 refine (congrArg (fun n => Q (.int n) H) ?_).mp q
 unfold restBits
 simp only [decide_eq_true_eq]
 (repeat' split) <;> rfl)) only [↓mr]
def sp_y16 (A : Ad) : Sp := fun vs H Q _ => ∃ (L : Loc) (z : Z) (w a b : Nat), vs = [.ref L.p, .int a, .int b, .int w] ∧ Rw.fine w = true ∧ a < 256 ^ w ∧ b < 256 ^ w ∧ MachAt A H L z ∧
 ∀ H', MachAt A H' L { z with s := { z.s with m := { z.s.m with flags := Rw.compared w a b z.s.m.flags } } } → Fr L H H' → Q .non H'
theorem fine_pos {w : Nat} (hw : Rw.fine w = true) : 0 < w := by
 rcases Rm.isW.mp hw with rfl | rfl | rfl | rfl <;> decide
theorem fine_le {w : Nat} (hw : Rw.fine w = true) : w ≤ 8 := by
 rcases Rm.isW.mp hw with rfl | rfl | rfl | rfl <;> decide
theorem ok_y16 (T : Txt K mg A) : Fn P w K mg base 3 A.y16 ["machine", "left", "right", "width"] (sp_y16 A) := by
 refine mq ?_; simp (disch := k_dflt (
 refine mz ?_
 refine Fn.on T.d_y16 sc_y16 (fun _ _ _ _ _ _ hr => bd_y16 T (ok_z35 T) (ok_z79 T) hr) fun vs H Q h => ?_
 obtain ⟨L, z, w, a, b, rfl, hw, ha, hb, M, q⟩ := h
 refine ⟨rfl, ?_⟩
 rw [st_y16, rd_y16]
 have h1 := M.obj
 have h7 := @sizes_lookup A w hw
 have hw0 := fine_pos hw
 obtain ⟨t1, t2, t3, t4, t5, t6⟩ := T.mach
 have ed := Rm.sub_mod (M := 256 ^ w) ha hb
 have hd : (a + 256 ^ w - b) % 256 ^ w < 256 ^ w := Nat.mod_lt _ (by omega)
 walk_at "wq"
 rw [← ed]
 unfold Rw.compared at q
 simp only at q
 rw [Rm.giving_flags, Rm.sign_bit hw0 hd] at q
 generalize (a + 256 ^ w - b) % 256 ^ w = d at *
 clear ed
 refine ⟨pow_pos_256 w, d, w, rfl, hw0, ?_⟩
 refine if_add (decide (a < b)) rfl (fun Q q => ?_) ?_
 · walk_at "wp"
   rw [show decide ((a : Int) < (b : Int)) = decide (a < b) from decide_eq_decide.mpr (by omega)]
   exact q
 walk_at "wq"
 refine if_add (decide (a % 16 < b % 16)) rfl (fun Q q => ?_) ?_
 · walk_at "wp"
   refine ⟨by decide, by decide, ?_⟩
   rw [show decide ((a : Int) % 16 < (b : Int) % 16) = decide (a % 16 < b % 16) from decide_eq_decide.mpr (by omega)]
   exact q
 walk_at "wq"
 refine if_add (decide (Rw.signed (8 * w) a - Rw.signed (8 * w) b ≠ Rw.signed (8 * w) d)) rfl (fun Q q => ?_) ?_
 · walk_at "wp"
   refine ⟨a, w, rfl, hw0, b, w, rfl, hw0, _, rfl, _, rfl, d, w, rfl, hw0, rfl, ?_⟩
   rw [show (!decide (V.int (Rw.signed (8 * w) a - Rw.signed (8 * w) b) = V.int (Rw.signed (8 * w) d))) = decide (Rw.signed (8 * w) a - Rw.signed (8 * w) b ≠ Rw.signed (8 * w) d) from ?_]
   · exact q
   · rw [dec_int, Bool.eq_iff_iff]
     simp
 walk_at "wp"
 have e : Builtin.bitAnd (z.s.m.flags : Int) (Builtin.bitNot 2261) = ((z.s.m.flags - (z.s.m.flags &&& 2261) : Nat) : Int) := bitAnd_not _ 2261
 rw [e]
 have e2 : ∀ g1 g2 g3 g4 g5 g6 : Bool, ((restBits g1 g2 g3 : Nat) : Int) + (if g4 = true then 1 else 0) + (if g5 = true then 16 else 0) + (if g6 = true then 2048 else 0) = ((Rm.flagBits g4 g3 g5 g1 g2 g6 : Nat) : Int) := by decide
 have e3 := e2 (decide (d = 0)) (decide (256 ^ w / 2 ≤ d)) (Rw.even8 d) (decide (a < b)) (decide (a % 16 < b % 16)) (decide (Rw.signed (8 * w) a - Rw.signed (8 * w) b ≠ Rw.signed (8 * w) d))
 simp only [decide_eq_true_eq] at e3
 rw [e3, bitOr_nat]
 exact q _ (M.setObj _ z.s.m.place) M.frObj)) only [↓mr]
def sp_z25 (A : Ad) : Sp := fun vs H Q _ => ∃ (L : Loc) (z : Z) (r w : Nat), vs = [.ref L.p, .int r, .int w] ∧ r ≤ 3 ∧ MachAt A H L z ∧ Rw.there z.s.mem (z.s.m.get r) w = true ∧
 ∀ H', Same H H' → Q (.int ((Rw.peek z.s.mem (z.s.m.get r) w : Nat) : Int)) H'
theorem ok_z25 (T : Txt K mg A) : Fn P w K mg base 2 A.z25 ["machine", "which", "width"] (sp_z25 A) := by
 refine Fn.on T.d_z25 sc_z25 (fun _ _ _ _ _ _ hr => bd_z25 T (ok_z75 T) hr) fun vs H Q h => ?_
 obtain ⟨L, z, r, w, rfl, hr, M, ht, q⟩ := h
 refine ⟨rfl, ?_⟩
 rw [st_z25, rd_z25]
 have h1 := M.obj
 have h4 := M.regs
 have h5 := @rv_at z.s.m r hr
 obtain ⟨t1, t2, t3, t4, t5, t6⟩ := T.mach
 walk_at "wp"
 exact ⟨L.ca, z.s.mem, _, w, rfl, M.cells, of_decide_eq_true ht, q⟩
def sp_y18 (A : Ad) : Sp := fun vs H Q _ => ∃ (L : Loc) (z : Z) (r w : Nat), vs = [.ref L.p, .int r, .int w] ∧ r ≤ 3 ∧ w ≤ 8 ∧ MachAt A H L z ∧
 ∀ H', MachAt A H' L { z with s := z.s.put r (Rw.on z.s.m.flags (z.s.m.get r) w) } → Fr L H H' → Q .non H'
theorem ok_y18 (T : Txt K mg A) : Fn P w K mg base 2 A.y18 ["machine", "which", "width"] (sp_y18 A) := by
 refine mq ?_; simp (disch := k_dflt (
 refine mz ?_
 refine Fn.on T.d_y18 sc_y18 (fun _ _ _ _ _ _ hr => bd_y18 T (ok_z60 T) (ok_y24 T) hr) fun vs H Q h => ?_
 obtain ⟨L, z, r, w, rfl, hr, hw, M, q⟩ := h
 refine ⟨rfl, ?_⟩
 rw [st_y18, rd_y18]
 walk_at "wp"
 refine ⟨L, z, 10, rfl, M, _, rfl, ?_⟩
 have hg := M.wf.get r
 by_cases h : Rw.bitAt z.s.m.flags 10 = true
 · rw [if_pos h]
   refine ⟨L, z, r, -(w : Int), rfl, hr, M, fun H' M' F' => ?_⟩
   refine q H' ?_ F'
   rw [show Rw.on z.s.m.flags (z.s.m.get r) w = (((z.s.m.get r : Int) + -(w : Int)) % 18446744073709551616).toNat from ?_]
   · exact M'
   · unfold Rw.on Rw.DOWN Rw.WORD
     rw [if_pos h]
     omega
 · rw [if_neg h]
   refine ⟨L, z, r, (w : Int), rfl, hr, M, fun H' M' F' => ?_⟩
   refine q H' ?_ F'
   rw [show Rw.on z.s.m.flags (z.s.m.get r) w = (((z.s.m.get r : Int) + (w : Int)) % 18446744073709551616).toNat from ?_]
   · exact M'
   · unfold Rw.on Rw.DOWN Rw.WORD
     rw [if_neg h]
     omega)) only [↓mr]
def sp_deed (op : Nat) (A : Ad) : Sp := fun vs H Q _ => ∃ (L : Loc) (z : Z) (w : Nat) (s' : Rw.State), vs = [.ref L.p, .int w] ∧ Rw.fine w = true ∧ MachAt A H L z ∧ Rw.element op w z.s = some s' ∧
 ∀ H', MachAt A H' L { z with s := s' } → Fr L H H' → Q .non H'
theorem ok_y46 (T : Txt K mg A) : Fn P w K mg base 3 A.y46 ["machine", "width"] (sp_deed 0 A) := by
 refine mq ?_; simp (disch := k_dflt (
 refine mz ?_
 refine Fn.on T.d_y46 sc_y46 (fun _ _ _ _ _ _ hr => bd_y46 T (ok_z25 T) (ok_z70 T) (ok_y18 T) hr) fun vs H Q h => ?_
 obtain ⟨L, z, w, s', rfl, hw, M, he, q⟩ := h
 refine ⟨rfl, ?_⟩
 rw [st_y46, rd_y46]
 rw [Rm.el0] at he
 split at he
 · rename_i ht
   obtain ⟨ht1, ht2⟩ := ht
   have he := Option.some.inj he
   subst he
   walk_at "wp"
   refine ⟨L, z, 2, w, rfl, by decide, M, ht1, fun H1 s1 => ?_⟩
   have M1 := M.same s1
   have h1 := M1.obj
   have h4 := M1.regs
   have h5 : atI (rv z.s.m) 3 = some (V.int z.s.m.di) := rfl
   obtain ⟨t1, t2, t3, t4, t5, t6⟩ := T.mach
   walk_at "wp"
   refine ⟨L.ca, z.s.mem, z.s.m.di, w, _, rfl, M1.cells, M.mem, of_decide_eq_true ht2, ?_⟩
   have M2 := M1.setCells (m := Rw.poke z.s.mem z.s.m.di w (Rw.peek z.s.mem (z.s.m.get 2) w)) (by rw [Rm.poke_len _ (of_decide_eq_true ht2)]; exact M.mem)
   refine ⟨L, _, 2, w, rfl, by decide, fine_le hw, M2, fun H3 M3 F3 => ?_⟩
   refine ⟨L, _, 3, w, rfl, by decide, fine_le hw, M3, fun H4 M4 F4 => ?_⟩
   exact q H4 M4 ((((Fr.of_same s1).trans M1.frCells).trans F3).trans F4)
 · cases he)) only [↓mr]
theorem ok_y48 (T : Txt K mg A) : Fn P w K mg base 3 A.y48 ["machine", "width"] (sp_deed 1 A) := by
 refine mq ?_; simp (disch := k_dflt (
 refine mz ?_
 refine Fn.on T.d_y48 sc_y48 (fun _ _ _ _ _ _ hr => bd_y48 T (ok_z70 T) (ok_y18 T) hr) fun vs H Q h => ?_
 obtain ⟨L, z, w, s', rfl, hw, M, he, q⟩ := h
 refine ⟨rfl, ?_⟩
 rw [st_y48, rd_y48]
 rw [Rm.el1] at he
 split at he
 · rename_i ht
   have he := Option.some.inj he
   subst he
   have h1 := M.obj
   have h4 := M.regs
   have h5 : atI (rv z.s.m) 3 = some (V.int z.s.m.di) := rfl
   have h6 : atI (rv z.s.m) 0 = some (V.int z.s.m.a) := rfl
   obtain ⟨t1, t2, t3, t4, t5, t6⟩ := T.mach
   walk_at "wp"
   refine ⟨L.ca, z.s.mem, z.s.m.di, w, z.s.m.a, rfl, M.cells, M.mem, of_decide_eq_true ht, ?_⟩
   have M2 := M.setCells (m := Rw.poke z.s.mem z.s.m.di w z.s.m.a) (by rw [Rm.poke_len _ (of_decide_eq_true ht)]; exact M.mem)
   refine ⟨L, _, 3, w, rfl, by decide, fine_le hw, M2, fun H4 M4 F4 => ?_⟩
   rw [Rm.poke_mod] at q
   exact q H4 M4 (M.frCells.trans F4)
 · cases he)) only [↓mr]
theorem ok_y47 (T : Txt K mg A) : Fn P w K mg base 3 A.y47 ["machine", "width"] (sp_deed 2 A) := by
 refine mq ?_; simp (disch := k_dflt (
 refine mz ?_
 refine Fn.on T.d_y47 sc_y47 (fun _ _ _ _ _ _ hr => bd_y47 T (ok_z21 T) (ok_z25 T) (ok_y18 T) hr) fun vs H Q h => ?_
 obtain ⟨L, z, w, s', rfl, hw, M, he, q⟩ := h
 refine ⟨rfl, ?_⟩
 rw [st_y47, rd_y47]
 rw [Rm.el2] at he
 split at he
 · rename_i ht
   have he := Option.some.inj he
   subst he
   walk_at "wp"
   refine ⟨L, z, 2, w, rfl, by decide, M, ht, fun H1 s1 => ?_⟩
   have M1 := M.same s1
   refine ⟨L, z, 0, w, _, rfl, by decide, hw, Rm.peek_lt _ _ _, M1, fun H2 M2 F2 => ?_⟩
   refine ⟨L, _, 2, w, rfl, by decide, fine_le hw, M2, fun H4 M4 F4 => ?_⟩
   exact q H4 M4 (((Fr.of_same s1).trans F2).trans F4)
 · cases he)) only [↓mr]
theorem ok_y45 (T : Txt K mg A) : Fn P w K mg base 4 A.y45 ["machine", "width"] (sp_deed 3 A) := by
 refine mq ?_; simp (disch := k_dflt (
 refine mz ?_
 refine Fn.on T.d_y45 sc_y45 (fun _ _ _ _ _ _ hr => bd_y45 T (ok_y16 T) (ok_z25 T) (ok_z51 T) (ok_y18 T) hr) fun vs H Q h => ?_
 obtain ⟨L, z, w, s', rfl, hw, M, he, q⟩ := h
 refine ⟨rfl, ?_⟩
 rw [st_y45, rd_y45]
 rw [Rm.el3] at he
 split at he
 · rename_i ht
   have he := Option.some.inj he
   subst he
   walk_at "wp"
   refine ⟨L, z, w, rfl, hw, M, ?_⟩
   refine ⟨L, z, 3, w, rfl, by decide, M, ht, fun H1 s1 => ?_⟩
   have M1 := M.same s1
   refine ⟨L, z, w, _, _, rfl, hw, Nat.mod_lt _ (Nat.pow_pos (by decide)), Rm.peek_lt _ _ _, M1, fun H2 M2 F2 => ?_⟩
   refine ⟨L, _, 3, w, rfl, by decide, fine_le hw, M2, fun H4 M4 F4 => ?_⟩
   have e : Rw.on (Rw.compared w (z.s.m.a % 256 ^ w) (Rw.peek z.s.mem z.s.m.di w) z.s.m.flags) z.s.m.di w = Rw.on z.s.m.flags z.s.m.di w := Rm.on_compared _ _ _ _ _ _
   rw [← e] at q
   exact q H4 M4 (((Fr.of_same s1).trans F2).trans F4)
 · cases he)) only [↓mr]
theorem ok_y50 (T : Txt K mg A) : Fn P w K mg base 4 A.y50 ["machine", "width"] (sp_deed 4 A) := by
 refine mq ?_; simp (disch := k_dflt (
 refine mz ?_
 refine Fn.on T.d_y50 sc_y50 (fun _ _ _ _ _ _ hr => bd_y50 T (ok_z25 T) (ok_y16 T) (ok_y18 T) hr) fun vs H Q h => ?_
 obtain ⟨L, z, w, s', rfl, hw, M, he, q⟩ := h
 refine ⟨rfl, ?_⟩
 rw [st_y50, rd_y50]
 rw [Rm.el4] at he
 split at he
 · rename_i ht
   obtain ⟨ht1, ht2⟩ := ht
   have he := Option.some.inj he
   subst he
   walk_at "wp"
   refine ⟨L, z, 2, w, rfl, by decide, M, ht1, fun H1 s1 => ?_⟩
   have M1 := M.same s1
   refine ⟨L, z, 3, w, rfl, by decide, M1, ht2, fun H2 s2 => ?_⟩
   have M2 := M1.same s2
   refine ⟨L, z, w, _, _, rfl, hw, Rm.peek_lt _ _ _, Rm.peek_lt _ _ _, M2, fun H3 M3 F3 => ?_⟩
   refine ⟨L, _, 2, w, rfl, by decide, fine_le hw, M3, fun H4 M4 F4 => ?_⟩
   refine ⟨L, _, 3, w, rfl, by decide, fine_le hw, M4, fun H5 M5 F5 => ?_⟩
   have e : ∀ x, Rw.on (Rw.compared w (Rw.peek z.s.mem z.s.m.si w) (Rw.peek z.s.mem z.s.m.di w) z.s.m.flags) x w = Rw.on z.s.m.flags x w := fun x => Rm.on_compared _ _ _ _ _ _
   rw [← e, ← e] at q
   exact q H5 M5 (((((Fr.of_same s1).trans (Fr.of_same s2)).trans F3).trans F4).trans F5)
 · cases he)) only [↓mr]
def sp_z27 (A : Ad) : Sp := fun vs H Q _ => ∃ (L : Loc) (z : Z) (op w : Nat), vs = [.ref L.p, .int op, .int w] ∧ op ≤ 4 ∧ MachAt A H L z ∧ Q (.bl (Rw.element op w z.s).isNone) H
theorem ok_z27 (T : Txt K mg A) : Fn P w K mg base 2 A.z27 ["machine", "op", "width"] (sp_z27 A) := by
 refine mq ?_; simp (disch := k_dflt (
 refine mz ?_
 refine Fn.on T.d_z27 sc_z27 (fun _ _ _ _ _ _ hr => bd_z27 T (ok_z58 T) hr) fun vs H Q h => ?_
 obtain ⟨L, z, op, w, rfl, ho, M, q⟩ := h
 refine ⟨rfl, ?_⟩
 rw [st_z27, rd_z27]
 have h1 := M.obj
 have h4 := M.regs
 have h5 : atI (rv z.s.m) 3 = some (V.int z.s.m.di) := rfl
 have h6 : atI (rv z.s.m) 2 = some (V.int z.s.m.si) := rfl
 obtain ⟨t1, t2, t3, t4, t5, t6⟩ := T.mach
 rw [Rm.element_none ho] at q
 have c1 : [0, 2, 4].contains (op : Int) = [0, 2, 4].contains op := by
   have : op = 0 ∨ op = 1 ∨ op = 2 ∨ op = 3 ∨ op = 4 := by omega
   rcases this with rfl | rfl | rfl | rfl | rfl <;> rfl
 have c2 : [0, 1, 3, 4].contains (op : Int) = [0, 1, 3, 4].contains op := by
   have : op = 0 ∨ op = 1 ∨ op = 2 ∨ op = 3 ∨ op = 4 := by omega
   rcases this with rfl | rfl | rfl | rfl | rfl <;> rfl
 walk_at "wp"
 cases g1 : [0, 2, 4].contains op with
 | false =>
   rw [g1, Bool.false_and, Bool.false_or] at q
   rw [if_neg (by simp)]
   cases g2 : [0, 1, 3, 4].contains op with
   | false =>
     rw [g2, Bool.false_and] at q
     rw [if_neg (by simp)]
     exact q
   | true =>
     rw [g2, Bool.true_and] at q
     rw [if_pos rfl]
     exact ⟨L.ca, z.s.mem, z.s.m.di, w, rfl, M.cells, _, rfl, q⟩
 | true =>
   rw [g1, Bool.true_and] at q
   rw [if_pos rfl]
   refine ⟨L.ca, z.s.mem, z.s.m.si, w, rfl, M.cells, _, rfl, ?_⟩
   cases g3 : Rw.there z.s.mem z.s.m.si w with
   | false =>
     rw [g3] at q
     rw [if_pos rfl]
     exact q
   | true =>
     rw [g3, Bool.not_true, Bool.false_or] at q
     rw [if_neg (by simp)]
     cases g2 : [0, 1, 3, 4].contains op with
     | false =>
       rw [g2, Bool.false_and] at q
       rw [if_neg (by simp)]
       exact q
     | true =>
       rw [g2, Bool.true_and] at q
       rw [if_pos rfl]
       walk_at "wp"
       exact ⟨L.ca, z.s.mem, z.s.m.di, w, rfl, M.cells, _, rfl, q⟩)) only [↓mr]
def sp_is_ended (A : Ad) : Sp := fun vs H Q _ => ∃ (L : Loc) (z : Z) (op rep : Nat), vs = [.ref L.p, .int op, .int rep] ∧ op ≤ 4 ∧ MachAt A H L z ∧ Q (.bl (Rw.stops op rep z.s.m.flags)) H
theorem ok_is_ended (T : Txt K mg A) : Fn P w K mg base 2 A.z0 ["machine", "op", "rep"] (sp_is_ended A) := by
 refine mq ?_; simp (disch := k_dflt (
 refine mz ?_
 refine Fn.on T.d_z0 sc_z0 (fun _ _ _ _ _ _ hr => bd_z0 T (ok_y24 T) hr) fun vs H Q h => ?_
 obtain ⟨L, z, op, rep, rfl, ho, M, q⟩ := h
 refine ⟨rfl, ?_⟩
 rw [st_z0, rd_z0]
 rw [Rm.stops_eq] at q
 have c1 : [3, 4].contains (op : Int) = [3, 4].contains op := by
   have : op = 0 ∨ op = 1 ∨ op = 2 ∨ op = 3 ∨ op = 4 := by omega
   rcases this with rfl | rfl | rfl | rfl | rfl <;> rfl
 walk_at "wp"
 cases h : [3, 4].contains op with
 | false =>
   rw [h] at q
   rw [if_pos (by simp)]
   exact q
 | true =>
   rw [h] at q
   rw [if_neg (by simp)]
   refine ⟨L, z, 6, rfl, M, ?_⟩
   rw [Bool.true_and] at q
   by_cases hr : rep = 1
   · subst hr
     rw [if_pos rfl] at q
     rw [if_pos (by decide)]
     exact ⟨_, rfl, q⟩
   · rw [if_neg hr] at q
     rw [if_neg (by omega)]
     exact q)) only [↓mr]
theorem deeds (T : Txt K mg A) {op : Nat} (h : op ≤ 4) : ∃ (k : Nat) (f : Addr), atI (tab_y34 A) (op : Int) = some (.ref f) ∧ Fn P w K mg base k f ["machine", "width"] (sp_deed op A) ∧ k ≤ 4 := by
 have : op = 0 ∨ op = 1 ∨ op = 2 ∨ op = 3 ∨ op = 4 := by omega
 rcases this with rfl | rfl | rfl | rfl | rfl
 · exact ⟨_, _, rfl, ok_y46 T, by decide⟩
 · exact ⟨_, _, rfl, ok_y48 T, by decide⟩
 · exact ⟨_, _, rfl, ok_y47 T, by decide⟩
 · exact ⟨_, _, rfl, ok_y45 T, by decide⟩
 · exact ⟨_, _, rfl, ok_y50 T, by decide⟩
def slotI (σ : L2.St) (i : Nat) : Int := match σ[i]? with
 | some (some (.int n)) => n
 | _ => 0
theorem if_do {c : TT} {t u : TS} {D : Ends} {σ : L2.St} {H : Hp} (b : Bool) (hc : ∀ Q : Bool → Hp → Prop, Q b H → c σ H Q) (h1 : b = true → t D σ H) (h0 : b = false → u D σ H) : tIfS c t u D σ H := by
 refine hc _ ?_
 cases b with
 | true => rw [if_pos rfl]; exact h1 rfl
 | false => rw [if_neg (by simp)]; exact h0 rfl
theorem less_regs {u : Rw.State} (h : Regs u.m) (hc : u.m.c ≠ 0) : Regs u.less.m := by
 have e := Rm.less_c hc h.c
 have h2 := h.c
 refine ⟨?_, ?_, ?_, ?_⟩
 · rw [Rm.less_a]; exact h.a
 · rw [e]; exact Nat.lt_of_le_of_lt (Nat.sub_le _ _) h2
 · rw [Rm.less_si]; exact h.si
 · rw [Rm.less_di]; exact h.di
theorem less_at {H : Hp} {L : Loc} {z : Z} {u : Rw.State} (M : MachAt A H L { z with s := u }) (hc : u.m.c ≠ 0) : MachAt A (upd H L.ra (.lst (rv u.less.m))) L { z with s := u.less } := by
 have := M.setRegs (m := u.less.m) (less_regs M.wf hc) (Rm.less_flags u) (Rm.less_place u)
 rw [show ({ s := u, p := z.p } : Z).s = u from rfl, Rm.less_mem] at this
 exact this
def sp_z93 (A : Ad) : Sp := fun vs H Q _ => ∃ (L : Loc) (z : Z) (op w rep most : Nat), vs = [.ref L.p, .int op, .int w, .int rep, .int most] ∧ op ≤ 4 ∧ Rw.fine w = true ∧ MachAt A H L z ∧
 ∀ H' t, H' t = some (.tup [.int (Rw.go op w rep most z.s).1, .int ((Rw.go op w rep most z.s).2.1 : Nat)]) → MachAt A H' L { z with s := (Rw.go op w rep most z.s).2.2 } → Fr L H H' → Q (.ref t) H'
theorem ok_z93 (T : Txt K mg A) : Fn P w K mg base 5 A.z93 ["machine", "op", "width", "rep", "most"] (sp_z93 A) := by
 refine mq ?_; simp (disch := k_dflt (
 refine mz ?_
 refine Fn.on T.d_z93 sc_z93 (fun _ _ _ _ _ _ hr => bd_z93 T (ok_z27 T) (ok_is_ended T) hr) fun vs H Q h => ?_
 obtain ⟨L, z, op, w, rep, most, rfl, ho, hw, M, q⟩ := h
 refine ⟨rfl, ?_⟩
 rw [st_z93, rd_z93]
 obtain ⟨kd, f, hf, F, hk⟩ := deeds (P := P) (w := ‹World›) (base := base) T ho
 walk_at "wp"
 have fin : ∀ (H2 : Hp) (a : Int) (n : Nat) (u : Rw.State), Rw.go op w rep most z.s = (a, n, u) → MachAt A H2 L { z with s := u } → Fr L H H2 → ∀ p, H2 p = none → Q (.ref p) (upd H2 p (.tup [.int a, .int (n : Nat)])) := by
   intro H2 a n u e M2 F2 p hp
   refine q _ p ?_ ?_ ?_
   · rw [upd_same, e]
   · rw [e]; exact M2.same (same_upd hp)
   · exact F2.trans (Fr.of_same (same_upd hp))
 clear q
 refine while_by (fun σ H' => ∃ (k : Nat) (t : Rw.State), σ = [some (.ref L.p), some (.int op), some (.int w), some (.int rep), some (.int most), some (.ref f), some (.int k)] ∧ k ≤ most ∧ MachAt A H' L { z with s := t } ∧ Fr L H H' ∧
   Rm.plus k (Rw.go op w rep (most - k) t) = Rw.go op w rep most z.s) (fun σ _ => most - (slotI σ 6).toNat) ?_ ?_ (fun σ H Q Q' hq h => hq _ _ h)
 · exact ⟨0, z.s, rfl, Nat.zero_le _, M, Fr.refl _ _, rfl⟩
 · rintro σ H1 ⟨k, t, rfl, hkm, M1, F1, hgo⟩
   have h1 := M1.obj
   have h4 := M1.regs
   have h5 : atI (rv t.m) 1 = some (V.int t.m.c) := rfl
   obtain ⟨t1, t2, t3, t4, t5, t6⟩ := T.mach
   dsimp only [tYes]
   rw [if_pos rfl]
   walk_at "wq"
   refine if_do (decide (rep ≠ 0 ∧ t.m.c = 0)) (fun Q q => ?_) (fun e => ?_) (fun e => ?_)
   · walk_at "wp"
     by_cases hr0 : rep = 0
     · subst hr0
       rw [if_neg (by simp)]
       simpa using q
     · rw [if_pos (by simpa using hr0)]
       refine (congrArg (fun b => Q b H1) ?_).mp q
       rw [Bool.eq_iff_iff]
       simp [hr0]
   · have e := of_decide_eq_true e
     walk_at "wp"
     refine fin H1 0 k t ?_ M1 F1
     rw [← hgo, Rm.go_done e]
     simp [Rm.plus]
   have e := of_decide_eq_false e
   walk_at "wq"
   refine if_do (decide (k = most)) (fun Q q => ?_) (fun e => ?_) (fun e => ?_)
   · walk_at "wp"
     refine (congrArg (fun b => Q b H1) ?_).mp q
     exact decide_eq_decide.mpr (by omega)
   · have e2 := of_decide_eq_true e
     walk_at "wp"
     refine fin H1 1 most t ?_ M1 F1
     rw [← hgo, e2, Nat.sub_self, Rm.go_most ‹_›]
     simp [Rm.plus]
   have e2 := of_decide_eq_false e
   walk_at "wq"
   obtain ⟨n, hn⟩ : ∃ n, most - k = n + 1 := ⟨most - k - 1, by omega⟩
   refine if_do (Rw.element op w t).isNone (fun Q q => ?_) (fun e => ?_) (fun e => ?_)
   · walk_at "wp"
     exact ⟨L, _, op, w, rfl, ho, M1, _, rfl, q⟩
   · have e3 : Rw.element op w t = none := Option.isNone_iff_eq_none.mp e
     walk_at "wp"
     refine fin H1 3 k t ?_ M1 F1
     rw [← hgo, hn, Rm.go_lack ‹_› e3]
     simp [Rm.plus]
   obtain ⟨u, hu⟩ : ∃ u, Rw.element op w t = some u := by
     cases h : Rw.element op w t with
     | none => rw [h] at e; cases e
     | some u => exact ⟨u, rfl⟩
   walk_at "wq"
   refine ⟨kd, f, _, _, rfl, ⟨F, hk⟩, _, rfl, _, rfl, L, _, w, u, rfl, hw, M1, hu, fun H2 M2 F2 => ?_⟩
   walk_at "wq"
   rw [show ((k : Int) + 1) = ((k + 1 : Nat) : Int) by omega]
   refine if_do (decide (rep = 0)) (fun Q q => ?_) (fun e => ?_) (fun e => ?_)
   · walk_at "wp"
     refine (congrArg (fun b => Q b H2) ?_).mp q
     exact decide_eq_decide.mpr (by omega)
   · have e4 := of_decide_eq_true e
     walk_at "wp"
     refine fin H2 0 (k + 1) u ?_ M2 (F1.trans F2)
     rw [← hgo, hn, e4, Rm.go_once hu]
     simp [Rm.plus, Nat.add_comm]
   have e4 := of_decide_eq_false e
   have hc0 : u.m.c ≠ 0 := by
     rw [Rm.element_c hu]
     intro h
     exact ‹¬(rep ≠ 0 ∧ t.m.c = 0)› ⟨e4, h⟩
   have hcl : u.m.c < 2 ^ 64 := M2.wf.c
   have hlc := Rm.less_c hc0 hcl
   have M3 : MachAt A (upd H2 L.ra (.lst (rv u.less.m))) L { z with s := u.less } := less_at (u := u) M2 hc0
   have h1 := M2.obj
   have h4 := M2.regs
   have h5 : atI (rv u.m) 1 = some (V.int u.m.c) := rfl
   have h6 : ixN (rv u.m).length 1 = some 1 := rfl
   have h7 : (rv u.m).set 1 (V.int ((u.m.c : Int) - 1)) = rv u.less.m := by
     unfold rv
     rw [Rm.less_a, Rm.less_si, Rm.less_di, hlc, show ((u.m.c : Int) - 1) = ((u.m.c - 1 : Nat) : Int) by omega]
     rfl
   walk_at "wq"
   have Fu : Fr L H (upd H2 L.ra (.lst (rv u.less.m))) := (F1.trans F2).trans M2.frRegs
   refine if_do (Rw.stops op rep u.m.flags) (fun Q q => ?_) (fun e => ?_) (fun e => ?_)
   · walk_at "wp"
     rw [← Rm.less_flags u] at q
     exact ⟨L, _, op, rep, rfl, ho, M3, _, rfl, q⟩
   · walk_at "wp"
     refine fin _ 0 (k + 1) u.less ?_ M3 Fu
     rw [← hgo, hn, Rm.go_stop ‹_› e4 hu e]
     simp [Rm.plus, Nat.add_comm]
   · refine ⟨⟨k + 1, rfl, by omega, u.less, M3, Fu, ?_⟩, ?_⟩
     · rw [← hgo, hn, Rm.go_on ‹_› e4 hu e, Rm.plus_plus, show most - (k + 1) = n by omega]
     · show most - ((k + 1 : Nat) : Int).toNat < most - (k : Int).toNat
       omega)) only [↓mr]
theorem sizes_some (w : Int) : ((tab_y38 A).lookup w).isSome = decide (w = 1 ∨ w = 2 ∨ w = 4 ∨ w = 8) := by
 unfold tab_y38
 by_cases h1 : w = 1
 · subst h1; rfl
 by_cases h2 : w = 2
 · subst h2; rfl
 by_cases h4 : w = 4
 · subst h4; rfl
 by_cases h8 : w = 8
 · subst h8; rfl
 · have e : ∀ k : Int, w ≠ k → (w == k) = false := fun k h => beq_eq_false_iff_ne.mpr h
   simp [List.lookup, e _ h1, e _ h2, e _ h4, e _ h8, h1, h2, h4, h8]
theorem sizes_nat (w : Nat) : ((tab_y38 A).lookup (w : Int)).isSome = Rw.fine w := by
 rw [sizes_some, Bool.eq_iff_iff, decide_eq_true_eq, Rm.isW]
 omega
theorem MachAt.insAt {H : Hp} {L : Loc} {z : Z} (M : MachAt A H L z) {i : Nat} {q : Addr} {n : Rw.Ins} (hq : L.qs[i]? = some q) (hn : z.p[i]? = some n) : ∃ dq, H q = some (.ins A.z57 dq (insf n)) := by
 obtain ⟨n', dq, h1, h2⟩ := M.ins i q hq
 cases hn.symm.trans h1
 exact ⟨dq, h2⟩
theorem MachAt.fit {H : Hp} {L : Loc} {z : Z} (M : MachAt A H L z) {i : Nat} {n : Rw.Ins} (hn : z.p[i]? = some n) : Rm.Fit z.p.length n ∧ n.k < 2 ^ 64 := by
 have h := M.good n (List.mem_of_getElem? hn)
 exact ⟨Rm.fit_of h.1, h.2⟩
def sp_z22 (A : Ad) : Sp := fun vs H Q _ => ∃ (q dq : Addr) (n : Rw.Ins) (N : Nat), vs = [.ref q, .int N] ∧ H q = some (.ins A.z57 dq (insf n)) ∧ Q (.bl (Rw.ill N n)) H
theorem ok_z22 (T : Txt K mg A) : Fn P w K mg base 1 A.z22 ["instruction", "how_many"] (sp_z22 A) := by
 refine mq ?_; simp (disch := k_dflt (
 refine mz ?_
 refine Fn.on T.d_z22 sc_z22 (fun _ _ _ _ _ _ hr => bd_z22 T hr) fun vs H Q h => ?_
 obtain ⟨q', dq, n, N, rfl, hq, q⟩ := h
 refine ⟨rfl, ?_⟩
 rw [st_z22, rd_z22]
 obtain ⟨t1, t2, t3, t4, t5, t6, t7, t8, t9⟩ := T.instr
 have s1 := @sizes_nat A n.width
 rw [Rm.ill_eq] at q
 walk_at "wp"
 have hT : ([10, 11, 14].contains (n.op : Int) = true) ↔ (n.op = 10 ∨ n.op = 11 ∨ n.op = 14) := by
   simp
   omega
 have fin : ∀ b : Bool, (decide (14 < n.op) || (decide (3 < n.x) || (decide (3 < n.y) || if n.op ≤ 4 then !Rw.fine n.width || decide (2 < n.rep) else if n.op = 10 ∨ n.op = 11 ∨ n.op = 14 then decide (n.width = 1) || !Rw.fine n.width
     else decide (n.op = 9) && (decide (6 < n.cond) || decide (N ≤ n.to))))) = b → Q (V.bl b) H := fun b e => by rw [← e]; exact q
 clear q
 by_cases g1 : 14 < n.op
 · rw [if_pos (by omega)]
   exact fin _ (by simp [g1])
 rw [if_neg (by omega)]
 by_cases g2 : 3 < n.x
 · rw [if_pos (by omega)]
   exact fin _ (by simp [g2])
 rw [if_neg (by omega)]
 by_cases g3 : 3 < n.y
 · rw [if_pos (by omega)]
   exact fin _ (by simp [g3])
 rw [if_neg (by omega)]
 rw [decide_eq_false g1, decide_eq_false g2, decide_eq_false g3, Bool.false_or, Bool.false_or, Bool.false_or] at fin
 by_cases g4 : n.op ≤ 4
 · rw [if_pos (by omega)]
   rw [if_pos g4] at fin
   cases hf : Rw.fine n.width with
   | false =>
     rw [if_pos rfl]
     exact fin _ (by rw [hf]; rfl)
   | true =>
     rw [if_neg (by simp)]
     refine fin _ ?_
     rw [hf]
     exact decide_eq_decide.mpr (by omega)
 rw [if_neg (by omega)]
 rw [if_neg g4] at fin
 by_cases g5 : n.op = 10 ∨ n.op = 11 ∨ n.op = 14
 · rw [if_pos (hT.mpr g5)]
   rw [if_pos g5] at fin
   by_cases g6 : n.width = 1
   · rw [if_pos (by omega)]
     exact fin _ (by simp [g6])
   · rw [if_neg (by omega)]
     exact fin _ (by simp [g6])
 rw [if_neg (fun h => g5 (hT.mp h))]
 rw [if_neg g5] at fin
 by_cases g7 : n.op = 9
 · rw [if_pos (by omega)]
   by_cases g8 : 6 < n.cond
   · rw [if_pos (by omega)]
     exact fin _ (by simp [g7, g8])
   · rw [if_neg (by omega)]
     refine fin _ ?_
     simp [g7, g8]
 · rw [if_neg (by omega)]
   exact fin _ (by simp [g7]))) only [↓mr]
def sp_plain (op : Nat) (A : Ad) : Sp := fun vs H Q _ => ∃ (L : Loc) (z : Z) (q : Addr) (i : Nat) (n : Rw.Ins) (s t : Rw.State), vs = [.ref L.p, .ref q] ∧ L.qs[i]? = some q ∧ z.p[i]? = some n ∧ n.op = op ∧ MachAt A H L { z with s := s.next } ∧ Rw.exec s n = some t ∧
 ∀ H', MachAt A H' L { z with s := t } → Fr L H H' → Q .non H'
theorem ok_y43 (T : Txt K mg A) : Fn P w K mg base 1 A.y43 ["machine", "instruction"] (sp_plain 5 A) := by
 refine mq ?_; simp (disch := k_dflt (
 refine mz ?_
 refine Fn.on T.d_y43 sc_y43 (fun _ _ _ _ _ _ hr => bd_y43 T hr) fun vs H Q h => ?_
 obtain ⟨L, z, q', i, n, s, t, rfl, hi, hn, hop, M, he, q⟩ := h
 refine ⟨rfl, ?_⟩
 rw [st_y43, rd_y43]
 obtain ⟨dq, hq⟩ := M.insAt hi hn
 obtain ⟨ft, hk⟩ := M.fit hn
 obtain ⟨t1, t2, t3, t4, t5, t6⟩ := T.mach
 obtain ⟨u1, u2, u3, u4, u5, u6, u7, u8, u9⟩ := T.instr
 have h1 := M.obj
 have h4 := M.regs
 have h6 := @rv_ix s.next.m n.x ft.x
 rw [Rm.ex5 hop] at he
 have he := Option.some.inj he
 subst he
 walk_at "wp"
 rw [rv_set ft.x]
 have M2 := M.setRegs (M.wf.put n.x hk) put_flags put_place
 rw [Rm.put_next] at q
 exact q _ M2 M.frRegs)) only [↓mr]
theorem ok_y44 (T : Txt K mg A) : Fn P w K mg base 2 A.y44 ["machine", "instruction"] (sp_plain 6 A) := by
 refine mq ?_; simp (disch := k_dflt (
 refine mz ?_
 refine Fn.on T.d_y44 sc_y44 (fun _ _ _ _ _ _ hr => bd_y44 T (ok_z60 T) hr) fun vs H Q h => ?_
 obtain ⟨L, z, q', i, n, s, t, rfl, hi, hn, hop, M, he, q⟩ := h
 refine ⟨rfl, ?_⟩
 rw [st_y44, rd_y44]
 obtain ⟨dq, hq⟩ := M.insAt hi hn
 obtain ⟨ft, hk⟩ := M.fit hn
 obtain ⟨u1, u2, u3, u4, u5, u6, u7, u8, u9⟩ := T.instr
 rw [Rm.ex6 hop] at he
 have he := Option.some.inj he
 subst he
 walk_at "wp"
 refine ⟨L, _, n.x, n.k, rfl, ft.x, M, fun H' M' F' => q H' ?_ F'⟩
 rw [Rm.put_next]
 rw [show (((Rw.Machine.get s.next.m n.x : Int) + (n.k : Int)) % 18446744073709551616).toNat = (s.m.get n.x + n.k) % Rw.WORD from ?_] at M'
 · exact M'
 · rw [Rm.get_next]
   unfold Rw.WORD
   omega)) only [↓mr]
theorem ok_z65 (T : Txt K mg A) : Fn P w K mg base 1 A.z65 ["machine", "instruction"] (sp_plain 7 A) := by
 refine mq ?_; simp (disch := k_dflt (
 refine mz ?_
 refine Fn.on T.d_z65 sc_z65 (fun _ _ _ _ _ _ hr => bd_z65 T hr) fun vs H Q h => ?_
 obtain ⟨L, z, q', i, n, s, t, rfl, hi, hn, hop, M, he, q⟩ := h
 refine ⟨rfl, ?_⟩
 rw [st_z65, rd_z65]
 obtain ⟨dq, hq⟩ := M.insAt hi hn
 obtain ⟨ft, hk⟩ := M.fit hn
 obtain ⟨t1, t2, t3, t4, t5, t6⟩ := T.mach
 obtain ⟨u1, u2, u3, u4, u5, u6, u7, u8, u9⟩ := T.instr
 have h1 := M.obj
 have h4 := M.regs
 have h5 := @rv_at s.next.m n.y ft.y
 have h6 := @rv_ix s.next.m n.x ft.x
 rw [Rm.ex7 hop] at he
 have he := Option.some.inj he
 subst he
 walk_at "wp"
 rw [rv_set ft.x]
 have M2 := M.setRegs (M.wf.put n.x (M.wf.get n.y)) put_flags put_place
 rw [Rm.put_next] at q
 exact q _ M2 M.frRegs)) only [↓mr]
theorem ok_z8 (T : Txt K mg A) : Fn P w K mg base 2 A.z8 ["machine", "instruction"] (sp_plain 8 A) := by
 refine mq ?_; simp (disch := k_dflt (
 refine mz ?_
 refine Fn.on T.d_z8 sc_z8 (fun _ _ _ _ _ _ hr => bd_z8 T (ok_z96 T) hr) fun vs H Q h => ?_
 obtain ⟨L, z, q', i, n, s, t, rfl, hi, hn, hop, M, he, q⟩ := h
 refine ⟨rfl, ?_⟩
 rw [st_z8, rd_z8]
 obtain ⟨dq, hq⟩ := M.insAt hi hn
 obtain ⟨u1, u2, u3, u4, u5, u6, u7, u8, u9⟩ := T.instr
 rw [Rm.ex8 hop] at he
 have he := Option.some.inj he
 subst he
 walk_at "wp"
 refine ⟨by decide, L, _, Rw.bitAt n.k 0, ?_, M, fun H' M' F' => q H' M' F'⟩
 congr 3
 unfold Rw.bitAt
 exact decide_eq_decide.mpr (by omega))) only [↓mr]
def sp_y39 (A : Ad) : Sp := fun vs H Q _ => ∃ (L : Loc) (z : Z) (c : Nat), vs = [.ref L.p, .int c] ∧ c ≤ 6 ∧ MachAt A H L z ∧ Q (.bl (Rw.holds z.s.m c)) H
theorem ok_y39 (T : Txt K mg A) : Fn P w K mg base 2 A.y39 ["machine", "cond"] (sp_y39 A) := by
 refine mq ?_; simp (disch := k_dflt (
 refine mz ?_
 refine Fn.on T.d_y39 sc_y39 (fun _ _ _ _ _ _ hr => bd_y39 T (ok_y24 T) hr) fun vs H Q h => ?_
 obtain ⟨L, z, c, rfl, hc, M, q⟩ := h
 refine ⟨rfl, ?_⟩
 rw [st_y39, rd_y39]
 obtain ⟨t1, t2, t3, t4, t5, t6⟩ := T.mach
 have h1 := M.obj
 have h4 := M.regs
 have h5 : atI (rv z.s.m) 1 = some (V.int z.s.m.c) := rfl
 walk_at "wp"
 have hb : ∀ b c : Bool, decide (V.bl b = V.bl c) = (b == c) := fun b c => dec_bl
 have h0 : decide ((z.s.m.c : Int) = 0) = (z.s.m.c == 0) := by rw [Bool.beq_eq_decide_eq]; exact decide_eq_decide.mpr (by omega)
 have hcs : c = 0 ∨ c = 1 ∨ c = 2 ∨ c = 3 ∨ c = 4 ∨ c = 5 ∨ c = 6 := by omega
 rcases hcs with rfl | rfl | rfl | rfl | rfl | rfl | rfl
 · exact q
 · refine ⟨L, z, 6, rfl, M, rfl, ?_⟩
   rw [hb]
   have q : Q (V.bl (Rw.bitAt z.s.m.flags 6)) H := q
   revert q
   cases Rw.bitAt z.s.m.flags 6 <;> exact fun q => q
 · refine ⟨L, z, 6, rfl, M, rfl, ?_⟩
   rw [hb]
   have q : Q (V.bl (!Rw.bitAt z.s.m.flags 6)) H := q
   revert q
   cases Rw.bitAt z.s.m.flags 6 <;> exact fun q => q
 · refine ⟨L, z, 0, rfl, M, rfl, ?_⟩
   rw [hb]
   have q : Q (V.bl (Rw.bitAt z.s.m.flags 0)) H := q
   revert q
   cases Rw.bitAt z.s.m.flags 0 <;> exact fun q => q
 · refine ⟨L, z, 0, rfl, M, rfl, ?_⟩
   rw [hb]
   have q : Q (V.bl (!Rw.bitAt z.s.m.flags 0)) H := q
   revert q
   cases Rw.bitAt z.s.m.flags 0 <;> exact fun q => q
 · have q : Q (V.bl (z.s.m.c == 0)) H := q
   rw [h0]
   revert q
   cases (z.s.m.c == 0) <;> exact fun q => q
 · have q : Q (V.bl (z.s.m.c != 0)) H := q
   rw [h0]
   revert q
   unfold bne
   cases (z.s.m.c == 0) <;> exact fun q => q)) only [↓mr]
def sp_y49 (A : Ad) : Sp := sp_plain 9 A
theorem ok_y49 (T : Txt K mg A) : Fn P w K mg base 3 A.y49 ["machine", "instruction"] (sp_plain 9 A) := by
 refine mq ?_; simp (disch := k_dflt (
 refine mz ?_
 refine Fn.on T.d_y49 sc_y49 (fun _ _ _ _ _ _ hr => bd_y49 T (ok_y39 T) hr) fun vs H Q h => ?_
 obtain ⟨L, z, q', i, n, s, t, rfl, hi, hn, hop, M, he, q⟩ := h
 refine ⟨rfl, ?_⟩
 rw [st_y49, rd_y49]
 obtain ⟨dq, hq⟩ := M.insAt hi hn
 obtain ⟨ft, hk⟩ := M.fit hn
 obtain ⟨t1, t2, t3, t4, t5, t6⟩ := T.mach
 obtain ⟨u1, u2, u3, u4, u5, u6, u7, u8, u9⟩ := T.instr
 have h1 := M.obj
 rw [Rm.ex9 hop] at he
 have he := Option.some.inj he
 walk_at "wp"
 refine ⟨L, _, n.cond, rfl, ft.c hop, M, _, rfl, ?_⟩
 rw [show Rw.holds ({ z with s := s.next } : Z).s.m n.cond = Rw.holds s.m n.cond from rfl]
 by_cases g : Rw.holds s.m n.cond = true
 · rw [if_pos g]
   rw [if_pos g] at he
   subst he
   walk_at "wp"
   exact q _ (M.setObj s.m.flags n.to) M.frObj
 · rw [if_neg g]
   rw [if_neg g] at he
   subst he
   exact q _ M (Fr.refl _ _))) only [↓mr]
theorem ok_z97 (T : Txt K mg A) : Fn P w K mg base 2 A.z97 ["machine", "instruction"] (sp_plain 10 A) := by
 refine mq ?_; simp (disch := k_dflt (
 refine mz ?_
 refine Fn.on T.d_z97 sc_z97 (fun _ _ _ _ _ _ hr => bd_z97 T (ok_z21 T) (ok_z33 T) hr) fun vs H Q h => ?_
 obtain ⟨L, z, q', i, n, s, t, rfl, hi, hn, hop, M, he, q⟩ := h
 refine ⟨rfl, ?_⟩
 rw [st_z97, rd_z97]
 obtain ⟨dq, hq⟩ := M.insAt hi hn
 obtain ⟨ft, hk⟩ := M.fit hn
 have hw := ft.t (.inl hop)
 obtain ⟨t1, t2, t3, t4, t5, t6⟩ := T.mach
 obtain ⟨u1, u2, u3, u4, u5, u6, u7, u8, u9⟩ := T.instr
 have h1 := M.obj
 have h4 := M.regs
 have h5 := @rv_at s.next.m n.x ft.x
 rw [Rm.ex10 hop] at he
 have he := Option.some.inj he
 subst he
 walk_at "wp"
 refine ⟨_, n.width, rfl, fine_le hw, ?_⟩
 refine ⟨L, _, n.x, n.width, _, rfl, ft.x, hw, Rm.turned_lt _ _, M, fun H' M' F' => q H' ?_ F'⟩
 rw [Rm.put_next]
 exact M')) only [↓mr]
theorem ok_z43 (T : Txt K mg A) : Fn P w K mg base 2 A.z43 ["machine", "instruction"] (sp_plain 11 A) := by
 refine mq ?_; simp (disch := k_dflt (
 refine mz ?_
 refine Fn.on T.d_z43 sc_z43 (fun _ _ _ _ _ _ hr => bd_z43 T (ok_z75 T) (ok_z21 T) (ok_z33 T) hr) fun vs H Q h => ?_
 obtain ⟨L, z, q', i, n, s, t, rfl, hi, hn, hop, M, he, q⟩ := h
 refine ⟨rfl, ?_⟩
 rw [st_z43, rd_z43]
 obtain ⟨dq, hq⟩ := M.insAt hi hn
 obtain ⟨ft, hk⟩ := M.fit hn
 have hw := ft.t (.inr (.inl hop))
 obtain ⟨t1, t2, t3, t4, t5, t6⟩ := T.mach
 obtain ⟨u1, u2, u3, u4, u5, u6, u7, u8, u9⟩ := T.instr
 have h1 := M.obj
 have h4 := M.regs
 have h5 : atI (rv s.next.m) 2 = some (V.int s.m.si) := rfl
 rw [Rm.ex11 hop] at he
 split at he
 · rename_i ht
   have he := Option.some.inj he
   subst he
   walk_at "wp"
   refine ⟨L.ca, s.mem, s.m.si, n.width, rfl, M.cells, of_decide_eq_true ht, fun H1 s1 => ?_⟩
   have hq1 := s1 _ _ hq
   walk_at "wp"
   refine ⟨_, n.width, rfl, fine_le hw, ?_⟩
   refine ⟨L, _, n.x, n.width, _, rfl, ft.x, hw, Rm.turned_lt _ _, M.same s1, fun H' M' F' => q H' ?_ ((Fr.of_same s1).trans F')⟩
   rw [Rm.put_next]
   exact M'
 · cases he)) only [↓mr]
theorem ok_z98 (T : Txt K mg A) : Fn P w K mg base 1 A.z98 ["machine", "instruction"] (sp_plain 12 A) := by
 refine mq ?_; simp (disch := k_dflt (
 refine mz ?_
 refine Fn.on T.d_z98 sc_z98 (fun _ _ _ _ _ _ hr => bd_z98 T hr) fun vs H Q h => ?_
 obtain ⟨L, z, q', i, n, s, t, rfl, hi, hn, hop, M, he, q⟩ := h
 refine ⟨rfl, ?_⟩
 rw [st_z98, rd_z98]
 obtain ⟨dq, hq⟩ := M.insAt hi hn
 obtain ⟨ft, hk⟩ := M.fit hn
 obtain ⟨t1, t2, t3, t4, t5, t6⟩ := T.mach
 obtain ⟨u1, u2, u3, u4, u5, u6, u7, u8, u9⟩ := T.instr
 have h1 := M.obj
 have h4 := M.regs
 have h5 := @rv_at s.next.m n.x ft.x
 have h6 := @rv_ix s.next.m n.x ft.x
 have h7 := @rv_at s.next.m n.y ft.y
 rw [Rm.ex12 hop] at he
 have he := Option.some.inj he
 subst he
 have M2 := M.setRegs (M.wf.put n.x (M.wf.get n.y)) put_flags put_place
 walk_at "wq"
 rw [rv_set ft.x]
 obtain ⟨dq2, hq2⟩ := M2.insAt hi hn
 have k1 := M2.obj
 have k4 := M2.regs
 have k6 := @rv_ix (s.next.m.put n.x (s.next.m.get n.y)) n.y ft.y
 dsimp only at hq2 k1 k4
 clear M2
 walk_at "wp"
 have M2 := M.setRegs (M.wf.put n.x (M.wf.get n.y)) put_flags put_place
 have M3 := M2.setRegs (M2.wf.put n.y (M.wf.get n.x)) put_flags put_place
 rw [rv_set ft.y]
 rw [Rm.put_next, Rm.put_next] at q
 exact q _ M3 (M.frRegs.trans M2.frRegs))) only [↓mr]
theorem ok_z39 (T : Txt K mg A) : Fn P w K mg base 2 A.z39 ["machine", "instruction"] (sp_plain 14 A) := by
 refine mq ?_; simp (disch := k_dflt (
 refine mz ?_
 refine Fn.on T.d_z39 sc_z39 (fun _ _ _ _ _ _ hr => bd_z39 T (ok_z33 T) (ok_z70 T) hr) fun vs H Q h => ?_
 obtain ⟨L, z, q', i, n, s, t, rfl, hi, hn, hop, M, he, q⟩ := h
 refine ⟨rfl, ?_⟩
 rw [st_z39, rd_z39]
 obtain ⟨dq, hq⟩ := M.insAt hi hn
 obtain ⟨ft, hk⟩ := M.fit hn
 have hw := ft.t (.inr (.inr hop))
 obtain ⟨t1, t2, t3, t4, t5, t6⟩ := T.mach
 obtain ⟨u1, u2, u3, u4, u5, u6, u7, u8, u9⟩ := T.instr
 have h1 := M.obj
 have h4 := M.regs
 have h5 := @rv_at s.next.m n.x ft.x
 have h6 : atI (rv s.next.m) 3 = some (V.int s.m.di) := rfl
 rw [Rm.ex14 hop] at he
 split at he
 · rename_i ht
   have he := Option.some.inj he
   subst he
   walk_at "wp"
   refine ⟨_, n.width, rfl, fine_le hw, ?_⟩
   walk_at "wp"
   refine ⟨L.ca, s.mem, s.m.di, n.width, _, rfl, M.cells, M.mem, of_decide_eq_true ht, ?_⟩
   exact q _ (M.setCells (by rw [Rm.poke_len _ (of_decide_eq_true ht)]; exact M.mem)) M.frCells
 · cases he)) only [↓mr]
def sp_z30 (A : Ad) : Sp := fun vs H Q _ => ∃ (L : Loc) (z : Z) (q : Addr) (i : Nat) (n : Rw.Ins), vs = [.ref L.p, .ref q] ∧ L.qs[i]? = some q ∧ z.p[i]? = some n ∧ 4 < n.op ∧ n.op ≠ 13 ∧ MachAt A H L z ∧ Q (.bl (Rw.exec z.s n).isNone) H
theorem ok_z30 (T : Txt K mg A) : Fn P w K mg base 2 A.z30 ["machine", "instruction"] (sp_z30 A) := by
 refine mq ?_; simp (disch := k_dflt (
 refine mz ?_
 refine Fn.on T.d_z30 sc_z30 (fun _ _ _ _ _ _ hr => bd_z30 T (ok_z58 T) hr) fun vs H Q h => ?_
 obtain ⟨L, z, q', i, n, rfl, hi, hn, ho4, ho13, M, q⟩ := h
 refine ⟨rfl, ?_⟩
 rw [st_z30, rd_z30]
 obtain ⟨dq, hq⟩ := M.insAt hi hn
 obtain ⟨ft, hk⟩ := M.fit hn
 have hop := ft.op
 obtain ⟨t1, t2, t3, t4, t5, t6⟩ := T.mach
 obtain ⟨u1, u2, u3, u4, u5, u6, u7, u8, u9⟩ := T.instr
 have h1 := M.obj
 have h4 := M.regs
 have h5 : atI (rv z.s.m) 2 = some (V.int z.s.m.si) := rfl
 have h6 : atI (rv z.s.m) 3 = some (V.int z.s.m.di) := rfl
 walk_at "wp"
 by_cases g : n.op = 11
 · rw [if_pos (by omega)]
   rw [Rm.ex11 g] at q
   refine ⟨L.ca, z.s.mem, z.s.m.si, n.width, rfl, M.cells, _, rfl, ?_⟩
   revert q
   cases Rw.there z.s.mem z.s.m.si n.width <;> exact fun q => q
 rw [if_neg (by omega)]
 by_cases g2 : n.op = 14
 · rw [if_pos (by omega)]
   rw [Rm.ex14 g2] at q
   refine ⟨L.ca, z.s.mem, z.s.m.di, n.width, rfl, M.cells, _, rfl, ?_⟩
   revert q
   cases Rw.there z.s.mem z.s.m.di n.width <;> exact fun q => q
 rw [if_neg (by omega)]
 have hcs : n.op = 5 ∨ n.op = 6 ∨ n.op = 7 ∨ n.op = 8 ∨ n.op = 9 ∨ n.op = 10 ∨ n.op = 12 := by omega
 rcases hcs with e | e | e | e | e | e | e
 · rw [Rm.ex5 e] at q; exact q
 · rw [Rm.ex6 e] at q; exact q
 · rw [Rm.ex7 e] at q; exact q
 · rw [Rm.ex8 e] at q; exact q
 · rw [Rm.ex9 e] at q; exact q
 · rw [Rm.ex10 e] at q; exact q
 · rw [Rm.ex12 e] at q; exact q)) only [↓mr]
theorem plains (T : Txt K mg A) {op : Nat} (h4 : 4 < op) (h13 : op ≠ 13) (h14 : op ≤ 14) : ∃ (k : Nat) (f : Addr), List.lookup (op : Int) (tab_z55 A) = some (.ref f) ∧ Fn P w K mg base k f ["machine", "instruction"] (sp_plain op A) ∧ k ≤ 3 := by
 have : op = 5 ∨ op = 6 ∨ op = 7 ∨ op = 8 ∨ op = 9 ∨ op = 10 ∨ op = 11 ∨ op = 12 ∨ op = 14 := by omega
 rcases this with rfl | rfl | rfl | rfl | rfl | rfl | rfl | rfl | rfl
 · exact ⟨_, _, rfl, ok_y43 T, by decide⟩
 · exact ⟨_, _, rfl, ok_y44 T, by decide⟩
 · exact ⟨_, _, rfl, ok_z65 T, by decide⟩
 · exact ⟨_, _, rfl, ok_z8 T, by decide⟩
 · exact ⟨_, _, rfl, ok_y49 T, by decide⟩
 · exact ⟨_, _, rfl, ok_z97 T, by decide⟩
 · exact ⟨_, _, rfl, ok_z43 T, by decide⟩
 · exact ⟨_, _, rfl, ok_z98 T, by decide⟩
 · exact ⟨_, _, rfl, ok_z39 T, by decide⟩
def sp_y3 (A : Ad) : Sp := fun vs H Q _ => ∃ (L : Loc) (z : Z) (q : Addr) (i : Nat) (n : Rw.Ins), vs = [.ref L.p, .ref q] ∧ L.qs[i]? = some q ∧ z.p[i]? = some n ∧ 4 < n.op ∧ n.op ≠ 13 ∧ MachAt A H L z ∧
 (Rw.exec z.s n = none → ∀ H' t, H' t = some (.tup [.int 3, .int 0]) → MachAt A H' L z → Fr L H H' → Q (.ref t) H') ∧
 (∀ s', Rw.exec z.s n = some s' → ∀ H' t, H' t = some (.tup [.int 0, .int 1]) → MachAt A H' L { z with s := s' } → Fr L H H' → Q (.ref t) H')
theorem ok_y3 (T : Txt K mg A) : Fn P w K mg base 4 A.y3 ["machine", "instruction"] (sp_y3 A) := by
 refine mq ?_; simp (disch := k_dflt (
 refine mz ?_
 refine Fn.on T.d_y3 sc_y3 (fun _ _ _ _ _ _ hr => bd_y3 T (ok_z30 T) hr) fun vs H Q h => ?_
 obtain ⟨L, z, q', i, n, rfl, hi, hn, ho4, ho13, M, q3, q0⟩ := h
 refine ⟨rfl, ?_⟩
 rw [st_y3, rd_y3]
 obtain ⟨dq, hq⟩ := M.insAt hi hn
 obtain ⟨ft, hk⟩ := M.fit hn
 obtain ⟨kd, f, hf, F, hkd⟩ := plains (P := P) (w := ‹World›) (base := base) T ho4 ho13 ft.op
 obtain ⟨t1, t2, t3, t4, t5, t6⟩ := T.mach
 obtain ⟨u1, u2, u3, u4, u5, u6, u7, u8, u9⟩ := T.instr
 have h1 := M.obj
 walk_at "wq"
 refine if_do (Rw.exec z.s n).isNone (fun Q q => ?_) (fun e => ?_) (fun e => ?_)
 · walk_at "wp"
   exact ⟨L, z, q', i, n, rfl, hi, hn, ho4, ho13, M, _, rfl, q⟩
 · have e := Option.isNone_iff_eq_none.mp e
   walk_at "wp"
   exact fun p hp => q3 e _ p upd_same (M.same (same_upd hp)) (Fr.of_same (same_upd hp))
 obtain ⟨s', hs⟩ : ∃ u, Rw.exec z.s n = some u := by
   cases h : Rw.exec z.s n with
   | none => rw [h] at e; cases e
   | some u => exact ⟨u, rfl⟩
 walk_at "wp"
 have M1 := M.setObj z.s.m.flags (z.s.m.place + 1)
 rw [show ((z.s.m.place : Int) + 1) = ((z.s.m.place + 1 : Nat) : Int) by omega]
 refine ⟨kd, f, _, _, rfl, ⟨F, hkd⟩, _, rfl, _, rfl, L, z, q', i, n, z.s, s', rfl, hi, hn, rfl, M1, hs, fun H' M' F' => ?_⟩
 exact fun p hp => q0 s' hs _ p upd_same (M'.same (same_upd hp)) ((M.frObj.trans F').trans (Fr.of_same (same_upd hp))))) only [↓mr]
def sp_z10 (A : Ad) : Sp := fun vs H Q _ => ∃ (L : Loc) (z : Z) (q : Addr) (i : Nat) (n : Rw.Ins) (most : Nat), vs = [.ref L.p, .ref q, .int most] ∧ L.qs[i]? = some q ∧ z.p[i]? = some n ∧ n.op ≤ 4 ∧ MachAt A H L z ∧
 ((Rw.go n.op n.width n.rep most z.s).1 ≠ 0 → ∀ H' t, H' t = some (.tup [.int (Rw.go n.op n.width n.rep most z.s).1, .int ((Rw.go n.op n.width n.rep most z.s).2.1 : Nat)]) → MachAt A H' L { z with s := (Rw.go n.op n.width n.rep most z.s).2.2 } → Fr L H H' → Q (.ref t) H') ∧
 ((Rw.go n.op n.width n.rep most z.s).1 = 0 → ∀ H' t, H' t = some (.tup [.int 0, .int ((max 1 (Rw.go n.op n.width n.rep most z.s).2.1 : Nat) : Int)]) → MachAt A H' L { z with s := (Rw.go n.op n.width n.rep most z.s).2.2.next } → Fr L H H' → Q (.ref t) H')
theorem ok_z10 (T : Txt K mg A) : Fn P w K mg base 6 A.z10 ["machine", "instruction", "most"] (sp_z10 A) := by
 refine mq ?_; simp (disch := k_dflt (
 refine mz ?_
 refine Fn.on T.d_z10 sc_z10 (fun _ _ _ _ _ _ hr => bd_z10 T (ok_z93 T) hr) fun vs H Q h => ?_
 obtain ⟨L, z, q', i, n, most, rfl, hi, hn, ho4, M, q1, q0⟩ := h
 refine ⟨rfl, ?_⟩
 rw [st_z10, rd_z10]
 obtain ⟨dq, hq⟩ := M.insAt hi hn
 obtain ⟨ft, hk⟩ := M.fit hn
 obtain ⟨t1, t2, t3, t4, t5, t6⟩ := T.mach
 obtain ⟨u1, u2, u3, u4, u5, u6, u7, u8, u9⟩ := T.instr
 walk_at "wq"
 refine ⟨L, z, n.op, n.width, n.rep, most, rfl, ho4, ft.w ho4, M, fun H1 t ht M1 F1 => ?_⟩
 have hS := SqT.of (K := K) ht
 have a0 : ∀ a b : V, atI [a, b] 0 = some a := fun _ _ => rfl
 have a1 : ∀ a b : V, atI [a, b] 1 = some b := fun _ _ => rfl
 generalize Rw.go n.op n.width n.rep most z.s = r at *
 have h1 := M1.obj
 refine if_do (!decide (r.1 = 0)) (fun Q q => ?_) (fun e => ?_) (fun e => ?_)
 · refine ⟨_, rfl, t, _, _, _, rfl, rfl, hS, rfl, rfl, _, rfl, ?_⟩
   rw [show decide (V.int r.1 = V.int 0) = decide (r.1 = 0) from decide_eq_decide.mpr ⟨fun h => V.int.inj h, fun h => by rw [h]⟩]
   exact q
 · have e : r.1 ≠ 0 := by simpa using e
   walk_at "wp"
   exact q1 e H1 t ht M1 F1
 · have e : r.1 = 0 := by simpa using e
   walk_at "wp"
   have M2 := M1.setObj r.2.2.m.flags (r.2.2.m.place + 1)
   rw [show ((r.2.2.m.place : Int) + 1) = ((r.2.2.m.place + 1 : Nat) : Int) by omega]
   have ht2 : upd H1 L.p (HO.ins A.y21 L.dx (mf L.ca L.ra L.pa (r.2.2.m.flags) ((r.2.2.m.place + 1 : Nat) : Int))) t = some (.tup [.int r.1, .int (r.2.1 : Nat)]) := by
     rw [upd_ne (ne_of ht M1.obj (by intro q; cases q))]
     exact ht
   refine ⟨t, _, 1, _, rfl, rfl, SqT.of ht2, rfl, _, rfl, fun p hp => ?_⟩
   refine q0 e _ p ?_ (M2.same (same_upd hp)) ((F1.trans M1.frObj).trans (Fr.of_same (same_upd hp)))
   rw [upd_same, show (if (1 : Int) > ((r.2.1 : Nat) : Int) then (1 : Int) else ((r.2.1 : Nat) : Int)) = ((max 1 r.2.1 : Nat) : Int) from ?_]
   split <;> omega)) only [↓mr]
theorem run_tail {D : Ends} {σ : L2.St} {H : Hp} {tp : Addr} {a : Int} {b v : V} (h2 : H tp = some (.tup [.int a, b])) (h4 : σ[4]? = some (some (.ref tp))) (hv : σ[2]? = some (some v)) (hret : a ≠ 0 → ∀ p, H p = none → D.rt (.ref p) (upd H p (.tup [.int a, v]))) (hnx : a = 0 → D.nx σ H) :
   tIfS (tTest (tOp rNe (tOp (rIxT K) (tVar 4) (tC (V.int 0))) (tC (V.int 0)))) (tRet (tTup (tCons (tOp (rIxT K) (tVar 4) (tC (V.int 0))) (tCons (tVar 2) tNil)))) tNext D σ H := by
 refine if_do (!decide (a = 0)) (fun Q q => ?_) (fun e => ?_) (fun e => ?_)
 · refine ⟨_, h4, tp, _, 0, _, rfl, rfl, SqT.of h2, rfl, rfl, _, rfl, ?_⟩
   rw [show decide (V.int a = V.int 0) = decide (a = 0) from decide_eq_decide.mpr ⟨fun h => V.int.inj h, fun h => by rw [h]⟩]
   exact q
 · refine ⟨_, h4, tp, _, 0, _, rfl, rfl, SqT.of h2, rfl, _, hv, by rw [short2]; trivial, fun p hp => ?_⟩
   exact hret (by simpa using e) p hp
 · exact hnx (by simpa using e)
def sp_z59 (A : Ad) : Sp := fun vs H Q _ => ∃ (L : Loc) (z : Z) (steps : Nat), vs = [.ref L.p, .int steps] ∧ MachAt A H L z ∧
 ∀ H' t, H' t = some (.tup [.int (Rw.run z.p steps z.s).1, .int ((Rw.run z.p steps z.s).2.1 : Nat)]) → MachAt A H' L { z with s := (Rw.run z.p steps z.s).2.2 } → Fr L H H' → Q (.ref t) H'
theorem ok_z59 (T : Txt K mg A) : Fn P w K mg base 7 A.z59 ["machine", "steps"] (sp_z59 A) := by
 refine mq ?_; simp (disch := k_dflt (
 refine mz ?_
 refine Fn.on T.d_z59 sc_z59 (fun _ _ _ _ _ _ hr => bd_z59 T (ok_z10 T) (ok_y3 T) hr) fun vs H Q h => ?_
 obtain ⟨L, z, steps, rfl, M, q⟩ := h
 refine ⟨rfl, ?_⟩
 rw [st_z59, rd_z59]
 walk_at "wq"
 have fin : ∀ (H2 : Hp) (a : Int) (n : Nat) (u : Rw.State), Rw.run z.p steps z.s = (a, n, u) → MachAt A H2 L { z with s := u } → Fr L H H2 → ∀ p, H2 p = none → Q (.ref p) (upd H2 p (.tup [.int a, .int (n : Nat)])) := by
   intro H2 a n u e M2 F2 p hp
   refine q _ p ?_ ?_ ?_
   · rw [upd_same, e]
   · rw [e]; exact M2.same (same_upd hp)
   · exact F2.trans (Fr.of_same (same_upd hp))
 clear q
 refine while_by (fun σ H' => ∃ (k f : Nat) (t : Rw.State) (o1 o2 : Option V), σ = [some (.ref L.p), some (.int steps), some (.int k), o1, o2] ∧ k ≤ steps ∧ steps - k ≤ f ∧ MachAt A H' L { z with s := t } ∧ Fr L H H' ∧
   Rm.plus k (Rw.runFrom z.p f (steps - k) t) = Rw.run z.p steps z.s) (fun σ _ => steps - (slotI σ 2).toNat) ?_ ?_ (fun σ H Q Q' hq h => hq _ _ h)
 · exact ⟨0, steps, z.s, none, none, rfl, Nat.zero_le _, Nat.sub_le _ _, M, Fr.refl _ _, rfl⟩
 · rintro σ H1 ⟨k, f, t, o1, o2, rfl, hks, hf, M1, F1, hgo⟩
   have h1 := M1.obj
   have h4 := M1.prog
   obtain ⟨t1, t2, t3, t4, t5, t6⟩ := T.mach
   obtain ⟨u1, u2, u3, u4, u5, u6, u7, u8, u9⟩ := T.instr
   dsimp only [tYes]
   rw [if_pos rfl]
   walk_at "wq"
   have hlen : ((L.qs.map V.ref).length : Int) = (z.p.length : Int) := by rw [List.length_map, M1.qlen]
   refine if_do (decide (z.p.length ≤ t.m.place)) (fun Q q => ?_) (fun e => ?_) (fun e => ?_)
   · walk_at "wp"
     refine (congrArg (fun b => Q b H1) ?_).mp q
     exact decide_eq_decide.mpr (by omega)
   · have e := of_decide_eq_true e
     have hs : Rw.settled z.p t = some 4 := by
       unfold Rw.settled
       rw [List.getElem?_eq_none e]
     walk_at "wp"
     refine fin H1 4 k t ?_ M1 F1
     rw [← hgo, Rm.run_settled hs]
     simp [Rm.plus]
   have e := of_decide_eq_false e
   obtain ⟨n, hn⟩ : ∃ n, z.p[t.m.place]? = some n := ⟨_, List.getElem?_eq_getElem (by omega)⟩
   obtain ⟨q', hi⟩ : ∃ q', L.qs[t.m.place]? = some q' := ⟨_, List.getElem?_eq_getElem (by have := M1.qlen; dsimp only at this; omega)⟩
   obtain ⟨dq, hq⟩ := M1.insAt (i := t.m.place) hi hn
   obtain ⟨ft, hk⟩ := M1.fit (i := t.m.place) hn
   have hat : atI (L.qs.map V.ref) (t.m.place : Int) = some (V.ref q') := atI_nat (by rw [List.getElem?_map, hi]; rfl)
   walk_at "wq"
   refine if_do (decide (n.op = 13)) (fun Q q => ?_) (fun e => ?_) (fun e => ?_)
   · walk_at "wp"
     refine (congrArg (fun b => Q b H1) ?_).mp q
     exact decide_eq_decide.mpr (by omega)
   · have e := of_decide_eq_true e
     have hs : Rw.settled z.p t = some 0 := by
       unfold Rw.settled
       rw [hn]
       simp only
       rw [if_pos e]
     walk_at "wp"
     refine fin H1 0 k t ?_ M1 F1
     rw [← hgo, Rm.run_settled hs]
     simp [Rm.plus]
   have e13 := of_decide_eq_false e
   have hs : Rw.settled z.p t = none := by
     unfold Rw.settled
     rw [hn]
     simp only
     rw [if_neg e13]
   have hin : Rw.instrAt z.p t = n := by
     unfold Rw.instrAt
     rw [List.getD_eq_getElem?_getD, hn]
     rfl
   walk_at "wq"
   refine if_do (decide (k = steps)) (fun Q q => ?_) (fun e => ?_) (fun e => ?_)
   · walk_at "wp"
     refine (congrArg (fun b => Q b H1) ?_).mp q
     exact decide_eq_decide.mpr (by omega)
   · have e2 := of_decide_eq_true e
     walk_at "wp"
     refine fin H1 1 steps t ?_ M1 F1
     rw [← hgo, e2, Nat.sub_self, Rm.run_most hs]
     simp [Rm.plus]
   have e2 := of_decide_eq_false e
   walk_at "wq"
   obtain ⟨f', rfl⟩ : ∃ f', f = f' + 1 := ⟨f - 1, by omega⟩
   refine if_do (decide (n.op ≤ 4)) (fun Q q => ?_) (fun e => ?_) (fun e => ?_)
   · walk_at "wp"
     refine (congrArg (fun b => Q b H1) ?_).mp q
     exact decide_eq_decide.mpr (by omega)
   · have e4 := of_decide_eq_true e
     walk_at "wq"
     rw [show ((steps : Int) - (k : Int)) = ((steps - k : Nat) : Int) by omega]
     have hr := Rm.run_str (f := f') hs (by omega : steps - k ≠ 0) (by rw [hin]; exact e4)
     rw [hin] at hr
     have hle := Rm.go_le (steps - k) (op := n.op) (w := n.width) (rep := n.rep) (s := t)
     refine ⟨L, { z with s := t }, q', t.m.place, n, steps - k, rfl, hi, hn, e4, M1, fun ea H2 tp h2 M2 F2 => ?_, fun ea H2 tp h2 M2 F2 => ?_⟩
     · simp only at hr
       rw [if_neg ea] at hr
       rw [hr] at hgo
       refine ⟨tp, _, 1, _, rfl, rfl, SqT.of h2, rfl, _, rfl, ?_⟩
       refine run_tail h2 rfl rfl (fun _ p hp => ?_) (fun h => absurd h ea)
       rw [show ((k : Int) + (((Rw.go n.op n.width n.rep (steps - k) t).2.1 : Nat) : Int)) = (((Rw.go n.op n.width n.rep (steps - k) t).2.1 + k : Nat) : Int) by omega]
       exact fin H2 _ _ _ hgo.symm M2 (F1.trans F2) p hp
     · simp only at hr
       rw [if_pos ea] at hr
       rw [hr, Rm.plus_plus] at hgo
       refine ⟨tp, _, 1, _, rfl, rfl, SqT.of h2, rfl, _, rfl, ?_⟩
       refine run_tail h2 rfl rfl (fun h => absurd rfl h) (fun _ => ?_)
       have hle2 : k + max 1 (Rw.go n.op n.width n.rep (steps - k) t).2.1 ≤ steps := by omega
       rw [show ((k : Int) + ((max 1 (Rw.go n.op n.width n.rep (steps - k) t).2.1 : Nat) : Int)) = ((k + max 1 (Rw.go n.op n.width n.rep (steps - k) t).2.1 : Nat) : Int) by omega]
       refine ⟨⟨k + max 1 (Rw.go n.op n.width n.rep (steps - k) t).2.1, ⟨_, _, rfl⟩, hle2, f', by omega, _, M2, F1.trans F2, ?_⟩, ?_⟩
       · rw [← hgo, show steps - (k + max 1 (Rw.go n.op n.width n.rep (steps - k) t).2.1) = steps - k - max 1 (Rw.go n.op n.width n.rep (steps - k) t).2.1 by omega]
       · show steps - ((k + max 1 (Rw.go n.op n.width n.rep (steps - k) t).2.1 : Nat) : Int).toNat < steps - (k : Int).toNat
         omega
   · have e4 := of_decide_eq_false e
     walk_at "wq"
     refine ⟨L, { z with s := t }, q', t.m.place, n, rfl, hi, hn, by omega, e13, M1, fun ea H2 tp h2 M2 F2 => ?_, fun s' ea H2 tp h2 M2 F2 => ?_⟩
     · have hr := Rm.run_plain_none (f := f') hs (by omega : steps - k ≠ 0) (by rw [hin]; exact e4) (by rw [hin]; exact ea)
       rw [hr] at hgo
       refine ⟨tp, _, 1, _, rfl, rfl, SqT.of h2, rfl, _, rfl, ?_⟩
       refine run_tail h2 rfl rfl (fun _ p hp => ?_) (fun h => absurd h (by decide))
       rw [show ((k : Int) + 0) = ((0 + k : Nat) : Int) by omega]
       exact fin H2 _ _ _ hgo.symm M2 (F1.trans F2) p hp
     · have hr := Rm.run_plain_some (f := f') hs (by omega : steps - k ≠ 0) (by rw [hin]; exact e4) (by rw [hin]; exact ea)
       rw [hr, Rm.plus_plus] at hgo
       refine ⟨tp, _, 1, _, rfl, rfl, SqT.of h2, rfl, _, rfl, ?_⟩
       refine run_tail h2 rfl rfl (fun h => absurd rfl h) (fun _ => ?_)
       rw [show ((k : Int) + 1) = ((k + 1 : Nat) : Int) by omega]
       refine ⟨⟨k + 1, ⟨_, _, rfl⟩, by omega, f', by omega, _, M2, F1.trans F2, ?_⟩, ?_⟩
       · rw [← hgo, show steps - (k + 1) = steps - k - 1 by omega]
       · show steps - ((k + 1 : Nat) : Int).toNat < steps - (k : Int).toNat
         omega)) only [↓mr]
def iv (l : List Int) : List V := l.map V.int
def sp_z90 : Sp := fun vs H Q _ => ∃ (na : Addr) (ns : List Int) (lim : Int), vs = [.ref na, .int lim] ∧ H na = some (.lst (iv ns)) ∧ ns.length ≤ 15000 ∧ ∀ H', Same H H' → Q (.bl (ns.all fun x => decide (0 ≤ x) && decide (x < lim))) H'
theorem ok_z90 (T : Txt K mg A) : Fn P w K mg base 1 A.z90 ["numbers", "limit"] sp_z90 := by
 refine mq ?_; simp (disch := k_dflt (
 refine mz ?_
 refine Fn.on T.d_z90 sc_z90 (fun _ _ _ _ _ _ hr => bd_z90 T hr) fun vs H Q h => ?_
 obtain ⟨na, ns, lim, rfl, hn, hl, q⟩ := h
 refine ⟨rfl, ?_⟩
 rw [st_z90, rd_z90]
 refine ⟨_, rfl, na, rfl, ⟨_, SqL.of hn⟩, fun D hD => ?_⟩
 refine lc_list (K := K) (a := na) (xs := iv ns) (fun i H' => Same H H' ∧ H' D = some (.lst (((ns.take i).map fun x => decide (0 ≤ x) && decide (x < lim)).map V.bl))) ?_ ?_ ?_ ?_
 · exact ⟨same_upd hD, upd_same⟩
 · rintro i H' hi ⟨hS, _⟩
   exact SqL.of (hS _ _ hn)
 · rintro i x H' hi ⟨hS, hd⟩
   unfold iv at hi
   rw [List.getElem?_map] at hi
   obtain ⟨y, hy, rfl⟩ := Option.map_eq_some_iff.mp hi
   have hlt : i < ns.length := (List.getElem?_eq_some_iff.mp hy).1
   have e : (ns.take (i + 1)).map (fun x => decide (0 ≤ x) && decide (x < lim)) = (ns.take i).map (fun x => decide (0 ≤ x) && decide (x < lim)) ++ [decide (0 ≤ y) && decide (y < lim)] := by
     obtain ⟨hl, ey⟩ := List.getElem?_eq_some_iff.mp hy
     rw [List.take_succ_eq_append_getElem hl, List.map_append, ey]
     rfl
   have fin : ∃ acc, H' D = some (.lst acc) ∧ acc.length < sizeLine ∧ (Same H (upd H' D (.lst (acc ++ [V.bl (decide (0 ≤ y) && decide (y < lim))]))) ∧ upd H' D (.lst (acc ++ [V.bl (decide (0 ≤ y) && decide (y < lim))])) D = some (.lst (((ns.take (i + 1)).map fun x => decide (0 ≤ x) && decide (x < lim)).map V.bl))) := by
     refine ⟨_, hd, ?_, ?_, ?_⟩
     · rw [List.length_map, List.length_map, List.length_take]
       have : (15000 : Nat) < sizeLine := by decide
       omega
     · exact fun b o h => by rw [upd_ne (ne_of_none h hD)]; exact hS b o h
     · rw [upd_same, e, List.map_append]
       rfl
   refine ⟨rfl, ?_⟩
   refine ⟨_, rfl, 0, y, rfl, rfl, _, rfl, ?_⟩
   by_cases g : 0 ≤ y
   · rw [if_pos (decide_eq_true g)]
     rw [decide_eq_true g, Bool.true_and] at fin
     exact ⟨_, rfl, y, lim, rfl, rfl, fin⟩
   · rw [if_neg (by simpa using g)]
     rw [decide_eq_false g, Bool.false_and] at fin
     exact fin
 · rintro H' ⟨hS, hd⟩
   rw [show (iv ns).length = ns.length from List.length_map _, List.take_length] at hd
   refine ⟨D, _, rfl, hd, ?_⟩
   rw [List.all_map]
   exact q H' hS)) only [↓mr]
def sp_y26 : Sp := fun vs H Q _ => ∃ (ca : Addr) (m : Rw.Bytes) (x n w : Int), vs = [.ref ca, .int x, .int n, .int w] ∧ H ca = some (.lst (bv m)) ∧
 Q (.bl (decide (w = 1 ∨ w = 2 ∨ w = 4 ∨ w = 8) && (decide (0 ≤ x) && (decide (0 ≤ n) && decide (x + n * w ≤ (m.length : Int)))))) H
theorem ok_y26 (T : Txt K mg A) : Fn P w K mg base 1 A.y26 ["cells", "place", "n", "width"] sp_y26 := by
 refine mq ?_; simp (disch := k_dflt (
 refine mz ?_
 refine Fn.on T.d_y26 sc_y26 (fun _ _ _ _ _ _ hr => bd_y26 T hr) fun vs H Q h => ?_
 obtain ⟨ca, m, x, n, w, rfl, hc, q⟩ := h
 refine ⟨rfl, ?_⟩
 rw [st_y26, rd_y26]
 have s1 := @sizes_some A w
 walk_at "wp"
 rw [bv_len]
 by_cases g1 : w = 1 ∨ w = 2 ∨ w = 4 ∨ w = 8
 · rw [if_neg (fun h => h g1)]
   rw [decide_eq_true g1, Bool.true_and] at q
   by_cases g2 : x < 0
   · rw [if_pos g2]
     rw [decide_eq_false (by omega), Bool.false_and] at q
     exact q
   rw [if_neg g2]
   rw [decide_eq_true (by omega : 0 ≤ x), Bool.true_and] at q
   by_cases g3 : n < 0
   · rw [if_pos g3]
     rw [decide_eq_false (by omega), Bool.false_and] at q
     exact q
   rw [if_neg g3]
   rw [decide_eq_true (by omega : 0 ≤ n), Bool.true_and] at q
   exact ⟨.inr ⟨by omega, by omega⟩, q⟩
 · rw [if_pos g1]
   rw [decide_eq_false g1, Bool.false_and] at q
   exact q)) only [↓mr]
theorem cast_off {s j w : Nat} {e : Int} (h : e = (j : Int)) : (s : Int) + e * (w : Int) = ((s + j * w : Nat) : Int) := by
 rw [h, Int.natCast_add, Int.natCast_mul]
def sp_z94 : Sp := fun vs H Q _ => ∃ (ca : Addr) (m : Rw.Bytes) (d s n w : Nat) (down : Bool), vs = [.ref ca, .int d, .int s, .int n, .int w, .bl down] ∧ H ca = some (.lst (bv m)) ∧ m.length ≤ 256 ∧ Rw.fine w = true ∧ d + n * w ≤ m.length ∧ s + n * w ≤ m.length ∧
 ∀ H', H' ca = some (.lst (bv (Rw.copied m d s n w down))) → (∀ b o, H b = some o → b ≠ ca → H' b = some o) → Q .non H'
def nv (l : List Nat) : List V := l.map fun i => V.int (i : Nat)
theorem nv_len (l : List Nat) : (nv l).length = l.length := List.length_map _
theorem nv_get (l : List Nat) (i : Nat) : (nv l)[i]? = (l[i]?).map fun i => V.int (i : Nat) := List.getElem?_map
theorem range_up (n : Nat) : rangeV 0 1 n = nv (List.range n) := by
 unfold rangeV nv
 apply List.map_congr_left
 intro i _
 congr 1
 omega
theorem range_down (n : Nat) : rangeV ((n : Int) - 1) (-1) n = nv (List.range n).reverse := by
 apply List.ext_getElem?
 intro i
 rw [nv_get]
 unfold rangeV
 rw [List.getElem?_map]
 by_cases h : i < n
 · rw [List.getElem?_reverse (by simpa using h), List.length_range, List.getElem?_range h, List.getElem?_range (by omega)]
   show some (V.int _) = some (V.int _)
   congr 2
   omega
 · rw [List.getElem?_eq_none (by simpa using h), List.getElem?_eq_none (by simpa using h)]
   rfl
def sp_y7 : Sp := fun vs H Q _ => ∃ (n : Nat) (down : Bool), vs = [.int n, .bl down] ∧ n ≤ 256 ∧ ∀ l, H l = none → Q (.ref l) (upd H l (.lst (nv (Rw.order down n))))
theorem ok_y7 (T : Txt K mg A) : Fn P w K mg base 1 A.y7 ["n", "down"] sp_y7 := by
 refine mq ?_; simp (disch := k_dflt (
 refine mz ?_
 refine Fn.on T.d_y7 sc_y7 (fun _ _ _ _ _ _ hr => bd_y7 T hr) fun vs H Q h => ?_
 obtain ⟨n, down, rfl, hn, q⟩ := h
 refine ⟨rfl, ?_⟩
 rw [st_y7, rd_y7]
 walk_at "wp"
 cases down with
 | true =>
   rw [if_pos rfl]
   refine ⟨n, ?_, by omega, fun l hl => ?_⟩
   · have := RgC.neg (i := (n : Int) - 1) (j := -1) (by omega) (by omega) (by omega) (by omega)
     rwa [show ((n : Int) - 1 - -1).toNat = n by omega] at this
   · rw [range_down]
     exact q l hl
 | false =>
   rw [if_neg (by simp)]
   refine ⟨by omega, by omega, fun l hl => ?_⟩
   rw [Int.toNat_natCast, range_up]
   exact q l hl)) only [↓mr]
theorem order_len (down : Bool) (n : Nat) : (Rw.order down n).length = n := by
 unfold Rw.order
 split <;> simp
theorem order_mem {down : Bool} {n i j : Nat} (h : (Rw.order down n)[i]? = some j) : j < n := by
 have h := List.mem_of_getElem? h
 unfold Rw.order at h
 split at h <;> simpa using h
theorem take_one {α : Type} {l : List α} {i : Nat} {x : α} (h : l[i]? = some x) : l.take (i + 1) = l.take i ++ [x] := by
 obtain ⟨hl, e⟩ := List.getElem?_eq_some_iff.mp h
 rw [List.take_succ_eq_append_getElem hl, e]
theorem ok_z94 (T : Txt K mg A) : Fn P w K mg base 2 A.z94 ["cells", "dst", "src", "n", "width", "down"] sp_z94 := by
 refine mq ?_; simp (disch := k_dflt (
 refine mz ?_
 refine Fn.on T.d_z94 sc_z94 (fun _ _ _ _ _ _ hr => bd_z94 T (ok_y7 T) (ok_z70 T) (ok_z75 T) hr) fun vs H Q h => ?_
 obtain ⟨ca, m, d, s, n, w, down, rfl, hc, hm, hw, hd, hs, q⟩ := h
 refine ⟨rfl, ?_⟩
 rw [st_z94, rd_z94]
 have hw0 := fine_pos hw
 have hn : n ≤ 256 := by
   have : n * 1 ≤ n * w := Nat.mul_le_mul_left n hw0
   omega
 refine ⟨_, rfl, _, rfl, n, down, rfl, hn, fun l hl => ?_⟩
 have hlc : l ≠ ca := fun e => by rw [e, hc] at hl; cases hl
 refine ⟨l, rfl, ⟨_, SqL.of upd_same⟩, ?_⟩
 refine for_list (xs := nv (Rw.order down n)) (fun i σ H' => (∃ o1 o2, σ = [some (.ref ca), some (.int d), some (.int s), some (.int n), some (.int w), some (.bl down), o1, o2]) ∧ H' l = some (.lst (nv (Rw.order down n))) ∧ H' ca = some (.lst (bv (Rw.movedBy w d s m ((Rw.order down n).take i)))) ∧ ∀ b o, H b = some o → b ≠ ca → H' b = some o) ?_ ?_ ?_ ?_
 · exact ⟨⟨none, none, rfl⟩, upd_same, by rw [upd_ne hlc.symm]; exact hc, fun b o h _ => by rw [upd_ne (ne_of_none h hl)]; exact h⟩
 · rintro i σ H' _ ⟨_, h, _⟩
   exact SqL.of h
 · rintro i x σ H' hi ⟨⟨o1, o2, rfl⟩, hl', hc', hk⟩
   rw [nv_get] at hi
   obtain ⟨j, hj, rfl⟩ := Option.map_eq_some_iff.mp hi
   have hml := Rm.moved_take_len (w := w) (dst := d) (src := s) (n := n) (m := m) (down := down) i hd
   have hjn := order_mem hj
   have hstep : Rw.movedBy w d s m ((Rw.order down n).take (i + 1)) = Rw.poke (Rw.movedBy w d s m ((Rw.order down n).take i)) (d + j * w) w (Rw.at_ (Rw.movedBy w d s m ((Rw.order down n).take i)) s w j) := by
     rw [take_one hj]
     unfold Rw.movedBy
     rw [List.foldl_append]
     rfl
   generalize Rw.movedBy w d s m ((Rw.order down n).take i) = u at hc' hml hstep
   walk_at "wp"
   refine ⟨.inr ⟨by omega, by have := fine_le hw; omega⟩, ca, u, s + j * w, w, by rw [cast_off rfl], hc', by rw [hml]; exact Rm.row_in hs hjn, fun H1 s1 => ?_⟩
   refine ⟨ca, u, d + j * w, w, Rw.at_ u s w j, by rw [cast_off rfl]; rfl, s1 _ _ hc', by omega, by rw [hml]; exact Rm.row_in hd hjn, ⟨_, rfl⟩, ?_, upd_same, fun b o h hb => ?_⟩
   · rw [upd_ne hlc]
     exact s1 _ _ hl'
   · rw [upd_ne hb]
     exact s1 _ _ (hk b o h hb)
 · rintro σ H' ⟨⟨o1, o2, rfl⟩, _, hc', hk⟩
   rw [nv_len, order_len, Rm.moved_all] at hc'
   exact q H' hc' hk)) only [↓mr]
def sp_y2 : Sp := fun vs H Q _ => ∃ (ca : Addr) (m : Rw.Bytes) (d n w v : Nat), vs = [.ref ca, .int d, .int n, .int w, .int v] ∧ H ca = some (.lst (bv m)) ∧ m.length ≤ 256 ∧ Rw.fine w = true ∧ d + n * w ≤ m.length ∧
 ∀ H', H' ca = some (.lst (bv (Rw.filled m d n w v))) → (∀ b o, H b = some o → b ≠ ca → H' b = some o) → Q .non H'
theorem ok_y2 (T : Txt K mg A) : Fn P w K mg base 2 A.y2 ["cells", "dst", "n", "width", "number"] sp_y2 := by
 refine mq ?_; simp (disch := k_dflt (
 refine mz ?_
 refine Fn.on T.d_y2 sc_y2 (fun _ _ _ _ _ _ hr => bd_y2 T (ok_z70 T) hr) fun vs H Q h => ?_
 obtain ⟨ca, m, d, n, w, v, rfl, hc, hm, hw, hd, q⟩ := h
 refine ⟨rfl, ?_⟩
 rw [st_y2, rd_y2]
 have hw0 := fine_pos hw
 have hn : n ≤ 256 := by
   have : n * 1 ≤ n * w := Nat.mul_le_mul_left n hw0
   omega
 refine ⟨_, rfl, _, rfl, by omega, by omega, for_range (n := n) (fun i σ H' => (∃ o1, σ = [some (.ref ca), some (.int d), some (.int n), some (.int w), some (.int v), o1]) ∧ H' ca = some (.lst (bv (Rm.filledTo m d w v i))) ∧ ∀ b o, H b = some o → b ≠ ca → H' b = some o) ?_ ?_ ?_⟩
 · exact ⟨⟨none, rfl⟩, hc, fun b o h _ => h⟩
 · rintro i σ H' hi ⟨⟨o1, rfl⟩, hc', hk⟩
   have hl := Rm.filledTo_len v hd i (by omega)
   have e := Rm.filledTo_succ m d w v i
   walk_at "wp"
   refine ⟨.inr ⟨by omega, by have := fine_le hw; omega⟩, ca, Rm.filledTo m d w v i, d + i * w, w, v, by rw [cast_off (j := i) (by omega)], hc', by omega, by rw [hl]; exact Rm.row_in hd hi, ⟨_, rfl⟩, ?_, fun b o h hb => ?_⟩
   · rw [upd_same]
   · rw [upd_ne hb]
     exact hk b o h hb
 · rintro σ H' ⟨⟨o1, rfl⟩, hc', hk⟩
   exact q H' hc' hk)) only [↓mr]
def sp_z7 (A : Ad) : Sp := fun vs H Q _ => ∃ (p dx na : Addr) (a b c d e f g h : Nat), vs = [.ref p, .ref na] ∧ H p = some (.ins A.z57 dx []) ∧ H na = some (.lst [.int a, .int b, .int c, .int d, .int e, .int f, .int g, .int h]) ∧
 ∀ H', H' p = some (.ins A.z57 dx (insf ⟨a, b, c, d, e, f, g, h⟩)) → (∀ b o, H b = some o → b ≠ p → H' b = some o) → Q .non H'
theorem ok_z7 (T : Txt K mg A) : Fn P w K mg base 1 A.z7 ["self", "numbers"] (sp_z7 A) := by
 refine mq ?_; simp (disch := k_dflt (
 refine mz ?_
 refine Fn.on T.d_z7 sc_z7 (fun _ _ _ _ _ _ hr => bd_z7 T hr) fun vs H Q h => ?_
 obtain ⟨p, dx, na, a, b, c, d, e, f, g, h, rfl, hp, hn, q⟩ := h
 refine ⟨rfl, ?_⟩
 rw [st_z7, rd_z7]
 obtain ⟨u1, u2, u3, u4, u5, u6, u7, u8, u9⟩ := T.instr
 have hne : na ≠ p := ne_of hn hp (by intro z; cases z)
 have hu : ∀ (H : Hp) (o : HO), upd H p o na = H na := fun H o => upd_ne hne
 walk_at "wp"
 refine ⟨_, rfl, by show 0 < 1000; decide, _, rfl, by show 1 < 1000; decide, _, rfl, by show 2 < 1000; decide, _, rfl, by show 3 < 1000; decide, _, rfl, by show 4 < 1000; decide, _, rfl, by show 5 < 1000; decide, _, rfl, by show 6 < 1000; decide, _, rfl, by show 7 < 1000; decide, ?_⟩
 refine q _ (by rw [upd_same]; rfl) (fun b o h hb => ?_)
 simp only [upd_ne hb]
 exact h)) only [↓mr]
theorem rgc8s : ∀ N < 65, Builtin.Range.small 0 ((8 * N : Nat) : Int) 8 = true ∧ Builtin.Range.rangeSize 0 ((8 * N : Nat) : Int) 8 = (N : Int) := by decide +kernel
theorem rgc8 {N : Nat} (h : N ≤ 64) : RgC 0 ((8 * N : Nat) : Int) 8 N := ⟨by decide, by decide, (rgc8s N (by omega)).1, (rgc8s N (by omega)).2⟩
theorem take8 {l : List Int} {k : Nat} {v0 v1 v2 v3 v4 v5 v6 v7 : Int} (a0 : l[k + 0]? = some v0) (a1 : l[k + 1]? = some v1) (a2 : l[k + 2]? = some v2) (a3 : l[k + 3]? = some v3) (a4 : l[k + 4]? = some v4) (a5 : l[k + 5]? = some v5) (a6 : l[k + 6]? = some v6) (a7 : l[k + 7]? = some v7) :
   (l.drop k).take 8 = [v0, v1, v2, v3, v4, v5, v6, v7] := by
 apply List.ext_getElem?
 intro j
 rw [List.getElem?_take, List.getElem?_drop]
 by_cases h : j < 8
 · rw [if_pos h]
   have : j = 0 ∨ j = 1 ∨ j = 2 ∨ j = 3 ∨ j = 4 ∨ j = 5 ∨ j = 6 ∨ j = 7 := by omega
   rcases this with rfl | rfl | rfl | rfl | rfl | rfl | rfl | rfl
   · exact a0
   · exact a1
   · exact a2
   · exact a3
   · exact a4
   · exact a5
   · exact a6
   · exact a7
 · rw [if_neg h, List.getElem?_eq_none (by simp; omega)]
def sp_z13 (A : Ad) : Sp := fun vs H Q _ => ∃ (na : Addr) (ns : List Int) (N : Nat), vs = [.ref na] ∧ H na = some (.lst (iv ns)) ∧ ns.length = 8 * N ∧ N ≤ 64 ∧ (∀ x ∈ ns, 0 ≤ x) ∧
 ∀ (H' : Hp) (la : Addr) (qs : List Addr), H la = none → H' la = some (.lst (qs.map V.ref)) → qs.length = N → (∀ (i : Nat) (q : Addr), qs[i]? = some q → ∃ dq, H' q = some (.ins A.z57 dq (insf (Rm.insAt ns i)))) → Same H H' → Q (.ref la) H'
theorem ok_z13 (T : Txt K mg A) : Fn P w K mg base 3 A.z13 ["numbers"] (sp_z13 A) := by
 refine mq ?_; simp (disch := k_dflt (
 refine mz ?_
 refine Fn.on T.d_z13 sc_z13 (fun _ _ _ _ _ _ hr => bd_z13 T (ok_z7 T) hr) fun vs H Q h => ?_
 obtain ⟨na, ns, N, rfl, hn, hl, hN, hpos, q⟩ := h
 refine ⟨rfl, ?_⟩
 rw [st_z13, rd_z13]
 refine ⟨_, rfl, na, _, rfl, hn, 0, ((8 * N : Nat) : Int), 8, N, ?_, rgc8 hN, fun D hD => ?_⟩
 · rw [show (iv ns).length = ns.length from List.length_map _, hl]
 refine lc_rangeC (fun i H' => Same H H' ∧ ∃ qs : List Addr, H' D = some (.lst (qs.map V.ref)) ∧ qs.length = i ∧ ∀ (j : Nat) (q : Addr), qs[j]? = some q → ∃ dq, H' q = some (.ins A.z57 dq (insf (Rm.insAt ns j)))) ?_ ?_ ?_
 · exact ⟨same_upd hD, [], upd_same, rfl, fun j q h => by simp at h⟩
 · rintro i H' hi ⟨hS, qs, hd, hql, hqs⟩
   refine ⟨rfl, ?_⟩
   refine ⟨_, rfl, _, rfl, _, rfl, _, rfl, _, _, rfl, rfl, _, rfl, na, _, rfl, hS _ _ hn, fun sl hsl => ?_⟩
   intro x dx hx hdx hne
   have g : ∀ j, j < 8 → ∃ v : Nat, ns[8 * i + j]? = some (v : Int) ∧ ns.getD (8 * i + j) 0 = (v : Int) := fun j hj => by
     have hlt : 8 * i + j < ns.length := by omega
     have hp := hpos ns[8 * i + j] (List.getElem_mem hlt)
     refine ⟨ns[8 * i + j].toNat, ?_, ?_⟩
     · rw [List.getElem?_eq_getElem hlt, Int.toNat_of_nonneg hp]
     · rw [List.getD_eq_getElem?_getD, List.getElem?_eq_getElem hlt, Int.toNat_of_nonneg hp]
       rfl
   obtain ⟨v0, a0, b0⟩ := g 0 (by omega)
   obtain ⟨v1, a1, b1⟩ := g 1 (by omega)
   obtain ⟨v2, a2, b2⟩ := g 2 (by omega)
   obtain ⟨v3, a3, b3⟩ := g 3 (by omega)
   obtain ⟨v4, a4, b4⟩ := g 4 (by omega)
   obtain ⟨v5, a5, b5⟩ := g 5 (by omega)
   obtain ⟨v6, a6, b6⟩ := g 6 (by omega)
   obtain ⟨v7, a7, b7⟩ := g 7 (by omega)
   have hins : Rm.insAt ns i = ⟨v0, v1, v2, v3, v4, v5, v6, v7⟩ := by
     unfold Rm.insAt
     rw [show 8 * i = 8 * i + 0 from rfl]
     simp only [Nat.add_zero] at b0 ⊢
     rw [b0, b1, b2, b3, b4, b5, b6, b7]
     simp
   have hcut : cutV (iv ns) (some (0 + ((i : Nat) : Int) * 8)) (some (0 + ((i : Nat) : Int) * 8 + 8)) = [.int v0, .int v1, .int v2, .int v3, .int v4, .int v5, .int v6, .int v7] := by
     rw [cut_nat (a := 8 * i) (b := 8 * i + 8) (by omega) (by omega) (by rw [show (iv ns).length = ns.length from List.length_map _]; omega) (by omega)]
     unfold iv
     rw [← List.map_drop, ← List.map_take, show 8 * i + 8 - 8 * i = 8 by omega]
     rw [take8 a0 a1 a2 a3 a4 a5 a6 a7]
     rfl
   rw [hcut]
   have hxs : x ≠ sl := fun h => by rw [h, upd_same] at hx; cases hx
   have hds : dx ≠ sl := fun h => by rw [h, upd_same] at hdx; cases hdx
   rw [upd_ne hxs] at hx
   rw [upd_ne hds] at hdx
   refine ⟨x, dx, sl, v0, v1, v2, v3, v4, v5, v6, v7, rfl, upd_same, by rw [upd_ne hxs.symm, upd_ne hds.symm]; exact upd_same, fun H2 h2 k2 => ⟨rfl, ?_⟩⟩
   have S2 : Same H' H2 := (same_upd hsl).trans (Same.made (by rw [upd_ne hxs]; exact hx) (by rw [upd_ne hds]; exact hdx) k2)
   have hd2 := S2 _ _ hd
   refine ⟨_, hd2, ?_, ?_, qs ++ [x], ?_, by rw [List.length_append, hql]; rfl, fun j q hj => ?_⟩
   · rw [List.length_map, hql]
     have : (64 : Nat) < sizeLine := by decide
     omega
   · exact fun b o h => by rw [upd_ne (ne_of_none h hD)]; exact S2 _ _ (hS _ _ h)
   · rw [upd_same, List.map_append]
     rfl
   · by_cases hji : j < i
     · rw [List.getElem?_append_left (by omega)] at hj
       obtain ⟨dq, h⟩ := hqs j q hj
       have h := S2 _ _ h
       exact ⟨dq, by rw [upd_ne (ne_of h hd2 (by intro z; cases z))]; exact h⟩
     · have hj2 : j = i := by
         have := (List.getElem?_eq_some_iff.mp hj).1
         rw [List.length_append] at this
         simp at this
         omega
       subst hj2
       rw [List.getElem?_append_right (by omega), hql, Nat.sub_self] at hj
       cases Option.some.inj hj
       exact ⟨dx, by rw [upd_ne (ne_of h2 hd2 (by intro z; cases z)), hins]; exact h2⟩
 · rintro H' ⟨hS, qs, hd, hql, hqs⟩
   exact q H' D qs hD hd hql hqs hS)) only [↓mr]
def sp_z6 (A : Ad) : Sp := fun vs H Q _ => ∃ (la : Addr) (qs : List Addr) (p : List Rw.Ins), vs = [.ref la] ∧ H la = some (.lst (qs.map V.ref)) ∧ qs.length = p.length ∧ p.length ≤ 64 ∧ (∀ (i : Nat) (q : Addr), qs[i]? = some q → ∃ n dq, p[i]? = some n ∧ H q = some (.ins A.z57 dq (insf n))) ∧
 (∀ i, Rw.check p = some i → Q (.int (i : Nat)) H) ∧ (Rw.check p = none → Q .non H)
theorem ok_z6 (T : Txt K mg A) : Fn P w K mg base 2 A.z6 ["instructions"] (sp_z6 A) := by
 refine mq ?_; simp (disch := k_dflt (
 refine mz ?_
 refine Fn.on T.d_z6 sc_z6 (fun _ _ _ _ _ _ hr => bd_z6 T (ok_z22 T) hr) fun vs H Q h => ?_
 obtain ⟨la, qs, p, rfl, hla, hql, hpl, hqs, q1, q0⟩ := h
 refine ⟨rfl, ?_⟩
 rw [st_z6, rd_z6]
 have hlen : ((qs.map V.ref).length : Int) = (p.length : Int) := by rw [List.length_map, hql]
 refine ⟨_, rfl, la, _, rfl, hla, _, rfl, by omega, by omega, for_range (n := (qs.map V.ref).length) (fun i σ H' => H' = H ∧ (∃ o, σ = [some (.ref la), o]) ∧ ∀ (j : Nat) (n : Rw.Ins), j < i → p[j]? = some n → Rw.ill p.length n = false) ?_ ?_ ?_⟩
 · exact ⟨rfl, ⟨none, rfl⟩, fun j n h => by omega⟩
 · rintro i σ H' hi ⟨rfl, ⟨o, rfl⟩, hb⟩
   rw [List.length_map] at hi
   obtain ⟨q', hq'⟩ : ∃ q', qs[i]? = some q' := ⟨_, List.getElem?_eq_getElem (by omega)⟩
   obtain ⟨n, dq, hn, hqi⟩ := hqs i q' hq'
   have hat : atI (qs.map V.ref) (0 + (i : Int)) = some (V.ref q') := at_of (j := i) (by omega) (by rw [List.getElem?_map, hq']; rfl)
   walk_at "wq"
   refine if_do (Rw.ill p.length n) (fun Q q => ?_) (fun e => ?_) (fun e => ?_)
   · walk_at "wp"
     exact ⟨q', dq, n, p.length, rfl, hqi, _, rfl, q⟩
   · walk_at "wp"
     rw [show (0 : Int) + (i : Int) = (i : Int) by omega]
     exact q1 i (Rm.findIdx_some hn e fun j y hj hy => hb j y hj hy)
   · refine ⟨rfl, ⟨_, rfl⟩, fun j m hj hm => ?_⟩
     by_cases h : j < i
     · exact hb j m h hm
     · have : j = i := by omega
       subst this
       cases hn.symm.trans hm
       exact e
 · rintro σ H' ⟨rfl, ⟨o, rfl⟩, hb⟩
   exact q0 (Rm.findIdx_none fun j y hy => hb j y (by rw [List.length_map, hql]; exact (List.getElem?_eq_some_iff.mp hy).1) hy))) only [↓mr]
structure Ext (H : Hp) (L L' : Loc) : Prop where
 p : L'.p = L.p
 ca : L'.ca = L.ca ∨ H L'.ca = none
 ra : L'.ra = L.ra ∨ H L'.ra = none
 pa : L'.pa = L.pa ∨ H L'.pa = none
theorem Ext.refl (H : Hp) (L : Loc) : Ext H L L := ⟨rfl, .inl rfl, .inl rfl, .inl rfl⟩
def Post (A : Ad) (H : Hp) (L : Loc) (r : Z × List Int) (Q : VK) : Prop := ∀ (H' : Hp) (L' : Loc) (la : Addr), H la = none → H' la = some (.lst (iv r.2)) → MachAt A H' L' r.1 → Ext H L L' → Fr L H H' → Q (.ref la) H'
def sp_call (A : Ad) (n : Nat) (c : List Int → List Int → RwReelSeed.Call) : Sp := fun vs H Q _ => ∃ (L : Loc) (z : Z) (na da : Addr) (ns ds : List Int), vs = [.ref L.p, .ref na, .ref da] ∧ MachAt A H L z ∧ H na = some (.lst (iv ns)) ∧ H da = some (.lst (iv ds)) ∧ ns.length = n ∧ ds.length ≤ 15000 ∧
 Post A H L (RwReelSeed.step z (c ns ds)) Q
section
variable {H H1 : Hp} {L : Loc} {z : Z} {Q : VK} {ans : List Int} {p : Addr} {vs : List V}
theorem free_fr (M : MachAt A H1 L z) (F : Fr L H H1) (hp : H1 p = none) : H p = none := by
 cases e : H p with
 | none => rfl
 | some o =>
   have h := F p o e (fun q => by rw [q, M.obj] at hp; cases hp) (fun q => by rw [q, M.cells] at hp; cases hp) (fun q => by rw [q, M.regs] at hp; cases hp)
   rw [hp] at h
   cases h
theorem free_upd1 {q : Addr} {o2 : HO} (s : Same H H1) (hp : upd H1 q o2 p = none) : H p = none := by
 have h1 : p ≠ q := fun e => by rw [e, upd_same] at hp; cases hp
 rw [upd_ne h1] at hp
 exact s.free hp
theorem free_upd {q l : Addr} {o1 o2 : HO} (s : Same H H1) (hp : upd (upd H1 l o1) q o2 p = none) : H p = none := by
 have h1 : p ≠ q := fun e => by rw [e, upd_same] at hp; cases hp
 rw [upd_ne h1] at hp
 exact free_upd1 s hp
theorem Post.same (q : Post A H L (z, ans) Q) (M : MachAt A H L z) (s : Same H H1) (hp : H1 p = none) (hv : vs = iv ans) : Q (.ref p) (upd H1 p (.lst vs)) := by
 subst hv
 exact q _ L p (s.free hp) upd_same (M.same (s.trans (same_upd hp))) (Ext.refl _ _) (Fr.of_same (s.trans (same_upd hp)))
theorem Post.at (q : Post A H L (z, ans) Q) (M : MachAt A H1 L z) (F : Fr L H H1) (hp : H1 p = none) (hv : vs = iv ans) : Q (.ref p) (upd H1 p (.lst vs)) := by
 subst hv
 exact q _ L p (free_fr M F hp) upd_same (M.same (same_upd hp)) (Ext.refl _ _) (F.trans (Fr.of_same (same_upd hp)))
end
theorem iv_len (l : List Int) : (iv l).length = l.length := List.length_map _
theorem all_within {l : List Int} {hi lim : Int} (h : hi + 1 = lim) : (l.all fun x => decide (0 ≤ x) && decide (x < lim)) = l.all (RwReelSeed.within 0 hi) := by
 congr 1
 funext x
 unfold RwReelSeed.within
 congr 1
 exact decide_eq_decide.mpr (by omega)
theorem row_nat {z : Z} {x n w : Int} (h : RwReelSeed.row z x n w = true) : 0 ≤ x ∧ 0 ≤ n ∧ 0 ≤ w ∧ Rw.fine w.toNat = true ∧ x.toNat + n.toNat * w.toNat ≤ z.s.mem.length := by
 unfold RwReelSeed.row RwReelSeed.nats Rw.holdsRow at h
 simp only [List.all_cons, List.all_nil, Bool.and_true, Bool.and_eq_true, decide_eq_true_eq] at h
 exact ⟨h.1.1, h.1.2.1, h.1.2.2, h.2.1, h.2.2⟩
theorem MachAt.cellsTo {H H' : Hp} {L : Loc} {z : Z} {m : Rw.Bytes} (M : MachAt A H L z) (h : H' L.ca = some (.lst (bv m))) (k : ∀ b o, H b = some o → b ≠ L.ca → H' b = some o) (hm : m.length ≤ 256) : MachAt A H' L { z with s := { z.s with mem := m } } ∧ Fr L H H' := by
 have M2 := M.setCells hm
 refine ⟨M2.same fun b o hb => ?_, fun b o hb _ h2 _ => k b o hb h2⟩
 by_cases e : b = L.ca
 · subst e
   rw [upd_same] at hb
   cases hb
   exact h
 · rw [upd_ne e] at hb
   exact k b o hb e
theorem len4 {l : List Int} (h : l.length = 4) : ∃ a b c d, l = [a, b, c, d] := by
 match l, h with
 | [a, b, c, d], _ => exact ⟨a, b, c, d, rfl⟩
theorem len5 {l : List Int} (h : l.length = 5) : ∃ a b c d e, l = [a, b, c, d, e] := by
 match l, h with
 | [a, b, c, d, e], _ => exact ⟨a, b, c, d, e, rfl⟩
theorem len6 {l : List Int} (h : l.length = 6) : ∃ a b c d e f, l = [a, b, c, d, e, f] := by
 match l, h with
 | [a, b, c, d, e, f], _ => exact ⟨a, b, c, d, e, f, rfl⟩
theorem len3 {l : List Int} (h : l.length = 3) : ∃ a b c, l = [a, b, c] := by
 match l, h with
 | [a, b, c], _ => exact ⟨a, b, c, rfl⟩
def sp_z74 : Sp := fun vs H Q _ => ∃ (da : Addr) (ds : List Int) (n : Nat), vs = [.ref da, .int n] ∧ H da = some (.lst (iv ds)) ∧ ds.length ≤ 15000 ∧ ∀ H', Same H H' → Q (.bl (RwReelSeed.areBytes n ds)) H'
theorem ok_z74 (T : Txt K mg A) : Fn P w K mg base 2 A.z74 ["data", "most"] sp_z74 := by
 refine mq ?_; simp (disch := k_dflt (
 refine mz ?_
 refine Fn.on T.d_z74 sc_z74 (fun _ _ _ _ _ _ hr => bd_z74 T (ok_z90 T) hr) fun vs H Q h => ?_
 obtain ⟨da, ds, n, rfl, hda, hdl, q⟩ := h
 refine ⟨rfl, ?_⟩
 rw [st_z74, rd_z74]
 have hl := iv_len ds
 unfold RwReelSeed.areBytes at q
 walk_at "wp"
 by_cases g : ds.length ≤ n
 · rw [if_pos (by omega)]
   rw [decide_eq_true g, Bool.true_and] at q
   refine ⟨da, ds, 256, rfl, hda, hdl, fun H1 s1 => ?_⟩
   rw [all_within (hi := 255) (lim := 256) rfl]
   exact q H1 s1
 · rw [if_neg (by omega)]
   rw [decide_eq_false g, Bool.false_and] at q
   exact q H (Same.refl _))) only [↓mr]
theorem areBytes_all {n : Nat} {ds : List Int} (h : RwReelSeed.areBytes n ds = true) : ds.length ≤ n ∧ iv ds = bv (RwReelSeed.bytesOf ds) := by
 unfold RwReelSeed.areBytes at h
 rw [Bool.and_eq_true] at h
 refine ⟨of_decide_eq_true h.1, ?_⟩
 unfold iv bv
 rw [Rm.bytes_nums fun x hx => ?_]
 have := List.all_eq_true.mp h.2 x hx
 unfold RwReelSeed.within at this
 simp at this
 exact this
theorem ok_z48 (T : Txt K mg A) : Fn P w K mg base 3 A.z48 ["machine", "numbers", "data"] (sp_call A 0 fun _ ds => .memory ds) := by
 refine mq ?_; simp (disch := k_dflt (
 refine mz ?_
 refine Fn.on T.d_z48 sc_z48 (fun _ _ _ _ _ _ hr => bd_z48 T (ok_z74 T) hr) fun vs H Q h => ?_
 obtain ⟨L, z, na, da, ns, ds, rfl, M, hna, hda, hnl, hdl, q⟩ := h
 refine ⟨rfl, ?_⟩
 rw [st_z48, rd_z48]
 obtain ⟨t1, t2, t3, t4, t5, t6⟩ := T.mach
 have h1 := M.obj
 have q : Post A H L (if RwReelSeed.areBytes RwReelSeed.MEMORY ds = true then ({ z with s := { z.s with mem := RwReelSeed.bytesOf ds } }, RwReelSeed.tells []) else (z, RwReelSeed.no 1)) Q := q
 walk_at "wp"
 refine ⟨da, ds, 256, rfl, hda, hdl, fun H1 s1 => ⟨_, rfl, ?_⟩⟩
 cases hb : RwReelSeed.areBytes 256 ds with
 | false =>
   rw [show RwReelSeed.areBytes RwReelSeed.MEMORY ds = false from hb, if_neg (by simp)] at q
   rw [if_pos rfl]
   exact fun p hp => q.same M s1 hp rfl
 | true =>
   rw [show RwReelSeed.areBytes RwReelSeed.MEMORY ds = true from hb, if_pos rfl] at q
   rw [if_neg (by simp)]
   have M1 := M.same s1
   obtain ⟨hdn, hbv⟩ := areBytes_all hb
   refine ⟨_, s1 _ _ hda, fun l hl => ?_⟩
   rw [hbv]
   have M2 := M1.newCells (m := RwReelSeed.bytesOf ds) hl (by unfold RwReelSeed.bytesOf; rw [List.length_map]; omega)
   have hLl : upd H1 l (HO.lst (bv (RwReelSeed.bytesOf ds))) L.p = some (HO.ins A.y21 L.dx (mf L.ca L.ra L.pa ↑z.s.m.flags ↑z.s.m.place)) := by
     rw [upd_ne (ne_of_none M1.obj hl)]
     exact M1.obj
   have hl0 : H l = none := s1.free hl
   walk_at "wp"
   intro p hp
   have fr : Fr L H (upd (upd H1 l (HO.lst (bv (RwReelSeed.bytesOf ds)))) L.p (HO.ins A.y21 L.dx (mf l L.ra L.pa z.s.m.flags z.s.m.place))) := fun b o hb hbp _ _ => by
     rw [upd_ne hbp, upd_ne (ne_of_none hb hl0)]
     exact s1 _ _ hb
   exact q _ { L with ca := l } p (free_upd s1 hp) upd_same (M2.same (same_upd hp)) ⟨rfl, .inr hl0, .inl rfl, .inl rfl⟩ (fr.trans (Fr.of_same (same_upd hp))))) only [↓mr]
theorem ok_z91 (T : Txt K mg A) : Fn P w K mg base 1 A.z91 ["machine", "numbers", "data"] (sp_call A 0 fun _ _ => .tell) := by
 refine mq ?_; simp (disch := k_dflt (
 refine mz ?_
 refine Fn.on T.d_z91 sc_z91 (fun _ _ _ _ _ _ hr => bd_z91 T hr) fun vs H Q h => ?_
 obtain ⟨L, z, na, da, ns, ds, rfl, M, hna, hda, hnl, hdl, q⟩ := h
 refine ⟨rfl, ?_⟩
 rw [st_z91, rd_z91]
 obtain ⟨t1, t2, t3, t4, t5, t6⟩ := T.mach
 have h1 := M.obj
 have h4 := M.regs
 have q : Post A H L (z, RwReelSeed.tells (RwReelSeed.machineNums z.s.m)) Q := q
 walk_at "wp"
 intro p hp
 have s1 := same_upd (o := HO.lst [V.int 0]) hp
 have k1 := s1 _ _ h1
 have k4 := s1 _ _ h4
 walk_at "wp"
 refine ⟨p, L.ra, _, _, rfl, rfl, upd_same, k4, by show 5 ≤ sizeLine; decide, fun r hr => ?_⟩
 have s2 := same_upd (o := HO.lst ([V.int 0] ++ rv z.s.m)) hr
 have k2 := s2 _ _ k1
 walk_at "wp"
 intro t ht
 have s3 := same_upd (o := HO.lst [V.int z.s.m.flags, V.int z.s.m.place]) ht
 refine ⟨r, t, _, _, rfl, rfl, s3 _ _ upd_same, upd_same, by show 7 ≤ sizeLine; decide, fun u hu => ?_⟩
 exact q.same M ((s1.trans s2).trans s3) hu rfl)) only [↓mr]
theorem ok_z4 (T : Txt K mg A) : Fn P w K mg base 1 A.z4 ["machine", "numbers", "data"] (sp_call A 0 fun _ _ => .bytes) := by
 refine mq ?_; simp (disch := k_dflt (
 refine mz ?_
 refine Fn.on T.d_z4 sc_z4 (fun _ _ _ _ _ _ hr => bd_z4 T hr) fun vs H Q h => ?_
 obtain ⟨L, z, na, da, ns, ds, rfl, M, hna, hda, hnl, hdl, q⟩ := h
 refine ⟨rfl, ?_⟩
 rw [st_z4, rd_z4]
 obtain ⟨t1, t2, t3, t4, t5, t6⟩ := T.mach
 have h1 := M.obj
 have h4 := M.cells
 have q : Post A H L (z, RwReelSeed.tells (RwReelSeed.nums z.s.mem)) Q := q
 walk_at "wp"
 intro p hp
 have s1 := same_upd (o := HO.lst [V.int 0]) hp
 have k1 := s1 _ _ h1
 have k4 := s1 _ _ h4
 walk_at "wp"
 refine ⟨p, L.ca, _, _, rfl, rfl, upd_same, k4, ?_, fun r hr => ?_⟩
 · rw [bv_len]
   have h := M.mem
   have : (300 : Nat) < sizeLine := by decide
   simp only [List.length_cons, List.length_nil]
   omega
 exact q.same M s1 hr rfl)) only [↓mr]
theorem ok_y5 (T : Txt K mg A) : Fn P w K mg base 8 A.y5 ["machine", "numbers", "data"] (sp_call A 1 fun ns _ => .run (ns.getD 0 0)) := by
 refine mq ?_; simp (disch := k_dflt (
 refine mz ?_
 refine Fn.on T.d_y5 sc_y5 (fun _ _ _ _ _ _ hr => bd_y5 T (ok_z59 T) hr) fun vs H Q h => ?_
 obtain ⟨L, z, na, da, ns, ds, rfl, M, hna, hda, hnl, hdl, q⟩ := h
 refine ⟨rfl, ?_⟩
 rw [st_y5, rd_y5]
 obtain ⟨a, rfl⟩ : ∃ a, ns = [a] := List.length_eq_one_iff.mp hnl
 have i0 : atI (iv [a]) 0 = some (V.int a) := rfl
 have q : Post A H L (if RwReelSeed.within 0 RwReelSeed.STEPS a = true then RwReelSeed.ran z (Rw.run z.p a.toNat z.s) else (z, RwReelSeed.no 1)) Q := q
 have hw : RwReelSeed.within 0 RwReelSeed.STEPS a = (decide (0 ≤ a) && decide (a ≤ 10000)) := rfl
 rw [hw] at q
 walk_at "wp"
 by_cases g0 : 0 ≤ a
 · rw [if_pos g0]
   by_cases g1 : a ≤ 10000
   · rw [if_neg (fun h => h g1)]
     rw [decide_eq_true g0, decide_eq_true g1, Bool.true_and, if_pos rfl] at q
     refine ⟨L, z, a.toNat, by rw [Int.toNat_of_nonneg g0], M, fun H1 t ht M1 F1 => ?_⟩
     refine ⟨t, _, 0, _, rfl, rfl, SqT.of ht, rfl, t, _, 1, _, rfl, rfl, SqT.of ht, rfl, fun p hp => ?_⟩
     exact q.at M1 F1 hp rfl
   · rw [if_pos g1]
     rw [decide_eq_false g1, Bool.and_false, if_neg (by simp)] at q
     exact fun p hp => q.same M (Same.refl _) hp rfl
 · rw [if_neg g0]
   rw [decide_eq_false g0, Bool.false_and, if_neg (by simp)] at q
   exact fun p hp => q.same M (Same.refl _) hp rfl)) only [↓mr]
theorem ok_y19 (T : Txt K mg A) : Fn P w K mg base 6 A.y19 ["machine", "numbers", "data"] (sp_call A 4 fun ns _ => .do_ (ns.getD 0 0) (ns.getD 1 0) (ns.getD 2 0) (ns.getD 3 0)) := by
 refine mq ?_; simp (disch := k_dflt (
 refine mz ?_
 refine Fn.on T.d_y19 sc_y19 (fun _ _ _ _ _ _ hr => bd_y19 T (ok_z93 T) hr) fun vs H Q h => ?_
 obtain ⟨L, z, na, da, ns, ds, rfl, M, hna, hda, hnl, hdl, q⟩ := h
 refine ⟨rfl, ?_⟩
 rw [st_y19, rd_y19]
 obtain ⟨a, b, c, d, rfl⟩ : ∃ a b c d, ns = [a, b, c, d] := len4 hnl
 have i0 : atI (iv [a, b, c, d]) 0 = some (V.int a) := rfl
 have i1 : atI (iv [a, b, c, d]) 1 = some (V.int b) := rfl
 have i2 : atI (iv [a, b, c, d]) 2 = some (V.int c) := rfl
 have i3 : atI (iv [a, b, c, d]) 3 = some (V.int d) := rfl
 have s1 := @sizes_some A b
 have q : Post A H L (if RwReelSeed.within 0 4 a = false ∨ RwReelSeed.nats [b] = false ∨ (Rw.widths a.toNat).contains b.toNat = false ∨ RwReelSeed.within 0 2 c = false ∨ RwReelSeed.within 0 RwReelSeed.STEPS d = false then (z, RwReelSeed.no 1) else RwReelSeed.ran z (Rw.go a.toNat b.toNat c.toNat d.toNat z.s)) Q := q
 have hc : (RwReelSeed.within 0 4 a = false ∨ RwReelSeed.nats [b] = false ∨ (Rw.widths a.toNat).contains b.toNat = false ∨ RwReelSeed.within 0 2 c = false ∨ RwReelSeed.within 0 RwReelSeed.STEPS d = false) ↔
     ¬ (0 ≤ a ∧ a ≤ 4 ∧ (b = 1 ∨ b = 2 ∨ b = 4 ∨ b = 8) ∧ 0 ≤ c ∧ c ≤ 2 ∧ 0 ≤ d ∧ d ≤ 10000) := by
   unfold RwReelSeed.within RwReelSeed.nats RwReelSeed.STEPS Rw.widths
   by_cases h : a.toNat ≤ 4
   · rw [if_pos h]
     simp
     omega
   · rw [if_neg h]
     simp
     omega
 have hT : ((tab_y34 A).length : Int) = 5 := rfl
 walk_at "wp"
 by_cases ok : 0 ≤ a ∧ a ≤ 4 ∧ (b = 1 ∨ b = 2 ∨ b = 4 ∨ b = 8) ∧ 0 ≤ c ∧ c ≤ 2 ∧ 0 ≤ d ∧ d ≤ 10000
 · obtain ⟨o1, o2, o3, o4, o5, o6, o7⟩ := ok
   rw [if_neg (fun h => hc.mp h ⟨o1, o2, o3, o4, o5, o6, o7⟩)] at q
   rw [if_pos o1, if_neg (by omega), if_neg (fun h => h o3), if_pos o4, if_neg (fun h => h o5), if_pos o6, if_neg (fun h => h o7)]
   refine ⟨L, z, a.toNat, b.toNat, c.toNat, d.toNat, ?_, by omega, Rm.isW.mpr (by omega), M, fun H1 t ht M1 F1 => ?_⟩
   · rw [Int.toNat_of_nonneg o1, Int.toNat_of_nonneg (by omega), Int.toNat_of_nonneg o4, Int.toNat_of_nonneg o6]
   refine ⟨t, _, 0, _, rfl, rfl, SqT.of ht, rfl, t, _, 1, _, rfl, rfl, SqT.of ht, rfl, fun p hp => ?_⟩
   exact q.at M1 F1 hp rfl
 · rw [if_pos (hc.mpr ok)] at q
   have r : ∀ p, H p = none → Q (V.ref p) (upd H p (HO.lst [V.int (-1)])) := fun p hp => q.same M (Same.refl _) hp rfl
   repeat' split
   all_goals first
     | exact r
     | (exfalso; apply ok; refine ⟨?_, ?_, ?_, ?_, ?_, ?_, ?_⟩ <;> omega))) only [↓mr]
def sp_z34 : Sp := fun vs H Q _ => ∃ (ca : Addr) (z : Z) (x y n w : Int), vs = [.ref ca, .int x, .int y, .int n, .int w] ∧ H ca = some (.lst (bv z.s.mem)) ∧ Q (.bl (RwReelSeed.row z x n w && RwReelSeed.row z y n w)) H
theorem ok_z34 (T : Txt K mg A) : Fn P w K mg base 2 A.z34 ["cells", "one", "other", "n", "width"] sp_z34 := by
 refine mq ?_; simp (disch := k_dflt (
 refine mz ?_
 refine Fn.on T.d_z34 sc_z34 (fun _ _ _ _ _ _ hr => bd_z34 T (ok_y26 T) hr) fun vs H Q h => ?_
 obtain ⟨ca, z, x, y, n, w, rfl, hc, q⟩ := h
 refine ⟨rfl, ?_⟩
 rw [st_z34, rd_z34]
 have hr1 := @Rm.row_iff z x n w
 have hr2 := @Rm.row_iff z y n w
 walk_at "wp"
 refine ⟨ca, z.s.mem, x, n, w, rfl, hc, _, rfl, ?_⟩
 rw [← hr1]
 cases g1 : RwReelSeed.row z x n w with
 | false =>
   rw [g1, Bool.false_and] at q
   rw [if_neg (by simp)]
   exact q
 | true =>
   rw [g1, Bool.true_and] at q
   rw [if_pos rfl]
   refine ⟨ca, z.s.mem, y, n, w, rfl, hc, ?_⟩
   rw [← hr2]
   exact q)) only [↓mr]
theorem ok_z76 (T : Txt K mg A) : Fn P w K mg base 3 A.z76 ["machine", "numbers", "data"] (sp_call A 5 fun ns _ => .copy (ns.getD 0 0) (ns.getD 1 0) (ns.getD 2 0) (ns.getD 3 0) (ns.getD 4 0)) := by
 refine mq ?_; simp (disch := k_dflt (
 refine mz ?_
 refine Fn.on T.d_z76 sc_z76 (fun _ _ _ _ _ _ hr => bd_z76 T (ok_z34 T) (ok_z94 T) hr) fun vs H Q h => ?_
 obtain ⟨L, z, na, da, ns, ds, rfl, M, hna, hda, hnl, hdl, q⟩ := h
 refine ⟨rfl, ?_⟩
 rw [st_z76, rd_z76]
 obtain ⟨a, b, c, d, e, rfl⟩ : ∃ a b c d e, ns = [a, b, c, d, e] := len5 hnl
 have i0 : atI (iv [a, b, c, d, e]) 0 = some (V.int a) := rfl
 have i1 : atI (iv [a, b, c, d, e]) 1 = some (V.int b) := rfl
 have i2 : atI (iv [a, b, c, d, e]) 2 = some (V.int c) := rfl
 have i3 : atI (iv [a, b, c, d, e]) 3 = some (V.int d) := rfl
 have i4 : atI (iv [a, b, c, d, e]) 4 = some (V.int e) := rfl
 have q : Post A H L (RwReelSeed.made z (RwReelSeed.within 0 1 e && (RwReelSeed.row z a c d && RwReelSeed.row z b c d)) (fun (_ : Unit) => Rw.copied z.s.mem a.toNat b.toNat c.toNat d.toNat (e == 1))) Q := q
 obtain ⟨t1, t2, t3, t4, t5, t6⟩ := T.mach
 have h1 := M.obj
 unfold RwReelSeed.made at q
 walk_at "wp"
 refine ⟨L.ca, z, a, b, c, d, rfl, M.cells, _, rfl, ?_⟩
 cases g1 : (RwReelSeed.row z a c d && RwReelSeed.row z b c d) with
 | false =>
   rw [g1, Bool.and_false, if_neg (by simp)] at q
   rw [if_pos rfl]
   exact fun p hp => q.same M (Same.refl _) hp rfl
 | true =>
 rw [g1, Bool.and_true] at q
 rw [if_neg (by simp)]
 rw [Bool.and_eq_true] at g1
 obtain ⟨g1, g2⟩ := g1
 have hw : RwReelSeed.within 0 1 e = (decide (0 ≤ e) && decide (e ≤ 1)) := rfl
 rw [hw] at q
 by_cases g3 : 0 ≤ e
 · rw [if_pos g3]
   rw [decide_eq_true g3, Bool.true_and] at q
   by_cases g4 : e ≤ 1
   · rw [if_neg (fun h => h g4)]
     rw [decide_eq_true g4, if_pos rfl] at q
     walk_at "wp"
     obtain ⟨x0, x1, x2, x3, x4⟩ := row_nat g1
     obtain ⟨y0, y1, y2, y3, y4⟩ := row_nat g2
     refine ⟨L.ca, z.s.mem, a.toNat, b.toNat, c.toNat, d.toNat, (e == 1), ?_, M.cells, M.mem, x3, x4, y4, fun H1 k1 k2 => ?_⟩
     · rw [Int.toNat_of_nonneg x0, Int.toNat_of_nonneg y0, Int.toNat_of_nonneg x1, Int.toNat_of_nonneg x2, Bool.beq_eq_decide_eq]
     · have M2 := M.cellsTo k1 k2 (by rw [← Rm.moved_all, Rm.moved_take_len _ x4]; exact M.mem)
       exact fun p hp => q.at M2.1 M2.2 hp rfl
   · rw [if_pos g4]
     rw [decide_eq_false g4, if_neg (by simp)] at q
     exact fun p hp => q.same M (Same.refl _) hp rfl
 · rw [if_neg g3]
   rw [decide_eq_false g3, Bool.false_and, if_neg (by simp)] at q
   exact fun p hp => q.same M (Same.refl _) hp rfl)) only [↓mr]
theorem ok_z89 (T : Txt K mg A) : Fn P w K mg base 3 A.z89 ["machine", "numbers", "data"] (sp_call A 4 fun ns _ => .fill (ns.getD 0 0) (ns.getD 1 0) (ns.getD 2 0) (ns.getD 3 0)) := by
 refine mq ?_; simp (disch := k_dflt (
 refine mz ?_
 refine Fn.on T.d_z89 sc_z89 (fun _ _ _ _ _ _ hr => bd_z89 T (ok_y26 T) (ok_y2 T) hr) fun vs H Q h => ?_
 obtain ⟨L, z, na, da, ns, ds, rfl, M, hna, hda, hnl, hdl, q⟩ := h
 refine ⟨rfl, ?_⟩
 rw [st_z89, rd_z89]
 obtain ⟨a, c, d, v, rfl⟩ : ∃ a c d v, ns = [a, c, d, v] := len4 hnl
 have i0 : atI (iv [a, c, d, v]) 0 = some (V.int a) := rfl
 have i1 : atI (iv [a, c, d, v]) 1 = some (V.int c) := rfl
 have i2 : atI (iv [a, c, d, v]) 2 = some (V.int d) := rfl
 have i3 : atI (iv [a, c, d, v]) 3 = some (V.int v) := rfl
 have q : Post A H L (RwReelSeed.made z (RwReelSeed.word v && RwReelSeed.row z a c d) (fun (_ : Unit) => Rw.filled z.s.mem a.toNat c.toNat d.toNat v.toNat)) Q := q
 obtain ⟨t1, t2, t3, t4, t5, t6⟩ := T.mach
 have h1 := M.obj
 have hr1 := @Rm.row_iff z a c d
 unfold RwReelSeed.made at q
 walk_at "wp"
 refine ⟨L.ca, z.s.mem, a, c, d, rfl, M.cells, _, rfl, ?_⟩
 rw [← hr1]
 cases g1 : RwReelSeed.row z a c d with
 | false =>
   rw [g1, Bool.and_false, if_neg (by simp)] at q
   rw [if_pos rfl]
   exact fun p hp => q.same M (Same.refl _) hp rfl
 | true =>
 rw [g1, Bool.and_true] at q
 rw [if_neg (by simp)]
 have hw : RwReelSeed.word v = (decide (0 ≤ v) && decide (v ≤ 18446744073709551615)) := rfl
 rw [hw] at q
 by_cases g3 : 0 ≤ v
 · rw [if_pos g3]
   rw [decide_eq_true g3, Bool.true_and] at q
   by_cases g4 : v < 18446744073709551616
   · rw [if_neg (fun h => h g4)]
     rw [decide_eq_true (by omega), if_pos rfl] at q
     clear hr1
     walk_at "wp"
     obtain ⟨x0, x1, x2, x3, x4⟩ := row_nat g1
     refine ⟨L.ca, z.s.mem, a.toNat, c.toNat, d.toNat, v.toNat, ?_, M.cells, M.mem, x3, x4, fun H1 k1 k2 => ?_⟩
     · rw [Int.toNat_of_nonneg x0, Int.toNat_of_nonneg x1, Int.toNat_of_nonneg x2, Int.toNat_of_nonneg g3]
     · have M2 := M.cellsTo k1 k2 (by rw [show Rw.filled z.s.mem a.toNat c.toNat d.toNat v.toNat = Rm.filledTo z.s.mem a.toNat d.toNat v.toNat c.toNat from rfl, Rm.filledTo_len _ x4 _ (Nat.le_refl _)]; exact M.mem)
       exact fun p hp => q.at M2.1 M2.2 hp rfl
   · rw [if_pos g4]
     rw [decide_eq_false (by omega), if_neg (by simp)] at q
     exact fun p hp => q.same M (Same.refl _) hp rfl
 · rw [if_neg g3]
   rw [decide_eq_false g3, Bool.false_and, if_neg (by simp)] at q
   exact fun p hp => q.same M (Same.refl _) hp rfl)) only [↓mr]
theorem MachAt.newRegs {H : Hp} {L : Loc} {z : Z} (M : MachAt A H L z) {l : Addr} (hl : H l = none) {m : Rw.Machine} (hm : Regs m) : MachAt A (upd (upd H l (.lst (rv m))) L.p (.ins A.y21 L.dx (mf L.ca l L.pa m.flags m.place))) { L with ra := l } { z with s := { z.s with m := m } } where
 obj := upd_same
 cells := by rw [upd_ne M.p_ca.symm, upd_ne (ne_of_none M.cells hl)]; exact M.cells
 regs := by rw [upd_ne (ne_of_none M.obj hl).symm]; exact upd_same
 prog := by rw [upd_ne M.p_pa.symm, upd_ne (ne_of_none M.prog hl)]; exact M.prog
 qlen := M.qlen
 ins := fun i q h => by
   obtain ⟨n, dq, h1, h2⟩ := M.ins i q h
   exact ⟨n, dq, h1, by rw [upd_ne (ne_of h2 M.obj insf_ne), upd_ne (ne_of_none h2 hl)]; exact h2⟩
 cr := ne_of_none M.cells hl
 pc := M.pc
 pr := ne_of_none M.prog hl
 mem := M.mem
 wf := hm
 good := M.good
theorem ok_z41 (T : Txt K mg A) : Fn P w K mg base 2 A.z41 ["machine", "numbers", "data"] (sp_call A 6 fun ns _ => .machine (ns.getD 0 0) (ns.getD 1 0) (ns.getD 2 0) (ns.getD 3 0) (ns.getD 4 0) (ns.getD 5 0)) := by
 refine mq ?_; simp (disch := k_dflt (
 refine mz ?_
 refine Fn.on T.d_z41 sc_z41 (fun _ _ _ _ _ _ hr => bd_z41 T (ok_z90 T) hr) fun vs H Q h => ?_
 obtain ⟨L, z, na, da, ns, ds, rfl, M, hna, hda, hnl, hdl, q⟩ := h
 refine ⟨rfl, ?_⟩
 rw [st_z41, rd_z41]
 obtain ⟨a, b, c, d, e, f, rfl⟩ : ∃ a b c d e f, ns = [a, b, c, d, e, f] := len6 hnl
 have i4 : atI (iv [a, b, c, d, e, f]) 4 = some (V.int e) := rfl
 have i5 : atI (iv [a, b, c, d, e, f]) 5 = some (V.int f) := rfl
 have c1 : cutV (iv [a, b, c, d, e, f]) none (some 4) = iv [a, b, c, d] := rfl
 have c2 : cutV (iv [a, b, c, d, e, f]) (some 4) none = iv [e, f] := rfl
 have q : Post A H L (if (RwReelSeed.word a && (RwReelSeed.word b && (RwReelSeed.word c && (RwReelSeed.word d && (RwReelSeed.half e && RwReelSeed.half f))))) = true then ({ z with s := { z.s with m := ⟨a.toNat, b.toNat, c.toNat, d.toNat, e.toNat, f.toNat⟩ } }, RwReelSeed.tells []) else (z, RwReelSeed.no 1)) Q := q
 obtain ⟨t1, t2, t3, t4, t5, t6⟩ := T.mach
 have h1 := M.obj
 have hcond : (RwReelSeed.word a && (RwReelSeed.word b && (RwReelSeed.word c && (RwReelSeed.word d && (RwReelSeed.half e && RwReelSeed.half f))))) =
     (([a, b, c, d].all fun x => decide (0 ≤ x) && decide (x < 18446744073709551616)) && ([e, f].all fun x => decide (0 ≤ x) && decide (x < 4294967296))) := by
   rw [all_within (hi := 18446744073709551615) (lim := 18446744073709551616) rfl, all_within (hi := 4294967295) (lim := 4294967296) rfl]
   unfold RwReelSeed.word RwReelSeed.half
   simp only [List.all_cons, List.all_nil, Bool.and_true, Bool.and_assoc]
 rw [hcond] at q
 clear hcond
 walk_at "wp"
 intro p hp
 have s1 := same_upd (o := HO.lst (iv [a, b, c, d])) hp
 refine ⟨p, [a, b, c, d], 18446744073709551616, rfl, upd_same, by show 4 ≤ 15000; decide, fun H1 s2 => ⟨_, rfl, ?_⟩⟩
 have s3 := s1.trans s2
 cases g1 : ([a, b, c, d].all fun x => decide (0 ≤ x) && decide (x < 18446744073709551616)) with
 | false =>
   rw [g1, Bool.false_and, if_neg (by simp)] at q
   rw [if_pos rfl]
   exact fun p hp => q.same M s3 hp rfl
 | true =>
 rw [g1, Bool.true_and] at q
 rw [if_neg (by simp)]
 refine ⟨_, s3 _ _ hna, fun p2 hp2 => ?_⟩
 rw [c2]
 have s4 := same_upd (o := HO.lst (iv [e, f])) hp2
 refine ⟨p2, [e, f], 4294967296, rfl, upd_same, by show 2 ≤ 15000; decide, fun H2 s5 => ⟨_, rfl, ?_⟩⟩
 have s6 := (s3.trans s4).trans s5
 cases g2 : ([e, f].all fun x => decide (0 ≤ x) && decide (x < 4294967296)) with
 | false =>
   rw [g2, if_neg (by simp)] at q
   rw [if_pos rfl]
   exact fun p hp => q.same M s6 hp rfl
 | true =>
 rw [g2, if_pos rfl] at q
 rw [if_neg (by simp)]
 refine ⟨_, s6 _ _ hna, fun l hl => ?_⟩
 rw [c1]
 have M1 := M.same s6
 simp at g1 g2
 have hbv : iv [a, b, c, d] = rv ⟨a.toNat, b.toNat, c.toNat, d.toNat, e.toNat, f.toNat⟩ := by
   unfold iv rv
   simp only [List.map_cons, List.map_nil]
   rw [Int.toNat_of_nonneg g1.1.1, Int.toNat_of_nonneg g1.2.1.1, Int.toNat_of_nonneg g1.2.2.1.1, Int.toNat_of_nonneg g1.2.2.2.1]
 rw [hbv]
 have M2 := M1.newRegs hl (m := ⟨a.toNat, b.toNat, c.toNat, d.toNat, e.toNat, f.toNat⟩) ⟨by show a.toNat < 2 ^ 64; omega, by show b.toNat < 2 ^ 64; omega, by show c.toNat < 2 ^ 64; omega, by show d.toNat < 2 ^ 64; omega⟩
 have hl0 : H l = none := s6.free hl
 have hLl : upd H2 l (HO.lst (rv ⟨a.toNat, b.toNat, c.toNat, d.toNat, e.toNat, f.toNat⟩)) L.p = some (HO.ins A.y21 L.dx (mf L.ca L.ra L.pa ↑z.s.m.flags ↑z.s.m.place)) := by
   rw [upd_ne (ne_of_none M1.obj hl)]
   exact M1.obj
 have hnp : na ≠ L.p := ne_of hna M.obj (by intro z; cases z)
 have hnl2 : na ≠ l := ne_of_none hna hl0
 have hn2 : ∀ o1 o2, upd (upd H2 l o1) L.p o2 na = some (HO.lst (iv [a, b, c, d, e, f])) := fun o1 o2 => by
   rw [upd_ne hnp, upd_ne hnl2]
   exact s6 _ _ hna
 have hn3 : ∀ o1 o2 o3, upd (upd (upd H2 l o1) L.p o2) L.p o3 na = some (HO.lst (iv [a, b, c, d, e, f])) := fun o1 o2 o3 => by
   rw [upd_ne hnp]
   exact hn2 _ _
 walk_at "wp"
 rw [upd_upd, upd_upd, show mf L.ca l L.pa e f = mf L.ca l L.pa ((e.toNat : Nat) : Int) ((f.toNat : Nat) : Int) from by rw [Int.toNat_of_nonneg g2.1.1, Int.toNat_of_nonneg g2.2.1]]
 intro p hp3
 have fr : Fr L H (upd (upd H2 l (HO.lst (rv ⟨a.toNat, b.toNat, c.toNat, d.toNat, e.toNat, f.toNat⟩))) L.p (HO.ins A.y21 L.dx (mf L.ca l L.pa ((e.toNat : Nat) : Int) ((f.toNat : Nat) : Int)))) := fun b o hb hbp _ _ => by
   rw [upd_ne hbp, upd_ne (ne_of_none hb hl0)]
   exact s6 _ _ hb
 exact q _ { L with ra := l } p (free_upd s6 hp3) upd_same (M2.same (same_upd hp3)) ⟨rfl, .inl rfl, .inr hl0, .inl rfl⟩ (fr.trans (Fr.of_same (same_upd hp3))))) only [↓mr]
theorem ok_z29 (T : Txt K mg A) : Fn P w K mg base 4 A.z29 ["machine", "numbers", "data"] (sp_call A 0 fun _ ds => .program ds) := by
 refine mq ?_; simp (disch := k_dflt (
 refine mz ?_
 refine Fn.on T.d_z29 sc_z29 (fun _ _ _ _ _ _ hr => bd_z29 T (ok_z90 T) (ok_z13 T) (ok_z6 T) hr) fun vs H Q h => ?_
 obtain ⟨L, z, na, da, ns, ds, rfl, M, hna, hda, hnl, hdl, q⟩ := h
 refine ⟨rfl, ?_⟩
 rw [st_z29, rd_z29]
 have hl := iv_len ds
 have q : Post A H L (if ds.length % 8 ≠ 0 ∨ 8 * Rw.PROGRAM < ds.length ∨ ds.all RwReelSeed.word = false then (z, RwReelSeed.no 1) else match Rw.check (RwReelSeed.insIn ds.length ds) with
   | some i => (z, RwReelSeed.tells [1, (i : Int)])
   | none => ({ z with p := RwReelSeed.insIn ds.length ds }, RwReelSeed.tells [0, 0])) Q := q
 obtain ⟨t1, t2, t3, t4, t5, t6⟩ := T.mach
 have h1 := M.obj
 walk_at "wp"
 refine ⟨by decide, ?_⟩
 by_cases g1 : ds.length % 8 ≠ 0
 · rw [if_pos (.inl g1)] at q
   rw [if_pos (by omega)]
   exact fun p hp => q.same M (Same.refl _) hp rfl
 rw [if_neg (by omega)]
 refine ⟨.inr ⟨by decide, by decide⟩, ?_⟩
 by_cases g2 : 512 < ds.length
 · rw [if_pos (.inr (.inl g2))] at q
   rw [if_pos (by omega)]
   exact fun p hp => q.same M (Same.refl _) hp rfl
 rw [if_neg (by omega)]
 refine ⟨da, ds, 18446744073709551616, rfl, hda, hdl, fun H1 s1 => ⟨_, rfl, ?_⟩⟩
 rw [all_within (hi := 18446744073709551615) (lim := 18446744073709551616) rfl]
 cases g3 : ds.all (RwReelSeed.within 0 18446744073709551615) with
 | false =>
   rw [if_pos (.inr (.inr g3))] at q
   rw [if_pos rfl]
   exact fun p hp => q.same M s1 hp rfl
 | true =>
 rw [if_neg (by rintro (h | h | h); exact g1 h; exact g2 h; (rw [show ds.all RwReelSeed.word = true from g3] at h; cases h))] at q
 rw [if_neg (by simp)]
 have hall : ∀ x ∈ ds, 0 ≤ x ∧ x ≤ 18446744073709551615 := fun x hx => by
   have := List.all_eq_true.mp g3 x hx
   unfold RwReelSeed.within at this
   simpa using this
 obtain ⟨N, hN⟩ : ∃ N, ds.length = 8 * N := ⟨ds.length / 8, by omega⟩
 have hlp := Rm.insIn_len hN
 have hgp : ∀ j, j < N → (RwReelSeed.insIn ds.length ds)[j]? = some (Rm.insAt ds j) := fun j hj => Rm.insIn_get hN hj
 generalize RwReelSeed.insIn ds.length ds = p at q hlp hgp
 refine ⟨da, ds, N, rfl, s1 _ _ hda, hN, by omega, fun x hx => (hall x hx).1, fun H2 la qs hla0 hla hql hqs s2 => ?_⟩
 have hq2 : ∀ (i : Nat) (q : Addr), qs[i]? = some q → ∃ n dq, p[i]? = some n ∧ H2 q = some (.ins A.z57 dq (insf n)) := fun i q hi => by
   obtain ⟨dq, h⟩ := hqs i q hi
   have := (List.getElem?_eq_some_iff.mp hi).1
   exact ⟨_, dq, hgp i (by omega), h⟩
 have M2 := (M.same s1).same s2
 have s12 := s1.trans s2
 refine ⟨la, qs, p, rfl, hla, by omega, by omega, hq2, fun i hi => ?_, fun hi => ?_⟩
 · rw [hi] at q
   have q : Post A H L (z, RwReelSeed.tells [1, (i : Int)]) Q := q
   walk_at "wp"
   rw [if_pos not_false]
   exact fun p hp => q.same M s12 hp rfl
 · rw [hi] at q
   have q : Post A H L ({ z with p := p }, RwReelSeed.tells [0, 0]) Q := q
   have h2 := M2.obj
   walk_at "wp"
   rw [if_neg (fun h => h trivial)]
   intro p' hp'
   have hg : ∀ n ∈ p, Rw.ill p.length n = false ∧ n.k < 2 ^ 64 := fun n hn => by
     refine ⟨List.findIdx?_eq_none_iff.mp hi n hn, ?_⟩
     obtain ⟨j, hj⟩ := List.getElem?_of_mem hn
     have hjN : j < N := by
       have := (List.getElem?_eq_some_iff.mp hj).1
       omega
     cases (hgp j hjN).symm.trans hj
     show (ds.getD (8 * j + 7) 0).toNat < 2 ^ 64
     rw [List.getD_eq_getElem?_getD, List.getElem?_eq_getElem (by omega)]
     have := hall ds[8 * j + 7] (List.getElem_mem (by omega))
     simp only [Option.getD_some]
     omega
   have M3 := M2.newProg (ne_of_none (M.same s1).cells hla0).symm (ne_of_none (M.same s1).regs hla0).symm hla (by omega) hq2 hg
   have fr : Fr L H (upd H2 L.p (HO.ins A.y21 L.dx (mf L.ca L.ra la z.s.m.flags z.s.m.place))) := fun b o hb hbp _ _ => by
     rw [upd_ne hbp]
     exact s12 _ _ hb
   exact q _ { L with pa := la, qs := qs } p' (free_upd1 s12 hp') upd_same (M3.same (same_upd hp')) ⟨rfl, .inl rfl, .inl rfl, .inr (s1.free hla0)⟩ (fr.trans (Fr.of_same (same_upd hp'))))) only [↓mr]
def sp_z32 (A : Ad) : Sp := fun vs H Q _ => ∃ (p dx : Addr), vs = [.ref p] ∧ H p = some (.ins A.y21 dx []) ∧
 ∀ (H' : Hp) (L : Loc), L.p = p → MachAt A H' L RwReelSeed.start → H L.ca = none → H L.ra = none → (∀ b o, H b = some o → b ≠ p → H' b = some o) → Q .non H'
theorem ok_z32 (T : Txt K mg A) : Fn P w K mg base 1 A.z32 ["self"] (sp_z32 A) := by
 refine mq ?_; simp (disch := k_dflt (
 refine mz ?_
 refine Fn.on T.d_z32 sc_z32 (fun _ _ _ _ _ _ hr => bd_z32 T hr) fun vs H Q h => ?_
 obtain ⟨p, dx, rfl, hp, q⟩ := h
 refine ⟨rfl, ?_⟩
 rw [st_z32, rd_z32]
 obtain ⟨t1, t2, t3, t4, t5, t6⟩ := T.mach
 walk_at "wp"
 intro c hc
 have cp : p ≠ c := ne_of_none hp hc
 refine ⟨A.y21, dx, [], by rw [upd_ne cp]; exact hp, t1, t2, by show 0 < 1000; decide, fun r hr => ?_⟩
 have rp : r ≠ p := fun e => by rw [e, upd_same] at hr; cases hr
 rw [upd_ne rp] at hr
 have rc : r ≠ c := fun e => by rw [e, upd_same] at hr; cases hr
 rw [upd_ne rc] at hr
 refine ⟨A.y21, dx, _, by rw [upd_ne rp.symm, upd_same], t1, t3, by show 1 < 1000; decide, t1, t4, by show 2 < 1000; decide, t1, t5, by show 3 < 1000; decide, fun a ha => ?_⟩
 rw [upd_upd, upd_upd] at ha
 have ap : a ≠ p := fun e => by rw [e, upd_same] at ha; cases ha
 rw [upd_ne ap] at ha
 have ar : a ≠ r := fun e => by rw [e, upd_same] at ha; cases ha
 rw [upd_ne ar, upd_ne ap] at ha
 have ac : a ≠ c := fun e => by rw [e, upd_same] at ha; cases ha
 rw [upd_ne ac] at ha
 rw [upd_upd, upd_upd]
 refine ⟨A.y21, dx, _, by rw [upd_ne ap.symm, upd_same], t1, t6, by show 4 < 1000; decide, ?_⟩
 refine q _ ⟨p, c, r, dx, a, []⟩ rfl ?_ hc hr ?_
 · refine ⟨?_, ?_, ?_, ?_, rfl, fun i q h => by simp at h, rc.symm, ac, ar, Nat.zero_le _, ⟨by decide, by decide, by decide, by decide⟩, fun n h => by simp [RwReelSeed.start] at h⟩
   · rw [upd_same]
     rfl
   · rw [upd_ne cp.symm, upd_ne ac.symm, upd_ne cp.symm, upd_ne rc.symm, upd_ne cp.symm, upd_same]
     rfl
   · rw [upd_ne rp, upd_ne ar.symm, upd_ne rp, upd_same]
     rfl
   · rw [upd_ne ap, upd_same]
     rfl
 · intro b o hb hbp
   rw [upd_ne hbp, upd_ne (ne_of_none hb ha), upd_ne hbp, upd_ne (ne_of_none hb hr), upd_ne hbp, upd_ne (ne_of_none hb hc)]
   exact hb)) only [↓mr]
def rf (ia : Addr) (k : Int) : List (Str × V) := [("calls", .ref ia), ("place", .int k)]
theorem rf_calls {ia : Addr} {k : Int} : (rf ia k).lookup ("calls" : Str) = some (.ref ia) := by rfl
theorem rf_place {ia : Addr} {k : Int} : (rf ia k).lookup ("place" : Str) = some (.int k) := by rfl
theorem rf_set {ia : Addr} {k j : Int} : putF "place" (.int j) (rf ia k) = rf ia j := by rfl
theorem rf_short {ia : Addr} {k : Int} : ((rf ia k).length < 1000) = True := by simp [rf]
def InpAt (K : PySem.W.Frag) (H : Hp) (ia : Addr) (xs : List V) : Prop := (∃ o, H ia = some (.frz o (.lst xs))) ∨
 ∃ (o : Obj) (its : Array Value) (n : Nat), K.lookup ia = some o ∧ o.cls = .type "list" ∧ o.dict = none ∧ o.data = .seq its n ∧ its.size ≤ sizeLine ∧ Vals xs its.toList
theorem InpAt.sq {H : Hp} {ia : Addr} {xs : List V} (h : InpAt K H ia xs) : SqL K H ia xs := by
 rcases h with h | h
 · exact .inl (.inr h)
 · exact .inr h
theorem InpAt.keep {H H' : Hp} {ia : Addr} {xs : List V} (h : InpAt K H ia xs) (k : ∀ o u, H ia = some (.frz o u) → H' ia = some (.frz o u)) : InpAt K H' ia xs := by
 rcases h with ⟨o, h⟩ | h
 · exact .inl ⟨o, k _ _ h⟩
 · exact .inr h
structure ReadAt (K : PySem.W.Frag) (A : Ad) (H : Hp) (r dr ia : Addr) (l : List Int) (k : Nat) : Prop where
 obj : H r = some (.ins A.z62 dr (rf ia k))
 inp : InpAt K H ia (iv l)
 big : l.length ≤ 15000
 le : k ≤ l.length
theorem ReadAt.same {H H' : Hp} {r dr ia : Addr} {l : List Int} {k : Nat} (R : ReadAt K A H r dr ia l k) (s : Same H H') : ReadAt K A H' r dr ia l k := ⟨s _ _ R.obj, R.inp.keep fun o u h => s _ _ h, R.big, R.le⟩
theorem Txt.reader (T : Txt K mg A) : Cls K A.z62 ∧ NoAttr K A.z62 "calls" ∧ NoAttr K A.z62 "place" := ⟨T.cl_z62, T.n_z62_calls, T.n_z62_place⟩
def sp_z11 (K : PySem.W.Frag) (A : Ad) : Sp := fun vs H Q _ => ∃ (r dr ia : Addr) (l : List Int), vs = [.ref r, .ref ia] ∧ H r = some (.ins A.z62 dr []) ∧ InpAt K H ia (iv l) ∧ l.length ≤ 15000 ∧
 ∀ H', ReadAt K A H' r dr ia l 0 → (∀ b o, H b = some o → b ≠ r → H' b = some o) → Q .non H'
theorem ok_z11 (T : Txt K mg A) : Fn P w K mg base 1 A.z11 ["self", "calls"] (sp_z11 K A) := by
 refine mq ?_; simp (disch := k_dflt (
 refine mz ?_
 refine Fn.on T.d_z11 sc_z11 (fun _ _ _ _ _ _ hr => bd_z11 T hr) fun vs H Q h => ?_
 obtain ⟨r, dr, ia, l, rfl, hr, hi, hl, q⟩ := h
 refine ⟨rfl, ?_⟩
 rw [st_z11, rd_z11]
 obtain ⟨t1, t2, t3⟩ := T.reader
 walk_at "wp"
 refine ⟨by show 0 < 1000; decide, by show 1 < 1000; decide, ?_⟩
 rw [upd_upd]
 refine q _ ⟨by rw [upd_same]; rfl, hi.keep (fun o u h => by rw [upd_ne (ne_of h hr (by intro z; cases z))]; exact h), hl, Nat.zero_le _⟩ fun b o h hb => ?_
 rw [upd_ne hb]
 exact h)) only [↓mr]
def sp_is_at_end (K : PySem.W.Frag) (A : Ad) : Sp := fun vs H Q _ => ∃ (r dr ia : Addr) (l : List Int) (k : Nat), vs = [.ref r] ∧ ReadAt K A H r dr ia l k ∧ Q (.bl (decide (l.length ≤ k))) H
theorem ok_is_at_end (T : Txt K mg A) : Fn P w K mg base 1 A.z3 ["self"] (sp_is_at_end K A) := by
 refine mq ?_; simp (disch := k_dflt (
 refine mz ?_
 refine Fn.on T.d_z3 sc_z3 (fun _ _ _ _ _ _ hr => bd_z3 T hr) fun vs H Q h => ?_
 obtain ⟨r, dr, ia, l, k, rfl, R, q⟩ := h
 refine ⟨rfl, ?_⟩
 rw [st_z3, rd_z3]
 obtain ⟨t1, t2, t3⟩ := T.reader
 have h1 := R.obj
 refine ⟨_, rfl, r, _, _, _, _, rfl, h1, t1, t3, rf_place, ?_⟩
 refine ⟨_, rfl, r, _, _, _, _, rfl, h1, t1, t2, rf_calls, ia, _, rfl, .inl R.inp.sq, _, _, rfl, rfl, ?_⟩
 dsimp only
 rw [iv_len, show decide (((l.length : Nat) : Int) ≤ (k : Int)) = decide (l.length ≤ k) from decide_eq_decide.mpr (by omega)]
 exact q)) only [↓mr]
def sp_take (K : PySem.W.Frag) (A : Ad) : Sp := fun vs H Q _ => ∃ (r dr ia : Addr) (l : List Int) (k n : Nat), vs = [.ref r, .int n] ∧ ReadAt K A H r dr ia l k ∧ k + n ≤ l.length ∧
 ∀ (H' : Hp) (a : Addr), H a = none → H' a = some (.lst (iv ((l.drop k).take n))) → ReadAt K A H' r dr ia l (k + n) → (∀ b o, H b = some o → b ≠ r → H' b = some o) → Q (.ref a) H'
theorem ok_take (T : Txt K mg A) : Fn P w K mg base 1 A.z12 ["self", "how_many"] (sp_take K A) := by
 refine mq ?_; simp (disch := k_dflt (
 refine mz ?_
 refine Fn.on T.d_z12 sc_z12 (fun _ _ _ _ _ _ hr => bd_z12 T hr) fun vs H Q h => ?_
 obtain ⟨r, dr, ia, l, k, n, rfl, R, hk, q⟩ := h
 refine ⟨rfl, ?_⟩
 rw [st_z12, rd_z12]
 obtain ⟨t1, t2, t3⟩ := T.reader
 have h1 := R.obj
 refine ⟨_, rfl, r, _, _, _, _, rfl, h1, t1, t3, rf_place, ?_⟩
 refine ⟨_, rfl, _, rfl, _, _, rfl, rfl, _, rfl, r, _, _, _, rfl, h1, t1, t3, by rw [rf_short]; trivial, ?_⟩
 rw [rf_set, show ((k : Int) + (n : Int)) = ((k + n : Nat) : Int) by omega]
 have R2 : ReadAt K A (upd H r (HO.ins A.z62 dr (rf ia ((k + n : Nat) : Int)))) r dr ia l (k + n) := ⟨upd_same, R.inp.keep (fun o u h => by rw [upd_ne (ne_of h R.obj (by intro z; cases z))]; exact h), R.big, hk⟩
 refine ⟨_, rfl, r, _, _, _, _, rfl, R2.obj, t1, t2, rf_calls, _, rfl, _, rfl, _, rfl, r, _, _, _, _, rfl, R2.obj, t1, t3, rf_place, _, rfl, ia, _, rfl, R2.inp.sq, fun a ha => ?_⟩
 have hcut : cutV (iv l) (some (k : Int)) (some ((k + n : Nat) : Int)) = iv ((l.drop k).take n) := by
   rw [cut_nat (a := k) (b := k + n) rfl rfl (by rw [iv_len]; exact hk) (by omega)]
   unfold iv
   rw [← List.map_drop, ← List.map_take, show k + n - k = n by omega]
 rw [hcut]
 have har : a ≠ r := fun e => by rw [e, upd_same] at ha; cases ha
 refine q _ a (by rw [upd_ne har] at ha; exact ha) upd_same (R2.same (same_upd ha)) fun b o hb hbr => ?_
 have : upd H r (HO.ins A.z62 dr (rf ia ((k + n : Nat) : Int))) b = some o := by rw [upd_ne hbr]; exact hb
 exact same_upd ha _ _ this)) only [↓mr]
def sp_take_number (K : PySem.W.Frag) (A : Ad) : Sp := fun vs H Q _ => ∃ (r dr ia : Addr) (l : List Int) (k : Nat) (v : Int), vs = [.ref r] ∧ ReadAt K A H r dr ia l k ∧ l[k]? = some v ∧
 ∀ (H' : Hp), ReadAt K A H' r dr ia l (k + 1) → (∀ b o, H b = some o → b ≠ r → H' b = some o) → Q (.int v) H'
theorem ok_take_number (T : Txt K mg A) : Fn P w K mg base 2 A.z1 ["self"] (sp_take_number K A) := by
 refine mq ?_; simp (disch := k_dflt (
 refine mz ?_
 refine Fn.on T.d_z1 sc_z1 (fun _ _ _ _ _ _ hr => bd_z1 T (ok_take T) hr) fun vs H Q h => ?_
 obtain ⟨r, dr, ia, l, k, v, rfl, R, hv, q⟩ := h
 refine ⟨rfl, ?_⟩
 rw [st_z1, rd_z1]
 have hlt : k < l.length := (List.getElem?_eq_some_iff.mp hv).1
 have e : (l.drop k).take 1 = [v] := by
   rw [List.drop_eq_getElem_cons hlt, (List.getElem?_eq_some_iff.mp hv).2]
   rfl
 refine ⟨_, rfl, r, dr, _, rfl, R.obj, rfl, ?_⟩
 refine ⟨r, dr, ia, l, k, 1, rfl, R, by omega, fun H1 a ha0 ha R1 k1 => ?_⟩
 rw [e] at ha
 exact ⟨a, 0, _, _, rfl, rfl, ha, rfl, q H1 R1 k1⟩)) only [↓mr]
def sp_take_list (K : PySem.W.Frag) (A : Ad) : Sp := fun vs H Q _ => ∃ (r dr ia : Addr) (l : List Int) (k n : Nat), vs = [.ref r] ∧ ReadAt K A H r dr ia l k ∧ l[k]? = some (n : Int) ∧ k + 1 + n ≤ l.length ∧
 ∀ (H' : Hp) (a : Addr), H a = none → H' a = some (.lst (iv ((l.drop (k + 1)).take n))) → ReadAt K A H' r dr ia l (k + 1 + n) → (∀ b o, H b = some o → b ≠ r → H' b = some o) → Q (.ref a) H'
theorem ok_take_list (T : Txt K mg A) : Fn P w K mg base 3 A.z2 ["self"] (sp_take_list K A) := by
 refine mq ?_; simp (disch := k_dflt (
 refine mz ?_
 refine Fn.on T.d_z2 sc_z2 (fun _ _ _ _ _ _ hr => bd_z2 T (ok_take T) (ok_take_number T) hr) fun vs H Q h => ?_
 obtain ⟨r, dr, ia, l, k, n, rfl, R, hv, hk, q⟩ := h
 refine ⟨rfl, ?_⟩
 rw [st_z2, rd_z2]
 refine ⟨_, rfl, r, dr, _, rfl, R.obj, rfl, _, rfl, r, dr, _, rfl, R.obj, rfl, ?_⟩
 refine ⟨r, dr, ia, l, k, _, rfl, R, hv, fun H1 R1 k1 => ?_⟩
 refine ⟨r, dr, ia, l, k + 1, n, rfl, R1, hk, fun H2 a ha0 ha R2 k2 => ?_⟩
 have hr := R.obj
 refine q H2 a ?_ ha R2 fun b o hb hbr => k2 b o (k1 b o hb hbr) hbr
 cases h : H a with
 | none => rfl
 | some o =>
   by_cases e : a = r
   · subst e
     rw [R1.obj] at ha0
     cases ha0
   · rw [k1 a o h e] at ha0
     cases ha0)) only [↓mr]
def Works (P : Program) (w : World) (K : PySem.W.Frag) (mg : Str → Option Value) (base : Heap) (A : Ad) : Prop :=
 ∃ kvs : List (Int × V), KDic K A.y36 kvs ∧ ∀ (p : Int) (n k : Nat), PyWqadav.shape p = some (n, k) → k ≤ 1 ∧ ∃ (t f : Addr) (j : Nat) (c : List Int → List Int → RwReelSeed.Call), kvs.lookup p = some (.ref t) ∧ KTup K t [.int n, .int k, .ref f] ∧
   Fn P w K mg base j f ["machine", "numbers", "data"] (sp_call A n c) ∧ j ≤ 8 ∧ ∀ (z : Z) (ns : List Int) (xs : List (List Int)), ns.length = n → xs.length = k → ReelNeutral.step z ((p :: ns) :: xs) = RwReelSeed.step z (c ns (xs.headD []))
def sp_z53 (K : PySem.W.Frag) (A : Ad) : Sp := fun vs H Q _ => ∃ (L : Loc) (z : Z) (r dr ia : Addr) (l : List Int) (k : Nat) (c : List (List Int)) (t : List Int), vs = [.ref L.p, .ref r] ∧ MachAt A H L z ∧ ReadAt K A H r dr ia l k ∧ l.drop k = PyFlat.put1 c ++ t ∧ PyFlat.okCall PyWqadav.shape c ∧
 ∀ (H' : Hp) (L' : Loc) (la : Addr), H la = none → H' la = some (.lst (iv (ReelNeutral.step z c).2)) → MachAt A H' L' (ReelNeutral.step z c).1 → Ext H L L' → ReadAt K A H' r dr ia l (k + (PyFlat.put1 c).length) → (∀ b o, H b = some o → b ≠ r → b ≠ L.p → b ≠ L.ca → b ≠ L.ra → H' b = some o) → Q (.ref la) H'
theorem rf_ne {C C' dx dx' ia ca ra pa : Addr} {k f p : Int} : HO.ins C dx (rf ia k) ≠ HO.ins C' dx' (mf ca ra pa f p) := by
 intro q
 injection q with _ _ q
 have := congrArg List.length q
 simp [rf, mf] at this
theorem insf_rf {C C' dx dx' ia : Addr} {k : Int} {n : Rw.Ins} : HO.ins C dx (insf n) ≠ HO.ins C' dx' (rf ia k) := by
 intro q
 injection q with _ _ q
 have := congrArg List.length q
 simp [rf, insf] at this
theorem MachAt.but {H H' : Hp} {L : Loc} {z : Z} {r dr ia : Addr} {k : Int} (M : MachAt A H L z) (hr : H r = some (.ins A.z62 dr (rf ia k))) (h : ∀ b o, H b = some o → b ≠ r → H' b = some o) : MachAt A H' L z where
 obj := h _ _ M.obj (ne_of M.obj hr rf_ne.symm)
 cells := h _ _ M.cells (ne_of M.cells hr (by intro q; cases q))
 regs := h _ _ M.regs (ne_of M.regs hr (by intro q; cases q))
 prog := h _ _ M.prog (ne_of M.prog hr (by intro q; cases q))
 qlen := M.qlen
 ins := fun i q hq => by
   obtain ⟨n, dq, h1, h2⟩ := M.ins i q hq
   exact ⟨n, dq, h1, h _ _ h2 (ne_of h2 hr insf_rf)⟩
 cr := M.cr
 pc := M.pc
 pr := M.pr
 mem := M.mem
 wf := M.wf
 good := M.good
theorem free_of {H H3 : Hp} {r x dr ia : Addr} {k : Int} (k3 : ∀ b o, H b = some o → b ≠ r → H3 b = some o) (hr : H r = some (.ins A.z62 dr (rf ia k))) (h : H3 x = none) (hx : x ≠ r) : H x = none := by
 cases e : H x with
 | none => rfl
 | some o =>
   rw [k3 x o e hx] at h
   cases h
theorem ok_z53 (T : Txt K mg A) (W : Works P w K mg base A) : Fn P w K mg base 9 A.z53 ["machine", "reader"] (sp_z53 K A) := by
 refine mq ?_; simp (disch := k_dflt (
 refine mz ?_
 refine Fn.on T.d_z53 sc_z53 (fun _ _ _ _ _ _ hr => bd_z53 T (ok_take_number T) (ok_take T) (ok_take_list T) hr) fun vs H Q h => ?_
 obtain ⟨L, z, r, dr, ia, l, k, c, t, rfl, M, R, hd, ⟨p, a, xs, rfl, hs⟩, q⟩ := h
 refine ⟨rfl, ?_⟩
 rw [st_z53, rd_z53]
 obtain ⟨kvs, hkd, hW⟩ := W
 obtain ⟨hk1, tt, f, j, cc, hlk, htup, hF, hj, hstep⟩ := hW p _ _ hs
 have hput : PyFlat.put1 ((p :: a) :: xs) = p :: (a ++ PyFlat.putRows xs) := rfl
 rw [hput] at hd
 have hlen : l.length = k + (1 + a.length + (PyFlat.putRows xs).length + t.length) := by
   have := congrArg List.length hd
   rw [List.length_drop] at this
   simp at this
   have := R.le
   omega
 have hp : l[k]? = some p := by
   have := congrArg (fun l => l[0]?) hd
   simpa using this
 refine ⟨_, rfl, r, dr, _, rfl, R.obj, rfl, r, dr, ia, l, k, p, rfl, R, hp, fun H1 R1 k1 => ?_⟩
 have M1 := M.but R.obj k1
 have hd1 : l.drop (k + 1) = a ++ (PyFlat.putRows xs ++ t) := by
   have := congrArg (List.drop 1) hd
   rw [List.drop_drop] at this
   simpa using this
 have hd2 : l.drop (k + 1 + a.length) = PyFlat.putRows xs ++ t := by
   have := congrArg (List.drop a.length) hd1
   rw [List.drop_drop] at this
   simpa using this
 walk_at "wq"
 refine if_do false (fun Q q => ?_) (fun e => by cases e) (fun _ => ?_)
 · refine ⟨_, rfl, A.y36, kvs, p, rfl, rfl, hkd, _, rfl, ?_⟩
   rw [hlk]
   exact q
 refine ⟨_, rfl, A.y36, kvs, p, _, rfl, rfl, hkd, hlk, ?_⟩
 refine ⟨_, rfl, r, dr, _, rfl, R1.obj, rfl, _, rfl, tt, _, 0, _, rfl, rfl, htup.sq H1, rfl, ?_⟩
 refine ⟨r, dr, ia, l, k + 1, a.length, rfl, R1, by omega, fun H2 na hna0 hna R2 k2 => ?_⟩
 rw [hd1, List.take_left] at hna
 have M2 := M1.but R1.obj k2
 have k12 : ∀ b o, H b = some o → b ≠ r → H2 b = some o := fun b o h hb => k2 b o (k1 b o h hb) hb
 have rest : ∀ (H3 : Hp) (da : Addr) (ds : List Int), MachAt A H3 L z → H3 na = some (.lst (iv a)) → H3 da = some (.lst (iv ds)) → ds.length ≤ 15000 → ds = xs.headD [] → ReadAt K A H3 r dr ia l (k + (PyFlat.put1 ((p :: a) :: xs)).length) → (∀ b o, H b = some o → b ≠ r → H3 b = some o) →
     tSeq (tAsg (tOp (rIxT K) (tVar 3) (tC (V.int 2))) (gName 6)) (tRet (tCallV (fun k f ps sp => Fn P w K mg base k f ps sp ∧ k ≤ 8) 6 (tCons (tVar 0) (tCons (tVar 4) (tCons (tVar 5) tNil))))) { nx := fun x H' => Q V.non H', rt := Q }
       [some (V.ref L.p), some (V.ref r), some (V.int p), some (V.ref tt), some (V.ref na), some (V.ref da), none] H3 := by
   intro H3 da ds M3 hna3 hda3 hdl hds R3 k3
   refine ⟨_, rfl, tt, _, 2, _, rfl, rfl, htup.sq H3, rfl, ?_⟩
   refine ⟨j, f, _, _, rfl, ⟨hF, hj⟩, _, rfl, _, rfl, _, rfl, L, z, na, da, a, ds, rfl, M3, hna3, hda3, rfl, hdl, ?_⟩
   rw [hds, ← hstep z a xs rfl rfl]
   intro H' L' la hla0 hla M' E' F'
   have hrp : r ≠ L.p := ne_of R3.obj M3.obj rf_ne
   have hrc : r ≠ L.ca := ne_of R3.obj M3.cells (by intro z; cases z)
   have hrr : r ≠ L.ra := ne_of R3.obj M3.regs (by intro z; cases z)
   refine q H' L' la (free_of k3 R.obj hla0 (fun e => by rw [e, R3.obj] at hla0; cases hla0)) hla M' ⟨E'.p, ?_, ?_, ?_⟩ ⟨F' _ _ R3.obj hrp hrc hrr, R3.inp.keep (fun o u h => F' _ _ h (ne_of h M3.obj (by intro z; cases z)) (ne_of h M3.cells (by intro z; cases z)) (ne_of h M3.regs (by intro z; cases z))), R3.big, R3.le⟩ fun b o hb hbr h1 h2 h3 => F' _ _ (k3 b o hb hbr) h1 h2 h3
   · rcases E'.ca with h | h
     · exact .inl h
     · refine .inr (free_of k3 R.obj h ?_)
       intro e
       rw [e, R3.obj] at h
       cases h
   · rcases E'.ra with h | h
     · exact .inl h
     · refine .inr (free_of k3 R.obj h ?_)
       intro e
       rw [e, R3.obj] at h
       cases h
   · rcases E'.pa with h | h
     · exact .inl h
     · refine .inr (free_of k3 R.obj h ?_)
       intro e
       rw [e, R3.obj] at h
       cases h
 refine ⟨_, rfl, tt, _, 1, _, rfl, rfl, htup.sq H2, rfl, rfl, _, rfl, ?_⟩
 match xs, hk1, hs, hd2, hlen, rest, hput with
 | [], _, _, _, _, rest, hput =>
   dsimp only
   rw [if_neg (by decide)]
   refine ⟨by rw [short0]; trivial, fun da hda => ?_⟩
   have s3 := same_upd (o := HO.lst []) hda
   refine rest _ da [] (M2.same s3) (s3 _ _ hna) upd_same (by decide) rfl ?_ (fun b o h hb => s3 _ _ (k12 b o h hb))
   have R3 := R2.same s3
   rw [hput]
   have e : k + (p :: (a ++ PyFlat.putRows [])).length = k + 1 + a.length := by
     simp [PyFlat.putRows]
     omega
   rw [e]
   exact R3
 | [y], _, _, hd2, hlen, rest, hput =>
   dsimp only
   rw [if_pos (by rw [decide_eq_true (show V.int ((([y] : List (List Int)).length : Nat) : Int) = V.int 1 from rfl)])]
   have hd2 : l.drop (k + 1 + a.length) = (y.length : Int) :: (y ++ t) := by
     rw [hd2]
     simp [PyFlat.putRows, PyFlat.putRow]
   have hlen : l.length = k + (1 + a.length + (1 + y.length) + t.length) := by
     rw [hlen]
     simp [PyFlat.putRows, PyFlat.putRow]
     omega
   have hy : l[k + 1 + a.length]? = some (y.length : Int) := by
     have := congrArg (fun l => l[0]?) hd2
     simpa using this
   have hd3 : l.drop (k + 1 + a.length + 1) = y ++ t := by
     have := congrArg (List.drop 1) hd2
     rw [List.drop_drop] at this
     simpa using this
   refine ⟨_, rfl, r, dr, _, rfl, R2.obj, rfl, r, dr, ia, l, k + 1 + a.length, y.length, rfl, R2, hy, by omega, fun H3 da hda0 hda R3 k3 => ?_⟩
   rw [hd3, List.take_left] at hda
   have hnr : na ≠ r := ne_of hna R2.obj (by intro z; cases z)
   refine rest H3 da y (M2.but R2.obj k3) (k3 _ _ hna hnr) hda ?_ rfl ?_ (fun b o h hb => k3 b o (k12 b o h hb) hb)
   · have := R.big
     omega
   · rw [hput]
     have e : k + (p :: (a ++ PyFlat.putRows [y])).length = k + 1 + a.length + 1 + y.length := by
       simp [PyFlat.putRows, PyFlat.putRow]
       omega
     rw [e]
     exact R3
 | _ :: _ :: _, hk1, _, _, _, _, _ => simp at hk1)) only [↓mr]
def Short : Prop := ∀ (z : Z) (c : List (List Int)), z.s.mem.length ≤ 256 → PyFlat.okCall PyWqadav.shape c → (ReelNeutral.step z c).2.length ≤ 5000
def placeOf (H : Hp) (r : Addr) : Nat := match H r with
 | some (.ins _ _ [_, (_, .int k)]) => k.toNat
 | _ => 0
theorem ReadAt.place {H : Hp} {r dr ia : Addr} {l : List Int} {k : Nat} (R : ReadAt K A H r dr ia l k) : placeOf H r = k := by
 unfold placeOf
 rw [R.obj]
 rfl
theorem put_append (a b : List (List (List Int))) : PyFlat.put (a ++ b) = PyFlat.put a ++ PyFlat.put b := by
 induction a with
 | nil => rfl
 | cons c cs ih =>
   show PyFlat.put1 c ++ PyFlat.put (cs ++ b) = (PyFlat.put1 c ++ PyFlat.put cs) ++ PyFlat.put b
   rw [ih, List.append_assoc]
theorem told_append (a b : List (List Int)) : PyFlat.told (a ++ b) = PyFlat.told a ++ PyFlat.told b := by
 unfold PyFlat.told
 rw [List.flatMap_append]
def after (s : Z) (cs : List (List (List Int))) : Z := cs.foldl (fun s c => (ReelNeutral.step s c).1) s
theorem played_append (a b : List (List (List Int))) : ∀ s : Z, PyFlat.played ReelNeutral.step s (a ++ b) = PyFlat.played ReelNeutral.step s a ++ PyFlat.played ReelNeutral.step (after s a) b := by
 induction a with
 | nil => intro s; rfl
 | cons c r ih =>
   intro s
   show (ReelNeutral.step s c).2 :: PyFlat.played ReelNeutral.step (ReelNeutral.step s c).1 (r ++ b) = (ReelNeutral.step s c).2 :: (PyFlat.played ReelNeutral.step (ReelNeutral.step s c).1 r ++ _)
   rw [ih]
   rfl
theorem after_snoc (s : Z) (a : List (List (List Int))) (c : List (List Int)) : after s (a ++ [c]) = (ReelNeutral.step (after s a) c).1 := by
 unfold after
 rw [List.foldl_append]
 rfl
theorem told_snoc (a : List (List Int)) (b : List Int) : iv (PyFlat.told (a ++ [b])) = (iv (PyFlat.told a) ++ [V.int ((iv b).length : Nat)]) ++ iv b := by
 rw [told_append]
 unfold iv PyFlat.told
 simp
theorem put1_pos {c : List (List Int)} (h : PyFlat.okCall PyWqadav.shape c) : 1 ≤ (PyFlat.put1 c).length := by
 obtain ⟨p, a, xs, rfl, _⟩ := h
 show 1 ≤ (p :: a ++ PyFlat.putRows xs).length
 simp
def sp_y15 (K : PySem.W.Frag) : Sp := fun vs H Q _ => ∃ (ia : Addr) (l : List Int) (cs : List (List (List Int))), vs = [.ref ia] ∧ InpAt K H ia (iv l) ∧ l.length ≤ 15000 ∧ l = PyFlat.put cs ∧ (∀ c ∈ cs, PyFlat.okCall PyWqadav.shape c) ∧ cs.length ≤ 100 ∧
 ∀ (H' : Hp) (g : Addr), H' g = some (.lst (iv (PyFlat.told (PyFlat.played ReelNeutral.step ReelNeutral.start cs)))) → Q (.ref g) H'
theorem read_answers (T : Txt K mg A) (W : Works P w K mg base A) (hsh : Short) (vs : List V) (H : Hp) (Q : VK) (h : sp_y15 K vs H Q E0) : vs.length = 1 ∧ rd_y15 K A (sp_z32 A) (sp_z11 K A) (sp_is_at_end K A) (sp_z53 K A) { nx := fun _ H' => Q .non H', rt := Q } (start ["calls", "machine", "reader", "given", "answer"] vs) H := by
 refine mq ?_; simp (disch := k_dflt (
 refine mz ?_
 obtain ⟨ia, l, cs, rfl, hi, hl, hput, hok, hcs, q⟩ := h
 refine ⟨rfl, ?_⟩
 rw [st_y15, rd_y15]
 intro x dx hx hdx hne
 refine ⟨x, dx, rfl, upd_same, fun H1 L hLp M1 hca0 hra0 k1 => ⟨rfl, ?_⟩⟩
 subst hLp
 have s1 : Same H H1 := Same.made hx hdx k1
 have hi1 : InpAt K H1 ia (iv l) := hi.keep fun o u h => s1 _ _ h
 refine ⟨_, rfl, fun r dr hr hdr hner => ?_⟩
 have s2 : Same H1 (upd (upd H1 dr (.own r)) r (.ins A.z62 dr [])) := fun b o h => by
   rw [upd_ne (ne_of_none h hr), upd_ne (ne_of_none h hdr)]
   exact h
 refine ⟨r, dr, ia, l, rfl, upd_same, hi1.keep fun o u h => s2 _ _ h, hl, fun H2 R2 k2 => ⟨rfl, ?_⟩⟩
 have s3 : Same H1 H2 := Same.made hr hdr k2
 have M2 := M1.same s3
 refine ⟨by rw [short0]; trivial, fun g hg => ?_⟩
 have s4 := same_upd (o := HO.lst []) hg
 have M3 := M2.same s4
 have R3 := R2.same s4
 refine while_by (fun σ H' => ∃ (dn td : List (List (List Int))) (L' : Loc) (z : Z) (o : Option V), σ = [some (.ref ia), some (.ref L.p), some (.ref r), some (.ref g), o] ∧ L'.p = L.p ∧ cs = dn ++ td ∧ MachAt A H' L' z ∧ ReadAt K A H' r dr ia l (PyFlat.put dn).length ∧
   H' g = some (.lst (iv (PyFlat.told (PyFlat.played ReelNeutral.step ReelNeutral.start dn)))) ∧ z = after ReelNeutral.start dn ∧ g ≠ L'.ca ∧ g ≠ L'.ra ∧ g ≠ L'.pa ∧
   (PyFlat.told (PyFlat.played ReelNeutral.step ReelNeutral.start dn)).length ≤ dn.length * 5001) (fun _ H' => l.length - placeOf H' r) ?_ ?_ ?_
 · refine ⟨[], cs, L, ReelNeutral.start, none, rfl, rfl, rfl, M3, R3, upd_same, rfl, ?_, ?_, ?_, Nat.zero_le _⟩
   · exact (ne_of_none M2.cells hg).symm
   · exact (ne_of_none M2.regs hg).symm
   · exact (ne_of_none M2.prog hg).symm
 · rintro σ H' ⟨dn, td, L', z, o, rfl, hLp, hcd, M, R, hgv, hz, hgc, hgr, hgq, hbd⟩
   refine ⟨_, rfl, r, dr, _, rfl, R.obj, rfl, r, dr, ia, l, _, rfl, R, _, rfl, ?_⟩
   have hpc : l = PyFlat.put dn ++ PyFlat.put td := by rw [hput, hcd, put_append]
   have hll : l.length = (PyFlat.put dn).length + (PyFlat.put td).length := by
     have := congrArg List.length hpc
     rw [List.length_append] at this
     exact this
   dsimp only
   cases td with
   | nil =>
     rw [decide_eq_true (by rw [hll]; show _ ≤ _; simp [PyFlat.put]), if_neg (by simp)]
     rw [List.append_nil] at hcd
     subst hcd
     exact ⟨_, rfl, q H' g hgv⟩
   | cons c td =>
     have hokc := hok c (by rw [hcd]; simp)
     have hp1 := put1_pos hokc
     have hpl2 : (PyFlat.put (c :: td)).length = (PyFlat.put1 c).length + (PyFlat.put td).length := by
       show (PyFlat.put1 c ++ PyFlat.put td).length = _
       rw [List.length_append]
     rw [decide_eq_false (by omega), Bool.not_false, if_pos rfl]
     have hdrop : l.drop (PyFlat.put dn).length = PyFlat.put1 c ++ PyFlat.put td := by
       rw [hpc, List.drop_left]
       rfl
     refine ⟨_, rfl, _, rfl, L', z, r, dr, ia, l, _, c, PyFlat.put td, by rw [hLp]; rfl, M, R, hdrop, hokc, fun H3 L3 la hla0 hla M3' E3 R3' k3 => ?_⟩
     have hg3 := k3 g _ hgv (ne_of hgv R.obj (by intro z; cases z)) (ne_of hgv M.obj (by intro z; cases z)) hgc hgr
     have hlg : la ≠ g := (ne_of_none hgv hla0).symm
     have hal := hsh z c M.mem hokc
     have hdl : dn.length + 1 + td.length ≤ 100 := by
       have := congrArg List.length hcd
       rw [List.length_append, List.length_cons] at this
       omega
     have hbig : (100 * 5001 + 6000 : Nat) < sizeLine := by decide
     have hbd2 : dn.length * 5001 ≤ 100 * 5001 := Nat.mul_le_mul_right _ (by omega)
     refine ⟨_, rfl, .inl ⟨rfl, _, SqL.of hg3⟩, _, rfl, la, _, rfl, hla, g, _, _, rfl, rfl, hg3, by rw [iv_len]; omega, ?_⟩
     refine ⟨_, rfl, .inl ⟨rfl, _, SqL.of upd_same⟩, _, rfl, g, la, _, _, rfl, rfl, upd_same, by rw [upd_ne hlg]; exact hla, ?_, ?_⟩
     · rw [List.length_append, iv_len, iv_len]
       simp only [List.length_cons, List.length_nil]
       omega
     rw [upd_upd]
     have hgp : g ≠ L3.p := ne_of hg3 M3'.obj (by intro z; cases z)
     have hgc3 : g ≠ L3.ca := by
       rcases E3.ca with h | h
       · rw [h]; exact hgc
       · exact ne_of_none hgv h
     have hgr3 : g ≠ L3.ra := by
       rcases E3.ra with h | h
       · rw [h]; exact hgr
       · exact ne_of_none hgv h
     have hgq3 : g ≠ L3.pa := by
       rcases E3.pa with h | h
       · rw [h]; exact hgq
       · exact ne_of_none hgv h
     have hsn : PyFlat.played ReelNeutral.step ReelNeutral.start (dn ++ [c]) = PyFlat.played ReelNeutral.step ReelNeutral.start dn ++ [(ReelNeutral.step z c).2] := by
       rw [played_append, ← hz]
       rfl
     have ke : ∀ b o, H3 b = some o → b ≠ g → upd H3 g (HO.lst ((iv (PyFlat.told (PyFlat.played ReelNeutral.step ReelNeutral.start dn)) ++ [V.int ((iv (ReelNeutral.step z c).2).length : Nat)]) ++ iv (ReelNeutral.step z c).2)) b = some o := fun b o h hb => by
       rw [upd_ne hb]
       exact h
     have hlp : (PyFlat.put (dn ++ [c])).length = (PyFlat.put dn).length + (PyFlat.put1 c).length := by
       rw [put_append, List.length_append]
       show _ + (PyFlat.put1 c ++ []).length = _
       rw [List.append_nil]
     have R4 : ReadAt K A (upd H3 g (HO.lst ((iv (PyFlat.told (PyFlat.played ReelNeutral.step ReelNeutral.start dn)) ++ [V.int ((iv (ReelNeutral.step z c).2).length : Nat)]) ++ iv (ReelNeutral.step z c).2))) r dr ia l (PyFlat.put (dn ++ [c])).length := by
       rw [hlp]
       exact ⟨ke _ _ R3'.obj (ne_of R3'.obj hg3 (by intro z; cases z)), R3'.inp.keep fun o u h => ke _ _ h (ne_of h hg3 (by intro z; cases z)), R3'.big, R3'.le⟩
     refine ⟨⟨dn ++ [c], td, L3, (ReelNeutral.step z c).1, some (.ref la), rfl, by rw [E3.p, hLp], by rw [hcd]; simp, ?_, R4, ?_, by rw [after_snoc, ← hz], hgc3, hgr3, hgq3, ?_⟩, ?_⟩
     · exact ⟨ke _ _ M3'.obj (ne_of M3'.obj hg3 (by intro z; cases z)), ke _ _ M3'.cells hgc3.symm, ke _ _ M3'.regs hgr3.symm, ke _ _ M3'.prog hgq3.symm, M3'.qlen, fun i q hq => (by
         obtain ⟨n, dq, h1, h2⟩ := M3'.ins i q hq
         exact ⟨n, dq, h1, ke _ _ h2 (ne_of h2 hg3 (by intro z; cases z))⟩), M3'.cr, M3'.pc, M3'.pr, M3'.mem, M3'.wf, M3'.good⟩
     · rw [upd_same, hsn, told_snoc]
     · rw [hsn, told_append, List.length_append, List.length_append]
       unfold PyFlat.told at hbd ⊢
       simp only [List.flatMap_cons, List.flatMap_nil, List.append_nil, List.length_cons, List.length_nil]
       omega
     · rw [R4.place, R.place, hlp]
       omega
 · intro σ H Q Q' hq h
   obtain ⟨v, h1, a, dx, fs, h2, h3, h4, r', dr', ia', l', k', h5, h6, b, h7, h8⟩ := h
   exact ⟨v, h1, a, dx, fs, h2, h3, h4, r', dr', ia', l', k', h5, h6, b, h7, hq _ _ h8⟩)) only [↓mr]
theorem ok_y15 (T : Txt K mg A) (W : Works P w K mg base A) (hsh : Short) {fd : FuncData} (F : Fun K "answers" "answers" s_y15 A.y15 fd) : FnOk P w K mg base CX0 10 A.y15 fd ["calls"] (sp_y15 K) :=
 F.ok sc_y15 (fun vs H Q E h => (read_answers T W hsh vs H Q h).1) (fun cdv Ar outer s H vs Q E hr h => ⟨_, bd_y15 T (ok_z32 T) (ok_z11 T) (ok_is_at_end T) (ok_z53 T W) hr, (read_answers T W hsh vs H Q h).2⟩)
theorem lc_next {H H3 H4 : Hp} {D : Addr} {val : Nat → V} {i : Nat} {y : V} (hD : H D = none) (s : Same H H3) (hd : H3 D = some (.lst ((List.range i).map val))) (s4 : Same H3 H4) (hy : y = val i) (hi : i < 60000) :
   ∃ acc, H4 D = some (.lst acc) ∧ acc.length < sizeLine ∧ (Same H (upd H4 D (.lst (acc ++ [y]))) ∧ upd H4 D (.lst (acc ++ [y])) D = some (.lst ((List.range (i + 1)).map val))) := by
 subst hy
 refine ⟨_, s4 _ _ hd, ?_, fun b o h => ?_, ?_⟩
 · rw [List.length_map, List.length_range]
   have : (60000 : Nat) < sizeLine := by decide
   omega
 · rw [upd_ne (ne_of_none h hD)]
   exact s4 _ _ (s _ _ h)
 · rw [upd_same, List.range_succ, List.map_append]
   rfl
theorem lc_nx {H H3 H4 : Hp} {D : Addr} {val : Nat → V} {i : Nat} {y : V} (hD : H D = none) (s : Same H H3) (hd : H3 D = some (.lst ((List.range i).map val))) (s4 : Same H3 H4) (hy : y = val i) (hi : i < 60000) :
   ∃ acc, H4 D = some (.lst acc) ∧ acc.length < sizeLine ∧ Same H (upd H4 D (.lst (acc ++ [y]))) ∧ acc ++ [y] = (List.range (i + 1)).map val := by
 obtain ⟨acc, h1, h2, h3, h4⟩ := lc_next hD s hd s4 hy hi
 rw [upd_same] at h4
 exact ⟨acc, h1, h2, h3, HO.lst.inj (Option.some.inj h4)⟩
def rowN (m : Rw.Bytes) (x w n : Nat) : List Nat := (List.range n).map fun i => Rw.at_ m x w i
theorem rowN_len (m : Rw.Bytes) (x w n : Nat) : (rowN m x w n).length = n := by unfold rowN; simp
theorem rowN_get {m : Rw.Bytes} {x w n i : Nat} (h : i < n) : (rowN m x w n)[i]? = some (Rw.at_ m x w i) := by
 unfold rowN
 rw [List.getElem?_map, List.getElem?_range h]
 rfl
theorem row_few {n w : Nat} {m : Rw.Bytes} {x : Nat} (hw : Rw.fine w = true) (hm : m.length ≤ 256) (hx : x + n * w ≤ m.length) : n ≤ 256 := by
 have hw0 := fine_pos hw
 have : n * 1 ≤ n * w := Nat.mul_le_mul_left n hw0
 omega
def sp_z49 : Sp := fun vs H Q _ => ∃ (ca : Addr) (m : Rw.Bytes) (x n w : Nat), vs = [.ref ca, .int x, .int n, .int w] ∧ H ca = some (.lst (bv m)) ∧ m.length ≤ 256 ∧ Rw.fine w = true ∧ x + n * w ≤ m.length ∧
 ∀ (H' : Hp) (l : Addr), Same H H' → H l = none → H' l = some (.lst (nv (rowN m x w n))) → Q (.ref l) H'
theorem ok_z49 (T : Txt K mg A) : Fn P w K mg base 2 A.z49 ["cells", "place", "n", "width"] sp_z49 := by
 refine mq ?_; simp (disch := k_dflt (
 refine mz ?_
 refine Fn.on T.d_z49 sc_z49 (fun _ _ _ _ _ _ hr => bd_z49 T (ok_z75 T) hr) fun vs H Q h => ?_
 obtain ⟨ca, m, x, n, w, rfl, hc, hm, hw, hx, q⟩ := h
 refine ⟨rfl, ?_⟩
 rw [st_z49, rd_z49]
 have hn := row_few hw hm hx
 refine ⟨_, rfl, (n : Int), rfl, by omega, by omega, fun D hD => ?_⟩
 refine lc_range (n := n) (fun i H' => Same H H' ∧ H' D = some (.lst ((List.range i).map fun i => V.int (Rw.at_ m x w i : Nat)))) ?_ ?_ ?_
 · exact ⟨same_upd hD, upd_same⟩
 · rintro i H' hi ⟨s1, hd⟩
   refine ⟨rfl, ?_⟩
   have e0 : (0 : Int) + (i : Int) = (i : Int) := by omega
   rw [e0]
   have hwp : wipe [some (V.ref ca), some (V.int x), some (V.int n), some (V.int w), none] [4] = [some (V.ref ca), some (V.int x), some (V.int n), some (V.int w), none] := rfl
   walk_at "wp"
   refine ⟨.inr ⟨by omega, by have := fine_le hw; omega⟩, ca, m, x + i * w, w, by rw [cast_off rfl], s1 _ _ hc, Rm.row_in hx hi, fun H4 s4 => ?_⟩
   exact lc_nx (val := fun i => V.int (Rw.at_ m x w i : Nat)) hD s1 hd s4 rfl (by omega)
 · rintro H' ⟨s1, hd⟩
   refine q H' D s1 hD ?_
   rw [hd]
   unfold nv rowN
   rw [List.map_map]
   rfl)) only [↓mr]
def puts (m : Rw.Bytes) (x w : Nat) (vs : List Nat) (i : Nat) : Rw.Bytes := (List.range i).foldl (fun u i => Rw.poke u (x + i * w) w (vs.getD i 0)) m
theorem puts_succ (m : Rw.Bytes) (x w : Nat) (vs : List Nat) (i : Nat) : puts m x w vs (i + 1) = Rw.poke (puts m x w vs i) (x + i * w) w (vs.getD i 0) := by
 unfold puts
 rw [List.range_succ, List.foldl_append]
 rfl
theorem puts_len {m : Rw.Bytes} {x w : Nat} {vs : List Nat} {n : Nat} (h : x + n * w ≤ m.length) : ∀ i, i ≤ n → (puts m x w vs i).length = m.length
 | 0, _ => rfl
 | i + 1, hi => by
   have ih := puts_len (vs := vs) h i (by omega)
   rw [puts_succ, Rm.poke_len _ (by rw [ih]; exact Rm.row_in h hi), ih]
theorem foldl_same {α : Type} {f g : α → Nat → α} : ∀ (l : List Nat) (a : α), (∀ a i, i ∈ l → f a i = g a i) → l.foldl f a = l.foldl g a
 | [], _, _ => rfl
 | x :: r, a, h => by
   rw [List.foldl_cons, List.foldl_cons, h a x (by simp)]
   exact foldl_same r _ fun b i hi => h b i (by simp [hi])
theorem puts_turned (m : Rw.Bytes) (x w n : Nat) : puts m x w (rowN m x w n).reverse n = Rw.rowTurned m x n w := by
 unfold puts Rw.rowTurned
 apply foldl_same
 intro u i hi
 have hi := List.mem_range.mp hi
 rw [List.getD_eq_getElem?_getD, List.getElem?_reverse (by rw [rowN_len]; exact hi), rowN_len, rowN_get (by omega)]
 rfl
theorem puts_swapped (m : Rw.Bytes) (x w n : Nat) : puts m x w ((rowN m x w n).map (Rw.turned w)) n = Rw.bytesTurned m x n w := by
 unfold puts Rw.bytesTurned
 apply foldl_same
 intro u i hi
 have hi := List.mem_range.mp hi
 rw [List.getD_eq_getElem?_getD, List.getElem?_map, rowN_get hi]
 rfl
def sp_y11 : Sp := fun vs H Q _ => ∃ (ca na : Addr) (m : Rw.Bytes) (x w : Nat) (ns : List Nat), vs = [.ref ca, .int x, .int w, .ref na] ∧ H ca = some (.lst (bv m)) ∧ H na = some (.lst (nv ns)) ∧ ca ≠ na ∧ m.length ≤ 256 ∧ Rw.fine w = true ∧ x + ns.length * w ≤ m.length ∧
 ∀ H', H' ca = some (.lst (bv (puts m x w ns ns.length))) → (∀ b o, H b = some o → b ≠ ca → H' b = some o) → Q .non H'
theorem ok_y11 (T : Txt K mg A) : Fn P w K mg base 2 A.y11 ["cells", "place", "width", "numbers"] sp_y11 := by
 refine mq ?_; simp (disch := k_dflt (
 refine mz ?_
 refine Fn.on T.d_y11 sc_y11 (fun _ _ _ _ _ _ hr => bd_y11 T (ok_z70 T) hr) fun vs H Q h => ?_
 obtain ⟨ca, na, m, x, w, ns, rfl, hc, hna, hne, hm, hw, hx, q⟩ := h
 refine ⟨rfl, ?_⟩
 rw [st_y11, rd_y11]
 have hn := row_few hw hm hx
 refine ⟨_, rfl, _, _, rfl, hna, (ns.length : Int), by rw [nv_len], by omega, by omega, ?_⟩
 refine for_range (n := ns.length) (fun i σ H' => (∃ o1, σ = [some (.ref ca), some (.int x), some (.int w), some (.ref na), o1]) ∧ H' ca = some (.lst (bv (puts m x w ns i))) ∧ ∀ b o, H b = some o → b ≠ ca → H' b = some o) ?_ ?_ ?_
 · exact ⟨⟨none, rfl⟩, hc, fun b o h _ => h⟩
 · rintro i σ H' hi ⟨⟨o1, rfl⟩, hc', hk⟩
   have hl := puts_len (vs := ns) hx i (by omega)
   have hn' := hk _ _ hna hne.symm
   have e0 : (0 : Int) + (i : Int) = (i : Int) := by omega
   have ei : atI (nv ns) (i : Int) = some (V.int (ns.getD i 0 : Nat)) := by
     apply atI_nat
     rw [nv_get, List.getD_eq_getElem?_getD, List.getElem?_eq_getElem hi]
     rfl
   rw [e0]
   walk_at "wp"
   refine ⟨.inr ⟨by omega, by have := fine_le hw; omega⟩, ca, puts m x w ns i, x + i * w, w, ns.getD i 0, by rw [cast_off rfl], hc', by omega, by rw [hl]; exact Rm.row_in hx hi, ⟨_, rfl⟩, ?_, fun b o h hb => ?_⟩
   · rw [upd_same, puts_succ]
   · rw [upd_ne hb]
     exact hk b o h hb
 · rintro σ H' ⟨⟨o1, rfl⟩, hc', hk⟩
   exact q H' hc' hk)) only [↓mr]
def likes (m : Rw.Bytes) (x w n v : Nat) : List Bool := (List.range n).map fun i => Rw.at_ m x w i == v % 256 ^ w
def sp_y9 : Sp := fun vs H Q _ => ∃ (ca : Addr) (m : Rw.Bytes) (x n w v : Nat), vs = [.ref ca, .int x, .int n, .int w, .int v] ∧ H ca = some (.lst (bv m)) ∧ m.length ≤ 256 ∧ Rw.fine w = true ∧ x + n * w ≤ m.length ∧
 ∀ (H' : Hp) (l : Addr), Same H H' → H l = none → H' l = some (.lst ((likes m x w n v).map V.bl)) → Q (.ref l) H'
theorem ok_y9 (T : Txt K mg A) : Fn P w K mg base 3 A.y9 ["cells", "place", "n", "width", "number"] sp_y9 := by
 refine mq ?_; simp (disch := k_dflt (
 refine mz ?_
 refine Fn.on T.d_y9 sc_y9 (fun _ _ _ _ _ _ hr => bd_y9 T (ok_z49 T) hr) fun vs H Q h => ?_
 obtain ⟨ca, m, x, n, w, v, rfl, hc, hm, hw, hx, q⟩ := h
 refine ⟨rfl, ?_⟩
 rw [st_y9, rd_y9]
 have hn := row_few hw hm hx
 have hsz := @sizes_lookup A w hw
 have hpos : 0 < 256 ^ w := Nat.pow_pos (by decide)
 walk_at "wp"
 refine ⟨by omega, ?_⟩
 refine ⟨_, rfl, _, rfl, _, rfl, _, rfl, ca, m, x, n, w, rfl, hc, hm, hw, hx, fun H1 l s1 hl h1 => ?_⟩
 refine ⟨l, rfl, ⟨_, SqL.of h1⟩, fun D hD => ?_⟩
 refine lc_list (xs := nv (rowN m x w n)) (fun i H' => Same H1 H' ∧ H' D = some (.lst ((List.range i).map fun i => V.bl (Rw.at_ m x w i == v % 256 ^ w)))) ?_ ?_ ?_ ?_
 · exact ⟨same_upd hD, upd_same⟩
 · rintro i H' _ ⟨s2, _⟩
   exact SqL.of (s2 _ _ h1)
 · rintro i y H' hi ⟨s2, hd⟩
   have hin : i < n := by
     have := (List.getElem?_eq_some_iff.mp hi).1
     rwa [nv_len, rowN_len] at this
   rw [nv_get, rowN_get hin] at hi
   cases hi
   refine ⟨rfl, ?_⟩
   have hwp : wipe [some (V.ref ca), some (V.int x), some (V.int n), some (V.int w), some (V.int v), some (V.int ((v : Int) % ((256 ^ w : Nat) : Int))), none] [6] = [some (V.ref ca), some (V.int x), some (V.int n), some (V.int w), some (V.int v), some (V.int ((v : Int) % ((256 ^ w : Nat) : Int))), none] := rfl
   have fin := lc_nx (val := fun i => V.bl (Rw.at_ m x w i == v % 256 ^ w)) (i := i) hD s2 hd (Same.refl _) rfl (by omega)
   have eb : (Rw.at_ m x w i == v % 256 ^ w) = decide (((Rw.at_ m x w i : Nat) : Int) = (v : Int) % ((256 ^ w : Nat) : Int)) := by
     rw [← Int.natCast_emod, Bool.eq_iff_iff]
     simp only [beq_iff_eq, decide_eq_true_eq]
     omega
   rw [eb] at fin
   clear hd eb
   walk_at "wp"
 · rintro H' ⟨s2, hd⟩
   rw [nv_len, rowN_len] at hd
   refine q H' D (s1.trans s2) (s1.free hD) ?_
   rw [hd]
   unfold likes
   rw [List.map_map]
   rfl)) only [↓mr]
theorem find_at {l : List Nat} {f : Nat → Bool} {i j : Nat} (hi : l[i]? = some j) (hj : f j = true) (hb : ∀ k m, k < i → l[k]? = some m → f m = false) : l.find? f = some j := by
 induction l generalizing i with
 | nil => cases hi
 | cons a r ih =>
   cases i with
   | zero =>
     cases hi
     exact List.find?_cons_of_pos hj
   | succ i =>
     rw [List.find?_cons_of_neg (by rw [hb 0 a (by omega) rfl]; simp)]
     exact ih hi fun k m hk hm => hb (k + 1) m (by omega) hm
theorem find_none {l : List Nat} {f : Nat → Bool} (hb : ∀ k m, k < l.length → l[k]? = some m → f m = false) : l.find? f = none := by
 rw [List.find?_eq_none]
 intro x hx
 obtain ⟨k, hk, e⟩ := List.getElem_of_mem hx
 rw [hb k x hk (by rw [List.getElem?_eq_getElem hk, e])]
 simp
theorem likes_get {m : Rw.Bytes} {x w n v i : Nat} (h : i < n) : atI ((likes m x w n v).map V.bl) (i : Int) = some (V.bl (Rw.at_ m x w i == v % 256 ^ w)) := by
 apply atI_nat
 unfold likes
 rw [List.map_map, List.getElem?_map, List.getElem?_range h]
 rfl
def foundIn (m : Rw.Bytes) (x n w v : Nat) (alike down : Bool) : Nat := ((Rw.order down n).find? fun i => (Rw.at_ m x w i == v % 256 ^ w) == alike).getD n
def sp_z47 : Sp := fun vs H Q _ => ∃ (ca : Addr) (m : Rw.Bytes) (x n w v : Nat) (alike down : Bool), vs = [.ref ca, .int x, .int n, .int w, .int v, .bl alike, .bl down] ∧ H ca = some (.lst (bv m)) ∧ m.length ≤ 256 ∧ Rw.fine w = true ∧ x + n * w ≤ m.length ∧
 ∀ H', Same H H' → Q (.int (foundIn m x n w v alike down : Nat)) H'
theorem ok_z47 (T : Txt K mg A) : Fn P w K mg base 4 A.z47 ["cells", "place", "n", "width", "number", "alike", "down"] sp_z47 := by
 refine mq ?_; simp (disch := k_dflt (
 refine mz ?_
 refine Fn.on T.d_z47 sc_z47 (fun _ _ _ _ _ _ hr => bd_z47 T (ok_y9 T) (ok_y7 T) hr) fun vs H Q h => ?_
 obtain ⟨ca, m, x, n, w, v, alike, down, rfl, hc, hm, hw, hx, q⟩ := h
 refine ⟨rfl, ?_⟩
 rw [st_z47, rd_z47]
 have hn := row_few hw hm hx
 refine ⟨_, rfl, _, rfl, _, rfl, _, rfl, _, rfl, ca, m, x, n, w, v, rfl, hc, hm, hw, hx, fun H1 l s1 hl h1 => ?_⟩
 refine ⟨_, rfl, _, rfl, n, down, rfl, hn, fun o ho => ?_⟩
 have s2 := s1.trans (same_upd (o := HO.lst (nv (Rw.order down n))) ho)
 have h2 := same_upd (o := HO.lst (nv (Rw.order down n))) ho _ _ h1
 refine ⟨o, rfl, ⟨_, SqL.of upd_same⟩, ?_⟩
 refine for_list (xs := nv (Rw.order down n)) (fun i σ H' => (∃ o1, σ = [some (.ref ca), some (.int x), some (.int n), some (.int w), some (.int v), some (.bl alike), some (.bl down), some (.ref l), o1]) ∧ H' = upd H1 o (.lst (nv (Rw.order down n))) ∧
   ∀ k j, k < i → (Rw.order down n)[k]? = some j → ((Rw.at_ m x w j == v % 256 ^ w) == alike) = false) ?_ ?_ ?_ ?_
 · exact ⟨⟨none, rfl⟩, rfl, fun k j hk => by omega⟩
 · rintro i σ H' _ ⟨_, rfl, _⟩
   exact SqL.of upd_same
 · rintro i y σ H' hi ⟨⟨o1, rfl⟩, rfl, hb⟩
   rw [nv_get] at hi
   obtain ⟨j, hj, rfl⟩ := Option.map_eq_some_iff.mp hi
   have hjn := order_mem hj
   have ei := likes_get (m := m) (x := x) (w := w) (v := v) hjn
   have hq : ((Rw.at_ m x w j == v % 256 ^ w) == alike) = true → Q (.int (j : Nat)) (upd H1 o (.lst (nv (Rw.order down n)))) := fun h => by
     have := q _ s2
     unfold foundIn at this
     rw [find_at hj h hb] at this
     exact this
   generalize hg : upd H1 o (.lst (nv (Rw.order down n))) = H2 at h2 hq ⊢
   walk_at "wp"
   by_cases g : (Rw.at_ m x w j == v % 256 ^ w) = alike
   · rw [if_pos g]
     exact hq (by rw [g]; simp)
   · rw [if_neg g]
     refine ⟨⟨_, rfl⟩, fun k j' hk hj' => ?_⟩
     by_cases e : k = i
     · subst e
       rw [hj] at hj'
       cases hj'
       exact beq_eq_false_iff_ne.mpr g
     · exact hb k j' (by omega) hj'
 · rintro σ H' ⟨⟨o1, rfl⟩, rfl, hb⟩
   rw [nv_len] at hb
   have := q _ s2
   unfold foundIn at this
   rw [find_none hb] at this
   exact ⟨_, rfl, this⟩)) only [↓mr]
def sp_z14 : Sp := fun vs H Q _ => ∃ (ca : Addr) (m : Rw.Bytes) (x y n w : Nat) (down : Bool), vs = [.ref ca, .int x, .int y, .int n, .int w, .bl down] ∧ H ca = some (.lst (bv m)) ∧ m.length ≤ 256 ∧ Rw.fine w = true ∧ x + n * w ≤ m.length ∧ y + n * w ≤ m.length ∧
 ∀ H', Same H H' → Q (.int (Rw.differAt m x y n w down : Nat)) H'
theorem rowN_at {m : Rw.Bytes} {x w n i : Nat} (h : i < n) : atI (nv (rowN m x w n)) (i : Int) = some (V.int (Rw.at_ m x w i : Nat)) := by
 apply atI_nat
 rw [nv_get, rowN_get h]
 rfl
theorem ok_z14 (T : Txt K mg A) : Fn P w K mg base 3 A.z14 ["cells", "left", "right", "n", "width", "down"] sp_z14 := by
 refine mq ?_; simp (disch := k_dflt (
 refine mz ?_
 refine Fn.on T.d_z14 sc_z14 (fun _ _ _ _ _ _ hr => bd_z14 T (ok_z49 T) (ok_y7 T) hr) fun vs H Q h => ?_
 obtain ⟨ca, m, x, y, n, w, down, rfl, hc, hm, hw, hx, hy, q⟩ := h
 refine ⟨rfl, ?_⟩
 rw [st_z14, rd_z14]
 have hn := row_few hw hm hx
 refine ⟨_, rfl, _, rfl, _, rfl, _, rfl, ca, m, x, n, w, rfl, hc, hm, hw, hx, fun H1 l s1 hl h1 => ?_⟩
 refine ⟨_, rfl, _, rfl, _, rfl, _, rfl, ca, m, y, n, w, rfl, s1 _ _ hc, hm, hw, hy, fun H2 r s2 hr h2 => ?_⟩
 refine ⟨_, rfl, _, rfl, n, down, rfl, hn, fun o ho => ?_⟩
 have s3 := same_upd (o := HO.lst (nv (Rw.order down n))) ho
 have sq := (s1.trans s2).trans s3
 have k1 := s3 _ _ (s2 _ _ h1)
 have k2 := s3 _ _ h2
 refine ⟨o, rfl, ⟨_, SqL.of upd_same⟩, ?_⟩
 refine for_list (xs := nv (Rw.order down n)) (fun i σ H' => (∃ o1, σ = [some (.ref ca), some (.int x), some (.int y), some (.int n), some (.int w), some (.bl down), some (.ref l), some (.ref r), o1]) ∧ H' = upd H2 o (.lst (nv (Rw.order down n))) ∧
   ∀ k j, k < i → (Rw.order down n)[k]? = some j → (Rw.at_ m x w j != Rw.at_ m y w j) = false) ?_ ?_ ?_ ?_
 · exact ⟨⟨none, rfl⟩, rfl, fun k j hk => by omega⟩
 · rintro i σ H' _ ⟨_, rfl, _⟩
   exact SqL.of upd_same
 · rintro i u σ H' hi ⟨⟨o1, rfl⟩, rfl, hb⟩
   rw [nv_get] at hi
   obtain ⟨j, hj, rfl⟩ := Option.map_eq_some_iff.mp hi
   have hjn := order_mem hj
   have e1 := rowN_at (m := m) (x := x) (w := w) hjn
   have e2 := rowN_at (m := m) (x := y) (w := w) hjn
   have hq : (Rw.at_ m x w j != Rw.at_ m y w j) = true → Q (.int (j : Nat)) (upd H2 o (.lst (nv (Rw.order down n)))) := fun h => by
     have := q _ sq
     unfold Rw.differAt at this
     rw [find_at hj h hb] at this
     exact this
   generalize hg : upd H2 o (.lst (nv (Rw.order down n))) = H3 at k1 k2 hq ⊢
   walk_at "wp"
   by_cases g : Rw.at_ m x w j = Rw.at_ m y w j
   · rw [if_neg (by omega)]
     refine ⟨⟨_, rfl⟩, fun k j' hk hj' => ?_⟩
     by_cases e : k = i
     · subst e
       rw [hj] at hj'
       cases hj'
       simp [g]
     · exact hb k j' (by omega) hj'
   · rw [if_pos (by omega)]
     exact hq (by simp [g])
 · rintro σ H' ⟨⟨o1, rfl⟩, rfl, hb⟩
   rw [nv_len] at hb
   have := q _ sq
   unfold Rw.differAt at this
   rw [find_none hb] at this
   exact ⟨_, rfl, this⟩)) only [↓mr]
theorem likes_count (m : Rw.Bytes) (x w n v : Nat) : (likes m x w n v).count true = Rw.countOf m x n w v := by
 unfold likes Rw.countOf
 rw [List.count_eq_countP, List.countP_map, List.countP_eq_length_filter]
 congr 2
 funext i
 simp
def sp_z40 : Sp := fun vs H Q _ => ∃ (ca : Addr) (m : Rw.Bytes) (x n w v : Nat), vs = [.ref ca, .int x, .int n, .int w, .int v] ∧ H ca = some (.lst (bv m)) ∧ m.length ≤ 256 ∧ Rw.fine w = true ∧ x + n * w ≤ m.length ∧
 ∀ H', Same H H' → Q (.int (Rw.countOf m x n w v : Nat)) H'
theorem ok_z40 (T : Txt K mg A) : Fn P w K mg base 4 A.z40 ["cells", "place", "n", "width", "number"] sp_z40 := by
 refine mq ?_; simp (disch := k_dflt (
 refine mz ?_
 refine Fn.on T.d_z40 sc_z40 (fun _ _ _ _ _ _ hr => bd_z40 T (ok_y9 T) hr) fun vs H Q h => ?_
 obtain ⟨ca, m, x, n, w, v, rfl, hc, hm, hw, hx, q⟩ := h
 refine ⟨rfl, ?_⟩
 rw [st_z40, rd_z40]
 refine ⟨_, rfl, _, rfl, _, rfl, _, rfl, _, rfl, ca, m, x, n, w, v, rfl, hc, hm, hw, hx, fun H1 l s1 hl h1 => ?_⟩
 refine ⟨.inl ⟨rfl, _, SqL.of h1⟩, l, _, rfl, rfl, h1, ?_⟩
 rw [likes_count]
 exact q H1 s1)) only [↓mr]
def spRow (f : Rw.Bytes → Nat → Nat → Nat → Rw.Bytes) : Sp := fun vs H Q _ => ∃ (ca : Addr) (m : Rw.Bytes) (x n w : Nat), vs = [.ref ca, .int x, .int n, .int w] ∧ H ca = some (.lst (bv m)) ∧ m.length ≤ 256 ∧ Rw.fine w = true ∧ x + n * w ≤ m.length ∧
 ∀ H', H' ca = some (.lst (bv (f m x n w))) → (∀ b o, H b = some o → b ≠ ca → H' b = some o) → Q .non H'
theorem ok_y4 (T : Txt K mg A) : Fn P w K mg base 3 A.y4 ["cells", "place", "n", "width"] (spRow Rw.rowTurned) := by
 refine mq ?_; simp (disch := k_dflt (
 refine mz ?_
 refine Fn.on T.d_y4 sc_y4 (fun _ _ _ _ _ _ hr => bd_y4 T (ok_z49 T) (ok_y11 T) hr) fun vs H Q h => ?_
 obtain ⟨ca, m, x, n, w, rfl, hc, hm, hw, hx, q⟩ := h
 refine ⟨rfl, ?_⟩
 rw [st_y4, rd_y4]
 refine ⟨_, rfl, _, rfl, _, rfl, _, rfl, ca, m, x, n, w, rfl, hc, hm, hw, hx, fun H1 l s1 hl h1 => ?_⟩
 refine ⟨_, rfl, _, rfl, _, rfl, _, rfl, l, _, rfl, h1, fun r hr => ?_⟩
 have hcr : ca ≠ r := fun e => by rw [← e, s1 _ _ hc] at hr; cases hr
 refine ⟨ca, r, m, x, w, (rowN m x w n).reverse, rfl, by rw [upd_ne hcr]; exact s1 _ _ hc, ?_, hcr, hm, hw, by rw [List.length_reverse, rowN_len]; exact hx, fun H2 k1 k2 => ?_⟩
 · rw [upd_same]
   unfold nv
   rw [List.map_reverse]
 · rw [List.length_reverse, rowN_len, puts_turned] at k1
   exact q H2 k1 fun b o h hb => k2 b o (by rw [upd_ne (ne_of_none (s1 _ _ h) hr)]; exact s1 _ _ h) hb)) only [↓mr]
theorem ok_z95 (T : Txt K mg A) : Fn P w K mg base 3 A.z95 ["cells", "place", "n", "width"] (spRow Rw.bytesTurned) := by
 refine mq ?_; simp (disch := k_dflt (
 refine mz ?_
 refine Fn.on T.d_z95 sc_z95 (fun _ _ _ _ _ _ hr => bd_z95 T (ok_z49 T) (ok_y11 T) (ok_z33 T) hr) fun vs H Q h => ?_
 obtain ⟨ca, m, x, n, w, rfl, hc, hm, hw, hx, q⟩ := h
 refine ⟨rfl, ?_⟩
 rw [st_z95, rd_z95]
 have hn := row_few hw hm hx
 refine ⟨_, rfl, _, rfl, _, rfl, _, rfl, ca, m, x, n, w, rfl, hc, hm, hw, hx, fun H1 l s1 hl h1 => ?_⟩
 refine ⟨_, rfl, _, rfl, _, rfl, _, rfl, l, rfl, ⟨_, SqL.of h1⟩, fun D hD => ?_⟩
 refine lc_list (xs := nv (rowN m x w n)) (fun i H' => Same H1 H' ∧ H' D = some (.lst ((List.range i).map fun i => V.int (Rw.turned w (Rw.at_ m x w i) : Nat)))) ?_ ?_ ?_ ?_
 · exact ⟨same_upd hD, upd_same⟩
 · rintro i H' _ ⟨s2, _⟩
   exact SqL.of (s2 _ _ h1)
 · rintro i y H' hi ⟨s2, hd⟩
   have hin : i < n := by
     have := (List.getElem?_eq_some_iff.mp hi).1
     rwa [nv_len, rowN_len] at this
   rw [nv_get, rowN_get hin] at hi
   cases hi
   refine ⟨rfl, ?_⟩
   refine ⟨_, rfl, _, rfl, Rw.at_ m x w i, w, rfl, fine_le hw, ?_⟩
   exact lc_next (val := fun i => V.int (Rw.turned w (Rw.at_ m x w i) : Nat)) hD s2 hd (Same.refl _) rfl (by omega)
 · rintro H2 ⟨s2, hd⟩
   rw [nv_len, rowN_len] at hd
   have hcD : ca ≠ D := fun e => by rw [← e, s1 _ _ hc] at hD; cases hD
   refine ⟨ca, D, m, x, w, (rowN m x w n).map (Rw.turned w), rfl, s2 _ _ (s1 _ _ hc), ?_, hcD, hm, hw, by rw [List.length_map, rowN_len]; exact hx, fun H3 k1 k2 => ?_⟩
   · rw [hd]
     unfold nv rowN
     rw [List.map_map, List.map_map]
     rfl
   · rw [List.length_map, rowN_len, puts_swapped] at k1
     exact q H3 k1 fun b o h hb => k2 b o (s2 _ _ (s1 _ _ h)) hb)) only [↓mr]
theorem echo_is {m : Rw.Bytes} {x p n : Nat} (hp : p ≤ x) : Rw.copied m x (x - p) n 1 false = Rw.echoed m x p n := rfl
theorem moved_len {m : Rw.Bytes} {d s n w : Nat} {down : Bool} (h : d + n * w ≤ m.length) : (Rw.copied m d s n w down).length = m.length := by
 rw [← Rm.moved_all, Rm.moved_take_len _ h]
theorem ok_z92 (T : Txt K mg A) : Fn P w K mg base 3 A.z92 ["machine", "numbers", "data"] (sp_call A 3 fun ns _ => .echo (ns.getD 0 0) (ns.getD 1 0) (ns.getD 2 0)) := by
 refine mq ?_; simp (disch := k_dflt (
 refine mz ?_
 refine Fn.on T.d_z92 sc_z92 (fun _ _ _ _ _ _ hr => bd_z92 T (ok_y26 T) (ok_z94 T) hr) fun vs H Q h => ?_
 obtain ⟨L, z, na, da, ns, ds, rfl, M, hna, hda, hnl, hdl, q⟩ := h
 refine ⟨rfl, ?_⟩
 rw [st_z92, rd_z92]
 obtain ⟨a, b, c, rfl⟩ : ∃ a b c, ns = [a, b, c] := len3 hnl
 have i0 : atI (iv [a, b, c]) 0 = some (V.int a) := rfl
 have i1 : atI (iv [a, b, c]) 1 = some (V.int b) := rfl
 have i2 : atI (iv [a, b, c]) 2 = some (V.int c) := rfl
 have q : Post A H L (RwReelSeed.made z (decide (1 ≤ b) && (decide (b ≤ a) && RwReelSeed.row z a c 1)) (fun (_ : Unit) => Rw.echoed z.s.mem a.toNat b.toNat c.toNat)) Q := q
 obtain ⟨t1, t2, t3, t4, t5, t6⟩ := T.mach
 have h1 := M.obj
 have hr1 := @Rm.row_iff z a c 1
 unfold RwReelSeed.made at q
 walk_at "wp"
 refine ⟨L.ca, z.s.mem, a, c, 1, rfl, M.cells, _, rfl, ?_⟩
 rw [← hr1]
 cases g1 : RwReelSeed.row z a c 1 with
 | false =>
   rw [g1, Bool.and_false, Bool.and_false, if_neg (by simp)] at q
   rw [if_pos rfl]
   exact fun p hp => q.same M (Same.refl _) hp rfl
 | true =>
 rw [g1, Bool.and_true] at q
 rw [if_neg (by simp)]
 by_cases g3 : 1 ≤ b
 · rw [if_pos g3]
   rw [decide_eq_true g3, Bool.true_and] at q
   by_cases g4 : b ≤ a
   · rw [if_neg (fun h => h g4)]
     rw [decide_eq_true g4, if_pos rfl] at q
     clear hr1
     walk_at "wp"
     obtain ⟨x0, x1, x2, x3, x4⟩ := row_nat g1
     have x4 : a.toNat + c.toNat * 1 ≤ z.s.mem.length := x4
     refine ⟨L.ca, z.s.mem, a.toNat, a.toNat - b.toNat, c.toNat, 1, false, ?_, M.cells, M.mem, rfl, x4, by omega, fun H1 k1 k2 => ?_⟩
     · rw [Int.toNat_of_nonneg x0, Int.toNat_of_nonneg x1, show ((a.toNat - b.toNat : Nat) : Int) = a - b by omega]
       rfl
     · have M2 := M.cellsTo k1 k2 (by rw [moved_len x4]; exact M.mem)
       exact fun p hp => q.at M2.1 M2.2 hp rfl
   · rw [if_pos g4]
     rw [decide_eq_false g4, if_neg (by simp)] at q
     exact fun p hp => q.same M (Same.refl _) hp rfl
 · rw [if_neg g3]
   rw [decide_eq_false g3, Bool.false_and, if_neg (by simp)] at q
   exact fun p hp => q.same M (Same.refl _) hp rfl)) only [↓mr]
def sp_y29 (A : Ad) : Sp := fun vs H Q _ => ∃ (L : Loc) (z : Z) (na : Addr) (a b c d e : Int) (down : Bool), vs = [.ref L.p, .ref na, .bl down] ∧ MachAt A H L z ∧ H na = some (.lst (iv [a, b, c, d, e])) ∧
 Post A H L (RwReelSeed.found z (RwReelSeed.word d && (RwReelSeed.within 0 1 e && RwReelSeed.row z a b c)) (fun (_ : Unit) => foundIn z.s.mem a.toNat b.toNat c.toNat d.toNat (e == 1) down)) Q
theorem ok_y29 (T : Txt K mg A) : Fn P w K mg base 5 A.y29 ["machine", "numbers", "down"] (sp_y29 A) := by
 refine mq ?_; simp (disch := k_dflt (
 refine mz ?_
 refine Fn.on T.d_y29 sc_y29 (fun _ _ _ _ _ _ hr => bd_y29 T (ok_y26 T) (ok_z47 T) hr) fun vs H Q h => ?_
 obtain ⟨L, z, na, a, b, c, d, e, down, rfl, M, hna, q⟩ := h
 refine ⟨rfl, ?_⟩
 rw [st_y29, rd_y29]
 have i0 : atI (iv [a, b, c, d, e]) 0 = some (V.int a) := rfl
 have i1 : atI (iv [a, b, c, d, e]) 1 = some (V.int b) := rfl
 have i2 : atI (iv [a, b, c, d, e]) 2 = some (V.int c) := rfl
 have i3 : atI (iv [a, b, c, d, e]) 3 = some (V.int d) := rfl
 have i4 : atI (iv [a, b, c, d, e]) 4 = some (V.int e) := rfl
 obtain ⟨t1, t2, t3, t4, t5, t6⟩ := T.mach
 have h1 := M.obj
 have hr1 := @Rm.row_iff z a b c
 unfold RwReelSeed.found at q
 walk_at "wp"
 refine ⟨L.ca, z.s.mem, a, b, c, rfl, M.cells, _, rfl, ?_⟩
 rw [← hr1]
 cases g1 : RwReelSeed.row z a b c with
 | false =>
   rw [g1, Bool.and_false, Bool.and_false, if_neg (by simp)] at q
   rw [if_pos rfl]
   exact fun p hp => q.same M (Same.refl _) hp rfl
 | true =>
 rw [g1, Bool.and_true] at q
 rw [if_neg (by simp)]
 have hw : RwReelSeed.within 0 1 e = (decide (0 ≤ e) && decide (e ≤ 1)) := rfl
 have hv : RwReelSeed.word d = (decide (0 ≤ d) && decide (d ≤ 18446744073709551615)) := rfl
 rw [hw, hv] at q
 by_cases ok : (0 ≤ d ∧ d < 18446744073709551616) ∧ (0 ≤ e ∧ e ≤ 1)
 · obtain ⟨⟨o1, o2⟩, o3, o4⟩ := ok
   rw [decide_eq_true o1, decide_eq_true (by omega), decide_eq_true o3, decide_eq_true o4, if_pos (by rfl)] at q
   rw [if_pos o1, if_neg (fun h => h o2), if_pos o3, if_neg (fun h => h o4)]
   clear hr1
   walk_at "wp"
   obtain ⟨x0, x1, x2, x3, x4⟩ := row_nat g1
   refine ⟨L.ca, z.s.mem, a.toNat, b.toNat, c.toNat, d.toNat, (e == 1), down, ?_, M.cells, M.mem, x3, x4, fun H1 s1 => ?_⟩
   · rw [Int.toNat_of_nonneg x0, Int.toNat_of_nonneg x1, Int.toNat_of_nonneg x2, Int.toNat_of_nonneg o1, Bool.beq_eq_decide_eq]
   · exact fun p hp => q.same M s1 hp rfl
 · have hno : ((decide (0 ≤ d) && decide (d ≤ 18446744073709551615)) && (decide (0 ≤ e) && decide (e ≤ 1))) = false := by
     rw [Bool.eq_false_iff]
     intro h
     simp only [Bool.and_eq_true, decide_eq_true_eq] at h
     apply ok
     omega
   rw [hno, if_neg (by simp)] at q
   have r : ∀ p, H p = none → Q (V.ref p) (upd H p (HO.lst [V.int (-1)])) := fun p hp => q.same M (Same.refl _) hp rfl
   repeat' split
   all_goals first
     | exact r
     | (exfalso; apply ok; omega))) only [↓mr]
theorem ok_z67 (T : Txt K mg A) : Fn P w K mg base 6 A.z67 ["machine", "numbers", "data"] (sp_call A 5 fun ns _ => .first (ns.getD 0 0) (ns.getD 1 0) (ns.getD 2 0) (ns.getD 3 0) (ns.getD 4 0)) := by
 refine Fn.on T.d_z67 sc_z67 (fun _ _ _ _ _ _ hr => bd_z67 T (ok_y29 T) hr) fun vs H Q h => ?_
 obtain ⟨L, z, na, da, ns, ds, rfl, M, hna, hda, hnl, hdl, q⟩ := h
 refine ⟨rfl, ?_⟩
 rw [st_z67, rd_z67]
 obtain ⟨a, b, c, d, e, rfl⟩ : ∃ a b c d e, ns = [a, b, c, d, e] := len5 hnl
 exact ⟨_, rfl, _, rfl, L, z, na, a, b, c, d, e, false, rfl, M, hna, q⟩
theorem ok_z80 (T : Txt K mg A) : Fn P w K mg base 6 A.z80 ["machine", "numbers", "data"] (sp_call A 5 fun ns _ => .last (ns.getD 0 0) (ns.getD 1 0) (ns.getD 2 0) (ns.getD 3 0) (ns.getD 4 0)) := by
 refine Fn.on T.d_z80 sc_z80 (fun _ _ _ _ _ _ hr => bd_z80 T (ok_y29 T) hr) fun vs H Q h => ?_
 obtain ⟨L, z, na, da, ns, ds, rfl, M, hna, hda, hnl, hdl, q⟩ := h
 refine ⟨rfl, ?_⟩
 rw [st_z80, rd_z80]
 obtain ⟨a, b, c, d, e, rfl⟩ : ∃ a b c d e, ns = [a, b, c, d, e] := len5 hnl
 exact ⟨_, rfl, _, rfl, L, z, na, a, b, c, d, e, true, rfl, M, hna, q⟩
theorem ok_z50 (T : Txt K mg A) : Fn P w K mg base 4 A.z50 ["machine", "numbers", "data"] (sp_call A 5 fun ns _ => .differ (ns.getD 0 0) (ns.getD 1 0) (ns.getD 2 0) (ns.getD 3 0) (ns.getD 4 0)) := by
 refine mq ?_; simp (disch := k_dflt (
 refine mz ?_
 refine Fn.on T.d_z50 sc_z50 (fun _ _ _ _ _ _ hr => bd_z50 T (ok_z34 T) (ok_z14 T) hr) fun vs H Q h => ?_
 obtain ⟨L, z, na, da, ns, ds, rfl, M, hna, hda, hnl, hdl, q⟩ := h
 refine ⟨rfl, ?_⟩
 rw [st_z50, rd_z50]
 obtain ⟨a, b, c, d, e, rfl⟩ : ∃ a b c d e, ns = [a, b, c, d, e] := len5 hnl
 have i0 : atI (iv [a, b, c, d, e]) 0 = some (V.int a) := rfl
 have i1 : atI (iv [a, b, c, d, e]) 1 = some (V.int b) := rfl
 have i2 : atI (iv [a, b, c, d, e]) 2 = some (V.int c) := rfl
 have i3 : atI (iv [a, b, c, d, e]) 3 = some (V.int d) := rfl
 have i4 : atI (iv [a, b, c, d, e]) 4 = some (V.int e) := rfl
 have q : Post A H L (RwReelSeed.found z (RwReelSeed.within 0 1 e && (RwReelSeed.row z a c d && RwReelSeed.row z b c d)) (fun (_ : Unit) => Rw.differAt z.s.mem a.toNat b.toNat c.toNat d.toNat (e == 1))) Q := q
 obtain ⟨t1, t2, t3, t4, t5, t6⟩ := T.mach
 have h1 := M.obj
 unfold RwReelSeed.found at q
 walk_at "wp"
 refine ⟨L.ca, z, a, b, c, d, rfl, M.cells, _, rfl, ?_⟩
 cases g1 : (RwReelSeed.row z a c d && RwReelSeed.row z b c d) with
 | false =>
   rw [g1, Bool.and_false, if_neg (by simp)] at q
   rw [if_pos rfl]
   exact fun p hp => q.same M (Same.refl _) hp rfl
 | true =>
 rw [g1, Bool.and_true] at q
 rw [if_neg (by simp)]
 rw [Bool.and_eq_true] at g1
 obtain ⟨g1, g2⟩ := g1
 have hw : RwReelSeed.within 0 1 e = (decide (0 ≤ e) && decide (e ≤ 1)) := rfl
 rw [hw] at q
 by_cases g3 : 0 ≤ e
 · rw [if_pos g3]
   rw [decide_eq_true g3, Bool.true_and] at q
   by_cases g4 : e ≤ 1
   · rw [if_neg (fun h => h g4)]
     rw [decide_eq_true g4, if_pos rfl] at q
     walk_at "wp"
     obtain ⟨x0, x1, x2, x3, x4⟩ := row_nat g1
     obtain ⟨y0, y1, y2, y3, y4⟩ := row_nat g2
     refine ⟨L.ca, z.s.mem, a.toNat, b.toNat, c.toNat, d.toNat, (e == 1), ?_, M.cells, M.mem, x3, x4, y4, fun H1 s1 => ?_⟩
     · rw [Int.toNat_of_nonneg x0, Int.toNat_of_nonneg y0, Int.toNat_of_nonneg x1, Int.toNat_of_nonneg x2, Bool.beq_eq_decide_eq]
     · exact fun p hp => q.same M s1 hp rfl
   · rw [if_pos g4]
     rw [decide_eq_false g4, if_neg (by simp)] at q
     exact fun p hp => q.same M (Same.refl _) hp rfl
 · rw [if_neg g3]
   rw [decide_eq_false g3, Bool.false_and, if_neg (by simp)] at q
   exact fun p hp => q.same M (Same.refl _) hp rfl)) only [↓mr]
theorem ok_z66 (T : Txt K mg A) : Fn P w K mg base 5 A.z66 ["machine", "numbers", "data"] (sp_call A 4 fun ns _ => .count (ns.getD 0 0) (ns.getD 1 0) (ns.getD 2 0) (ns.getD 3 0)) := by
 refine mq ?_; simp (disch := k_dflt (
 refine mz ?_
 refine Fn.on T.d_z66 sc_z66 (fun _ _ _ _ _ _ hr => bd_z66 T (ok_y26 T) (ok_z40 T) hr) fun vs H Q h => ?_
 obtain ⟨L, z, na, da, ns, ds, rfl, M, hna, hda, hnl, hdl, q⟩ := h
 refine ⟨rfl, ?_⟩
 rw [st_z66, rd_z66]
 obtain ⟨a, c, d, v, rfl⟩ : ∃ a c d v, ns = [a, c, d, v] := len4 hnl
 have i0 : atI (iv [a, c, d, v]) 0 = some (V.int a) := rfl
 have i1 : atI (iv [a, c, d, v]) 1 = some (V.int c) := rfl
 have i2 : atI (iv [a, c, d, v]) 2 = some (V.int d) := rfl
 have i3 : atI (iv [a, c, d, v]) 3 = some (V.int v) := rfl
 have q : Post A H L (RwReelSeed.found z (RwReelSeed.word v && RwReelSeed.row z a c d) (fun (_ : Unit) => Rw.countOf z.s.mem a.toNat c.toNat d.toNat v.toNat)) Q := q
 obtain ⟨t1, t2, t3, t4, t5, t6⟩ := T.mach
 have h1 := M.obj
 have hr1 := @Rm.row_iff z a c d
 unfold RwReelSeed.found at q
 walk_at "wp"
 refine ⟨L.ca, z.s.mem, a, c, d, rfl, M.cells, _, rfl, ?_⟩
 rw [← hr1]
 cases g1 : RwReelSeed.row z a c d with
 | false =>
   rw [g1, Bool.and_false, if_neg (by simp)] at q
   rw [if_pos rfl]
   exact fun p hp => q.same M (Same.refl _) hp rfl
 | true =>
 rw [g1, Bool.and_true] at q
 rw [if_neg (by simp)]
 have hw : RwReelSeed.word v = (decide (0 ≤ v) && decide (v ≤ 18446744073709551615)) := rfl
 rw [hw] at q
 by_cases g3 : 0 ≤ v
 · rw [if_pos g3]
   rw [decide_eq_true g3, Bool.true_and] at q
   by_cases g4 : v < 18446744073709551616
   · rw [if_neg (fun h => h g4)]
     rw [decide_eq_true (by omega), if_pos rfl] at q
     clear hr1
     walk_at "wp"
     obtain ⟨x0, x1, x2, x3, x4⟩ := row_nat g1
     refine ⟨L.ca, z.s.mem, a.toNat, c.toNat, d.toNat, v.toNat, ?_, M.cells, M.mem, x3, x4, fun H1 s1 => ?_⟩
     · rw [Int.toNat_of_nonneg x0, Int.toNat_of_nonneg x1, Int.toNat_of_nonneg x2, Int.toNat_of_nonneg g3]
     · exact fun p hp => q.same M s1 hp rfl
   · rw [if_pos g4]
     rw [decide_eq_false (by omega), if_neg (by simp)] at q
     exact fun p hp => q.same M (Same.refl _) hp rfl
 · rw [if_neg g3]
   rw [decide_eq_false g3, Bool.false_and, if_neg (by simp)] at q
   exact fun p hp => q.same M (Same.refl _) hp rfl)) only [↓mr]
def sp_z63 (P : Program) (w : World) (K : PySem.W.Frag) (mg : Str → Option Value) (base : Heap) (A : Ad) : Sp := fun vs H Q _ => ∃ (L : Loc) (z : Z) (na g : Addr) (a b c : Int) (f : Rw.Bytes → Nat → Nat → Nat → Rw.Bytes), vs = [.ref L.p, .ref na, .ref g] ∧ MachAt A H L z ∧ H na = some (.lst (iv [a, b, c])) ∧
 Fn P w K mg base 3 g ["cells", "place", "n", "width"] (spRow f) ∧ (∀ m x n w, x + n * w ≤ m.length → (f m x n w).length = m.length) ∧ Post A H L (RwReelSeed.made z (RwReelSeed.row z a b c) (fun (_ : Unit) => f z.s.mem a.toNat b.toNat c.toNat)) Q
theorem ok_z63 (T : Txt K mg A) : Fn P w K mg base 4 A.z63 ["machine", "numbers", "change"] (sp_z63 P w K mg base A) := by
 refine mq ?_; simp (disch := k_dflt (
 refine mz ?_
 refine Fn.on T.d_z63 sc_z63 (fun _ _ _ _ _ _ hr => bd_z63 T (ok_y26 T) hr) fun vs H Q h => ?_
 obtain ⟨L, z, na, g, a, b, c, f, rfl, M, hna, F, hf, q⟩ := h
 refine ⟨rfl, ?_⟩
 rw [st_z63, rd_z63]
 have i0 : atI (iv [a, b, c]) 0 = some (V.int a) := rfl
 have i1 : atI (iv [a, b, c]) 1 = some (V.int b) := rfl
 have i2 : atI (iv [a, b, c]) 2 = some (V.int c) := rfl
 obtain ⟨t1, t2, t3, t4, t5, t6⟩ := T.mach
 have h1 := M.obj
 have hr1 := @Rm.row_iff z a b c
 unfold RwReelSeed.made at q
 walk_at "wp"
 refine ⟨L.ca, z.s.mem, a, b, c, rfl, M.cells, _, rfl, ?_⟩
 rw [← hr1]
 cases g1 : RwReelSeed.row z a b c with
 | false =>
   rw [g1, if_neg (by simp)] at q
   rw [if_pos rfl]
   exact fun p hp => q.same M (Same.refl _) hp rfl
 | true =>
 rw [g1, if_pos rfl] at q
 rw [if_neg (by simp)]
 clear hr1
 refine ⟨3, g, _, _, rfl, ⟨F, by decide⟩, ?_⟩
 walk_at "wp"
 obtain ⟨x0, x1, x2, x3, x4⟩ := row_nat g1
 refine ⟨L.ca, z.s.mem, a.toNat, b.toNat, c.toNat, ?_, M.cells, M.mem, x3, x4, fun H1 k1 k2 => ?_⟩
 · rw [Int.toNat_of_nonneg x0, Int.toNat_of_nonneg x1, Int.toNat_of_nonneg x2]
 · have M2 := M.cellsTo k1 k2 (by rw [hf _ _ _ _ x4]; exact M.mem)
   exact fun p hp => q.at M2.1 M2.2 hp rfl)) only [↓mr]
theorem ok_z73 (T : Txt K mg A) : Fn P w K mg base 5 A.z73 ["machine", "numbers", "data"] (sp_call A 3 fun ns _ => .turn (ns.getD 0 0) (ns.getD 1 0) (ns.getD 2 0)) := by
 refine mq ?_; simp (disch := k_dflt (
 refine mz ?_
 refine Fn.on T.d_z73 sc_z73 (fun _ _ _ _ _ _ hr => bd_z73 T (ok_z63 T) hr) fun vs H Q h => ?_
 obtain ⟨L, z, na, da, ns, ds, rfl, M, hna, hda, hnl, hdl, q⟩ := h
 refine ⟨rfl, ?_⟩
 rw [st_z73, rd_z73]
 obtain ⟨a, b, c, rfl⟩ : ∃ a b c, ns = [a, b, c] := len3 hnl
 exact ⟨_, rfl, _, rfl, L, z, na, A.y4, a, b, c, Rw.rowTurned, rfl, M, hna, ok_y4 T, fun m x n w h => Rm.rowTo_len h n (Nat.le_refl _), q⟩)) only [↓mr]
theorem ok_z83 (T : Txt K mg A) : Fn P w K mg base 5 A.z83 ["machine", "numbers", "data"] (sp_call A 3 fun ns _ => .swap (ns.getD 0 0) (ns.getD 1 0) (ns.getD 2 0)) := by
 refine mq ?_; simp (disch := k_dflt (
 refine mz ?_
 refine Fn.on T.d_z83 sc_z83 (fun _ _ _ _ _ _ hr => bd_z83 T (ok_z63 T) hr) fun vs H Q h => ?_
 obtain ⟨L, z, na, da, ns, ds, rfl, M, hna, hda, hnl, hdl, q⟩ := h
 refine ⟨rfl, ?_⟩
 rw [st_z83, rd_z83]
 obtain ⟨a, b, c, rfl⟩ : ∃ a b c, ns = [a, b, c] := len3 hnl
 exact ⟨_, rfl, _, rfl, L, z, na, A.z95, a, b, c, Rw.bytesTurned, rfl, M, hna, ok_z95 T, fun m x n w h => Rm.bytesTo_len h n (Nat.le_refl _), q⟩)) only [↓mr]
def sp_z36 : Sp := fun vs H Q _ => ∃ v : Nat, vs = [.int v] ∧ Q (.int (Rm.need v : Nat)) H
theorem ok_z36 (T : Txt K mg A) : Fn P w K mg base 1 A.z36 ["head"] sp_z36 := by
 refine mq ?_; simp (disch := k_dflt (
 refine mz ?_
 refine Fn.on T.d_z36 sc_z36 (fun _ _ _ _ _ _ hr => bd_z36 T hr) fun vs H Q h => ?_
 obtain ⟨v, rfl, q⟩ := h
 refine ⟨rfl, ?_⟩
 rw [st_z36, rd_z36]
 unfold Rm.need at q
 walk_at "wp"
 by_cases g : v < 128
 · rw [if_pos g] at q
   rw [if_pos (by omega)]
   exact q
 · rw [if_neg g] at q
   rw [if_neg (by omega)]
   by_cases g : v < 192
   · rw [if_pos g] at q
     rw [if_pos (by omega)]
     exact q
   · rw [if_neg g] at q
     rw [if_neg (by omega)]
     exact q)) only [↓mr]
def sp_z61 : Sp := fun vs H Q _ => ∃ v : Nat, vs = [.int v] ∧ Q (.int (Rm.mkn v : Nat)) H
theorem ok_z61 (T : Txt K mg A) : Fn P w K mg base 1 A.z61 ["head"] sp_z61 := by
 refine mq ?_; simp (disch := k_dflt (
 refine mz ?_
 refine Fn.on T.d_z61 sc_z61 (fun _ _ _ _ _ _ hr => bd_z61 T hr) fun vs H Q h => ?_
 obtain ⟨v, rfl, q⟩ := h
 refine ⟨rfl, ?_⟩
 rw [st_z61, rd_z61]
 unfold Rm.mkn at q
 walk_at "wp"
 by_cases g : v < 128
 · rw [if_pos g] at q
   rw [if_pos (by omega)]
   exact q
 · rw [if_neg g] at q
   rw [if_neg (by omega)]
   by_cases g : v < 192
   · rw [if_pos g] at q
     rw [if_pos (by omega), show (v : Int) - 128 + 3 = ((v - 125 : Nat) : Int) by omega]
     exact q
   · rw [if_neg g] at q
     rw [if_neg (by omega), show (v : Int) - 192 + 3 = ((v - 189 : Nat) : Int) by omega]
     exact q)) only [↓mr]
def sp_z44 : Sp := fun vs H Q _ => ∃ (na : Addr) (nd : Rw.Bytes), vs = [.ref na] ∧ H na = some (.lst (bv nd)) ∧ 2 ≤ nd.length ∧ ∀ H', Same H H' → Q (.int (Rm.backOf nd : Nat)) H'
theorem ok_z44 (T : Txt K mg A) : Fn P w K mg base 2 A.z44 ["needed"] sp_z44 := by
 refine Fn.on T.d_z44 sc_z44 (fun _ _ _ _ _ _ hr => bd_z44 T (ok_z75 T) hr) fun vs H Q h => ?_
 obtain ⟨na, nd, rfl, hna, h2, q⟩ := h
 refine ⟨rfl, ?_⟩
 rw [st_z44, rd_z44]
 exact ⟨_, rfl, na, nd, 0, 2, rfl, hna, by omega, q⟩
def sp_y6 : Sp := fun vs H Q _ => ∃ (na : Addr) (nd : Rw.Bytes) (v k room : Nat), vs = [.int v, .ref na, .int k, .int room] ∧ H na = some (.lst (bv nd)) ∧ ∀ H', Same H H' → Q (.int (Rm.fault v nd k room)) H'
theorem ok_y6 (T : Txt K mg A) : Fn P w K mg base 3 A.y6 ["head", "needed", "how_many_made", "room"] sp_y6 := by
 refine mq ?_; simp (disch := k_dflt (
 refine mz ?_
 refine Fn.on T.d_y6 sc_y6 (fun _ _ _ _ _ _ hr => bd_y6 T (ok_z36 T) (ok_z44 T) (ok_z61 T) hr) fun vs H Q h => ?_
 obtain ⟨na, nd, v, k, room, rfl, hna, q⟩ := h
 refine ⟨rfl, ?_⟩
 rw [st_y6, rd_y6]
 have hl := bv_len nd
 unfold Rm.fault at q
 walk_at "wp"
 refine ⟨v, rfl, _, rfl, ?_⟩
 by_cases g1 : nd.length < Rm.need v
 · rw [if_pos (by omega)]
   simp only [if_pos g1] at q
   exact q H (Same.refl _)
 rw [if_neg (by omega)]
 simp only [if_neg g1] at q
 have last : ∀ H1, Same H H1 → (192 ≤ v → 1 ≤ Rm.backOf nd ∧ Rm.backOf nd ≤ k) → sp_z61 [V.int v] H1 (fun y H2 => ∃ x, y = V.int x ∧ if (room : Int) < k + x then Q (V.int (-4)) H2 else Q (V.int 0) H2) E0 := fun H1 s1 hb => by
   have q := q H1 s1
   rw [if_neg (fun h => h.2 (hb h.1))] at q
   refine ⟨v, rfl, _, rfl, ?_⟩
   by_cases g3 : room < k + Rm.mkn v
   · rw [if_pos g3] at q
     rw [if_pos (by omega)]
     exact q
   · rw [if_neg g3] at q
     rw [if_neg (by omega)]
     exact q
 by_cases g2 : 192 ≤ v
 · rw [if_pos (by omega)]
   have hn2 : Rm.need v = 2 := by unfold Rm.need; rw [if_neg (by omega), if_neg (by omega)]
   refine ⟨na, nd, rfl, hna, by omega, fun H1 s1 => ⟨_, rfl, ?_⟩⟩
   by_cases g4 : 1 ≤ Rm.backOf nd
   · rw [if_pos (by omega)]
     refine ⟨_, rfl, ?_⟩
     by_cases g5 : Rm.backOf nd ≤ k
     · rw [if_neg (by omega)]
       exact last H1 s1 fun _ => ⟨g4, g5⟩
     · rw [if_pos (by omega)]
       have q := q H1 s1
       rw [if_pos ⟨g2, fun h => g5 h.2⟩] at q
       exact q
   · rw [if_neg (by omega)]
     have q := q H1 s1
     rw [if_pos ⟨g2, fun h => g4 h.1⟩] at q
     exact q
 · rw [if_neg (by omega)]
   exact last H (Same.refl _) (fun h => absurd h g2))) only [↓mr]
theorem bv_app (a b : Rw.Bytes) : bv (a ++ b) = bv a ++ bv b := by
 unfold bv RwReelSeed.nums
 rw [List.map_append, List.map_append]
theorem bv_get (m : Rw.Bytes) (i : Nat) : (bv m)[i]? = (m[i]?).map fun c => V.int (c.toNat : Nat) := by
 unfold bv RwReelSeed.nums
 rw [List.getElem?_map, List.getElem?_map]
 cases m[i]? <;> rfl
theorem bv_rep (n : Nat) (c : UInt8) : (List.replicate n (bv [c])).flatten = bv (List.replicate n c) := by
 induction n with
 | zero => rfl
 | succ n ih =>
   rw [List.replicate_succ, List.flatten_cons, ih, List.replicate_succ, ← bv_app]
   rfl
theorem mkn_le {v : Nat} (h : v < 256) : Rm.mkn v ≤ 128 := by
 unfold Rm.mkn
 split
 · omega
 · split <;> omega
def sp_z68 : Sp := fun vs H Q _ => ∃ (ma na : Addr) (out nd : Rw.Bytes) (v : Nat), vs = [.ref ma, .int v, .ref na] ∧ H ma = some (.lst (bv out)) ∧ H na = some (.lst (bv nd)) ∧ ma ≠ na ∧ v < 256 ∧ nd.length = Rm.need v ∧ (192 ≤ v → 1 ≤ Rm.backOf nd ∧ Rm.backOf nd ≤ out.length) ∧ out.length ≤ 5000 ∧
 ∀ H', H' ma = some (.lst (bv (Rm.madeOf out v nd))) → (∀ b o, H b = some o → b ≠ ma → H' b = some o) → Q .non H'
theorem ok_z68 (T : Txt K mg A) : Fn P w K mg base 3 A.z68 ["made", "head", "needed"] sp_z68 := by
 refine mq ?_; simp (disch := k_dflt (
 refine mz ?_
 refine Fn.on T.d_z68 sc_z68 (fun _ _ _ _ _ _ hr => bd_z68 T (ok_z61 T) (ok_z44 T) hr) fun vs H Q h => ?_
 obtain ⟨ma, na, out, nd, v, rfl, hma, hna, hne, hv, hnd, hb, ho, q⟩ := h
 refine ⟨rfl, ?_⟩
 rw [st_z68, rd_z68]
 have hl := bv_len nd
 have hlo := bv_len out
 have hk := mkn_le hv
 have big : (20000 : Nat) < sizeLine := by decide
 unfold Rm.madeOf at q
 refine ⟨_, rfl, _, _, rfl, rfl, _, rfl, ?_⟩
 show (if decide ((v : Int) < _) = true then _ else _)
 by_cases g1 : v < 128
 · rw [if_pos (decide_eq_true (by omega))]
   simp only [if_pos g1] at q
   have hn : Rm.need v = v + 1 := by unfold Rm.need; rw [if_pos g1]
   refine ⟨_, rfl, .inl ⟨rfl, _, SqL.of hma⟩, _, rfl, ma, na, _, _, rfl, rfl, hma, hna, by omega, ?_⟩
   refine q _ ?_ fun b o h hb => by rw [upd_ne hb]; exact h
   rw [upd_same, bv_app]
 rw [if_neg (by simp only [decide_eq_true_eq]; omega)]
 simp only [if_neg g1] at q
 refine ⟨_, rfl, _, _, rfl, rfl, _, rfl, ?_⟩
 show (if decide ((v : Int) < _) = true then _ else _)
 by_cases g2 : v < 192
 · rw [if_pos (decide_eq_true (by omega))]
   simp only [if_pos g2] at q
   have hn : Rm.need v = 1 := by unfold Rm.need; rw [if_neg g1, if_pos g2]
   have hm : Rm.mkn v = v - 125 := by unfold Rm.mkn; rw [if_neg g1, if_pos g2]
   obtain ⟨c, rfl⟩ : ∃ c, nd = [c] := List.length_eq_one_iff.mp (hnd.trans hn)
   refine ⟨_, rfl, .inl ⟨rfl, _, SqL.of hma⟩, _, rfl, _, rfl, v, rfl, na, _, _, rfl, rfl, hna, by omega, by omega, ?_, fun p hp => ?_⟩
   · rw [hl, Int.toNat_natCast]
     simp only [List.length_cons, List.length_nil]
     omega
   · have hpm : ma ≠ p := fun e => by rw [← e, hma] at hp; cases hp
     rw [Int.toNat_natCast, bv_rep]
     refine ⟨ma, p, _, _, rfl, rfl, by rw [upd_ne hpm]; exact hma, upd_same, by rw [bv_len, bv_len, List.length_replicate]; omega, ?_⟩
     refine q _ ?_ fun b o h hb => by rw [upd_ne hb, upd_ne (ne_of_none h hp)]; exact h
     rw [upd_same, bv_app, hm]
     rfl
 rw [if_neg (by simp only [decide_eq_true_eq]; omega)]
 simp only [if_neg g2] at q
 have hn : Rm.need v = 2 := by unfold Rm.need; rw [if_neg g1, if_neg g2]
 have hm : Rm.mkn v = v - 189 := by unfold Rm.mkn; rw [if_neg g1, if_neg g2]
 have hb := hb (by omega)
 refine ⟨_, rfl, na, nd, rfl, hna, by omega, fun H1 s1 => ?_⟩
 generalize Rm.backOf nd = p at q hb ⊢
 refine ⟨_, rfl, v, rfl, _, rfl, by omega, by omega, ?_⟩
 refine for_range (n := Rm.mkn v) (fun i σ H' => (∃ o1, σ = [some (.ref ma), some (.int v), some (.ref na), some (.int p), o1]) ∧ H' ma = some (.lst (bv (Rw.repeated p i out))) ∧ ∀ b o, H b = some o → b ≠ ma → H' b = some o) ?_ ?_ ?_
 · exact ⟨⟨none, rfl⟩, s1 _ _ hma, fun b o h _ => s1 _ _ h⟩
 · rintro i σ H' hi ⟨⟨o1, rfl⟩, hc', hk'⟩
   have hrl := Rm.repeated_len p i out
   have hsn := Rm.repeated_snoc p i out
   generalize Rw.repeated p i out = u at hc' hrl hsn
   have hul := bv_len u
   have ei : atI (bv u) ((u.length : Int) - (p : Int)) = some (V.int ((u.getD (u.length - p) 0).toNat : Nat)) := by
     rw [show (u.length : Int) - (p : Int) = ((u.length - p : Nat) : Int) by omega]
     apply atI_nat
     rw [bv_get, List.getD_eq_getElem?_getD, List.getElem?_eq_getElem (by omega)]
     rfl
   refine ⟨_, rfl, .inl ⟨rfl, _, SqL.of hc'⟩, _, rfl, _, rfl, _, _, rfl, hc', _, rfl, _, _, rfl, rfl, _, _, _, _, rfl, rfl, hc', by rw [hul]; exact ei, ?_⟩
   refine ⟨ma, _, _, rfl, rfl, hc', by omega, ⟨_, rfl⟩, ?_, fun b o h hb => ?_⟩
   · rw [upd_same, hsn, bv_app]
     rfl
   · rw [upd_ne hb]
     exact hk' b o h hb
 · rintro σ H' ⟨⟨o1, rfl⟩, hc', hk'⟩
   rw [hm] at hc'
   exact q H' hc' hk')) only [↓mr]
theorem cut_any {xs : List V} {a b : Nat} {i j : Int} (hi : i = (a : Int)) (hj : j = (b : Int)) (hab : a ≤ b) : cutV xs (some i) (some j) = (xs.drop a).take (b - a) := by
 subst hi hj
 unfold cutV
 rw [HT.sIx_nat, HT.sIx_nat]
 by_cases h : a ≤ xs.length
 · rw [Nat.min_eq_left h]
   by_cases h2 : b ≤ xs.length
   · rw [Nat.min_eq_left h2]
   · rw [Nat.min_eq_right (by omega), List.take_of_length_le (by rw [List.length_drop]; omega), List.take_of_length_le (by rw [List.length_drop]; omega)]
 · rw [Nat.min_eq_right (show xs.length ≤ b by omega), Nat.min_eq_right (show xs.length ≤ a by omega), List.drop_eq_nil_of_le (Nat.le_refl _), List.drop_eq_nil_of_le (by omega)]
   simp
theorem bv_cut (m : Rw.Bytes) (a n : Nat) : ((bv m).drop a).take n = bv ((m.drop a).take n) := by
 unfold bv RwReelSeed.nums
 rw [← List.map_drop, ← List.map_take, ← List.map_drop, ← List.map_take]
def sp_z42 : Sp := fun vs H Q _ => ∃ (pa : Addr) (D : Rw.Bytes) (room : Nat), vs = [.ref pa, .int room] ∧ H pa = some (.lst (bv D)) ∧ D.length ≤ 256 ∧ room ≤ 4096 ∧
 ∀ (H' : Hp) (t l : Addr) (f : Int) (o : Rw.Bytes), Same H H' → H' t = some (.tup [.int f, .ref l]) → H' l = some (.lst (bv o)) → o.length ≤ 4096 → Rw.unpack room D = (if f = 0 then .ok o else .error f) → Q (.ref t) H'
theorem ok_z42 (T : Txt K mg A) : Fn P w K mg base 4 A.z42 ["packed", "room"] sp_z42 := by
 refine mq ?_; simp (disch := k_dflt (
 refine mz ?_
 refine Fn.on T.d_z42 sc_z42 (fun _ _ _ _ _ _ hr => bd_z42 T (ok_z36 T) (ok_y6 T) (ok_z68 T) hr) fun vs H Q h => ?_
 obtain ⟨pa, D, room, rfl, hpa, hD, hroom, q⟩ := h
 refine ⟨rfl, ?_⟩
 rw [st_z42, rd_z42]
 have hl := bv_len D
 refine ⟨Nat.zero_le _, fun ma hma => ?_⟩
 have hmp : pa ≠ ma := ne_of_none hpa hma
 refine while_by (fun σ H' => ∃ (i n : Nat) (out : Rw.Bytes) (o4 o5 o6 o7 : Option V), σ = [some (.ref pa), some (.int room), some (.ref ma), some (.int i), o4, o5, o6, o7] ∧ Same H H' ∧ H' ma = some (.lst (bv out)) ∧ out.length ≤ room ∧ i ≤ D.length ∧ D.length - i ≤ n ∧
   Rw.unpackFrom room n out (D.drop i) = Rw.unpack room D) (fun σ _ => D.length - (slotI σ 3).toNat) ?_ ?_ ?_
 · exact ⟨0, D.length, [], none, none, none, none, rfl, same_upd hma, upd_same, Nat.zero_le _, Nat.zero_le _, by omega, rfl⟩
 · rintro σ H1 ⟨i, n, out, o4, o5, o6, o7, rfl, s1, hm1, hor, hiD, hin, hun⟩
   have hp1 := s1 _ _ hpa
   refine ⟨_, rfl, _, rfl, pa, _, rfl, hp1, _, _, rfl, rfl, _, rfl, ?_⟩
   rw [hl]
   show (if decide ((i : Int) < (D.length : Int)) = true then _ else _)
   by_cases g : i < D.length
   · rw [if_pos (decide_eq_true (by omega))]
     have hdr : D.drop i = D[i] :: D.drop (i + 1) := List.drop_eq_getElem_cons g
     have ei : atI (bv D) (i : Int) = some (V.int (D[i].toNat : Nat)) := by
       apply atI_nat
       rw [bv_get, List.getElem?_eq_getElem g]
       rfl
     have hv : D[i].toNat < 256 := UInt8.toNat_lt _
     obtain ⟨n, rfl⟩ : ∃ k, n = k + 1 := ⟨n - 1, by omega⟩
     rw [hdr, Rm.unpack_step] at hun
     generalize D[i].toNat = v at ei hv hun
     have hnp := Rm.need_pos v
     have hcut : cutV (bv D) (some ((i : Int) + 1)) (some ((i : Int) + 1 + (Rm.need v : Nat))) = bv ((D.drop (i + 1)).take (Rm.need v)) := by
       rw [cut_any (a := i + 1) (b := i + 1 + Rm.need v) (by omega) (by omega) (by omega), bv_cut]
       congr 2
       omega
     have hlo := bv_len out
     walk_at "wq"
     refine ⟨v, rfl, _, rfl, _, hp1, fun p hp => ?_⟩
     rw [hcut]
     have hnl : ((D.drop (i + 1)).take (Rm.need v)).length ≤ Rm.need v := by rw [List.length_take]; omega
     have hdl : (D.drop (i + 1)).length = D.length - (i + 1) := List.length_drop ..
     have hnt : ((D.drop (i + 1)).take (Rm.need v)).length = min (Rm.need v) (D.length - (i + 1)) := by rw [List.length_take, hdl]
     generalize (D.drop (i + 1)).take (Rm.need v) = nd at hun hnl hnt
     have hpm : ma ≠ p := ne_of_none hm1 hp
     have s1p : Same H1 (upd H1 p (.lst (bv nd))) := same_upd hp
     refine ⟨_, s1p _ _ hm1, ?_⟩
     rw [hlo]
     refine ⟨p, nd, v, out.length, room, rfl, upd_same, fun H2 s2 => ?_⟩
     have s12 := (s1.trans s1p).trans s2
     have hm2 := s2 _ _ (s1p _ _ hm1)
     have hnd2 : H2 p = some (.lst (bv nd)) := s2 _ _ upd_same
     refine if_do (decide (Rm.fault v nd out.length room ≠ 0)) (fun Q q => ?_) (fun e => ?_) (fun e => ?_)
     · walk_at "wp"
       refine (congrArg (fun b => Q b H2) ?_).mp q
       simp
     · have e := of_decide_eq_true e
       rw [if_pos e] at hun
       refine ⟨_, rfl, Nat.zero_le _, fun l hl2 => ⟨by show 2 ≤ sizeLine; decide, fun t ht => ?_⟩⟩
       have hlt : l ≠ t := fun e => by rw [← e, upd_same] at ht; cases ht
       refine q _ t l (Rm.fault v nd out.length room) [] ((s12.trans (same_upd hl2)).trans (same_upd ht)) upd_same (by rw [upd_ne hlt, upd_same]; rfl) (Nat.zero_le _) ?_
       rw [if_neg e]
       exact hun.symm
     · have e : Rm.fault v nd out.length room = 0 := by
         have := of_decide_eq_false e
         omega
       rw [if_neg (fun h => h e)] at hun
       have hf : nd.length = Rm.need v ∧ (192 ≤ v → 1 ≤ Rm.backOf nd ∧ Rm.backOf nd ≤ out.length) ∧ out.length + Rm.mkn v ≤ room := by
         unfold Rm.fault at e
         by_cases g1 : nd.length < Rm.need v
         · rw [if_pos g1] at e; omega
         rw [if_neg g1] at e
         by_cases g2 : 192 ≤ v ∧ ¬ (1 ≤ Rm.backOf nd ∧ Rm.backOf nd ≤ out.length)
         · rw [if_pos g2] at e; omega
         rw [if_neg g2] at e
         by_cases g3 : room < out.length + Rm.mkn v
         · rw [if_pos g3] at e; omega
         exact ⟨by omega, fun h => by omega, by omega⟩
       obtain ⟨f1, f2, f3⟩ := hf
       refine ⟨_, rfl, _, rfl, _, rfl, ma, p, out, nd, v, rfl, hm2, hnd2, hpm, hv, f1, f2, by omega, fun H3 k1 k2 => ?_⟩
       refine ⟨_, rfl, ⟨i + 1 + Rm.need v, ⟨some (V.int v), some (V.int ((i : Int) + 1 + (Rm.need v : Nat))), some (V.ref p), some (V.int (Rm.fault v nd out.length room)), ?_⟩, ?_, n, Rm.madeOf out v nd, k1, by rw [Rm.madeOf_len f1]; omega, by omega, by omega, ?_⟩, ?_⟩
       · rw [show ((i + 1 + Rm.need v : Nat) : Int) = (i : Int) + 1 + (Rm.need v : Nat) by omega]
         rfl
       · intro b o hb
         exact k2 b o (s12 _ _ hb) (fun e => by rw [e, hma] at hb; cases hb)
       · rw [← hun, List.drop_drop]
       · show D.length - ((i : Int) + 1 + (Rm.need v : Nat)).toNat < D.length - ((i : Int)).toNat
         omega
   · rw [if_neg (by simp only [decide_eq_true_eq]; omega)]
     have hdr : D.drop i = [] := List.drop_eq_nil_of_le (by omega)
     rw [hdr] at hun
     refine ⟨_, rfl, by show 2 ≤ sizeLine; decide, fun t ht => ?_⟩
     have hmt : ma ≠ t := ne_of_none hm1 ht
     refine q _ t ma 0 out (s1.trans (same_upd ht)) upd_same (by rw [upd_ne hmt]; exact hm1) (by omega) ?_
     rw [if_pos rfl, ← hun]
     cases n <;> rfl
 · rintro σ H' Q1 Q2 hq ⟨a, e1, b, e2, p, xs, e3, e4, x, y, e5, e6, c, e7, h⟩
   exact ⟨a, e1, b, e2, p, xs, e3, e4, x, y, e5, e6, c, e7, hq _ _ h⟩)) only [↓mr]
theorem ok_z56 (T : Txt K mg A) : Fn P w K mg base 5 A.z56 ["machine", "numbers", "data"] (sp_call A 1 fun ns ds => .unpack (ns.getD 0 0) ds) := by
 refine mq ?_; simp (disch := k_dflt (
 refine mz ?_
 refine Fn.on T.d_z56 sc_z56 (fun _ _ _ _ _ _ hr => bd_z56 T (ok_z74 T) (ok_z42 T) hr) fun vs H Q h => ?_
 obtain ⟨L, z, na, da, ns, ds, rfl, M, hna, hda, hnl, hdl, q⟩ := h
 refine ⟨rfl, ?_⟩
 rw [st_z56, rd_z56]
 obtain ⟨a, rfl⟩ : ∃ a, ns = [a] := List.length_eq_one_iff.mp hnl
 have i0 : atI (iv [a]) 0 = some (V.int a) := rfl
 have q : Post A H L (z, if RwReelSeed.within 0 RwReelSeed.ROOM a = false ∨ RwReelSeed.areBytes RwReelSeed.MEMORY ds = false then RwReelSeed.no 1 else match Rw.unpack a.toNat (RwReelSeed.bytesOf ds) with
   | .ok t => RwReelSeed.tells (RwReelSeed.nums t)
   | .error e => [e]) Q := q
 have hw : RwReelSeed.within 0 RwReelSeed.ROOM a = (decide (0 ≤ a) && decide (a ≤ 4096)) := rfl
 rw [hw] at q
 walk_at "wp"
 by_cases g0 : 0 ≤ a
 · rw [if_pos g0]
   by_cases g1 : a ≤ 4096
   · rw [if_neg (fun h => h g1)]
     rw [decide_eq_true g0, decide_eq_true g1, Bool.true_and] at q
     refine ⟨da, ds, 256, rfl, hda, hdl, fun H1 s1 => ⟨_, rfl, ?_⟩⟩
     cases hb : RwReelSeed.areBytes 256 ds with
     | false =>
       rw [if_pos (.inr hb)] at q
       rw [if_pos rfl]
       exact fun p hp => q.same M s1 hp rfl
     | true =>
       rw [if_neg (by simp only [Bool.true_eq_false, false_or]; exact fun h => by rw [show RwReelSeed.areBytes RwReelSeed.MEMORY ds = true from hb] at h; cases h)] at q
       rw [if_neg (by simp)]
       obtain ⟨hdn, hbv⟩ := areBytes_all hb
       refine ⟨da, RwReelSeed.bytesOf ds, a.toNat, by rw [Int.toNat_of_nonneg g0], by rw [← hbv]; exact s1 _ _ hda, by unfold RwReelSeed.bytesOf; rw [List.length_map]; exact hdn, by omega, fun H2 t l f o s2 ht hl ho hu => ?_⟩
       rw [hu] at q
       refine ⟨t, _, 0, _, rfl, rfl, SqT.of ht, rfl, rfl, ?_⟩
       by_cases hf : f = 0
       · subst hf
         rw [if_pos rfl] at q
         rw [if_neg (by simp)]
         intro p hp
         have s3 := same_upd (o := HO.lst [V.int 0]) hp
         refine ⟨t, _, 1, _, rfl, rfl, SqT.of (s3 _ _ ht), rfl, p, l, _, _, rfl, rfl, upd_same, s3 _ _ hl, ?_, fun r hr => ?_⟩
         · rw [bv_len]
           have : (10000 : Nat) < sizeLine := by decide
           simp only [List.length_cons, List.length_nil]
           omega
         · exact q.same M ((s1.trans s2).trans s3) hr rfl
       · rw [if_neg hf] at q
         rw [if_pos (by simpa using hf)]
         refine ⟨t, _, 0, _, rfl, rfl, SqT.of ht, rfl, fun p hp => ?_⟩
         exact q.same M (s1.trans s2) hp rfl
   · rw [if_pos g1]
     rw [decide_eq_false g1, Bool.and_false, if_pos (.inl rfl)] at q
     exact fun p hp => q.same M (Same.refl _) hp rfl
 · rw [if_neg g0]
   rw [decide_eq_false g0, Bool.false_and, if_pos (.inl rfl)] at q
   exact fun p hp => q.same M (Same.refl _) hp rfl)) only [↓mr]
theorem bv_at {t : Rw.Bytes} {i : Nat} (h : i < t.length) : atI (bv t) (i : Int) = some (V.int ((t.getD i 0).toNat : Nat)) := by
 apply atI_nat
 rw [bv_get, List.getD_eq_getElem?_getD, List.getElem?_eq_getElem h]
 rfl
def sp_z46 : Sp := fun vs H Q _ => ∃ (da : Addr) (t : Rw.Bytes) (p b : Nat), vs = [.ref da, .int p, .int b] ∧ H da = some (.lst (bv t)) ∧ b ≤ p ∧ p ≤ t.length ∧ Q (.int (Rm.eLen t p b : Nat)) H
theorem ok_z46 (T : Txt K mg A) : Fn P w K mg base 1 A.z46 ["data", "place", "back"] sp_z46 := by
 refine mq ?_; simp (disch := k_dflt (
 refine mz ?_
 refine Fn.on T.d_z46 sc_z46 (fun _ _ _ _ _ _ hr => bd_z46 T hr) fun vs H Q h => ?_
 obtain ⟨da, t, p, b, rfl, hda, hbp, hpt, q⟩ := h
 refine ⟨rfl, ?_⟩
 rw [st_z46, rd_z46]
 have hl := bv_len t
 refine ⟨_, rfl, ?_⟩
 refine while_by (fun σ H' => ∃ j : Nat, σ = [some (.ref da), some (.int p), some (.int b), some (.int ((p + j : Nat) : Int))] ∧ H' = H ∧ j ≤ t.length - p ∧ ∀ i, i < j → t.getD (p + i) 0 = t.getD (p + i - b) 0) (fun σ _ => t.length - (slotI σ 3).toNat) ?_ ?_ ?_
 · exact ⟨0, rfl, rfl, Nat.zero_le _, fun i hi => by omega⟩
 · rintro σ H' ⟨j, rfl, rfl, hj, he⟩
   refine ⟨_, rfl, _, rfl, da, _, rfl, hda, _, _, rfl, rfl, _, rfl, ?_⟩
   rw [hl]
   show (if decide (((p + j : Nat) : Int) < (t.length : Int)) = true then _ else _)
   by_cases g : p + j < t.length
   · rw [if_pos (decide_eq_true (by omega))]
     have e1 := bv_at g
     have e2 : atI (bv t) (((p + j : Nat) : Int) - (b : Int)) = some (V.int ((t.getD (p + j - b) 0).toNat : Nat)) := by
       rw [show ((p + j : Nat) : Int) - (b : Int) = ((p + j - b : Nat) : Int) by omega]
       exact bv_at (by omega)
     refine ⟨_, rfl, _, rfl, da, _, _, _, rfl, rfl, hda, e1, _, rfl, _, rfl, _, rfl, _, _, rfl, rfl, da, _, _, _, rfl, rfl, hda, e2, rfl, _, rfl, ?_⟩
     show (if decide (V.int ((t.getD (p + j) 0).toNat : Nat) = V.int ((t.getD (p + j - b) 0).toNat : Nat)) = true then _ else _)
     by_cases g2 : t.getD (p + j) 0 = t.getD (p + j - b) 0
     · rw [if_pos (decide_eq_true (by rw [g2]))]
       refine ⟨_, rfl, _, _, rfl, rfl, ⟨j + 1, ?_, rfl, by omega, fun i hi => ?_⟩, ?_⟩
       · rw [show ((p + (j + 1) : Nat) : Int) = ((p + j : Nat) : Int) + 1 by omega]
         rfl
       · by_cases e : i = j
         · subst e; exact g2
         · exact he i (by omega)
       · show t.length - (((p + j : Nat) : Int) + 1).toNat < t.length - (((p + j : Nat) : Int)).toNat
         omega
     · rw [if_neg (by
         simp only [decide_eq_true_eq, V.int.injEq]
         exact fun h => g2 (UInt8.toNat_inj.mp (by omega)))]
       rw [Rm.eLen_is hj he (.inr g2)] at q
       refine ⟨_, rfl, _, rfl, _, _, rfl, rfl, ?_⟩
       rw [show V.int (j : Int) = V.int (((p + j : Nat) : Int) - (p : Int)) from congrArg V.int (by omega)] at q
       exact q
   · rw [if_neg (by simp only [decide_eq_true_eq]; omega)]
     rw [Rm.eLen_is hj he (.inl (by omega))] at q
     show (if false = true then _ else _)
     rw [if_neg (by simp)]
     refine ⟨_, rfl, _, rfl, _, _, rfl, rfl, ?_⟩
     rw [show V.int (j : Int) = V.int (((p + j : Nat) : Int) - (p : Int)) from congrArg V.int (by omega)] at q
     exact q
 · rintro σ H' Q1 Q2 hq ⟨a, e1, b, e2, p, xs, e3, e4, x, y, e5, e6, c, e7, h⟩
   refine ⟨a, e1, b, e2, p, xs, e3, e4, x, y, e5, e6, c, e7, ?_⟩
   revert h
   show (if c = true then _ else _) → (if c = true then _ else _)
   by_cases hc : c = true
   · rw [if_pos hc, if_pos hc]
     rintro ⟨a1, f1, a2, f2, a3, a4, a5, a6, f3, f4, f5, f6, b1, g1, b2, g2, b3, g3, b4, b5, g4, g5, b6, b7, b8, b9, g6, g7, g8, g9, sc, d, gd, h⟩
     exact ⟨a1, f1, a2, f2, a3, a4, a5, a6, f3, f4, f5, f6, b1, g1, b2, g2, b3, g3, b4, b5, g4, g5, b6, b7, b8, b9, g6, g7, g8, g9, sc, d, gd, hq _ _ h⟩
   · rw [if_neg hc, if_neg hc]
     exact hq _ _)) only [↓mr]
def LL (H0 H : Hp) (l : Addr) (cs : List Rw.Bytes) : Prop := ∃ ts : List Addr, H l = some (.lst (ts.map V.ref)) ∧ ts.length = cs.length ∧ (∀ t ∈ ts, H0 t = none ∧ t ≠ l) ∧ ∀ (k : Nat) (t : Addr) (c : Rw.Bytes), ts[k]? = some t → cs[k]? = some c → H t = some (.lst (bv c))
theorem LL.same {H0 H H' : Hp} {l : Addr} {cs : List Rw.Bytes} (h : LL H0 H l cs) (s : Same H H') : LL H0 H' l cs := by
 obtain ⟨ts, h1, h2, h3, h4⟩ := h
 exact ⟨ts, s _ _ h1, h2, h3, fun k t c ht hc => s _ _ (h4 k t c ht hc)⟩
theorem LL.weak {H0 H1 H : Hp} {l : Addr} {cs : List Rw.Bytes} (h : LL H1 H l cs) (s : Same H0 H1) : LL H0 H l cs := by
 obtain ⟨ts, h1, h2, h3, h4⟩ := h
 exact ⟨ts, h1, h2, fun t ht => ⟨s.free (h3 t ht).1, (h3 t ht).2⟩, h4⟩
theorem LL.nil {H0 H : Hp} {l : Addr} (h : H l = some (.lst [])) : LL H0 H l [] := ⟨[], h, rfl, (fun t ht => by simp at ht), fun k t c ht => by simp at ht⟩
theorem mem_snoc {α : Type} {ts : List α} {p : α} {P : α → Prop} (h : ∀ t ∈ ts, P t) (hp : P p) : ∀ t ∈ ts ++ [p], P t := fun t ht => by
 rcases List.mem_append.mp ht with e | e
 · exact h t e
 · rw [List.mem_singleton.mp e]
   exact hp
theorem get_app {α β : Type} {ts us : List α} {cs ds : List β} {P : α → β → Prop} (hl : ts.length = cs.length) (h1 : ∀ (k : Nat) t c, ts[k]? = some t → cs[k]? = some c → P t c) (h2 : ∀ (k : Nat) t c, us[k]? = some t → ds[k]? = some c → P t c) :
   ∀ (k : Nat) t c, (ts ++ us)[k]? = some t → (cs ++ ds)[k]? = some c → P t c := fun k t c ht hc => by
 by_cases e : k < ts.length
 · rw [List.getElem?_append_left e] at ht
   rw [List.getElem?_append_left (by omega)] at hc
   exact h1 k t c ht hc
 · rw [List.getElem?_append_right (by omega)] at ht
   rw [List.getElem?_append_right (by omega), ← hl] at hc
   exact h2 _ t c ht hc
theorem ll_next {H0 H H3 H4 : Hp} {D p : Addr} {cs : List Rw.Bytes} {i : Nat} {c : Rw.Bytes} (hD : H D = none) (s0 : Same H0 H3) (s : Same H H3) (L : LL H0 H3 D (cs.take i)) (s4 : Same H3 H4) (hp : H3 p = none) (hc : H4 p = some (.lst (bv c))) (hi : cs[i]? = some c) (few : cs.length ≤ 5000) :
   ∃ acc, H4 D = some (.lst acc) ∧ acc.length < sizeLine ∧ (Same H (upd H4 D (.lst (acc ++ [V.ref p]))) ∧ LL H0 (upd H4 D (.lst (acc ++ [V.ref p]))) D (cs.take (i + 1))) := by
 obtain ⟨ts, h1, h2, h3, h4⟩ := L
 have hpD : p ≠ D := fun e => by rw [e, h1] at hp; cases hp
 have hlt : i < cs.length := (List.getElem?_eq_some_iff.mp hi).1
 refine ⟨_, s4 _ _ h1, ?_, fun b o h => ?_, ts ++ [p], ?_, ?_, ?_, ?_⟩
 · rw [List.length_map, h2, List.length_take]
   have : (60000 : Nat) < sizeLine := by decide
   omega
 · rw [upd_ne (ne_of_none h hD)]
   exact s4 _ _ (s _ _ h)
 · rw [upd_same, List.map_append]
   rfl
 · rw [List.length_append, h2, List.length_take, List.length_take, List.length_singleton]
   omega
 · exact mem_snoc h3 ⟨s0.free hp, hpD⟩
 · rw [take_one hi]
   refine get_app h2 (fun k t d ht hd => ?_) (fun k t d ht hd => ?_)
   · rw [upd_ne (h3 t (List.mem_of_getElem? ht)).2]
     exact s4 _ _ (h4 k t d ht hd)
   · cases k with
     | zero =>
       cases ht
       cases hd
       rw [upd_ne hpD]
       exact hc
     | succ k => simp at ht
theorem LL.cat {H0 H : Hp} {a b p : Addr} {as bs : List Rw.Bytes} (ha : LL H0 H a as) (hb : LL H0 H b bs) (s : Same H0 H) (hp : H p = none) {xs zs : List V} (hx : H a = some (.lst xs)) (hz : H b = some (.lst zs)) : LL H0 (upd H p (.lst (xs ++ zs))) p (as ++ bs) := by
 obtain ⟨ts, h1, h2, h3, h4⟩ := ha
 obtain ⟨us, k1, k2, k3, k4⟩ := hb
 rw [hx] at h1
 rw [hz] at k1
 cases h1
 cases k1
 have np : ∀ (k : Nat) t (vs : List Addr) (cs : List Rw.Bytes), vs.length = cs.length → (∀ (k : Nat) t c, vs[k]? = some t → cs[k]? = some c → H t = some (.lst (bv c))) → vs[k]? = some t → t ≠ p := fun k t vs cs hl hv ht e => by
   have hk := (List.getElem?_eq_some_iff.mp ht).1
   have := hv k t _ ht (List.getElem?_eq_getElem (by omega))
   rw [e, hp] at this
   cases this
 refine ⟨ts ++ us, ?_, ?_, fun t ht => ?_, ?_⟩
 · rw [upd_same, List.map_append]
 · rw [List.length_append, List.length_append, h2, k2]
 · rcases List.mem_append.mp ht with e | e
   · obtain ⟨k, hk⟩ := List.getElem?_of_mem e
     exact ⟨(h3 t e).1, np k t ts as h2 h4 hk⟩
   · obtain ⟨k, hk⟩ := List.getElem?_of_mem e
     exact ⟨(k3 t e).1, np k t us bs k2 k4 hk⟩
 · refine get_app h2 (fun k t d ht hd => ?_) (fun k t d ht hd => ?_)
   · rw [upd_ne (np k t ts as h2 h4 ht)]
     exact h4 k t d ht hd
   · rw [upd_ne (np k t us bs k2 k4 ht)]
     exact k4 k t d ht hd
theorem LL.ext {H0 H1 H : Hp} {a b : Addr} {as bs : List Rw.Bytes} (ha : LL H0 H a as) (hb : LL H1 H b bs) (s01 : Same H0 H1) {xs zs o : List V} (h1a : H1 a = some (.lst o)) (hx : H a = some (.lst xs)) (hz : H b = some (.lst zs)) : LL H0 (upd H a (.lst (xs ++ zs))) a (as ++ bs) := by
 obtain ⟨ts, h1, h2, h3, h4⟩ := ha
 obtain ⟨us, k1, k2, k3, k4⟩ := hb
 rw [hx] at h1
 rw [hz] at k1
 cases h1
 cases k1
 have nu : ∀ t ∈ us, t ≠ a := fun t ht e => by
   have := (k3 t ht).1
   rw [e, h1a] at this
   cases this
 refine ⟨ts ++ us, ?_, ?_, fun t ht => ?_, ?_⟩
 · rw [upd_same, List.map_append]
 · rw [List.length_append, List.length_append, h2, k2]
 · rcases List.mem_append.mp ht with e | e
   · exact h3 t e
   · exact ⟨s01.free (k3 t e).1, nu t e⟩
 · refine get_app h2 (fun k t d ht hd => ?_) (fun k t d ht hd => ?_)
   · rw [upd_ne (h3 t (List.mem_of_getElem? ht)).2]
     exact h4 k t d ht hd
   · rw [upd_ne (nu t (List.mem_of_getElem? ht))]
     exact k4 k t d ht hd
theorem LL.put {H0 H : Hp} {a t : Addr} {as : List Rw.Bytes} {c : Rw.Bytes} {xs : List V} {j : Nat} (ha : LL H0 H a as) (hx : H a = some (.lst xs)) (ht : H t = some (.lst (bv c))) (hn : H0 t = none) (hne : t ≠ a) : LL H0 (upd H a (.lst (xs.set j (V.ref t)))) a (as.set j c) := by
 obtain ⟨ts, h1, h2, h3, h4⟩ := ha
 rw [hx] at h1
 cases h1
 refine ⟨ts.set j t, ?_, ?_, fun u hu => ?_, fun k u d hu hd => ?_⟩
 · rw [upd_same, List.map_set]
 · rw [List.length_set, List.length_set, h2]
 · rcases List.mem_or_eq_of_mem_set hu with e | e
   · exact h3 u e
   · rw [e]
     exact ⟨hn, hne⟩
 · by_cases e : j = k
   · subst e
     have hj : j < ts.length := by
       have := (List.getElem?_eq_some_iff.mp hu).1
       rwa [List.length_set] at this
     rw [List.getElem?_set_self hj] at hu
     rw [List.getElem?_set_self (by omega)] at hd
     cases hu
     cases hd
     rw [upd_ne hne]
     exact ht
   · rw [List.getElem?_set_ne e] at hu hd
     rw [upd_ne (h3 u (List.mem_of_getElem? hu)).2]
     exact h4 k u d hu hd
theorem LL.get {H0 H : Hp} {a : Addr} {as : List Rw.Bytes} {c : Rw.Bytes} {j : Nat} (ha : LL H0 H a as) (hj : as[j]? = some c) : ∃ xs t, H a = some (.lst xs) ∧ xs.length = as.length ∧ atI xs (j : Int) = some (V.ref t) ∧ H t = some (.lst (bv c)) := by
 obtain ⟨ts, h1, h2, h3, h4⟩ := ha
 have hl : j < ts.length := by
   have := (List.getElem?_eq_some_iff.mp hj).1
   omega
 refine ⟨_, ts[j], h1, by rw [List.length_map, h2], atI_nat ?_, h4 j _ _ (List.getElem?_eq_getElem hl) hj⟩
 rw [List.getElem?_map, List.getElem?_eq_getElem hl]
 rfl
theorem bv_cons (c : UInt8) (m : Rw.Bytes) : bv (c :: m) = V.int (c.toNat : Nat) :: bv m := rfl
def spCmds (f : Rw.Bytes → Nat → List Rw.Bytes) : Sp := fun vs H Q _ => ∃ (da : Addr) (t : Rw.Bytes) (i : Nat), vs = [.ref da, .int i] ∧ H da = some (.lst (bv t)) ∧ t.length ≤ 64 ∧ i < t.length ∧ ∀ (H' : Hp) (l : Addr), Same H H' → H l = none → LL H H' l (f t i) → Q (.ref l) H'
theorem ok_z17 (T : Txt K mg A) : Fn P w K mg base 1 A.z17 ["data", "place"] (spCmds Rm.plainC) := by
 refine mq ?_; simp (disch := k_dflt (
 refine mz ?_
 refine Fn.on T.d_z17 sc_z17 (fun _ _ _ _ _ _ hr => bd_z17 T hr) fun vs H Q h => ?_
 obtain ⟨da, t, i, rfl, hda, ht, hi, q⟩ := h
 refine ⟨rfl, ?_⟩
 rw [st_z17, rd_z17]
 have hl := bv_len t
 have hcl : (Rm.plainC t i).length = t.length - i := by unfold Rm.plainC; simp
 refine ⟨_, rfl, _, _, rfl, rfl, _, rfl, da, _, rfl, hda, _, _, rfl, rfl, _, _, rfl, by rw [hl]; omega, fun D hD => ?_⟩
 rw [hl, show ((t.length : Int) + 1 - ((i : Int) + 1)).toNat = t.length - i by omega]
 refine lc_range (n := t.length - i) (fun k H' => Same H H' ∧ LL H H' D ((Rm.plainC t i).take k)) ?_ ?_ ?_
 · exact ⟨same_upd hD, LL.nil upd_same⟩
 · rintro k H' hk ⟨s1, L1⟩
   refine ⟨rfl, ?_⟩
   refine ⟨_, rfl, _, rfl, _, _, rfl, rfl, _, _, rfl, rfl, by show 1 ≤ sizeLine; decide, fun r hr => ?_⟩
   have sr := same_upd (o := HO.lst [V.int ((i : Int) + 1 + (k : Nat) - (i : Int) - 1)]) hr
   refine ⟨_, rfl, _, rfl, _, rfl, _, rfl, _, rfl, da, _, rfl, sr _ _ (s1 _ _ hda), fun u hu => ?_⟩
   have hcut : cutV (bv t) (some (i : Int)) (some ((i : Int) + 1 + (k : Nat))) = bv ((t.drop i).take (k + 1)) := by
     rw [cut_any (a := i) (b := i + 1 + k) rfl (by omega) (by omega), bv_cut]
     congr 2
     omega
   rw [hcut]
   have su := same_upd (o := HO.lst (bv ((t.drop i).take (k + 1)))) hu
   refine ⟨r, u, _, _, rfl, rfl, su _ _ upd_same, upd_same, ?_, fun p hp => ?_⟩
   · rw [bv_len, List.length_take]
     have : (1000 : Nat) < sizeLine := by decide
     simp only [List.length_cons, List.length_nil]
     omega
   · refine ll_next hD s1 s1 L1 ((sr.trans su).trans (same_upd hp)) ((sr.trans su).free hp) (c := UInt8.ofNat k :: (t.drop i).take (k + 1)) ?_ ?_ (by omega)
     · rw [upd_same, bv_cons, Rm.toNat_of (by omega)]
       show some (HO.lst (V.int ((i : Int) + 1 + (k : Nat) - (i : Int) - 1) :: _)) = _
       rw [show (i : Int) + 1 + (k : Nat) - (i : Int) - 1 = (k : Int) by omega]
       rfl
     · unfold Rm.plainC
       rw [List.getElem?_map, List.getElem?_range hk]
       rfl
 · rintro H' ⟨s1, L1⟩
   rw [List.take_of_length_le (by omega)] at L1
   exact q H' D s1 hD L1)) only [↓mr]
theorem ok_z9 (T : Txt K mg A) : Fn P w K mg base 2 A.z9 ["data", "place"] (spCmds Rm.repC) := by
 refine mq ?_; simp (disch := k_dflt (
 refine mz ?_
 refine Fn.on T.d_z9 sc_z9 (fun _ _ _ _ _ _ hr => bd_z9 T (ok_z46 T) hr) fun vs H Q h => ?_
 obtain ⟨da, t, i, rfl, hda, ht, hi, q⟩ := h
 refine ⟨rfl, ?_⟩
 rw [st_z9, rd_z9]
 have hle := Rm.eLen_le t (i + 1) 1
 refine ⟨_, rfl, _, rfl, _, _, rfl, rfl, da, t, i + 1, 1, rfl, hda, by omega, by omega, _, _, rfl, rfl, ?_⟩
 have hcl : (Rm.repC t i).length = Rm.eLen t (i + 1) 1 + 2 - 3 := by unfold Rm.repC; simp
 refine ⟨_, rfl, _, _, rfl, rfl, _, _, rfl, by omega, fun D hD => ?_⟩
 rw [show ((1 : Int) + (Rm.eLen t (i + 1) 1 : Nat) + 1 - 3).toNat = Rm.eLen t (i + 1) 1 + 2 - 3 by omega]
 generalize hE : Rm.eLen t (i + 1) 1 = e at hle hcl ⊢
 refine lc_range (n := e + 2 - 3) (fun k H' => Same H H' ∧ LL H H' D ((Rm.repC t i).take k)) ?_ ?_ ?_
 · exact ⟨same_upd hD, LL.nil upd_same⟩
 · rintro k H' hk ⟨s1, L1⟩
   refine ⟨rfl, ?_⟩
   refine ⟨_, rfl, _, _, rfl, rfl, _, _, rfl, rfl, _, rfl, _, rfl, da, _, _, _, rfl, rfl, s1 _ _ hda, bv_at hi, by show 2 ≤ sizeLine; decide, fun p hp => ?_⟩
   refine ll_next hD s1 s1 L1 (same_upd hp) hp (c := [UInt8.ofNat (k + 128), t.getD i 0]) ?_ ?_ (by omega)
   · rw [upd_same, bv_cons, bv_cons, Rm.toNat_of (by omega)]
     show some (HO.lst [V.int ((128 : Int) + (3 + (k : Nat)) - 3), _]) = _
     rw [show (128 : Int) + (3 + (k : Nat)) - 3 = ((k + 128 : Nat) : Int) by omega]
     rfl
   · unfold Rm.repC
     rw [hE, List.getElem?_map, List.getElem?_range hk]
     rfl
 · rintro H' ⟨s1, L1⟩
   rw [List.take_of_length_le (by omega)] at L1
   exact q H' D s1 hD L1)) only [↓mr]
theorem ok_z26 (T : Txt K mg A) : Fn P w K mg base 2 A.z26 ["data", "place"] (spCmds fun t i => (Rm.echoC t i i).2) := by
 refine mq ?_; simp (disch := k_dflt (
 refine mz ?_
 refine Fn.on T.d_z26 sc_z26 (fun _ _ _ _ _ _ hr => bd_z26 T (ok_z46 T) hr) fun vs H Q h => ?_
 obtain ⟨da, t, i, rfl, hda, ht, hi, q⟩ := h
 refine ⟨rfl, ?_⟩
 rw [st_z26, rd_z26]
 refine ⟨Nat.zero_le _, fun g hg => ⟨_, _, rfl, rfl, _, rfl, _, _, rfl, rfl, _, _, rfl, by omega, ?_⟩⟩
 rw [show ((i : Int) + 1 - 1).toNat = i by omega]
 refine for_range (n := i) (fun j σ H' => (∃ o4 o5 o6, σ = [some (.ref da), some (.int i), some (.ref g), some (.int ((Rm.echoC t i j).1 : Nat)), o4, o5, o6]) ∧ Same H H' ∧ LL H H' g (Rm.echoC t i j).2) ?_ ?_ ?_
 · exact ⟨⟨none, none, none, rfl⟩, same_upd hg, LL.nil upd_same⟩
 · rintro j σ H' hj ⟨⟨o4, o5, o6, rfl⟩, s1, L1⟩
   have e1 : (1 : Int) + (j : Nat) = ((j + 1 : Nat) : Int) := by omega
   rw [e1]
   have hle := Rm.eLen_le t i (j + 1)
   have htop := Rm.echo_top t i ht j
   have hlen := Rm.echo_len t i j
   refine ⟨_, rfl, _, rfl, _, rfl, da, t, i, j + 1, rfl, s1 _ _ hda, by omega, by omega, ?_⟩
   obtain ⟨ts, h1, h2, h3, h4⟩ := id L1
   refine ⟨_, rfl, .inl ⟨rfl, _, SqL.of h1⟩, _, rfl, _, _, rfl, rfl, _, rfl, _, _, rfl, rfl, _, _, rfl, by omega, fun D hD => ?_⟩
   generalize hlo : (Rm.echoC t i j).1 = lo at htop hlen ⊢
   generalize hE : Rm.eLen t i (j + 1) = e at hle ⊢
   rw [show (((e : Nat) : Int) + 1 - (((lo : Nat) : Int) + 1)).toNat = e - lo by omega]
   have hcl : (Rm.echoesOf (j + 1) lo e).length = e - lo := by unfold Rm.echoesOf; simp
   refine lc_range (n := e - lo) (fun k H2 => Same H' H2 ∧ LL H' H2 D ((Rm.echoesOf (j + 1) lo e).take k)) ?_ ?_ ?_
   · exact ⟨same_upd hD, LL.nil upd_same⟩
   · rintro k H2 hk ⟨s2, L2⟩
     refine ⟨rfl, ?_⟩
     refine ⟨_, rfl, _, _, rfl, rfl, _, _, rfl, rfl, _, rfl, by show 3 ≤ sizeLine; decide, fun p hp => ?_⟩
     refine ll_next hD s2 s2 L2 (same_upd hp) hp (c := [UInt8.ofNat (lo + 1 + k + 189), UInt8.ofNat (j + 1), 0]) ?_ ?_ (by omega)
     · rw [upd_same, bv_cons, bv_cons, bv_cons, Rm.toNat_of (by omega), Rm.toNat_of (by omega)]
       show some (HO.lst [V.int ((192 : Int) + ((lo : Int) + 1 + (k : Nat)) - 3), _, _]) = _
       rw [show (192 : Int) + ((lo : Int) + 1 + (k : Nat)) - 3 = ((lo + 1 + k + 189 : Nat) : Int) by omega]
       rfl
     · unfold Rm.echoesOf
       rw [List.getElem?_map, List.getElem?_range hk]
       rfl
   · rintro H2 ⟨s2, L2⟩
     rw [List.take_of_length_le (by omega)] at L2
     obtain ⟨us, k1, k2, k3, k4⟩ := id L2
     have L1' := L1.same s2
     refine ⟨g, D, _, _, rfl, rfl, s2 _ _ h1, k1, ?_, ?_⟩
     · rw [List.length_map, List.length_map, h2, k2, hcl, hlen]
       have : (1000 : Nat) < sizeLine := by decide
       omega
     · have hmx : (if ((e : Nat) : Int) > ((lo : Nat) : Int) then ((e : Nat) : Int) else ((lo : Nat) : Int)) = ((Rm.echoC t i (j + 1)).1 : Nat) := by
         show _ = ((max (Rm.echoC t i j).1 (Rm.eLen t i (j + 1)) : Nat) : Int)
         rw [hlo, hE]
         split <;> omega
       refine ⟨_, rfl, _, rfl, _, _, rfl, ⟨some (V.int ((j + 1 : Nat) : Int)), some (V.int (e : Nat)), o6, ?_⟩, ?_, ?_⟩
       · rw [← hmx]
         rfl
       · exact fun b o h => by rw [upd_ne (ne_of_none h hg)]; exact s2 _ _ (s1 _ _ h)
       · show LL H _ g ((Rm.echoC t i j).2 ++ Rm.echoesOf (j + 1) (Rm.echoC t i j).1 (Rm.eLen t i (j + 1)))
         rw [hlo, hE]
         exact LL.ext L1' L2 s1 h1 (s2 _ _ h1) k1
 · rintro σ H' ⟨⟨o4, o5, o6, rfl⟩, s1, L1⟩
   exact ⟨_, rfl, q H' g s1 hg L1⟩)) only [↓mr]
theorem ok_z19 (T : Txt K mg A) : Fn P w K mg base 1 A.z19 ["text"] spKey := by
 refine Fn.on T.d_z19 sc_z19 (fun _ _ _ _ _ _ hr => bd_z19 T hr) fun vs H Q h => ?_
 obtain ⟨t, l, rfl, ht, q⟩ := h
 refine ⟨rfl, ?_⟩
 rw [st_z19, rd_z19]
 refine ⟨_, rfl, t, _, rfl, ht, _, rfl, by show 2 ≤ sizeLine; decide, fun p hp => ?_⟩
 rw [List.length_map]
 exact q p hp
theorem lex_before : ∀ a b : Rw.Bytes, HT.lexLt (RwReelSeed.nums a) (RwReelSeed.nums b) = Rw.before a b
 | [], [] => rfl
 | [], _ :: _ => rfl
 | _ :: _, [] => rfl
 | x :: r, y :: s => by
   have ih := lex_before r s
   show HT.lexLt ((x.toNat : Int) :: RwReelSeed.nums r) ((y.toNat : Int) :: RwReelSeed.nums s) = (decide (x < y) || (x == y && Rw.before r s))
   rw [HT.lexLt_cons, ih]
   by_cases e : x = y
   · subst e
     rw [if_pos rfl]
     simp
   · have hne : ((x.toNat : Int)) ≠ (y.toNat : Int) := fun h => e (UInt8.toNat_inj.mp (by omega))
     rw [if_neg hne, beq_eq_false_iff_ne.mpr e, Bool.false_and, Bool.or_false, Bool.eq_iff_iff]
     simp only [decide_eq_true_eq, UInt8.lt_iff_toNat_lt]
     omega
theorem szLt_less {a b : Rw.Bytes} (h : szLt (RwReelSeed.nums a) (RwReelSeed.nums b) = false) : ¬ Rm.Less a b := fun g => by
 rw [(szLt_iff _ _).mpr (by rw [Rm.nums_len, Rm.nums_len, lex_before]; exact g)] at h
 cases h
def bsAt (t : Rw.Bytes) (m : Nat) : List Rw.Bytes := (List.range (t.length + 1)).map fun j => if t.length - m ≤ j then Rm.B t j else []
theorem bsAt_len (t : Rw.Bytes) (m : Nat) : (bsAt t m).length = t.length + 1 := by unfold bsAt; simp
theorem bsAt_any {t : Rw.Bytes} {m j : Nat} (h : j ≤ t.length) : (bsAt t m)[j]? = some (if t.length - m ≤ j then Rm.B t j else []) := by
 unfold bsAt
 rw [List.getElem?_map, List.getElem?_range (by omega)]
 rfl
theorem bsAt_get {t : Rw.Bytes} {m j : Nat} (h : j ≤ t.length) (h2 : t.length - m ≤ j) : (bsAt t m)[j]? = some (Rm.B t j) := by rw [bsAt_any h, if_pos h2]
theorem bsAt_zero (t : Rw.Bytes) : bsAt t 0 = List.replicate (t.length + 1) [] := by
 apply List.ext_getElem?
 intro j
 by_cases h : j ≤ t.length
 · rw [bsAt_any h, List.getElem?_replicate, if_pos (show j < t.length + 1 by omega)]
   by_cases e : t.length - 0 ≤ j
   · rw [if_pos e, show j = t.length by omega, Rm.B_end]
   · rw [if_neg e]
 · rw [List.getElem?_eq_none (by rw [bsAt_len]; omega), List.getElem?_eq_none (by rw [List.length_replicate]; omega)]
theorem bsAt_succ {t : Rw.Bytes} {m : Nat} (h : m < t.length) : (bsAt t m).set (t.length - 1 - m) (Rm.B t (t.length - 1 - m)) = bsAt t (m + 1) := by
 apply List.ext_getElem?
 intro j
 by_cases hj : j ≤ t.length
 · rw [bsAt_any hj]
   by_cases e : t.length - 1 - m = j
   · subst e
     rw [List.getElem?_set_self (by rw [bsAt_len]; omega), if_pos (by omega)]
   · rw [List.getElem?_set_ne e, bsAt_any hj]
     by_cases g : t.length - m ≤ j
     · rw [if_pos g, if_pos (by omega)]
     · rw [if_neg g, if_neg (by omega)]
 · rw [List.getElem?_eq_none (by rw [List.length_set, bsAt_len]; omega), List.getElem?_eq_none (by rw [bsAt_len]; omega)]
def sp_z87 : Sp := fun vs H Q _ => ∃ (da : Addr) (t : Rw.Bytes), vs = [.ref da] ∧ H da = some (.lst (bv t)) ∧ t.length ≤ 64 ∧ ∀ (H' : Hp) (l : Addr), Same H H' → H' l = some (.lst (bv (Rw.packed t))) → Q (.ref l) H'
theorem ok_z87 (T : Txt K mg A) : Fn P w K mg base 3 A.z87 ["data"] sp_z87 := by
 refine mq ?_; simp (disch := k_dflt (
 refine mz ?_
 refine Fn.on T.d_z87 sc_z87 (fun _ _ _ _ _ _ hr => bd_z87 T (ok_z17 T) (ok_z9 T) (ok_z26 T) (ok_z61 T) (ok_z19 T) hr) fun vs H Q h => ?_
 obtain ⟨da, t, rfl, hda, ht, q⟩ := h
 refine ⟨rfl, ?_⟩
 rw [st_z87, rd_z87]
 have hl := bv_len t
 have big : (5000 : Nat) < sizeLine := by decide
 refine ⟨_, rfl, da, _, rfl, hda, _, _, rfl, rfl, _, rfl, by rw [hl]; omega, by rw [hl]; omega, fun ba hba => ?_⟩
 rw [hl, show ((t.length : Int) + 1).toNat = t.length + 1 by omega]
 refine lc_range (n := t.length + 1) (fun k H' => Same H H' ∧ LL H H' ba ((List.replicate (t.length + 1) []).take k)) ?_ ?_ ?_
 · exact ⟨same_upd hba, LL.nil upd_same⟩
 · rintro k H' hk ⟨s1, L1⟩
   refine ⟨rfl, ?_⟩
   refine ⟨Nat.zero_le _, fun p hp => ?_⟩
   refine ll_next hba s1 s1 L1 (same_upd hp) hp (c := []) (by rw [upd_same]; rfl) ?_ (by rw [List.length_replicate]; omega)
   rw [List.getElem?_replicate, if_pos hk]
 rintro H1 ⟨s1, L1⟩
 rw [List.take_of_length_le (by rw [List.length_replicate]; exact Nat.le_refl _), ← bsAt_zero] at L1
 refine ⟨_, rfl, da, _, rfl, s1 _ _ hda, _, _, rfl, rfl, _, rfl, _, rfl, _, _, _, t.length, rfl, ?_, ?_⟩
 · rw [hl]
   have := RgC.neg (i := (t.length : Int) - 1) (j := -1) (by omega) (by omega) (by omega) (by omega)
   rwa [show ((t.length : Int) - 1 - -1).toNat = t.length by omega] at this
 rw [hl]
 refine for_rangeC (n := t.length) (fun m σ H' => (∃ o2 o3 o4 o5 o6, σ = [some (.ref da), some (.ref ba), o2, o3, o4, o5, o6]) ∧ Same H H' ∧ LL H H' ba (bsAt t m)) ?_ ?_ ?_
 · exact ⟨⟨_, _, _, _, _, rfl⟩, s1, L1⟩
 · rintro m σ H2 hm ⟨⟨o2, o3, o4, o5, o6, rfl⟩, s2, L2⟩
   obtain ⟨i, hi⟩ : ∃ i, t.length - 1 - m = i := ⟨_, rfl⟩
   have ei : (t.length : Int) - 1 + (m : Nat) * (-1) = (i : Int) := by omega
   have hit : i < t.length := by omega
   have hd2 := s2 _ _ hda
   rw [show (t.length : Int) - 1 + (m : Nat) * -1 = (i : Int) from ei]
   refine ⟨_, rfl, _, rfl, da, t, i, rfl, hd2, ht, hit, fun H3 l1 s3 hl1 M1 => ?_⟩
   refine ⟨_, rfl, _, rfl, da, t, i, rfl, s3 _ _ hd2, ht, hit, fun H4 l2 s4 hl2 M2 => ?_⟩
   have N1 := M1.same s4
   have N2 := M2.weak s3
   obtain ⟨ts1, a1, a2, _, _⟩ := id N1
   obtain ⟨ts2, b1, b2, _, _⟩ := id N2
   have few := Rm.cmds_few (i := i) ht
   have fewL : (Rm.plainC t i).length + (Rm.repC t i).length + (Rm.echoC t i i).2.length ≤ 200 := by
     unfold Rm.cmdsAt at few
     rwa [List.length_append, List.length_append] at few
   refine ⟨l1, l2, _, _, rfl, rfl, a1, b1, by rw [List.length_map, List.length_map]; omega, fun p hp => ?_⟩
   have N3 := LL.cat N1 N2 (s3.trans s4) hp a1 b1
   have sp := (s3.trans s4).trans (same_upd (o := HO.lst (ts1.map V.ref ++ ts2.map V.ref)) hp)
   refine ⟨_, rfl, _, rfl, da, t, i, rfl, sp _ _ hd2, ht, hit, fun H5 l3 s5 hl3 M3 => ?_⟩
   have N4 := N3.same s5
   have N5 := M3.weak sp
   obtain ⟨ts3, c1, c2, _, _⟩ := id N5
   have c2 : ts3.length = (Rm.echoC t i i).2.length := c2
   have s25 := sp.trans s5
   refine ⟨p, l3, _, _, rfl, rfl, s5 _ _ upd_same, c1, by rw [List.length_append, List.length_map, List.length_map, List.length_map]; omega, fun ca hca => ?_⟩
   have N6 : LL H2 _ ca (Rm.cmdsAt t i) := LL.cat N4 N5 s25 hca (s5 _ _ upd_same) c1
   have s26 := s25.trans (same_upd (o := HO.lst (ts1.map V.ref ++ ts2.map V.ref ++ ts3.map V.ref)) hca)
   generalize upd H5 ca (.lst (ts1.map V.ref ++ ts2.map V.ref ++ ts3.map V.ref)) = H6 at N6 s26 ⊢
   clear N5 M3 c1 N4 N3 hl3 hp s5 sp a1 b1 N1 N2 M1 M2 s25
   obtain ⟨ts, d1, d2, d3, d4⟩ := N6
   have hb6 := L2.same s26
   refine ⟨_, rfl, ca, rfl, ⟨_, SqL.of d1⟩, fun D hD => ?_⟩
   have htl : (Rm.textsAt t i).length = (Rm.cmdsAt t i).length := by unfold Rm.textsAt; rw [List.length_map]
   refine lc_list (xs := ts.map V.ref) (fun k H7 => Same H6 H7 ∧ LL H6 H7 D ((Rm.textsAt t i).take k)) ?_ ?_ ?_ ?_
   · exact ⟨same_upd hD, LL.nil upd_same⟩
   · rintro k H7 _ ⟨s7, _⟩
     exact SqL.of (s7 _ _ d1)
   · rintro k x H7 hx ⟨s7, L7⟩
     rw [List.getElem?_map] at hx
     obtain ⟨u, hu, rfl⟩ := Option.map_eq_some_iff.mp hx
     have hk : k < (Rm.cmdsAt t i).length := by
       have := (List.getElem?_eq_some_iff.mp hu).1
       omega
     have hc : (Rm.cmdsAt t i)[k]? = some (Rm.cmdsAt t i)[k] := List.getElem?_eq_getElem hk
     have hmem : (Rm.cmdsAt t i)[k] ∈ Rm.cmdsAt t i := List.getElem_mem hk
     generalize (Rm.cmdsAt t i)[k] = c at hc hmem
     obtain ⟨b, r, rfl, m1, m2, m3⟩ := Rm.cmd_ok ht hit hmem
     have hu7 := s7 _ _ (d4 k u _ hu hc)
     obtain ⟨xs, v, x1, x2, x3, x4⟩ := (hb6.same s7).get (bsAt_get (t := t) (m := m) (j := i + Rm.mkn b.toNat) m2 (by omega))
     have hBl := Rm.B_len (i := i + Rm.mkn b.toNat) ht
     have e0 : atI (bv (b :: r)) 0 = some (V.int (b.toNat : Nat)) := atI_nat (j := 0) rfl
     refine ⟨rfl, ?_⟩
     refine ⟨_, rfl, _, rfl, _, rfl, _, rfl, u, 0, _, V.int (b.toNat : Nat), rfl, rfl, hu7, e0, b.toNat, rfl, _, _, rfl, rfl, ba, _, xs, V.ref v, rfl, rfl, x1, x3, u, v, _, _, rfl, rfl, hu7, x4, by rw [bv_len, bv_len]; omega, fun p hp => ?_⟩
     refine ll_next hD s7 s7 L7 (same_upd hp) hp (c := Rm.formOf t i (b :: r)) ?_ ?_ (by omega)
     · rw [upd_same]
       unfold Rm.formOf
       rw [bv_app]
       rfl
     · unfold Rm.textsAt
       rw [List.getElem?_map, hc]
       rfl
   · rintro H7 ⟨s7, L7⟩
     rw [List.take_of_length_le (by rw [List.length_map, htl]; omega)] at L7
     obtain ⟨us, e1, e2, e3, e4⟩ := L7
     have hpos : 0 < (Rm.cmdsAt t i).length := by
       unfold Rm.cmdsAt Rm.plainC
       rw [List.length_append, List.length_append, List.length_map, List.length_range]
       omega
     refine ⟨_, rfl, rfl, D, us, (Rm.textsAt t i).map RwReelSeed.nums, rfl, e1, by rw [List.length_map]; exact e2, fun k u l hu hlk => ?_, by omega, fun H8 k u l s8 hu hlk hmin => ?_⟩
     · rw [List.getElem?_map] at hlk
       obtain ⟨c, hc, rfl⟩ := Option.map_eq_some_iff.mp hlk
       exact e4 k u c hu hc
     · rw [List.getElem?_map] at hlk
       obtain ⟨c, hc, rfl⟩ := Option.map_eq_some_iff.mp hlk
       have hB : Rm.B t i = c := Rm.B_is ht hit (List.mem_of_getElem? hc) fun y hy => by
         obtain ⟨j, hj⟩ := List.getElem?_of_mem hy
         exact szLt_less (hmin j _ (by rw [List.getElem?_map, hj]; rfl))
       have hu8 := s8 _ _ (e4 k u c hu hc)
       have L8 := (hb6.same s7).same s8
       obtain ⟨xs, v, x1, x2, x3, x4⟩ := L8.get (bsAt_get (t := t) (m := m) (j := t.length) (Nat.le_refl _) (by omega))
       obtain ⟨fr, _⟩ := e3 u (List.mem_of_getElem? hu)
       have hub : u ≠ ba := fun e => by
         obtain ⟨ys, y1, _⟩ := hb6
         rw [e, y1] at fr
         cases fr
       have hix : ixN xs.length (i : Int) = some i := by
         unfold ixN
         rw [if_pos (by omega), if_pos (by rw [x2, bsAt_len]; omega), Int.toNat_natCast]
       refine ⟨_, rfl, _, rfl, ba, xs, _, i, rfl, rfl, x1, hix, ⟨_, _, _, _, _, rfl⟩, ?_, ?_⟩
       · intro b o hb
         rw [upd_ne (ne_of_none hb hba)]
         exact s8 _ _ (s7 _ _ (s26 _ _ (s2 _ _ hb)))
       · rw [← bsAt_succ hm, hi, hB]
         exact LL.put L8 x1 hu8 ((s2.trans s26).free fr) hub
 · rintro σ H2 ⟨⟨o2, o3, o4, o5, o6, rfl⟩, s2, L2⟩
   obtain ⟨xs, u, x1, x2, x3, x4⟩ := L2.get (bsAt_get (j := 0) (Nat.zero_le _) (by omega))
   exact ⟨_, rfl, ba, 0, xs, V.ref u, rfl, rfl, x1, x3, q H2 u s2 x4⟩)) only [↓mr]
theorem ok_z85 (T : Txt K mg A) : Fn P w K mg base 4 A.z85 ["machine", "numbers", "data"] (sp_call A 0 fun _ ds => .pack ds) := by
 refine mq ?_; simp (disch := k_dflt (
 refine mz ?_
 refine Fn.on T.d_z85 sc_z85 (fun _ _ _ _ _ _ hr => bd_z85 T (ok_z74 T) (ok_z87 T) hr) fun vs H Q h => ?_
 obtain ⟨L, z, na, da, ns, ds, rfl, M, hna, hda, hnl, hdl, q⟩ := h
 refine ⟨rfl, ?_⟩
 rw [st_z85, rd_z85]
 have q : Post A H L (z, if RwReelSeed.areBytes RwReelSeed.PACK ds = true then RwReelSeed.tells (RwReelSeed.nums (Rw.packed (RwReelSeed.bytesOf ds))) else RwReelSeed.no 1) Q := q
 walk_at "wp"
 refine ⟨da, ds, 64, rfl, hda, hdl, fun H1 s1 => ⟨_, rfl, ?_⟩⟩
 cases hb : RwReelSeed.areBytes 64 ds with
 | false =>
   rw [show RwReelSeed.areBytes RwReelSeed.PACK ds = false from hb, if_neg (by simp)] at q
   rw [if_pos rfl]
   exact fun p hp => q.same M s1 hp rfl
 | true =>
   rw [show RwReelSeed.areBytes RwReelSeed.PACK ds = true from hb, if_pos rfl] at q
   rw [if_neg (by simp)]
   obtain ⟨hdn, hbv⟩ := areBytes_all hb
   have hln : (RwReelSeed.bytesOf ds).length ≤ 64 := by unfold RwReelSeed.bytesOf; rw [List.length_map]; exact hdn
   intro p hp
   have s2 := same_upd (o := HO.lst [V.int 0]) hp
   refine ⟨da, RwReelSeed.bytesOf ds, rfl, by rw [← hbv]; exact s2 _ _ (s1 _ _ hda), hln, fun H3 l s3 hl => ?_⟩
   have hpl := Rm.packed_le (RwReelSeed.bytesOf ds)
   refine ⟨p, l, _, _, rfl, rfl, s3 _ _ upd_same, hl, ?_, fun r hr => ?_⟩
   · rw [bv_len]
     have : (10000 : Nat) < sizeLine := by decide
     simp only [List.length_cons, List.length_nil]
     omega
   · exact q.same M ((s1.trans s2).trans s3) hr rfl)) only [↓mr]
end Sd
namespace Sd
open PySem PySem.Spec PyProof.Rows L2
def RawF (K : PySem.W.Frag) (x qual : Str) (st : Stmt) (f : Addr) : Prop := ∃ (oc : Value) (od : Option Addr) (kV doc pm : Value) (an : Option Addr) (cdv ct : Value) (osl : Array (Option Value)),
 K.lookup f = some ⟨oc, od, .func (PySem.W.fnOf x qual (defArgs st) (defBody st) (defScope st) .none kV doc pm an cdv ct), osl⟩ ∧ PySem.W.codeIn K cdv qual = true ∧ PySem.W.keepIn K (.ref f) = true
theorem RawF.df {K : PySem.W.Frag} {x qual : Str} {st : Stmt} {f : Addr} {ps : List Str} (r : RawF K x qual st f)
   (h : ∀ (kV doc pm : Value) (an : Option Addr) (cdv ct : Value) (us : List Value), us.length = ps.length → bindArgs (PySem.W.fnOf x qual (defArgs st) (defBody st) (defScope st) .none kV doc pm an cdv ct) ⟨us, []⟩ = pure (ps.zip us)) : Df K x qual st f ps := by
 obtain ⟨oc, od, kV, doc, pm, an, cdv, ct, osl, l, c, k⟩ := r
 have F := fun_mk (st := st) l c k
 exact ⟨_, F, F.binds h⟩
theorem RawF.kp {K : PySem.W.Frag} {x qual : Str} {st : Stmt} {f : Addr} (r : RawF K x qual st f) : PySem.W.keepIn K (.ref f) = true := by
 obtain ⟨oc, od, kV, doc, pm, an, cdv, ct, osl, l, c, k⟩ := r
 exact k
def RawC (K : PySem.W.Frag) (C : Addr) : Prop := PySem.W.plainGet K C Str.empty = true ∧ PySem.W.hasDictIn K C = true ∧ PySem.W.plainOver K C = true ∧ PySem.W.findIn K (.ref C) "__setattr__" = some (some (.builtin "object.__setattr__")) ∧ PySem.W.makesIn K C = true ∧ PySem.W.keepIn K (.ref C) = true
def RawM (K : PySem.W.Frag) (C : Addr) (m : Str) (f : Addr) : Prop := PySem.W.findIn K (.ref C) m = some (some (.ref f)) ∧ PySem.W.isFn K (.ref f) = true
abbrev nS (K : PySem.W.Frag) (x : Str) (v : Value) : Prop := PySem.W.nsIn K mainGlobals x = some (some v)
abbrev nN (K : PySem.W.Frag) (x : Str) : Prop := PySem.W.nsIn K mainGlobals x = some none
variable {P : Program} {w : World} {K : PySem.W.Frag} {mg : Str → Option Value} {base : Heap} {A : Ad}
theorem short : Short := fun _ c hm _ => Rm.neutral_len hm c
theorem works (T : Txt K mg A) : Works P w K mg base A := by
 refine mq ?_; simp (disch := k_dflt (
 refine mz ?_
 obtain ⟨ts, hkd, h0⟩ := T.t_y36
 rcases h0 with _ | ⟨h1, h0⟩
 rcases h0 with _ | ⟨h2, h0⟩
 rcases h0 with _ | ⟨h3, h0⟩
 rcases h0 with _ | ⟨h4, h0⟩
 rcases h0 with _ | ⟨h5, h0⟩
 rcases h0 with _ | ⟨h6, h0⟩
 rcases h0 with _ | ⟨h7, h0⟩
 rcases h0 with _ | ⟨h8, h0⟩
 rcases h0 with _ | ⟨h9, h0⟩
 rcases h0 with _ | ⟨h10, h0⟩
 rcases h0 with _ | ⟨h11, h0⟩
 rcases h0 with _ | ⟨h12, h0⟩
 rcases h0 with _ | ⟨h13, h0⟩
 rcases h0 with _ | ⟨h14, h0⟩
 rcases h0 with _ | ⟨h15, h0⟩
 rcases h0 with _ | ⟨h16, h0⟩
 rcases h0 with _ | ⟨h17, h0⟩
 rcases h0 with _ | ⟨h18, h0⟩
 cases h0
 refine ⟨_, hkd, fun p n k hs => ?_⟩
 unfold PyWqadav.shape at hs
 by_cases g1 : p = 1
 · subst g1
   cases hs
   refine ⟨by decide, _, _, _, _, rfl, h1, ok_z48 T, by decide, fun z ns xs hn hx => ?_⟩
   match ns, hn, xs, hx with
   | [], _, [_], _ => rfl
 rw [if_neg g1] at hs
 by_cases g2 : p = 2
 · subst g2
   cases hs
   refine ⟨by decide, _, _, _, _, rfl, h2, ok_z41 T, by decide, fun z ns xs hn hx => ?_⟩
   match ns, hn, xs, hx with
   | [_, _, _, _, _, _], _, [], _ => rfl
 rw [if_neg g2] at hs
 by_cases g3 : p = 3
 · subst g3
   cases hs
   refine ⟨by decide, _, _, _, _, rfl, h3, ok_z29 T, by decide, fun z ns xs hn hx => ?_⟩
   match ns, hn, xs, hx with
   | [], _, [_], _ => rfl
 rw [if_neg g3] at hs
 by_cases g4 : p = 4
 · subst g4
   cases hs
   refine ⟨by decide, _, _, _, _, rfl, h4, ok_y19 T, by decide, fun z ns xs hn hx => ?_⟩
   match ns, hn, xs, hx with
   | [_, _, _, _], _, [], _ => rfl
 rw [if_neg g4] at hs
 by_cases g5 : p = 5
 · subst g5
   cases hs
   refine ⟨by decide, _, _, _, _, rfl, h5, ok_y5 T, by decide, fun z ns xs hn hx => ?_⟩
   match ns, hn, xs, hx with
   | [_], _, [], _ => rfl
 rw [if_neg g5] at hs
 by_cases g6 : p = 6
 · subst g6
   cases hs
   refine ⟨by decide, _, _, _, _, rfl, h6, ok_z91 T, by decide, fun z ns xs hn hx => ?_⟩
   match ns, hn, xs, hx with
   | [], _, [], _ => rfl
 rw [if_neg g6] at hs
 by_cases g7 : p = 7
 · subst g7
   cases hs
   refine ⟨by decide, _, _, _, _, rfl, h7, ok_z4 T, by decide, fun z ns xs hn hx => ?_⟩
   match ns, hn, xs, hx with
   | [], _, [], _ => rfl
 rw [if_neg g7] at hs
 by_cases g8 : p = 8
 · subst g8
   cases hs
   refine ⟨by decide, _, _, _, _, rfl, h8, ok_z76 T, by decide, fun z ns xs hn hx => ?_⟩
   match ns, hn, xs, hx with
   | [_, _, _, _, _], _, [], _ => rfl
 rw [if_neg g8] at hs
 by_cases g9 : p = 9
 · subst g9
   cases hs
   refine ⟨by decide, _, _, _, _, rfl, h9, ok_z89 T, by decide, fun z ns xs hn hx => ?_⟩
   match ns, hn, xs, hx with
   | [_, _, _, _], _, [], _ => rfl
 rw [if_neg g9] at hs
 by_cases g10 : p = 10
 · subst g10
   cases hs
   refine ⟨by decide, _, _, _, _, rfl, h10, ok_z92 T, by decide, fun z ns xs hn hx => ?_⟩
   match ns, hn, xs, hx with
   | [_, _, _], _, [], _ => rfl
 rw [if_neg g10] at hs
 by_cases g11 : p = 11
 · subst g11
   cases hs
   refine ⟨by decide, _, _, _, _, rfl, h11, ok_z67 T, by decide, fun z ns xs hn hx => ?_⟩
   match ns, hn, xs, hx with
   | [_, _, _, _, _], _, [], _ => rfl
 rw [if_neg g11] at hs
 by_cases g12 : p = 12
 · subst g12
   cases hs
   refine ⟨by decide, _, _, _, _, rfl, h12, ok_z80 T, by decide, fun z ns xs hn hx => ?_⟩
   match ns, hn, xs, hx with
   | [_, _, _, _, _], _, [], _ => rfl
 rw [if_neg g12] at hs
 by_cases g13 : p = 13
 · subst g13
   cases hs
   refine ⟨by decide, _, _, _, _, rfl, h13, ok_z50 T, by decide, fun z ns xs hn hx => ?_⟩
   match ns, hn, xs, hx with
   | [_, _, _, _, _], _, [], _ => rfl
 rw [if_neg g13] at hs
 by_cases g14 : p = 14
 · subst g14
   cases hs
   refine ⟨by decide, _, _, _, _, rfl, h14, ok_z66 T, by decide, fun z ns xs hn hx => ?_⟩
   match ns, hn, xs, hx with
   | [_, _, _, _], _, [], _ => rfl
 rw [if_neg g14] at hs
 by_cases g15 : p = 15
 · subst g15
   cases hs
   refine ⟨by decide, _, _, _, _, rfl, h15, ok_z73 T, by decide, fun z ns xs hn hx => ?_⟩
   match ns, hn, xs, hx with
   | [_, _, _], _, [], _ => rfl
 rw [if_neg g15] at hs
 by_cases g16 : p = 16
 · subst g16
   cases hs
   refine ⟨by decide, _, _, _, _, rfl, h16, ok_z83 T, by decide, fun z ns xs hn hx => ?_⟩
   match ns, hn, xs, hx with
   | [_, _, _], _, [], _ => rfl
 rw [if_neg g16] at hs
 by_cases g17 : p = 17
 · subst g17
   cases hs
   refine ⟨by decide, _, _, _, _, rfl, h17, ok_z56 T, by decide, fun z ns xs hn hx => ?_⟩
   match ns, hn, xs, hx with
   | [_], _, [_], _ => rfl
 rw [if_neg g17] at hs
 by_cases g18 : p = 18
 · subst g18
   cases hs
   refine ⟨by decide, _, _, _, _, rfl, h18, ok_z85 T, by decide, fun z ns xs hn hx => ?_⟩
   match ns, hn, xs, hx with
   | [], _, [_], _ => rfl
 rw [if_neg g18] at hs
 cases hs)) only [↓mr]
theorem txt_fin {P : Program} {w : World} {K : PySem.W.Frag} {h : Heap} {mg : Str → Option Value} {fa : Addr} (X : K.In h) (G : h.Ns mainGlobals mg) (hfa : mg "answers" = some (.ref fa))
   {tk_y1 : Tok} (c_y1 : nS K "REG_SIZE" (.int (18446744073709551616) tk_y1))
   {tk_y42 : Tok} (c_y42 : nS K "REG_A" (.int (0) tk_y42))
   {tk_y31 : Tok} (c_y31 : nS K "REG_C" (.int (1) tk_y31))
   {tk_y28 : Tok} (c_y28 : nS K "REG_SI" (.int (2) tk_y28))
   {tk_y27 : Tok} (c_y27 : nS K "REG_DI" (.int (3) tk_y27))
   {tk_y32 : Tok} (c_y32 : nS K "BIT_C" (.int (1) tk_y32))
   {tk_y33 : Tok} (c_y33 : nS K "BIT_P" (.int (4) tk_y33))
   {tk_y41 : Tok} (c_y41 : nS K "BIT_A" (.int (16) tk_y41))
   {tk_y40 : Tok} (c_y40 : nS K "BIT_Z" (.int (64) tk_y40))
   {tk_y37 : Tok} (c_y37 : nS K "BIT_S" (.int (128) tk_y37))
   {tk_y35 : Tok} (c_y35 : nS K "BIT_D" (.int (1024) tk_y35))
   {tk_y30 : Tok} (c_y30 : nS K "BIT_O" (.int (2048) tk_y30))
   {tk_y10 : Tok} (c_y10 : nS K "FINISHED" (.int (0) tk_y10))
   {tk_z77 : Tok} (c_z77 : nS K "MOST_DONE" (.int (1) tk_z77))
   {tk_z88 : Tok} (c_z88 : nS K "NO_MEMORY" (.int (3) tk_z88))
   {tk_z18 : Tok} (c_z18 : nS K "NO_INSTRUCTION" (.int (4) tk_z18))
   {tk_z37 : Tok} (c_z37 : nS K "FIRST_REPEAT" (.int (128) tk_z37))
   {tk_z64 : Tok} (c_z64 : nS K "FIRST_ECHO" (.int (192) tk_z64))
   {tk_z71 : Tok} (c_z71 : nS K "LEAST_MADE" (.int (3) tk_z71))
   {tk_y8 : Tok} (c_y8 : nS K "UNPACKED" (.int (0) tk_y8))
   {tk_z28 : Tok} (c_z28 : nS K "NOT_ALL_THERE" (.int (-2) tk_z28))
   {tk_z31 : Tok} (c_z31 : nS K "NOT_MADE_YET" (.int (-3) tk_z31))
   {tk_y14 : Tok} (c_y14 : nS K "NO_ROOM" (.int (-4) tk_y14))
   {tk_z24 : Tok} (c_z24 : nS K "COMPARED_BITS" (.int (2261) tk_z24))
   {tk_y25 : Tok} (c_y25 : nS K "FIELDS" (.int (8) tk_y25))
   {tk_z16 : Tok} (c_z16 : nS K "LAST_STRING_OP" (.int (4) tk_z16))
   {tk_y17 : Tok} (c_y17 : nS K "OP_JUMP" (.int (9) tk_y17))
   {tk_z20 : Tok} (c_z20 : nS K "OP_LOAD_TURNED" (.int (11) tk_z20))
   {tk_y20 : Tok} (c_y20 : nS K "OP_STOP" (.int (13) tk_y20))
   {tk_z15 : Tok} (c_z15 : nS K "OP_STORE_TURNED" (.int (14) tk_z15))
   {tk_y22 : Tok} (c_y22 : nS K "LAST_OP" (.int (14) tk_y22))
   {tk_z99 : Tok} (c_z99 : nS K "LAST_REG" (.int (3) tk_z99))
   {tk_y0 : Tok} (c_y0 : nS K "LAST_REP" (.int (2) tk_y0))
   {tk_z78 : Tok} (c_z78 : nS K "LAST_COND" (.int (6) tk_z78))
   {tk_y13 : Tok} (c_y13 : nS K "REFUSED" (.int (-1) tk_y13))
   {tk_y51 : Tok} (c_y51 : nS K "DONE" (.int (0) tk_y51))
   {tk_z69 : Tok} (c_z69 : nS K "MOST_BYTES" (.int (256) tk_z69))
   {tk_z45 : Tok} (c_z45 : nS K "MOST_PACKED" (.int (256) tk_z45))
   {tk_z81 : Tok} (c_z81 : nS K "MOST_ROOM" (.int (4096) tk_z81))
   {tk_z38 : Tok} (c_z38 : nS K "MOST_TO_PACK" (.int (64) tk_z38))
   {tk_z86 : Tok} (c_z86 : nS K "BYTE_SIZE" (.int (256) tk_z86))
   {tk_z82 : Tok} (c_z82 : nS K "HALF_SIZE" (.int (4294967296) tk_z82))
   {tk_z5 : Tok} (c_z5 : nS K "MOST_INSTRUCTIONS" (.int (64) tk_z5))
   {tk_z72 : Tok} (c_z72 : nS K "MOST_STEPS" (.int (10000) tk_z72))
   (b_all : nN K "all")
   (b_len : nN K "len")
   (b_list : nN K "list")
   (b_max : nN K "max")
   (b_min : nN K "min")
   (b_range : nN K "range")
   (b_reversed : nN K "reversed")
   {f_z58 : Addr} (a_z58 : nS K "has_element" (.ref f_z58))
   {f_z75 : Addr} (a_z75 : nS K "number_at" (.ref f_z75))
   {f_z70 : Addr} (a_z70 : nS K "put_number" (.ref f_z70))
   {f_z33 : Addr} (a_z33 : nS K "turned_bytes" (.ref f_z33))
   {f_y24 : Addr} (a_y24 : nS K "is_set" (.ref f_y24))
   {f_z96 : Addr} (a_z96 : nS K "set_down" (.ref f_z96))
   {f_z60 : Addr} (a_z60 : nS K "add_to_reg" (.ref f_z60))
   {f_z21 : Addr} (a_z21 : nS K "write_by_width" (.ref f_z21))
   {f_z36 : Addr} (a_z36 : nS K "bytes_needed" (.ref f_z36))
   {f_z61 : Addr} (a_z61 : nS K "bytes_made" (.ref f_z61))
   {f_z44 : Addr} (a_z44 : nS K "places_back" (.ref f_z44))
   {f_y6 : Addr} (a_y6 : nS K "fault_of" (.ref f_y6))
   {f_z68 : Addr} (a_z68 : nS K "make_bytes" (.ref f_z68))
   {f_z42 : Addr} (a_z42 : nS K "unpack_text" (.ref f_z42))
   {f_z46 : Addr} (a_z46 : nS K "echo_length" (.ref f_z46))
   {f_z17 : Addr} (a_z17 : nS K "plain_commands" (.ref f_z17))
   {f_z9 : Addr} (a_z9 : nS K "repeat_commands" (.ref f_z9))
   {f_z26 : Addr} (a_z26 : nS K "echo_commands" (.ref f_z26))
   {f_z19 : Addr} (a_z19 : nS K "size_and_bytes" (.ref f_z19))
   {f_z87 : Addr} (a_z87 : nS K "pack_text" (.ref f_z87))
   {f_z23 : Addr} (a_z23 : nS K "has_even_ones" (.ref f_z23))
   {f_z79 : Addr} (a_z79 : nS K "with_sign" (.ref f_z79))
   {f_z35 : Addr} (a_z35 : nS K "bits_of_rest" (.ref f_z35))
   {f_y16 : Addr} (a_y16 : nS K "compare" (.ref f_y16))
   {f_z25 : Addr} (a_z25 : nS K "number_at_reg" (.ref f_z25))
   {f_z51 : Addr} (a_z51 : nS K "lowest_of_a" (.ref f_z51))
   {f_y18 : Addr} (a_y18 : nS K "move_on" (.ref f_y18))
   {f_y46 : Addr} (a_y46 : nS K "movs" (.ref f_y46))
   {f_y48 : Addr} (a_y48 : nS K "stos" (.ref f_y48))
   {f_y47 : Addr} (a_y47 : nS K "lods" (.ref f_y47))
   {f_y45 : Addr} (a_y45 : nS K "scas" (.ref f_y45))
   {f_y50 : Addr} (a_y50 : nS K "cmps" (.ref f_y50))
   {f_z27 : Addr} (a_z27 : nS K "lacks_element" (.ref f_z27))
   {f_z0 : Addr} (a_z0 : nS K "is_ended_by_comparison" (.ref f_z0))
   {f_z93 : Addr} (a_z93 : nS K "do_string" (.ref f_z93))
   {f_z13 : Addr} (a_z13 : nS K "instructions_of" (.ref f_z13))
   {f_z22 : Addr} (a_z22 : nS K "is_ill_formed" (.ref f_z22))
   {f_z6 : Addr} (a_z6 : nS K "first_ill_formed" (.ref f_z6))
   {f_y43 : Addr} (a_y43 : nS K "put_k" (.ref f_y43))
   {f_y44 : Addr} (a_y44 : nS K "add_k" (.ref f_y44))
   {f_z65 : Addr} (a_z65 : nS K "take_other" (.ref f_z65))
   {f_z8 : Addr} (a_z8 : nS K "choose_direction" (.ref f_z8))
   {f_y39 : Addr} (a_y39 : nS K "holds" (.ref f_y39))
   {f_y49 : Addr} (a_y49 : nS K "jump" (.ref f_y49))
   {f_z97 : Addr} (a_z97 : nS K "turn_own" (.ref f_z97))
   {f_z43 : Addr} (a_z43 : nS K "load_turned" (.ref f_z43))
   {f_z98 : Addr} (a_z98 : nS K "exchange" (.ref f_z98))
   {f_z39 : Addr} (a_z39 : nS K "store_turned" (.ref f_z39))
   {f_z30 : Addr} (a_z30 : nS K "lacks_memory" (.ref f_z30))
   {f_y3 : Addr} (a_y3 : nS K "do_plain" (.ref f_y3))
   {f_z10 : Addr} (a_z10 : nS K "do_string_steps" (.ref f_z10))
   {f_z59 : Addr} (a_z59 : nS K "run_program" (.ref f_z59))
   {f_y26 : Addr} (a_y26 : nS K "is_row" (.ref f_y26))
   {f_y7 : Addr} (a_y7 : nS K "in_order" (.ref f_y7))
   {f_z94 : Addr} (a_z94 : nS K "copy_row" (.ref f_z94))
   {f_y2 : Addr} (a_y2 : nS K "fill_row" (.ref f_y2))
   {f_z49 : Addr} (a_z49 : nS K "row_numbers" (.ref f_z49))
   {f_y11 : Addr} (a_y11 : nS K "put_row" (.ref f_y11))
   {f_y9 : Addr} (a_y9 : nS K "are_like" (.ref f_y9))
   {f_z47 : Addr} (a_z47 : nS K "find_in_row" (.ref f_z47))
   {f_z14 : Addr} (a_z14 : nS K "find_difference" (.ref f_z14))
   {f_z40 : Addr} (a_z40 : nS K "count_in_row" (.ref f_z40))
   {f_y4 : Addr} (a_y4 : nS K "turn_row" (.ref f_y4))
   {f_z95 : Addr} (a_z95 : nS K "swap_row" (.ref f_z95))
   {f_z90 : Addr} (a_z90 : nS K "are_below" (.ref f_z90))
   {f_z74 : Addr} (a_z74 : nS K "are_bytes" (.ref f_z74))
   {f_z48 : Addr} (a_z48 : nS K "call_memory" (.ref f_z48))
   {f_z41 : Addr} (a_z41 : nS K "call_machine" (.ref f_z41))
   {f_z29 : Addr} (a_z29 : nS K "call_program" (.ref f_z29))
   {f_y19 : Addr} (a_y19 : nS K "call_do" (.ref f_y19))
   {f_y5 : Addr} (a_y5 : nS K "call_run" (.ref f_y5))
   {f_z91 : Addr} (a_z91 : nS K "call_tell" (.ref f_z91))
   {f_z4 : Addr} (a_z4 : nS K "call_memory_bytes" (.ref f_z4))
   {f_z34 : Addr} (a_z34 : nS K "are_two_rows" (.ref f_z34))
   {f_z76 : Addr} (a_z76 : nS K "call_copy" (.ref f_z76))
   {f_z89 : Addr} (a_z89 : nS K "call_fill" (.ref f_z89))
   {f_z92 : Addr} (a_z92 : nS K "call_echo" (.ref f_z92))
   {f_y29 : Addr} (a_y29 : nS K "search" (.ref f_y29))
   {f_z67 : Addr} (a_z67 : nS K "call_first" (.ref f_z67))
   {f_z80 : Addr} (a_z80 : nS K "call_last" (.ref f_z80))
   {f_z50 : Addr} (a_z50 : nS K "call_differ" (.ref f_z50))
   {f_z66 : Addr} (a_z66 : nS K "call_count" (.ref f_z66))
   {f_z63 : Addr} (a_z63 : nS K "change_row" (.ref f_z63))
   {f_z73 : Addr} (a_z73 : nS K "call_turn" (.ref f_z73))
   {f_z83 : Addr} (a_z83 : nS K "call_swap" (.ref f_z83))
   {f_z56 : Addr} (a_z56 : nS K "call_unpack" (.ref f_z56))
   {f_z85 : Addr} (a_z85 : nS K "call_pack" (.ref f_z85))
   {f_z53 : Addr} (a_z53 : nS K "answer_next" (.ref f_z53))
   {f_y15 : Addr} (a_y15 : nS K "answers" (.ref f_y15))
   {f_y21 : Addr} (a_y21 : nS K "Machine" (.ref f_y21))
   (rc_y21 : RawC K f_y21)
   (n_y21_cells : PySem.W.findIn K (.ref f_y21) "cells" = some none)
   (n_y21_regs : PySem.W.findIn K (.ref f_y21) "regs" = some none)
   (n_y21_flags : PySem.W.findIn K (.ref f_y21) "flags" = some none)
   (n_y21_at : PySem.W.findIn K (.ref f_y21) "at" = some none)
   (n_y21_program : PySem.W.findIn K (.ref f_y21) "program" = some none)
   {f_z32 : Addr} (m_z32 : RawM K f_y21 "__init__" f_z32)
   {f_z57 : Addr} (a_z57 : nS K "Instruction" (.ref f_z57))
   (rc_z57 : RawC K f_z57)
   (n_z57_op : PySem.W.findIn K (.ref f_z57) "op" = some none)
   (n_z57_width : PySem.W.findIn K (.ref f_z57) "width" = some none)
   (n_z57_rep : PySem.W.findIn K (.ref f_z57) "rep" = some none)
   (n_z57_cond : PySem.W.findIn K (.ref f_z57) "cond" = some none)
   (n_z57_to : PySem.W.findIn K (.ref f_z57) "to" = some none)
   (n_z57_x : PySem.W.findIn K (.ref f_z57) "x" = some none)
   (n_z57_y : PySem.W.findIn K (.ref f_z57) "y" = some none)
   (n_z57_k : PySem.W.findIn K (.ref f_z57) "k" = some none)
   {f_z7 : Addr} (m_z7 : RawM K f_z57 "__init__" f_z7)
   {f_z62 : Addr} (a_z62 : nS K "CallReader" (.ref f_z62))
   (rc_z62 : RawC K f_z62)
   (n_z62_calls : PySem.W.findIn K (.ref f_z62) "calls" = some none)
   (n_z62_place : PySem.W.findIn K (.ref f_z62) "place" = some none)
   {f_z11 : Addr} (m_z11 : RawM K f_z62 "__init__" f_z11)
   {f_z3 : Addr} (m_z3 : RawM K f_z62 "is_at_end" f_z3)
   {f_z12 : Addr} (m_z12 : RawM K f_z62 "take" f_z12)
   {f_z1 : Addr} (m_z1 : RawM K f_z62 "take_number" f_z1)
   {f_z2 : Addr} (m_z2 : RawM K f_z62 "take_list" f_z2)
   (r_z58 : RawF K "has_element" "has_element" s_z58 f_z58)
   (r_z75 : RawF K "number_at" "number_at" s_z75 f_z75)
   (r_z70 : RawF K "put_number" "put_number" s_z70 f_z70)
   (r_z33 : RawF K "turned_bytes" "turned_bytes" s_z33 f_z33)
   (r_z32 : RawF K "__init__" "Machine.__init__" s_z32 f_z32)
   (r_y24 : RawF K "is_set" "is_set" s_y24 f_y24)
   (r_z96 : RawF K "set_down" "set_down" s_z96 f_z96)
   (r_z60 : RawF K "add_to_reg" "add_to_reg" s_z60 f_z60)
   (r_z21 : RawF K "write_by_width" "write_by_width" s_z21 f_z21)
   (r_z36 : RawF K "bytes_needed" "bytes_needed" s_z36 f_z36)
   (r_z61 : RawF K "bytes_made" "bytes_made" s_z61 f_z61)
   (r_z44 : RawF K "places_back" "places_back" s_z44 f_z44)
   (r_y6 : RawF K "fault_of" "fault_of" s_y6 f_y6)
   (r_z68 : RawF K "make_bytes" "make_bytes" s_z68 f_z68)
   (r_z42 : RawF K "unpack_text" "unpack_text" s_z42 f_z42)
   (r_z46 : RawF K "echo_length" "echo_length" s_z46 f_z46)
   (r_z17 : RawF K "plain_commands" "plain_commands" s_z17 f_z17)
   (r_z9 : RawF K "repeat_commands" "repeat_commands" s_z9 f_z9)
   (r_z26 : RawF K "echo_commands" "echo_commands" s_z26 f_z26)
   (r_z19 : RawF K "size_and_bytes" "size_and_bytes" s_z19 f_z19)
   (r_z87 : RawF K "pack_text" "pack_text" s_z87 f_z87)
   (r_z23 : RawF K "has_even_ones" "has_even_ones" s_z23 f_z23)
   (r_z79 : RawF K "with_sign" "with_sign" s_z79 f_z79)
   (r_z35 : RawF K "bits_of_rest" "bits_of_rest" s_z35 f_z35)
   (r_y16 : RawF K "compare" "compare" s_y16 f_y16)
   (r_z25 : RawF K "number_at_reg" "number_at_reg" s_z25 f_z25)
   (r_z51 : RawF K "lowest_of_a" "lowest_of_a" s_z51 f_z51)
   (r_y18 : RawF K "move_on" "move_on" s_y18 f_y18)
   (r_y46 : RawF K "movs" "movs" s_y46 f_y46)
   (r_y48 : RawF K "stos" "stos" s_y48 f_y48)
   (r_y47 : RawF K "lods" "lods" s_y47 f_y47)
   (r_y45 : RawF K "scas" "scas" s_y45 f_y45)
   (r_y50 : RawF K "cmps" "cmps" s_y50 f_y50)
   (r_z27 : RawF K "lacks_element" "lacks_element" s_z27 f_z27)
   (r_z0 : RawF K "is_ended_by_comparison" "is_ended_by_comparison" s_z0 f_z0)
   (r_z93 : RawF K "do_string" "do_string" s_z93 f_z93)
   (r_z7 : RawF K "__init__" "Instruction.__init__" s_z7 f_z7)
   (r_z13 : RawF K "instructions_of" "instructions_of" s_z13 f_z13)
   (r_z22 : RawF K "is_ill_formed" "is_ill_formed" s_z22 f_z22)
   (r_z6 : RawF K "first_ill_formed" "first_ill_formed" s_z6 f_z6)
   (r_y43 : RawF K "put_k" "put_k" s_y43 f_y43)
   (r_y44 : RawF K "add_k" "add_k" s_y44 f_y44)
   (r_z65 : RawF K "take_other" "take_other" s_z65 f_z65)
   (r_z8 : RawF K "choose_direction" "choose_direction" s_z8 f_z8)
   (r_y39 : RawF K "holds" "holds" s_y39 f_y39)
   (r_y49 : RawF K "jump" "jump" s_y49 f_y49)
   (r_z97 : RawF K "turn_own" "turn_own" s_z97 f_z97)
   (r_z43 : RawF K "load_turned" "load_turned" s_z43 f_z43)
   (r_z98 : RawF K "exchange" "exchange" s_z98 f_z98)
   (r_z39 : RawF K "store_turned" "store_turned" s_z39 f_z39)
   (r_z30 : RawF K "lacks_memory" "lacks_memory" s_z30 f_z30)
   (r_y3 : RawF K "do_plain" "do_plain" s_y3 f_y3)
   (r_z10 : RawF K "do_string_steps" "do_string_steps" s_z10 f_z10)
   (r_z59 : RawF K "run_program" "run_program" s_z59 f_z59)
   (r_y26 : RawF K "is_row" "is_row" s_y26 f_y26)
   (r_y7 : RawF K "in_order" "in_order" s_y7 f_y7)
   (r_z94 : RawF K "copy_row" "copy_row" s_z94 f_z94)
   (r_y2 : RawF K "fill_row" "fill_row" s_y2 f_y2)
   (r_z49 : RawF K "row_numbers" "row_numbers" s_z49 f_z49)
   (r_y11 : RawF K "put_row" "put_row" s_y11 f_y11)
   (r_y9 : RawF K "are_like" "are_like" s_y9 f_y9)
   (r_z47 : RawF K "find_in_row" "find_in_row" s_z47 f_z47)
   (r_z14 : RawF K "find_difference" "find_difference" s_z14 f_z14)
   (r_z40 : RawF K "count_in_row" "count_in_row" s_z40 f_z40)
   (r_y4 : RawF K "turn_row" "turn_row" s_y4 f_y4)
   (r_z95 : RawF K "swap_row" "swap_row" s_z95 f_z95)
   (r_z90 : RawF K "are_below" "are_below" s_z90 f_z90)
   (r_z74 : RawF K "are_bytes" "are_bytes" s_z74 f_z74)
   (r_z48 : RawF K "call_memory" "call_memory" s_z48 f_z48)
   (r_z41 : RawF K "call_machine" "call_machine" s_z41 f_z41)
   (r_z29 : RawF K "call_program" "call_program" s_z29 f_z29)
   (r_y19 : RawF K "call_do" "call_do" s_y19 f_y19)
   (r_y5 : RawF K "call_run" "call_run" s_y5 f_y5)
   (r_z91 : RawF K "call_tell" "call_tell" s_z91 f_z91)
   (r_z4 : RawF K "call_memory_bytes" "call_memory_bytes" s_z4 f_z4)
   (r_z34 : RawF K "are_two_rows" "are_two_rows" s_z34 f_z34)
   (r_z76 : RawF K "call_copy" "call_copy" s_z76 f_z76)
   (r_z89 : RawF K "call_fill" "call_fill" s_z89 f_z89)
   (r_z92 : RawF K "call_echo" "call_echo" s_z92 f_z92)
   (r_y29 : RawF K "search" "search" s_y29 f_y29)
   (r_z67 : RawF K "call_first" "call_first" s_z67 f_z67)
   (r_z80 : RawF K "call_last" "call_last" s_z80 f_z80)
   (r_z50 : RawF K "call_differ" "call_differ" s_z50 f_z50)
   (r_z66 : RawF K "call_count" "call_count" s_z66 f_z66)
   (r_z63 : RawF K "change_row" "change_row" s_z63 f_z63)
   (r_z73 : RawF K "call_turn" "call_turn" s_z73 f_z73)
   (r_z83 : RawF K "call_swap" "call_swap" s_z83 f_z83)
   (r_z56 : RawF K "call_unpack" "call_unpack" s_z56 f_z56)
   (r_z85 : RawF K "call_pack" "call_pack" s_z85 f_z85)
   (r_z11 : RawF K "__init__" "CallReader.__init__" s_z11 f_z11)
   (r_z3 : RawF K "is_at_end" "CallReader.is_at_end" s_z3 f_z3)
   (r_z12 : RawF K "take" "CallReader.take" s_z12 f_z12)
   (r_z1 : RawF K "take_number" "CallReader.take_number" s_z1 f_z1)
   (r_z2 : RawF K "take_list" "CallReader.take_list" s_z2 f_z2)
   (r_z53 : RawF K "answer_next" "answer_next" s_z53 f_z53)
   (r_y15 : RawF K "answers" "answers" s_y15 f_y15)
   {f_y38 : Addr} (a_y38 : nS K "SIZES" (.ref f_y38))
   {o_y38 : Obj} (l_y38 : K.lookup f_y38 = some o_y38)
   {f_y12 : Addr} (a_y12 : nS K "NEED_SI" (.ref f_y12))
   {o_y12 : Obj} (l_y12 : K.lookup f_y12 = some o_y12)
   {f_y23 : Addr} (a_y23 : nS K "NEED_DI" (.ref f_y23))
   {o_y23 : Obj} (l_y23 : K.lookup f_y23 = some o_y23)
   {f_z84 : Addr} (a_z84 : nS K "COMPARING" (.ref f_z84))
   {o_z84 : Obj} (l_z84 : K.lookup f_z84 = some o_z84)
   {f_y34 : Addr} (a_y34 : nS K "DEEDS" (.ref f_y34))
   {o_y34 : Obj} (l_y34 : K.lookup f_y34 = some o_y34)
   {f_z54 : Addr} (a_z54 : nS K "TURNING_OPS" (.ref f_z54))
   {o_z54 : Obj} (l_z54 : K.lookup f_z54 = some o_z54)
   {f_z55 : Addr} (a_z55 : nS K "PLAIN_DEEDS" (.ref f_z55))
   {o_z55 : Obj} (l_z55 : K.lookup f_z55 = some o_z55)
   {f_y36 : Addr} (a_y36 : nS K "CALLS" (.ref f_y36))
   {o_y36 : Obj} (l_y36 : K.lookup f_y36 = some o_y36)
   (t_y38 : KDic K f_y38 [(1, V.int (256)), (2, V.int (65536)), (4, V.int (4294967296)), (8, V.int (18446744073709551616))])
   (t_y12 : KTup K f_y12 [V.int (0), V.int (2), V.int (4)])
   (t_y23 : KTup K f_y23 [V.int (0), V.int (1), V.int (3), V.int (4)])
   (t_z84 : KTup K f_z84 [V.int (3), V.int (4)])
   (t_y34 : KTup K f_y34 [V.ref f_y46, V.ref f_y48, V.ref f_y47, V.ref f_y45, V.ref f_y50])
   (t_z54 : KTup K f_z54 [V.int (10), V.int (11), V.int (14)])
   (t_z55 : KDic K f_z55 [(5, V.ref f_y43), (6, V.ref f_y44), (7, V.ref f_z65), (8, V.ref f_z8), (9, V.ref f_y49), (10, V.ref f_z97), (11, V.ref f_z43), (12, V.ref f_z98), (14, V.ref f_z39)])
   (t_y36 : ∃ ts : List Addr, KDic K f_y36 ([1, 2, 3, 4, 5, 6, 7, 8, 9, 10, 11, 12, 13, 14, 15, 16, 17, 18].zip (ts.map V.ref)) ∧ KTups K ts [[V.int (0), V.int (1), V.ref f_z48], [V.int (6), V.int (0), V.ref f_z41], [V.int (0), V.int (1), V.ref f_z29], [V.int (4), V.int (0), V.ref f_y19], [V.int (1), V.int (0), V.ref f_y5], [V.int (0), V.int (0), V.ref f_z91], [V.int (0), V.int (0), V.ref f_z4], [V.int (5), V.int (0), V.ref f_z76], [V.int (4), V.int (0), V.ref f_z89], [V.int (3), V.int (0), V.ref f_z92], [V.int (5), V.int (0), V.ref f_z67], [V.int (5), V.int (0), V.ref f_z80], [V.int (5), V.int (0), V.ref f_z50], [V.int (4), V.int (0), V.ref f_z66], [V.int (3), V.int (0), V.ref f_z73], [V.int (3), V.int (0), V.ref f_z83], [V.int (1), V.int (1), V.ref f_z56], [V.int (0), V.int (1), V.ref f_z85]])
   : ∃ fd : FuncData, (∀ (s : Shared) (us : List Value), us.length = (["calls"] : List Str).length → BindsTo s fd ⟨us, []⟩ ((["calls"] : List Str).zip us)) ∧ ∀ base : Heap, K.In base → base.Ns mainGlobals mg → FnOk P w K mg base CX0 10 fa fd ["calls"] (sp_y15 K) := by
 refine mq ?_; simp (disch := k_dflt (
 refine mz ?_
 have T : Txt K mg ⟨f_z58, f_z75, f_z70, f_z33, f_z32, f_y24, f_z96, f_z60, f_z21, f_z36, f_z61, f_z44, f_y6, f_z68, f_z42, f_z46, f_z17, f_z9, f_z26, f_z19, f_z87, f_z23, f_z79, f_z35, f_y16, f_z25, f_z51, f_y18, f_y46, f_y48, f_y47, f_y45, f_y50, f_z27, f_z0, f_z93, f_z7, f_z13, f_z22, f_z6, f_y43, f_y44, f_z65, f_z8, f_y39, f_y49, f_z97, f_z43, f_z98, f_z39, f_z30, f_y3, f_z10, f_z59, f_y26, f_y7, f_z94, f_y2, f_z49, f_y11, f_y9, f_z47, f_z14, f_z40, f_y4, f_z95, f_z90, f_z74, f_z48, f_z41, f_z29, f_y19, f_y5, f_z91, f_z4, f_z34, f_z76, f_z89, f_z92, f_y29, f_z67, f_z80, f_z50, f_z66, f_z63, f_z73, f_z83, f_z56, f_z85, f_z11, f_z3, f_z12, f_z1, f_z2, f_z53, f_y15, f_y21, f_z57, f_z62, f_y38, f_y12, f_y23, f_z84, f_y34, f_z54, f_z55, f_y36⟩ := {
   c_y1 := ⟨_, PySem.W.mg_of X G c_y1⟩
   c_y42 := ⟨_, PySem.W.mg_of X G c_y42⟩
   c_y31 := ⟨_, PySem.W.mg_of X G c_y31⟩
   c_y28 := ⟨_, PySem.W.mg_of X G c_y28⟩
   c_y27 := ⟨_, PySem.W.mg_of X G c_y27⟩
   c_y32 := ⟨_, PySem.W.mg_of X G c_y32⟩
   c_y33 := ⟨_, PySem.W.mg_of X G c_y33⟩
   c_y41 := ⟨_, PySem.W.mg_of X G c_y41⟩
   c_y40 := ⟨_, PySem.W.mg_of X G c_y40⟩
   c_y37 := ⟨_, PySem.W.mg_of X G c_y37⟩
   c_y35 := ⟨_, PySem.W.mg_of X G c_y35⟩
   c_y30 := ⟨_, PySem.W.mg_of X G c_y30⟩
   c_y10 := ⟨_, PySem.W.mg_of X G c_y10⟩
   c_z77 := ⟨_, PySem.W.mg_of X G c_z77⟩
   c_z88 := ⟨_, PySem.W.mg_of X G c_z88⟩
   c_z18 := ⟨_, PySem.W.mg_of X G c_z18⟩
   c_z37 := ⟨_, PySem.W.mg_of X G c_z37⟩
   c_z64 := ⟨_, PySem.W.mg_of X G c_z64⟩
   c_z71 := ⟨_, PySem.W.mg_of X G c_z71⟩
   c_y8 := ⟨_, PySem.W.mg_of X G c_y8⟩
   c_z28 := ⟨_, PySem.W.mg_of X G c_z28⟩
   c_z31 := ⟨_, PySem.W.mg_of X G c_z31⟩
   c_y14 := ⟨_, PySem.W.mg_of X G c_y14⟩
   c_z24 := ⟨_, PySem.W.mg_of X G c_z24⟩
   c_y25 := ⟨_, PySem.W.mg_of X G c_y25⟩
   c_z16 := ⟨_, PySem.W.mg_of X G c_z16⟩
   c_y17 := ⟨_, PySem.W.mg_of X G c_y17⟩
   c_z20 := ⟨_, PySem.W.mg_of X G c_z20⟩
   c_y20 := ⟨_, PySem.W.mg_of X G c_y20⟩
   c_z15 := ⟨_, PySem.W.mg_of X G c_z15⟩
   c_y22 := ⟨_, PySem.W.mg_of X G c_y22⟩
   c_z99 := ⟨_, PySem.W.mg_of X G c_z99⟩
   c_y0 := ⟨_, PySem.W.mg_of X G c_y0⟩
   c_z78 := ⟨_, PySem.W.mg_of X G c_z78⟩
   c_y13 := ⟨_, PySem.W.mg_of X G c_y13⟩
   c_y51 := ⟨_, PySem.W.mg_of X G c_y51⟩
   c_z69 := ⟨_, PySem.W.mg_of X G c_z69⟩
   c_z45 := ⟨_, PySem.W.mg_of X G c_z45⟩
   c_z81 := ⟨_, PySem.W.mg_of X G c_z81⟩
   c_z38 := ⟨_, PySem.W.mg_of X G c_z38⟩
   c_z86 := ⟨_, PySem.W.mg_of X G c_z86⟩
   c_z82 := ⟨_, PySem.W.mg_of X G c_z82⟩
   c_z5 := ⟨_, PySem.W.mg_of X G c_z5⟩
   c_z72 := ⟨_, PySem.W.mg_of X G c_z72⟩
   g_y38 := PySem.W.mg_of X G a_y38
   g_y12 := PySem.W.mg_of X G a_y12
   g_y23 := PySem.W.mg_of X G a_y23
   g_z84 := PySem.W.mg_of X G a_z84
   g_y34 := PySem.W.mg_of X G a_y34
   g_z54 := PySem.W.mg_of X G a_z54
   g_z55 := PySem.W.mg_of X G a_z55
   g_y36 := PySem.W.mg_of X G a_y36
   b_all := PySem.W.mg_none_of X G b_all
   b_len := PySem.W.mg_none_of X G b_len
   b_list := PySem.W.mg_none_of X G b_list
   b_max := PySem.W.mg_none_of X G b_max
   b_min := PySem.W.mg_none_of X G b_min
   b_range := PySem.W.mg_none_of X G b_range
   b_reversed := PySem.W.mg_none_of X G b_reversed
   m_z58 := PySem.W.mg_of X G a_z58
   m_z75 := PySem.W.mg_of X G a_z75
   m_z70 := PySem.W.mg_of X G a_z70
   m_z33 := PySem.W.mg_of X G a_z33
   m_y24 := PySem.W.mg_of X G a_y24
   m_z96 := PySem.W.mg_of X G a_z96
   m_z60 := PySem.W.mg_of X G a_z60
   m_z21 := PySem.W.mg_of X G a_z21
   m_z36 := PySem.W.mg_of X G a_z36
   m_z61 := PySem.W.mg_of X G a_z61
   m_z44 := PySem.W.mg_of X G a_z44
   m_y6 := PySem.W.mg_of X G a_y6
   m_z68 := PySem.W.mg_of X G a_z68
   m_z42 := PySem.W.mg_of X G a_z42
   m_z46 := PySem.W.mg_of X G a_z46
   m_z17 := PySem.W.mg_of X G a_z17
   m_z9 := PySem.W.mg_of X G a_z9
   m_z26 := PySem.W.mg_of X G a_z26
   m_z19 := PySem.W.mg_of X G a_z19
   m_z87 := PySem.W.mg_of X G a_z87
   m_z23 := PySem.W.mg_of X G a_z23
   m_z79 := PySem.W.mg_of X G a_z79
   m_z35 := PySem.W.mg_of X G a_z35
   m_y16 := PySem.W.mg_of X G a_y16
   m_z25 := PySem.W.mg_of X G a_z25
   m_z51 := PySem.W.mg_of X G a_z51
   m_y18 := PySem.W.mg_of X G a_y18
   m_y46 := PySem.W.mg_of X G a_y46
   m_y48 := PySem.W.mg_of X G a_y48
   m_y47 := PySem.W.mg_of X G a_y47
   m_y45 := PySem.W.mg_of X G a_y45
   m_y50 := PySem.W.mg_of X G a_y50
   m_z27 := PySem.W.mg_of X G a_z27
   m_z0 := PySem.W.mg_of X G a_z0
   m_z93 := PySem.W.mg_of X G a_z93
   m_z13 := PySem.W.mg_of X G a_z13
   m_z22 := PySem.W.mg_of X G a_z22
   m_z6 := PySem.W.mg_of X G a_z6
   m_y43 := PySem.W.mg_of X G a_y43
   m_y44 := PySem.W.mg_of X G a_y44
   m_z65 := PySem.W.mg_of X G a_z65
   m_z8 := PySem.W.mg_of X G a_z8
   m_y39 := PySem.W.mg_of X G a_y39
   m_y49 := PySem.W.mg_of X G a_y49
   m_z97 := PySem.W.mg_of X G a_z97
   m_z43 := PySem.W.mg_of X G a_z43
   m_z98 := PySem.W.mg_of X G a_z98
   m_z39 := PySem.W.mg_of X G a_z39
   m_z30 := PySem.W.mg_of X G a_z30
   m_y3 := PySem.W.mg_of X G a_y3
   m_z10 := PySem.W.mg_of X G a_z10
   m_z59 := PySem.W.mg_of X G a_z59
   m_y26 := PySem.W.mg_of X G a_y26
   m_y7 := PySem.W.mg_of X G a_y7
   m_z94 := PySem.W.mg_of X G a_z94
   m_y2 := PySem.W.mg_of X G a_y2
   m_z49 := PySem.W.mg_of X G a_z49
   m_y11 := PySem.W.mg_of X G a_y11
   m_y9 := PySem.W.mg_of X G a_y9
   m_z47 := PySem.W.mg_of X G a_z47
   m_z14 := PySem.W.mg_of X G a_z14
   m_z40 := PySem.W.mg_of X G a_z40
   m_y4 := PySem.W.mg_of X G a_y4
   m_z95 := PySem.W.mg_of X G a_z95
   m_z90 := PySem.W.mg_of X G a_z90
   m_z74 := PySem.W.mg_of X G a_z74
   m_z48 := PySem.W.mg_of X G a_z48
   m_z41 := PySem.W.mg_of X G a_z41
   m_z29 := PySem.W.mg_of X G a_z29
   m_y19 := PySem.W.mg_of X G a_y19
   m_y5 := PySem.W.mg_of X G a_y5
   m_z91 := PySem.W.mg_of X G a_z91
   m_z4 := PySem.W.mg_of X G a_z4
   m_z34 := PySem.W.mg_of X G a_z34
   m_z76 := PySem.W.mg_of X G a_z76
   m_z89 := PySem.W.mg_of X G a_z89
   m_z92 := PySem.W.mg_of X G a_z92
   m_y29 := PySem.W.mg_of X G a_y29
   m_z67 := PySem.W.mg_of X G a_z67
   m_z80 := PySem.W.mg_of X G a_z80
   m_z50 := PySem.W.mg_of X G a_z50
   m_z66 := PySem.W.mg_of X G a_z66
   m_z63 := PySem.W.mg_of X G a_z63
   m_z73 := PySem.W.mg_of X G a_z73
   m_z83 := PySem.W.mg_of X G a_z83
   m_z56 := PySem.W.mg_of X G a_z56
   m_z85 := PySem.W.mg_of X G a_z85
   m_z53 := PySem.W.mg_of X G a_z53
   m_y15 := PySem.W.mg_of X G a_y15
   d_z58 := r_z58.df (by walk_at "df3")
   d_z75 := r_z75.df (by walk_at "df3")
   d_z70 := r_z70.df (by walk_at "df4")
   d_z33 := r_z33.df (by walk_at "df2")
   d_z32 := r_z32.df (by walk_at "df1")
   d_y24 := r_y24.df (by walk_at "df2")
   d_z96 := r_z96.df (by walk_at "df2")
   d_z60 := r_z60.df (by walk_at "df3")
   d_z21 := r_z21.df (by walk_at "df4")
   d_z36 := r_z36.df (by walk_at "df1")
   d_z61 := r_z61.df (by walk_at "df1")
   d_z44 := r_z44.df (by walk_at "df1")
   d_y6 := r_y6.df (by walk_at "df4")
   d_z68 := r_z68.df (by walk_at "df3")
   d_z42 := r_z42.df (by walk_at "df2")
   d_z46 := r_z46.df (by walk_at "df3")
   d_z17 := r_z17.df (by walk_at "df2")
   d_z9 := r_z9.df (by walk_at "df2")
   d_z26 := r_z26.df (by walk_at "df2")
   d_z19 := r_z19.df (by walk_at "df1")
   d_z87 := r_z87.df (by walk_at "df1")
   d_z23 := r_z23.df (by walk_at "df1")
   d_z79 := r_z79.df (by walk_at "df2")
   d_z35 := r_z35.df (by walk_at "df2")
   d_y16 := r_y16.df (by walk_at "df4")
   d_z25 := r_z25.df (by walk_at "df3")
   d_z51 := r_z51.df (by walk_at "df2")
   d_y18 := r_y18.df (by walk_at "df3")
   d_y46 := r_y46.df (by walk_at "df2")
   d_y48 := r_y48.df (by walk_at "df2")
   d_y47 := r_y47.df (by walk_at "df2")
   d_y45 := r_y45.df (by walk_at "df2")
   d_y50 := r_y50.df (by walk_at "df2")
   d_z27 := r_z27.df (by walk_at "df3")
   d_z0 := r_z0.df (by walk_at "df3")
   d_z93 := r_z93.df (by walk_at "df5")
   d_z7 := r_z7.df (by walk_at "df2")
   d_z13 := r_z13.df (by walk_at "df1")
   d_z22 := r_z22.df (by walk_at "df2")
   d_z6 := r_z6.df (by walk_at "df1")
   d_y43 := r_y43.df (by walk_at "df2")
   d_y44 := r_y44.df (by walk_at "df2")
   d_z65 := r_z65.df (by walk_at "df2")
   d_z8 := r_z8.df (by walk_at "df2")
   d_y39 := r_y39.df (by walk_at "df2")
   d_y49 := r_y49.df (by walk_at "df2")
   d_z97 := r_z97.df (by walk_at "df2")
   d_z43 := r_z43.df (by walk_at "df2")
   d_z98 := r_z98.df (by walk_at "df2")
   d_z39 := r_z39.df (by walk_at "df2")
   d_z30 := r_z30.df (by walk_at "df2")
   d_y3 := r_y3.df (by walk_at "df2")
   d_z10 := r_z10.df (by walk_at "df3")
   d_z59 := r_z59.df (by walk_at "df2")
   d_y26 := r_y26.df (by walk_at "df4")
   d_y7 := r_y7.df (by walk_at "df2")
   d_z94 := r_z94.df (by walk_at "df6")
   d_y2 := r_y2.df (by walk_at "df5")
   d_z49 := r_z49.df (by walk_at "df4")
   d_y11 := r_y11.df (by walk_at "df4")
   d_y9 := r_y9.df (by walk_at "df5")
   d_z47 := r_z47.df (by walk_at "df7")
   d_z14 := r_z14.df (by walk_at "df6")
   d_z40 := r_z40.df (by walk_at "df5")
   d_y4 := r_y4.df (by walk_at "df4")
   d_z95 := r_z95.df (by walk_at "df4")
   d_z90 := r_z90.df (by walk_at "df2")
   d_z74 := r_z74.df (by walk_at "df2")
   d_z48 := r_z48.df (by walk_at "df3")
   d_z41 := r_z41.df (by walk_at "df3")
   d_z29 := r_z29.df (by walk_at "df3")
   d_y19 := r_y19.df (by walk_at "df3")
   d_y5 := r_y5.df (by walk_at "df3")
   d_z91 := r_z91.df (by walk_at "df3")
   d_z4 := r_z4.df (by walk_at "df3")
   d_z34 := r_z34.df (by walk_at "df5")
   d_z76 := r_z76.df (by walk_at "df3")
   d_z89 := r_z89.df (by walk_at "df3")
   d_z92 := r_z92.df (by walk_at "df3")
   d_y29 := r_y29.df (by walk_at "df3")
   d_z67 := r_z67.df (by walk_at "df3")
   d_z80 := r_z80.df (by walk_at "df3")
   d_z50 := r_z50.df (by walk_at "df3")
   d_z66 := r_z66.df (by walk_at "df3")
   d_z63 := r_z63.df (by walk_at "df3")
   d_z73 := r_z73.df (by walk_at "df3")
   d_z83 := r_z83.df (by walk_at "df3")
   d_z56 := r_z56.df (by walk_at "df3")
   d_z85 := r_z85.df (by walk_at "df3")
   d_z11 := r_z11.df (by walk_at "df2")
   d_z3 := r_z3.df (by walk_at "df1")
   d_z12 := r_z12.df (by walk_at "df2")
   d_z1 := r_z1.df (by walk_at "df1")
   d_z2 := r_z2.df (by walk_at "df1")
   d_z53 := r_z53.df (by walk_at "df2")
   d_y15 := r_y15.df (by walk_at "df1")
   m_y21 := PySem.W.mg_of X G a_y21
   cl_y21 := ⟨rc_y21.1, rc_y21.2.1, rc_y21.2.2.1, rc_y21.2.2.2.1⟩
   k_y21 := ⟨rc_y21.2.2.2.2.1, m_z32.1, m_z32.2, rc_y21.2.2.2.2.2⟩
   n_y21_cells := n_y21_cells
   n_y21_regs := n_y21_regs
   n_y21_flags := n_y21_flags
   n_y21_at := n_y21_at
   n_y21_program := n_y21_program
   m_z57 := PySem.W.mg_of X G a_z57
   cl_z57 := ⟨rc_z57.1, rc_z57.2.1, rc_z57.2.2.1, rc_z57.2.2.2.1⟩
   k_z57 := ⟨rc_z57.2.2.2.2.1, m_z7.1, m_z7.2, rc_z57.2.2.2.2.2⟩
   n_z57_op := n_z57_op
   n_z57_width := n_z57_width
   n_z57_rep := n_z57_rep
   n_z57_cond := n_z57_cond
   n_z57_to := n_z57_to
   n_z57_x := n_z57_x
   n_z57_y := n_z57_y
   n_z57_k := n_z57_k
   m_z62 := PySem.W.mg_of X G a_z62
   cl_z62 := ⟨rc_z62.1, rc_z62.2.1, rc_z62.2.2.1, rc_z62.2.2.2.1⟩
   k_z62 := ⟨rc_z62.2.2.2.2.1, m_z11.1, m_z11.2, rc_z62.2.2.2.2.2⟩
   n_z62_calls := n_z62_calls
   n_z62_place := n_z62_place
   m_z3 := ⟨m_z3.1, m_z3.2, r_z3.kp⟩
   m_z12 := ⟨m_z12.1, m_z12.2, r_z12.kp⟩
   m_z1 := ⟨m_z1.1, m_z1.2, r_z1.kp⟩
   m_z2 := ⟨m_z2.1, m_z2.2, r_z2.kp⟩
   t_y38 := t_y38
   t_y12 := t_y12
   t_y23 := t_y23
   t_z84 := t_z84
   t_y34 := t_y34
   t_z54 := t_z54
   t_z55 := t_z55
   t_y36 := t_y36
 }
 cases hfa.symm.trans (PySem.W.mg_of X G a_y15)
 obtain ⟨oc, od, kV, doc, pm, an, cdv, ct, osl, l, c, k⟩ := r_y15
 have F := fun_mk (st := s_y15) l c k
 exact ⟨_, fun s us hu => match us, hu with | [_], _ => .of_eq rfl, fun base _ _ => ok_y15 T (works T) short F⟩)) only [↓mr]
theorem inp_of {H : Hp} {a : Addr} {xs : List V} (hO : OnlyF H) (h : SqL K H a xs) : InpAt K H a xs := by
 rcases h with (h | ⟨o, h⟩) | h
 · rcases hO a with e | ⟨o, u, e⟩
   · rw [e] at h; cases h
   · rw [e] at h; cases h
 · exact .inl ⟨o, h⟩
 · exact .inr h
theorem iff_or {p k : Int} {x y z : Option (Nat × Nat)} (h : (if p = k then x else y) = z) : (p = k ∧ x = z) ∨ y = z := by
 by_cases e : p = k
 · exact .inl ⟨e, by rw [if_pos e] at h; exact h⟩
 · exact .inr (by rw [if_neg e] at h; exact h)
theorem un_l {α : Type} {n : Nat} : ∀ {l : List α}, n + 1 = l.length → ∃ x r, l = x :: r ∧ n = r.length
 | x :: r, h => ⟨x, r, rfl, Nat.succ.inj h⟩
theorem no_l {α : Type} : ∀ {l : List α}, 0 = l.length → l = []
 | [], _ => rfl
theorem whole_ok {c : List (List Int)} (h : PyFlat.okCall PyWqadav.shape c) : PyWqadav.whole c = c := by
 obtain ⟨p, a, xs, rfl, h⟩ := h
 unfold PyWqadav.shape at h
 iterate 18
  replace h := iff_or h
  rcases h with ⟨rfl, h⟩ | h
  · replace h := Option.some.inj h
    have h1 := congrArg Prod.fst h
    have h2 := congrArg Prod.snd h
    clear h
    dsimp only at h1 h2
    repeat (replace h1 := un_l h1; obtain ⟨_, _, rfl, h1⟩ := h1)
    repeat (replace h2 := un_l h2; obtain ⟨_, _, rfl, h2⟩ := h2)
    obtain rfl := no_l h1
    obtain rfl := no_l h2
    rfl
 cases h
theorem asked_of {l : List Int} (h : PyWqadav.answers_asked l = true) : ∃ cs, l = PyFlat.put cs ∧ (∀ c ∈ cs, PyFlat.okCall PyWqadav.shape c) ∧ cs.length ≤ 100 ∧ PyWqadav.answers l = PyFlat.told (PyFlat.played ReelNeutral.step ReelNeutral.start cs) := by
 unfold PyWqadav.answers_asked at h
 unfold PyWqadav.answers
 cases e : PyWqadav.calls l with
 | none => rw [e] at h; cases h
 | some cs =>
   rw [e] at h
   simp only [Bool.and_eq_true] at h
   unfold PyWqadav.calls at e
   cases e2 : PyFlat.calls PyWqadav.shape l.length l with
   | none => rw [e2] at e; cases e
   | some cs2 =>
     rw [e2] at e
     have e := Option.some.inj e
     obtain ⟨h1, h2⟩ := PyFlat.put_calls _ _ _ e2
     have e3 : cs2.map PyWqadav.whole = cs2 := by
       conv => rhs; rw [← List.map_id cs2]
       exact List.map_congr_left fun c hc => whole_ok (h2 c hc)
     rw [e3] at e
     subst e
     exact ⟨cs2, h1, h2, of_decide_eq_true h.1, rfl⟩

end Sd
def PySem.W.Fast.tw13052408679150730464 := 0
theorem PySem.W.Fast.te13052408679150730464 : True := trivial
def PySem.W.Fast.tw7758337746861606927 := 0
def PySem.W.Fast.tw14432585597416585929 := 0
def PySem.W.Fast.tw7541285398102288817 := 0
def PySem.W.Fast.tw11004833899308422013 := 0
def PySem.W.Fast.tw6141799949160009653 := 0
def PySem.W.Fast.tw18356201941482735103 := 0
def PySem.W.Fast.tw11591324139382411306 := 0
def PySem.W.Fast.tw1696125739901402346 := 0
def PySem.W.Fast.tw17531536467667413686 := 0
def PySem.W.Fast.tw14799668572362000983 := 0
def PySem.W.Fast.tw3457522682651951517 := 0
def PySem.W.Fast.tw7027328308281964483 := 0
def PySem.W.Fast.tw11433197014932232143 := 0
def PySem.W.Fast.tw9432232621280242661 := 0
def PySem.W.Fast.tw12003675809776247552 := 0
def PySem.W.Fast.tw212037933967647813 := 0
def PySem.W.Fast.tw2514028424704124878 := 0
def PySem.W.Fast.tw16699466700585529602 := 0
def PySem.W.Fast.tw15228018467721679505 := 0
open PySem PySem.W PyProof.Rows
set_option maxRecDepth 100000 in
set_option maxHeartbeats 0 in
theorem PySem.Challenge.cw_stringdeeds_s01_answers_holds : PySem.Challenge.rw_stringdeeds_s01_answers.Holds := by
 w_on; k_headS; (case hw => exact ⟨[.list [.int 6]], by decide +kernel, by decide +kernel⟩)
 k_fillS
 refine L2.walk_specK (r := PySem.Challenge.rw_stringdeeds_s01_answers) (k := 10) (CX := L2.CX0) (ps := ["calls"]) (sp := Sd.sp_y15) (by decide +kernel) rfl rfl ⟨rfl, by decide, by decide⟩ (fun w h Y => PySem.W.kIn_of Y) ?F ?S (fun _ _ _ _ z => z)
 case F =>
   intro w mg fa h Y KX G hmg
   refine' Sd.txt_fin KX G hmg ?z0 ?z1 ?z2 ?z3 ?z4 ?z5 ?z6 ?z7 ?z8 ?z9 ?z10 ?z11 ?z12 ?z13 ?z14 ?z15 ?z16 ?z17 ?z18 ?z19 ?z20 ?z21 ?z22 ?z23 ?z24 ?z25 ?z26 ?z27 ?z28 ?z29 ?z30 ?z31 ?z32 ?z33 ?z34 ?z35 ?z36 ?z37 ?z38 ?z39 ?z40 ?z41 ?z42 ?z43 ?z44 ?z45 ?z46 ?z47 ?z48 ?z49 ?z50 ?z51 ?z52 ?z53 ?z54 ?z55 ?z56 ?z57 ?z58 ?z59 ?z60 ?z61 ?z62 ?z63 ?z64 ?z65 ?z66 ?z67 ?z68 ?z69 ?z70 ?z71 ?z72 ?z73 ?z74 ?z75 ?z76 ?z77 ?z78 ?z79 ?z80 ?z81 ?z82 ?z83 ?z84 ?z85 ?z86 ?z87 ?z88 ?z89 ?z90 ?z91 ?z92 ?z93 ?z94 ?z95 ?z96 ?z97 ?z98 ?z99 ?z100 ?z101 ?z102 ?z103 ?z104 ?z105 ?z106 ?z107 ?z108 ?z109 ?z110 ?z111 ?z112 ?z113 ?z114 ?z115 ?z116 ?z117 ?z118 ?z119 ?z120 ?z121 ?z122 ?z123 ?z124 ?z125 ?z126 ?z127 ?z128 ?z129 ?z130 ?z131 ?z132 ?z133 ?z134 ?z135 ?z136 ?z137 ?z138 ?z139 ?z140 ?z141 ?z142 ?z143 ?z144 ?z145 ?z146 ?z147 ?z148 ?z149 ?z150 ?z151 ?z152 ?z153 ?z154 ?z155 ?z156 ?z157 ?z158 ?z159 ?z160 ?z161 ?z162 ?z163 ?z164 ?z165 ?z166 ?z167 ?z168 ?z169 ?z170 ?z171 ?z172 ?z173 ?z174 ?z175 ?z176 ?z177 ?z178 ?z179 ?z180 ?z181 ?z182 ?z183 ?z184 ?z185 ?z186 ?z187 ?z188 ?z189 ?z190 ?z191 ?z192 ?z193 ?z194 ?z195 ?z196 ?z197 ?z198 ?z199 ?z200 ?z201 ?z202 ?z203 ?z204 ?z205 ?z206 ?z207 ?z208 ?z209 ?z210 ?z211 ?z212 ?z213 ?z214 ?z215 ?z216 ?z217 ?z218 ?z219 ?z220 ?z221 ?z222 ?z223 ?z224 ?z225 ?z226 ?z227 ?z228 ?z229 ?z230 ?z231 ?z232 ?z233 ?z234 ?z235 ?z236 ?z237 ?z238 ?z239 ?z240 ?z241 ?z242 ?z243 ?z244 ?z245 ?z246 ?z247 ?z248 ?z249 ?z250 ?z251 ?z252 ?z253 ?z254 ?z255 ?z256 ?z257 ?z258 ?z259 ?z260 ?z261 ?z262 ?z263 ?z264 ?z265 ?z266 ?z267 ?z268 ?z269 ?z270 ?z271 ?z272 ?z273 ?z274 ?z275 ?z276 ?z277 ?z278 ?z279 ?t_y38 ?t_y12 ?t_y23 ?t_z84 ?t_y34 ?t_z54 ?t_z55 ?t_y36
   (case z0 | z1 | z2 | z3 | z4 | z5 | z6 | z7 | z8 | z9 | z10 | z11 | z12 | z13 | z14 | z15 | z16 | z17 | z18 | z19 | z20 | z21 | z22 | z23 | z24 | z25 | z26 | z27 | z28 | z29 | z30 | z31 | z32 | z33 | z34 | z35 | z36 | z37 | z38 | z39 | z40 | z41 | z42 | z43 | z44 | z45 | z46 | z47 | z48 | z49 | z50 | z51 | z52 | z53 | z54 | z55 | z56 | z57 | z58 | z59 | z60 | z61 | z62 | z63 | z64 | z65 | z66 | z67 | z68 | z69 | z70 | z71 | z72 | z73 | z74 | z75 | z76 | z77 | z78 | z79 | z80 | z81 | z82 | z83 | z84 | z85 | z86 | z87 | z88 | z89 | z90 | z91 | z92 | z93 | z94 | z95 | z96 | z97 | z98 | z99 | z100 | z101 | z102 | z103 | z104 | z105 | z106 | z107 | z108 | z109 | z110 | z111 | z112 | z113 | z114 | z115 | z116 | z117 | z118 | z119 | z120 | z121 | z122 | z123 | z124 | z125 | z126 | z127 | z128 | z129 | z130 | z131 | z132 | z133 | z134 | z135 | z136 | z137 | z138 | z139 | z140 => (try delta Sd.nS); (try delta Sd.nN); k_is)
   (case z141 => exact ⟨by k_is, by k_is, by k_is, by k_is, by k_is, by k_is⟩)
   (case z142 | z143 | z144 | z145 | z146 => (try delta Sd.nS); (try delta Sd.nN); k_is)
   (case z147 => exact ⟨by k_is, by k_is⟩)
   (case z148 => (try delta Sd.nS); (try delta Sd.nN); k_is)
   (case z149 => exact ⟨by k_is, by k_is, by k_is, by k_is, by k_is, by k_is⟩)
   (case z150 | z151 | z152 | z153 | z154 | z155 | z156 | z157 => (try delta Sd.nS); (try delta Sd.nN); k_is)
   (case z158 => exact ⟨by k_is, by k_is⟩)
   (case z159 => (try delta Sd.nS); (try delta Sd.nN); k_is)
   (case z160 => exact ⟨by k_is, by k_is, by k_is, by k_is, by k_is, by k_is⟩)
   (case z161 | z162 => (try delta Sd.nS); (try delta Sd.nN); k_is)
   (case z163 | z164 | z165 | z166 | z167 => exact ⟨by k_is, by k_is⟩)
   (case z168 | z169 | z170 | z171 | z172 | z173 | z174 | z175 | z176 | z177 | z178 | z179 | z180 | z181 | z182 | z183 | z184 | z185 | z186 | z187 | z188 | z189 | z190 | z191 | z192 | z193 | z194 | z195 | z196 | z197 | z198 | z199 | z200 | z201 | z202 | z203 | z204 | z205 | z206 | z207 | z208 | z209 | z210 | z211 | z212 | z213 | z214 | z215 | z216 | z217 | z218 | z219 | z220 | z221 | z222 | z223 | z224 | z225 | z226 | z227 | z228 | z229 | z230 | z231 | z232 | z233 | z234 | z235 | z236 | z237 | z238 | z239 | z240 | z241 | z242 | z243 | z244 | z245 | z246 | z247 | z248 | z249 | z250 | z251 | z252 | z253 | z254 | z255 | z256 | z257 | z258 | z259 | z260 | z261 | z262 | z263 => exact ⟨_, _, _, _, _, _, _, _, _, by k_is, by k_is, by k_is⟩)
   (case z264 | z265 | z266 | z267 | z268 | z269 | z270 | z271 | z272 | z273 | z274 | z275 | z276 | z277 | z278 | z279 => (try delta Sd.nS); (try delta Sd.nN); k_is)
   (case t_y38 => exact ⟨by decide, by decide +kernel, _, _, _, by k_is, by exact ⟨rfl, rfl, rfl⟩, by rfl, by exact .cons ⟨⟨_, rfl⟩, by decide +kernel, ⟨_, rfl⟩⟩ (.cons ⟨⟨_, rfl⟩, by decide +kernel, ⟨_, rfl⟩⟩ (.cons ⟨⟨_, rfl⟩, by decide +kernel, ⟨_, rfl⟩⟩ (.cons ⟨⟨_, rfl⟩, by decide +kernel, ⟨_, rfl⟩⟩ (.nil))))⟩)
   (case t_y12 => exact ⟨_, _, _, by k_is, rfl, rfl, by decide, .cons ⟨_, rfl⟩ (.cons ⟨_, rfl⟩ (.cons ⟨_, rfl⟩ (.nil)))⟩)
   (case t_y23 => exact ⟨_, _, _, by k_is, rfl, rfl, by decide, .cons ⟨_, rfl⟩ (.cons ⟨_, rfl⟩ (.cons ⟨_, rfl⟩ (.cons ⟨_, rfl⟩ (.nil))))⟩)
   (case t_z84 => exact ⟨_, _, _, by k_is, rfl, rfl, by decide, .cons ⟨_, rfl⟩ (.cons ⟨_, rfl⟩ (.nil))⟩)
   (case t_y34 => exact ⟨_, _, _, by k_is, rfl, rfl, by decide, .cons rfl (.cons rfl (.cons rfl (.cons rfl (.cons rfl (.nil)))))⟩)
   (case t_z54 => exact ⟨_, _, _, by k_is, rfl, rfl, by decide, .cons ⟨_, rfl⟩ (.cons ⟨_, rfl⟩ (.cons ⟨_, rfl⟩ (.nil)))⟩)
   (case t_z55 => exact ⟨by decide, by decide +kernel, _, _, _, by k_is, by exact ⟨rfl, rfl, rfl⟩, by rfl, by exact .cons ⟨⟨_, rfl⟩, by decide +kernel, rfl⟩ (.cons ⟨⟨_, rfl⟩, by decide +kernel, rfl⟩ (.cons ⟨⟨_, rfl⟩, by decide +kernel, rfl⟩ (.cons ⟨⟨_, rfl⟩, by decide +kernel, rfl⟩ (.cons ⟨⟨_, rfl⟩, by decide +kernel, rfl⟩ (.cons ⟨⟨_, rfl⟩, by decide +kernel, rfl⟩ (.cons ⟨⟨_, rfl⟩, by decide +kernel, rfl⟩ (.cons ⟨⟨_, rfl⟩, by decide +kernel, rfl⟩ (.cons ⟨⟨_, rfl⟩, by decide +kernel, rfl⟩ (.nil)))))))))⟩)
   (case t_y36 => refine ⟨[_, _, _, _, _, _, _, _, _, _, _, _, _, _, _, _, _, _], ⟨by decide, ?nd, _, _, _, by k_is, by exact ⟨rfl, rfl, rfl⟩, by rfl, by exact .cons ⟨⟨_, rfl⟩, by decide +kernel, rfl⟩ (.cons ⟨⟨_, rfl⟩, by decide +kernel, rfl⟩ (.cons ⟨⟨_, rfl⟩, by decide +kernel, rfl⟩ (.cons ⟨⟨_, rfl⟩, by decide +kernel, rfl⟩ (.cons ⟨⟨_, rfl⟩, by decide +kernel, rfl⟩ (.cons ⟨⟨_, rfl⟩, by decide +kernel, rfl⟩ (.cons ⟨⟨_, rfl⟩, by decide +kernel, rfl⟩ (.cons ⟨⟨_, rfl⟩, by decide +kernel, rfl⟩ (.cons ⟨⟨_, rfl⟩, by decide +kernel, rfl⟩ (.cons ⟨⟨_, rfl⟩, by decide +kernel, rfl⟩ (.cons ⟨⟨_, rfl⟩, by decide +kernel, rfl⟩ (.cons ⟨⟨_, rfl⟩, by decide +kernel, rfl⟩ (.cons ⟨⟨_, rfl⟩, by decide +kernel, rfl⟩ (.cons ⟨⟨_, rfl⟩, by decide +kernel, rfl⟩ (.cons ⟨⟨_, rfl⟩, by decide +kernel, rfl⟩ (.cons ⟨⟨_, rfl⟩, by decide +kernel, rfl⟩ (.cons ⟨⟨_, rfl⟩, by decide +kernel, rfl⟩ (.cons ⟨⟨_, rfl⟩, by decide +kernel, rfl⟩ (.nil))))))))))))))))))⟩, .cons ⟨_, _, _, by k_is, by rfl, by rfl, by decide, by exact .cons ⟨_, rfl⟩ (.cons ⟨_, rfl⟩ (.cons rfl .nil))⟩ (.cons ⟨_, _, _, by k_is, by rfl, by rfl, by decide, by exact .cons ⟨_, rfl⟩ (.cons ⟨_, rfl⟩ (.cons rfl .nil))⟩ (.cons ⟨_, _, _, by k_is, by rfl, by rfl, by decide, by exact .cons ⟨_, rfl⟩ (.cons ⟨_, rfl⟩ (.cons rfl .nil))⟩ (.cons ⟨_, _, _, by k_is, by rfl, by rfl, by decide, by exact .cons ⟨_, rfl⟩ (.cons ⟨_, rfl⟩ (.cons rfl .nil))⟩ (.cons ⟨_, _, _, by k_is, by rfl, by rfl, by decide, by exact .cons ⟨_, rfl⟩ (.cons ⟨_, rfl⟩ (.cons rfl .nil))⟩ (.cons ⟨_, _, _, by k_is, by rfl, by rfl, by decide, by exact .cons ⟨_, rfl⟩ (.cons ⟨_, rfl⟩ (.cons rfl .nil))⟩ (.cons ⟨_, _, _, by k_is, by rfl, by rfl, by decide, by exact .cons ⟨_, rfl⟩ (.cons ⟨_, rfl⟩ (.cons rfl .nil))⟩ (.cons ⟨_, _, _, by k_is, by rfl, by rfl, by decide, by exact .cons ⟨_, rfl⟩ (.cons ⟨_, rfl⟩ (.cons rfl .nil))⟩ (.cons ⟨_, _, _, by k_is, by rfl, by rfl, by decide, by exact .cons ⟨_, rfl⟩ (.cons ⟨_, rfl⟩ (.cons rfl .nil))⟩ (.cons ⟨_, _, _, by k_is, by rfl, by rfl, by decide, by exact .cons ⟨_, rfl⟩ (.cons ⟨_, rfl⟩ (.cons rfl .nil))⟩ (.cons ⟨_, _, _, by k_is, by rfl, by rfl, by decide, by exact .cons ⟨_, rfl⟩ (.cons ⟨_, rfl⟩ (.cons rfl .nil))⟩ (.cons ⟨_, _, _, by k_is, by rfl, by rfl, by decide, by exact .cons ⟨_, rfl⟩ (.cons ⟨_, rfl⟩ (.cons rfl .nil))⟩ (.cons ⟨_, _, _, by k_is, by rfl, by rfl, by decide, by exact .cons ⟨_, rfl⟩ (.cons ⟨_, rfl⟩ (.cons rfl .nil))⟩ (.cons ⟨_, _, _, by k_is, by rfl, by rfl, by decide, by exact .cons ⟨_, rfl⟩ (.cons ⟨_, rfl⟩ (.cons rfl .nil))⟩ (.cons ⟨_, _, _, by k_is, by rfl, by rfl, by decide, by exact .cons ⟨_, rfl⟩ (.cons ⟨_, rfl⟩ (.cons rfl .nil))⟩ (.cons ⟨_, _, _, by k_is, by rfl, by rfl, by decide, by exact .cons ⟨_, rfl⟩ (.cons ⟨_, rfl⟩ (.cons rfl .nil))⟩ (.cons ⟨_, _, _, by k_is, by rfl, by rfl, by decide, by exact .cons ⟨_, rfl⟩ (.cons ⟨_, rfl⟩ (.cons rfl .nil))⟩ (.cons ⟨_, _, _, by k_is, by rfl, by rfl, by decide, by exact .cons ⟨_, rfl⟩ (.cons ⟨_, rfl⟩ (.cons rfl .nil))⟩ (.nil))))))))))))))))))⟩; exact (by decide +kernel : ([1, 2, 3, 4, 5, 6, 7, 8, 9, 10, 11, 12, 13, 14, 15, 16, 17, 18] : List Int).Nodup))
 case S =>
   intro K H xs a hO hwi hask hx
   cases hx with
   | cons h1 h2 =>
     cases h2
     cases h1 with
     | lst hs ha =>
       have e := L2.ints_dw a.1 _ ha
       subst e
       have q : ((Codec.inLen 0 15000 a.1 && a.1.all (Codec.inInt (-36893488147419103232) 36893488147419103231)) && true) = true := hwi
       rw [Bool.and_eq_true, Bool.and_eq_true] at q
       obtain ⟨cs, c1, c2, c3, c4⟩ := Sd.asked_of (l := a.1) hask
       refine ⟨_, a.1, cs, rfl, Sd.inp_of hO hs, (Codec.inNat_iff.mp q.1.1).2, c1, c2, c3, fun H' g hg => ?_⟩
       rw [← c4] at hg
       exact .lst (L2.SqL.of hg) (L2.dw_ints _)
#print axioms PySem.Challenge.cw_stringdeeds_s01_answers_holds
