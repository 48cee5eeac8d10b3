import PyProof.Rows.All
import Wide.All
import OpenK.AllK
import Wide.FinOn
import HandS.ForMost
import PyProof.Lay0
import HandS.Dict
import HandS.Ends
import HandS.Steps
import HandS.Evl
import HandS.Style
import HandS.TupAny
import HandS.Deep
import HandS.More
import HandS.Strs
import HandS.Zip
import HandS.Gcd
import HandS.Conv
import PyProof.Rows.ReprR
import PyProof.ReprBulk
import KE.SortData
import KE.KxText
import KE.KTupSum
import KE.KRevSl
import PyProof.ReprLen
import PyProof.Fits
import KE.IntBitsLaws
import HandS.TupSets
import PyProof.SliceStr2
import HandS.Wide
import HandS.Call
import PySem.Challenge.RW_hownarrow_k20_words_there_and_back
set_option Elab.async false
set_option linter.all false
set_option maxRecDepth 100000
set_option maxHeartbeats 6100000
namespace YV
open PySem PySem.Spec L2
open PyProof.Rows (subscriptTail)

section
variable {X : Cx} {σ : L2.St} {H : Hp}
def sE (X : Cx) (e : Expr) : TE := fun σ H Q => ∀ pins s, Inv X pins σ H s → wpAny (model X.prog X.w) X.A (eval e X.env) (EP X pins σ Q) X.xe s
theorem sE.pe {e : Expr} : PE X e (sE X e) := ⟨fun pins s σ H Q I h => h pins s I⟩
theorem sE.of {e : Expr} {t : TE} (h : PE X e t) {Q : VK} (q : t σ H Q) : sE X e σ H Q := fun pins s I => h.run pins s σ H Q I q
theorem sE.mono {e : Expr} {Q Q' : VK} (h : sE X e σ H Q) (k : ∀ v H', Q v H' → Q' v H') : sE X e σ H Q' := fun pins s I =>
  thn (h pins s I) fun _ _ ⟨v, H', I', r, q⟩ => ⟨v, H', I', r, k v H' q⟩
def sT (X : Cx) (e : Expr) : TT := fun σ H Q => ∀ pins s, Inv X pins σ H s → wpAny (model X.prog X.w) X.A (isTrue e X.env (eval e X.env)) (TP X pins σ Q) X.xe s
theorem sT.pt {e : Expr} : PT X e (sT X e) := ⟨fun pins s σ H Q I h => h pins s I⟩
theorem sT.of {e : Expr} {t : TT} (h : PT X e t) {Q : Bool → Hp → Prop} (q : t σ H Q) : sT X e σ H Q := fun pins s I => h.run pins s σ H Q I q
def sW (X : Cx) (e : Expr) : TT := fun σ H Q => ∀ whole pins s, Inv X pins σ H s → wpAny (model X.prog X.w) X.A (isTrue e X.env whole) (TP X pins σ Q) X.xe s
theorem sW.pw {e : Expr} : PW X e (sW X e) := ⟨fun whole pins s σ H Q I h => h whole pins s I⟩
theorem sW.of {e : Expr} {t : TT} (h : PW X e t) {Q : Bool → Hp → Prop} (q : t σ H Q) : sW X e σ H Q := fun whole pins s I => h.run whole pins s σ H Q I q
def sA (X : Cx) (es : List Expr) : TA := fun σ H Q => ∀ pos pins s, Inv X pins σ H s → wpAny (model X.prog X.w) X.A (spliced (backTo pos (starEach es X.env))) (AP X pins σ Q) X.xe s
theorem sA.pa {es : List Expr} : PA X es (sA X es) := ⟨fun pos pins s σ H Q I h => h pos pins s I⟩
theorem sA.of {es : List Expr} {t : TA} (h : PA X es t) {Q : List V → Hp → Prop} (q : t σ H Q) : sA X es σ H Q := fun pos pins s I => h.run pos pins s σ H Q I q
def sS (X : Cx) (st : Stmt) : TS := fun D σ H => ∀ pins s, Inv X pins σ H s → wpAny (model X.prog X.w) X.A (exec st X.env) (SP X pins D) X.xe s
theorem sS.ps {st : Stmt} : PS X st (sS X st) := ⟨fun pins s σ H D I h => h pins s I⟩
theorem sS.of {st : Stmt} {t : TS} (h : PS X st t) {D : Ends} (q : t D σ H) : sS X st D σ H := fun pins s I => h.run pins s σ H D I q
def sSs (X : Cx) (sts : List Stmt) : TS := fun D σ H => ∀ pins s, Inv X pins σ H s → wpAny (model X.prog X.w) X.A (execs sts X.env) (SP X pins D) X.xe s
theorem sSs.ps {sts : List Stmt} : PSs X sts (sSs X sts) := ⟨fun pins s σ H D I h => h pins s I⟩
theorem sSs.of {sts : List Stmt} {t : TS} (h : PSs X sts t) {D : Ends} (q : t D σ H) : sSs X sts D σ H := fun pins s I => h.run pins s σ H D I q
structure Ends.Le (D D' : Ends) : Prop where
  nx : ∀ σ H, D.nx σ H → D'.nx σ H
  rt : ∀ v H, D.rt v H → D'.rt v H
  bk : ∀ σ H, D.bk σ H → D'.bk σ H
  ct : ∀ σ H, D.ct σ H → D'.ct σ H
theorem SP.le {pins : List (Addr × Obj)} {D D' : Ends} (k : Ends.Le D D') {f : Flow} {s : Shared} (h : SP X pins D f s) : SP X pins D' f s := by
  cases f with
  | next => obtain ⟨σ', H', I, q⟩ := h; exact ⟨σ', H', I, k.nx _ _ q⟩
  | brk => obtain ⟨σ', H', I, q⟩ := h; exact ⟨σ', H', I, k.bk _ _ q⟩
  | cont => obtain ⟨σ', H', I, q⟩ := h; exact ⟨σ', H', I, k.ct _ _ q⟩
  | ret u => obtain ⟨v, σ', H', I, r, q⟩ := h; exact ⟨v, σ', H', I, r, k.rt _ _ q⟩
theorem sS.le {st : Stmt} {D D' : Ends} (h : sS X st D σ H) (k : Ends.Le D D') : sS X st D' σ H := fun pins s I => thn (h pins s I) fun _ _ q => SP.le k q
theorem sSs.le {sts : List Stmt} {D D' : Ends} (h : sSs X sts D σ H) (k : Ends.Le D D') : sSs X sts D' σ H := fun pins s I => thn (h pins s I) fun _ _ q => SP.le k q
def oR (X : Cx) (f : Value → Value → Sem Value) : R2 := fun x y H Q => ∀ pins s σ v u, Inv X pins σ H s → RelV x v → RelV y u → wpAny (model X.prog X.w) X.A (f v u) (EP X pins σ Q) X.xe s
theorem oR.op {f : Value → Value → Sem Value} : OpR X f (oR X f) := fun pins s σ H x y v u Q I rx ry h => h pins s σ v u I rx ry
theorem oR.of {f : Value → Value → Sem Value} {r : R2} (h : OpR X f r) {x y : V} {Q : VK} (q : r x y H Q) : oR X f x y H Q := fun pins s σ v u I rx ry => h pins s σ H x y v u Q I rx ry q
theorem oR.mono {f : Value → Value → Sem Value} {x y : V} {Q Q' : VK} (h : oR X f x y H Q) (k : ∀ v H', Q v H' → Q' v H') : oR X f x y H Q' := fun pins s σ v u I rx ry =>
  thn (h pins s σ v u I rx ry) fun _ _ ⟨v, H', I', r, q⟩ => ⟨v, H', I', r, k v H' q⟩
def uR (X : Cx) (f : Value → Sem Value) : V → Hp → VK → Prop := fun x H Q => ∀ pins s σ v, Inv X pins σ H s → RelV x v → wpAny (model X.prog X.w) X.A (f v) (EP X pins σ Q) X.xe s
theorem uR.op {f : Value → Sem Value} : UnR X f (uR X f) := fun pins s σ H x v Q I rx h => h pins s σ v I rx
theorem uR.of {f : Value → Sem Value} {r : V → Hp → VK → Prop} (h : UnR X f r) {x : V} {Q : VK} (q : r x H Q) : uR X f x H Q := fun pins s σ v I rx => h pins s σ H x v Q I rx q
def cR (X : Cx) (f : Value) : List V → Hp → VK → Prop := fun xs H Q => ∀ pins s σ us, Inv X pins σ H s → Vals xs us → wpAny (model X.prog X.w) X.A (call f us) (EP X pins σ Q) X.xe s
theorem cR.op {f : Value} : CallR X f (cR X f) := fun pins s σ H xs us Q I rx h => h pins s σ us I rx
theorem cR.of {f : Value} {r : List V → Hp → VK → Prop} (h : CallR X f r) {xs : List V} {Q : VK} (q : r xs H Q) : cR X f xs H Q := fun pins s σ us I rx => h pins s σ H xs us Q I rx q
def gR (X : Cx) (tg : Expr) : TG := fun v σ H Q => ∀ pins s u, Inv X pins σ H s → RelV v u → wpAny (model X.prog X.w) X.A (assign tg X.env u) (fun _ s' => ∃ σ' H', Inv X pins σ' H' s' ∧ Q σ' H') X.xe s
theorem gR.pg {tg : Expr} : PG X tg (gR X tg) := ⟨fun pins s σ H v u Q I r h => h pins s u I r⟩
theorem gR.of {tg : Expr} {t : TG} (h : PG X tg t) {v : V} {Q : L2.St → Hp → Prop} (q : t v σ H Q) : gR X tg v σ H Q := fun pins s u I r => h.run pins s σ H v u Q I r q
def ixR (X : Cx) : R2 := fun x y H Q => ∀ (value slice : Expr) pins s σ v u, Inv X pins σ H s → RelV x v → RelV y u → subscripted slice false v u = operate [v, u] (getItem v u) → wpAny (model X.prog X.w) X.A (subscriptTail value slice v u) (EP X pins σ Q) X.xe s
theorem ixR.op : IxR X (ixR X) := fun value slice pins s σ H x y v u Q I rx ry h e => h value slice pins s σ v u I rx ry e
theorem ixR.of {r : R2} (h : IxR X r) {x y : V} {Q : VK} (q : r x y H Q) : ixR X x y H Q := fun value slice pins s σ v u I rx ry e => h value slice pins s σ H x y v u Q I rx ry q e
def slR (X : Cx) : V → Option Int → Option Int → Hp → VK → Prop := fun x lo hi H Q => ∀ pins s σ v vl vu sl, Inv X pins σ H s → RelV x v → s.heap.IsSliceOf sl vl vu .none → IsPart vl lo → IsPart vu hi → ∃ T id, typeLookup (.type T) "__getitem__" = pure (some (.builtin id)) ∧ s.TypeIs v T ∧ wpAny (model X.prog X.w) X.A (getItem v (.ref sl)) (EP X pins σ Q) X.xe s
theorem slR.op : SlR X (slR X) := fun pins s σ H x v vl vu lo hi sl Q I rx hs pl pu h => h pins s σ v vl vu sl I rx hs pl pu
theorem slR.of {r : V → Option Int → Option Int → Hp → VK → Prop} (h : SlR X r) {x : V} {lo hi : Option Int} {Q : VK} (q : r x lo hi H Q) : slR X x lo hi H Q := fun pins s σ v vl vu sl I rx hs pl pu => h pins s σ H x v vl vu lo hi sl Q I rx hs pl pu q
def mtR (X : Cx) (id : String) : V → List V → Hp → VK → Prop := fun x xs H Q => ∀ pins s σ v us, Inv X pins σ H s → RelV x v → Vals xs us → wpAny (model X.prog X.w) X.A (call (.builtin id) (v :: us)) (EP X pins σ Q) X.xe s
theorem mtR.op {id : String} : MtR X id (mtR X id) := fun pins s σ H x xs v us Q I rx rs h => h pins s σ v us I rx rs
theorem mtR.of {id : String} {r : V → List V → Hp → VK → Prop} (h : MtR X id r) {x : V} {xs : List V} {Q : VK} (q : r x xs H Q) : mtR X id x xs H Q := fun pins s σ v us I rx rs => h pins s σ H x xs v us Q I rx rs q
end
end YV

namespace YV
open PySem PySem.Spec L2
open PyProof.Rows (subscriptTail)

def keyD : L2.Key → PyData
  | .inl i => .int i
  | .inr z => .str z
mutual
inductive D (K : PySem.W.Frag) (G : Hp) : V → PyData → Prop
  | non : D K G .non .none
  | bl (b : Bool) : D K G (.bl b) (.bool b)
  | int (i : Int) : D K G (.int i) (.int i)
  | str (x : Str) : D K G (.str x) (.str x)
  | lst {a : Addr} {xs : List V} {ds : List PyData} : G a = some (.lst xs) → DA K G xs ds → D K G (.ref a) (.list ds)
  | tup {a : Addr} {xs : List V} {ds : List PyData} : SqT K G a xs → DA K G xs ds → D K G (.ref a) (.tuple ds)
  | dic {a : Addr} {ks : List L2.Key} {xs : List V} {ds : List PyData} : G a = some (.dK (ks.zip xs)) → ks.length = xs.length → DA K G xs ds → D K G (.ref a) (.dict ((ks.map keyD).zip ds))
inductive DA (K : PySem.W.Frag) (G : Hp) : List V → List PyData → Prop
  | nil : DA K G [] []
  | cons {v : V} {vs : List V} {d : PyData} {ds : List PyData} : D K G v d → DA K G vs ds → DA K G (v :: vs) (d :: ds)
end
theorem same_t {K : PySem.W.Frag} {H H' : Hp} {a : Addr} {xs : List V} (e : Same H H') (h : SqT K H a xs) : SqT K H' a xs := by
  rcases h with (g | ⟨o, g⟩) | g
  · exact .inl (.inl (e _ _ g))
  · exact .inl (.inr ⟨o, e _ _ g⟩)
  · exact .inr g
section
variable {K : PySem.W.Frag} {G G' : Hp}
mutual
theorem D.up (e : Same G G') : ∀ {v : V} {d : PyData}, D K G v d → D K G' v d
  | _, _, .non => .non
  | _, _, .bl b => .bl b
  | _, _, .int i => .int i
  | _, _, .str x => .str x
  | _, _, .lst h hs => .lst (e _ _ h) (DA.up e hs)
  | _, _, .tup h hs => .tup (same_t e h) (DA.up e hs)
  | _, _, .dic h hl hs => .dic (e _ _ h) hl (DA.up e hs)
theorem DA.up (e : Same G G') : ∀ {vs : List V} {ds : List PyData}, DA K G vs ds → DA K G' vs ds
  | _, _, .nil => .nil
  | _, _, .cons h hs => .cons (D.up e h) (DA.up e hs)
end
mutual
theorem D.dp : ∀ {v : V} {d : PyData}, d.canLay0 = true → D K G v d → Dp K G v d
  | _, _, _, .non => .non
  | _, _, _, .bl b => .bl b
  | _, _, _, .int i => .int i
  | _, _, _, .str x => .str x
  | _, _, e, .lst h hs => .lst (.of h) (DA.dp (by simpa only [PyData.canLay0] using e) hs)
  | _, _, e, .tup h hs => .tup h (DA.dp (by simpa only [PyData.canLay0] using e) hs)
  | _, _, e, .dic h hl hs => by simp [PyData.canLay0] at e
theorem DA.dp : ∀ {vs : List V} {ds : List PyData}, PyData.canLayAll0 ds = true → DA K G vs ds → DpAll K G vs ds
  | _, _, _, .nil => .nil
  | _, _, e, .cons h hs => .cons (D.dp (by simp only [PyData.canLayAll0, Bool.and_eq_true] at e; exact e.1) h) (DA.dp (by simp only [PyData.canLayAll0, Bool.and_eq_true] at e; exact e.2) hs)
end
theorem DA.len : ∀ {vs : List V} {ds : List PyData}, DA K G vs ds → vs.length = ds.length
  | _, _, .nil => rfl
  | _, _, .cons _ h => by rw [List.length_cons, List.length_cons, h.len]
theorem DA.get : ∀ {vs : List V} {ds : List PyData} {i : Nat} {d : PyData}, DA K G vs ds → ds[i]? = some d → ∃ v, vs[i]? = some v ∧ D K G v d
  | _, _, i, _, .nil, h => by simp at h
  | _, _, 0, _, .cons h _, e => by
    simp at e; subst e
    exact ⟨_, rfl, h⟩
  | _, _, i + 1, _, .cons _ hs, e => by
    simp at e
    obtain ⟨v, h1, h2⟩ := hs.get e
    exact ⟨v, by simpa using h1, h2⟩
theorem DA.getV : ∀ {vs : List V} {ds : List PyData} {i : Nat} {v : V}, DA K G vs ds → vs[i]? = some v → ∃ d, ds[i]? = some d ∧ D K G v d
  | _, _, i, _, .nil, h => by simp at h
  | _, _, 0, _, .cons h _, e => by
    simp at e; subst e
    exact ⟨_, rfl, h⟩
  | _, _, i + 1, _, .cons _ hs, e => by
    simp at e
    obtain ⟨v, h1, h2⟩ := hs.getV e
    exact ⟨v, by simpa using h1, h2⟩
theorem DA.append : ∀ {vs ws : List V} {ds es : List PyData}, DA K G vs ds → DA K G ws es → DA K G (vs ++ ws) (ds ++ es)
  | _, _, _, _, .nil, h => h
  | _, _, _, _, .cons h hs, k => .cons h (hs.append k)
theorem DA.take : ∀ {vs : List V} {ds : List PyData} (n : Nat), DA K G vs ds → DA K G (vs.take n) (ds.take n)
  | _, _, 0, _ => .nil
  | _, _, n + 1, .nil => .nil
  | _, _, n + 1, .cons h hs => .cons h (hs.take n)
theorem DA.drop : ∀ {vs : List V} {ds : List PyData} (n : Nat), DA K G vs ds → DA K G (vs.drop n) (ds.drop n)
  | _, _, 0, h => h
  | _, _, n + 1, .nil => .nil
  | _, _, n + 1, .cons _ hs => hs.drop n
theorem DA.set {v : V} {d : PyData} (h : D K G v d) : ∀ {vs : List V} {ds : List PyData} (n : Nat), DA K G vs ds → DA K G (vs.set n v) (ds.set n d)
  | _, _, _, .nil => .nil
  | _, _, 0, .cons _ hs => .cons h hs
  | _, _, n + 1, .cons h1 hs => .cons h1 (hs.set h n)
theorem DA.dropLast {vs : List V} {ds : List PyData} (h : DA K G vs ds) : DA K G vs.dropLast ds.dropLast := by
  rw [List.dropLast_eq_take, List.dropLast_eq_take, h.len]
  exact h.take _
theorem DA.reverse : ∀ {vs : List V} {ds : List PyData}, DA K G vs ds → DA K G vs.reverse ds.reverse
  | _, _, .nil => .nil
  | _, _, .cons h hs => by
    simp only [List.reverse_cons]
    exact hs.reverse.append (.cons h .nil)
theorem DA.ints : ∀ ns : List Int, DA K G (ns.map V.int) (ns.map PyData.int)
  | [] => .nil
  | n :: ns => .cons (.int n) (DA.ints ns)
theorem D.int_v {v : V} {i : Int} (h : D K G v (.int i)) : v = .int i := by cases h; rfl
theorem D.bl_v {v : V} {b : Bool} (h : D K G v (.bool b)) : v = .bl b := by cases h; rfl
theorem D.str_v {v : V} {x : Str} (h : D K G v (.str x)) : v = .str x := by cases h; rfl
theorem D.non_v {v : V} (h : D K G v .none) : v = .non := by cases h; rfl
theorem D.lst_v {v : V} {ds : List PyData} (h : D K G v (.list ds)) : ∃ a xs, v = .ref a ∧ G a = some (.lst xs) ∧ DA K G xs ds := by cases h; exact ⟨_, _, rfl, by assumption, by assumption⟩
theorem D.tup_v {v : V} {ds : List PyData} (h : D K G v (.tuple ds)) : ∃ a xs, v = .ref a ∧ SqT K G a xs ∧ DA K G xs ds := by cases h; exact ⟨_, _, rfl, by assumption, by assumption⟩
theorem DA.nil_v {vs : List V} (h : DA K G vs []) : vs = [] := by cases h; rfl
theorem DA.cons_v {vs : List V} {d : PyData} {ds : List PyData} (h : DA K G vs (d :: ds)) : ∃ v ws, vs = v :: ws ∧ D K G v d ∧ DA K G ws ds := by cases h; exact ⟨_, _, rfl, by assumption, by assumption⟩
theorem D.dic_v {v : V} {kvs : List (PyData × PyData)} (h : D K G v (.dict kvs)) : ∃ (a : Addr) (ks : List L2.Key) (xs : List V) (ds : List PyData), v = .ref a ∧ G a = some (.dK (ks.zip xs)) ∧ ks.length = xs.length ∧ DA K G xs ds ∧ kvs = (ks.map keyD).zip ds := by cases h; exact ⟨_, _, _, _, rfl, by assumption, by assumption, by assumption, rfl⟩
def scalD : PyData → Bool
  | .none => true
  | .bool _ => true
  | .int _ => true
  | .str _ => true
  | _ => false
theorem D.scal {v : V} {d : PyData} (h : D K G v d) (s : scalD d = true) : D K G' v d := by
  cases h with
  | non => exact .non
  | bl b => exact .bl b
  | int i => exact .int i
  | str x => exact .str x
  | lst _ _ => cases s
  | tup _ _ => cases s
  | dic _ _ _ => cases s
end

open Classical in
noncomputable def hid (A : Addr → Prop) (H : Hp) : Hp := fun a => if A a then none else H a
section
variable {A B : Addr → Prop} {H H' H1 : Hp} {a b : Addr} {o : HO}
theorem hid_at (h : ¬ A a) : hid A H a = H a := by unfold hid; rw [if_neg h]
theorem hid_some (h : hid A H a = some o) : ¬ A a ∧ H a = some o := by
  unfold hid at h
  by_cases q : A a
  · rw [if_pos q] at h; cases h
  · rw [if_neg q] at h; exact ⟨q, h⟩
theorem hid_le : Same (hid A H) H := fun _ _ h => (hid_some h).2
theorem hid_sub (h : ∀ a, A a → B a) : Same (hid B H) (hid A H) := fun x o e => by
  obtain ⟨n, e⟩ := hid_some e
  rw [hid_at fun q => n (h x q)]
  exact e
def Sb (b : Option Addr) (H H' : Hp) : Prop := ∀ a o, b ≠ some a → H a = some o → H' a = some o
theorem Sb.refl (b : Option Addr) (H : Hp) : Sb b H H := fun _ _ _ h => h
theorem Sb.trans {b : Option Addr} {H H1 H2 : Hp} (p : Sb b H H1) (q : Sb b H1 H2) : Sb b H H2 := fun a o n h => q a o n (p a o n h)
theorem Same.sb {b : Option Addr} (h : Same H H') : Sb b H H' := fun a o _ e => h a o e
theorem hid_sb {b : Option Addr} (h : Sb b H H') (k : ∀ x, b = some x → A x) : Same (hid A H) (hid A H') := fun x o e => by
  obtain ⟨n, e⟩ := hid_some e
  rw [hid_at n]
  exact h x o (fun q => n (k x q)) e
theorem hid_same (h : Same H H') : Same (hid A H) (hid A H') := hid_sb (b := none) (fun a o _ e => h a o e) (fun x q => by cases q)
theorem hid_new {p : Addr} (h : H p = none) : Same (hid A H) (hid (fun a => A a ∨ a = p) H) := fun x o e => by
  obtain ⟨n, e⟩ := hid_some e
  rw [hid_at]
  · exact e
  · rintro (q | q)
    · exact n q
    · subst q; rw [h] at e; cases e
theorem same_upd {p : Addr} {o : HO} (h : H p = none) : Same H (upd H p o) := fun b x e => by
  rw [upd_ne (ne_of_none e h)]
  exact e
theorem hid_upd {p : Addr} {o : HO} (h : A p) : Same (hid A H) (hid A (upd H p o)) := fun x u e => by
  obtain ⟨n, e⟩ := hid_some e
  rw [hid_at n, upd_ne (fun q => n (by rw [q]; exact h))]
  exact e
end

inductive Sl where
  | no
  | dat (d : PyData)
  | own (l : Addr) (ds : List PyData)
  | bag
structure Amb where
  A : Addr → Prop
  b : Option Addr
  c : Addr
structure BagAt (A : Addr → Prop) (c : Addr) (H : Hp) (b : Addr) : Prop where
  ex : ∃ (b0 b1 b2 : Int) (cells : List Int), H b = some (.lst [.int b0, .int b1, .int b2, .ref c]) ∧ H c = some (.lst (cells.map V.int)) ∧ A c ∧ c ≠ b ∧ 0 ≤ b0 ∧ 0 ≤ b1 ∧ b1 < 2147483647 ∧ 0 ≤ b2 ∧ (∀ x ∈ cells, 0 ≤ x) ∧ cells.length ≤ 63
def BagOk (M : Amb) (H : Hp) : Prop := ∀ b, M.b = some b → M.A b ∧ BagAt M.A M.c H b
theorem BagOk.has {M : Amb} {H : Hp} (h : BagOk M H) : ∀ x, M.b = some x → M.A x := fun x e => (h x e).1
def Own (δ : List Sl) (l : Addr) : Prop := ∃ (i : Nat) (ds : List PyData), δ[i]? = some (Sl.own l ds)
def Wd (M : Amb) (δ : List Sl) (w : Bool) (a : Addr) : Prop := M.A a ∨ (w = true ∧ Own δ a)
structure Rp (K : PySem.W.Frag) (M : Amb) (H0 : Hp) (δ : List Sl) (σ : L2.St) (H : Hp) : Prop where
  len : σ.length = δ.length
  cov : ∀ a, M.A a → H a ≠ none
  sb : Sb M.b H0 H
  dat : ∀ (i : Nat) d, δ[i]? = some (.dat d) → ∃ v, σ[i]? = some (some v) ∧ D K (hid (Wd M δ true) H) v d
  own : ∀ (i : Nat) l ds, δ[i]? = some (.own l ds) → ∃ xs, σ[i]? = some (some (.ref l)) ∧ H l = some (.lst xs) ∧ DA K (hid (Wd M δ true) H) xs ds ∧ ¬ M.A l ∧ H0 l = none
  inj : ∀ (i j : Nat) ds es l, δ[i]? = some (.own l ds) → δ[j]? = some (.own l es) → i = j
  bag : ∀ (i : Nat), δ[i]? = some .bag → ∃ b, M.b = some b ∧ σ[i]? = some (some (.ref b))
  bagOk : BagOk M H
section
variable {K : PySem.W.Frag} {M : Amb} {H0 : Hp} {δ : List Sl} {σ : L2.St} {H H' : Hp} {w : Bool}
theorem Wd.of (h : ∀ x, M.b = some x → M.A x) : ∀ x, M.b = some x → Wd M δ w x := fun x e => .inl (h x e)
theorem Wd.weak : ∀ a, Wd M δ false a → Wd M δ w a := fun a h => h.elim .inl fun q => by cases q.1
theorem Wd.le : ∀ a, Wd M δ w a → Wd M δ true a := fun a h => h.elim .inl fun q => .inr ⟨rfl, q.2⟩
theorem Rp.ownEx (R : Rp K M H0 δ σ H) {l : Addr} (h : Own δ l) : (∃ xs, H l = some (.lst xs)) ∧ ¬ M.A l ∧ H0 l = none := by
  obtain ⟨i, ds, h1⟩ := h
  obtain ⟨xs, e1, e2, _, e4, e5⟩ := R.own i l ds h1
  exact ⟨⟨xs, e2⟩, e4, e5⟩
theorem Rp.covW (R : Rp K M H0 δ σ H) : ∀ a, Wd M δ w a → H a ≠ none := fun a h => by
  rcases h with h | ⟨_, h⟩
  · exact R.cov a h
  · obtain ⟨⟨xs, e⟩, _⟩ := R.ownEx h
    rw [e]; exact fun z => by cases z
theorem Rp.step (R : Rp K M H0 δ σ H) (s : Sb M.b H H') (bk : BagOk M H') : Rp K M H0 δ σ H' := by
  have hb : ∀ x, M.b = some x → M.A x := R.bagOk.has
  have up : Same (hid (Wd M δ true) H) (hid (Wd M δ true) H') := hid_sb s (Wd.of hb)
  refine ⟨R.len, fun a ha => ?_, R.sb.trans s, fun i d e => ?_, fun i l ds e => ?_, R.inj, R.bag, bk⟩
  · by_cases q : M.b = some a
    · obtain ⟨b0, b1, b2, cells, e, _⟩ := (bk a q).2.ex
      rw [e]; exact fun z => by cases z
    · cases e : H a with
      | none => exact absurd e (R.cov a ha)
      | some o => rw [s a o q e]; exact fun z => by cases z
  · obtain ⟨v, e1, e2⟩ := R.dat i d e
    exact ⟨v, e1, e2.up up⟩
  · obtain ⟨xs, e1, e2, e3, e4, e5⟩ := R.own i l ds e
    exact ⟨xs, e1, s l _ (fun q => e4 (hb l q)) e2, e3.up up, e4, e5⟩
theorem Wd.sub {δ' : List Sl} (h : ∀ (i : Nat) (l : Addr) (ds : List PyData), δ'[i]? = some (.own l ds) → Own δ l) : ∀ a, Wd M δ' w a → Wd M δ w a := fun a q => by
  rcases q with q | ⟨e, i, ds, h1⟩
  · exact .inl q
  · exact .inr ⟨e, h i a ds h1⟩
theorem get_set {α : Type} {l : List α} {i j : Nat} {x y : α} (h : (l.set i x)[j]? = some y) : (i = j ∧ x = y) ∨ (i ≠ j ∧ l[j]? = some y) := by
  by_cases e : i = j
  · subst e
    by_cases hl : i < l.length
    · rw [List.getElem?_set_self hl] at h
      exact .inl ⟨rfl, Option.some.inj h⟩
    · rw [List.getElem?_eq_none (by simpa using hl)] at h; cases h
  · rw [List.getElem?_set_ne e] at h
    exact .inr ⟨e, h⟩
theorem Rp.lt_of (R : Rp K M H0 δ σ H) {i : Nat} (h : i < δ.length) : i < σ.length := by rw [R.len]; exact h
theorem Rp.setNo (R : Rp K M H0 δ σ H) {i : Nat} {v : Option V} {sl : Sl} (hi : i < δ.length) (hn : ∀ l ds, sl ≠ .own l ds) (hb : sl ≠ .bag) (h : ∀ d, sl = .dat d → ∃ x, v = some x ∧ D K (hid (Wd M δ true) H) x d) :
    Rp K M H0 (δ.set i sl) (σ.set i v) H := by
  have hs := R.lt_of hi
  have lt : ∀ a, Wd M (δ.set i sl) true a → Wd M δ true a := Wd.sub fun j l ds h1 => by
    rcases get_set h1 with ⟨_, q⟩ | ⟨n, q⟩
    · exact (hn l ds q).elim
    · exact ⟨j, ds, q⟩
  have up : Same (hid (Wd M δ true) H) (hid (Wd M (δ.set i sl) true) H) := hid_sub lt
  refine ⟨by rw [List.length_set, List.length_set, R.len], R.cov, R.sb, fun j e q => ?_, fun j l ds q => ?_, fun j k ds es l h1 h2 => ?_, fun j q => ?_, R.bagOk⟩
  · rcases get_set q with ⟨n, q'⟩ | ⟨n, q⟩
    · subst n
      obtain ⟨x, e1, e2⟩ := h e q'
      exact ⟨x, by rw [List.getElem?_set_self hs, e1], e2.up up⟩
    · obtain ⟨u, e1, e2⟩ := R.dat j e q
      exact ⟨u, by rw [List.getElem?_set_ne n]; exact e1, e2.up up⟩
  · rcases get_set q with ⟨n, q⟩ | ⟨n, q⟩
    · exact (hn l ds q).elim
    · obtain ⟨xs, e1, e2, e3, e4, e5⟩ := R.own j l ds q
      exact ⟨xs, by rw [List.getElem?_set_ne n]; exact e1, e2, e3.up up, e4, e5⟩
  · rcases get_set h1 with ⟨_, q⟩ | ⟨n, q1⟩
    · exact (hn _ _ q).elim
    rcases get_set h2 with ⟨_, q⟩ | ⟨m, q2⟩
    · exact (hn _ _ q).elim
    exact R.inj j k ds es l q1 q2
  · rcases get_set q with ⟨_, q⟩ | ⟨n, q⟩
    · exact (hb q).elim
    · obtain ⟨b, e1, e2⟩ := R.bag j q
      exact ⟨b, e1, by rw [List.getElem?_set_ne n]; exact e2⟩
theorem Rp.setDat (R : Rp K M H0 δ σ H) {i : Nat} {v : V} {d : PyData} (hi : i < δ.length) (h : D K (hid (Wd M δ true) H) v d) : Rp K M H0 (δ.set i (.dat d)) (σ.set i (some v)) H :=
  R.setNo hi (fun _ _ e => by cases e) (fun e => by cases e) fun d' e => ⟨v, rfl, by cases e; exact h⟩
theorem Rp.setOwn {H1 : Hp} (R : Rp K M H0 δ σ H) {i : Nat} {l : Addr} {xs : List V} {ds : List PyData} (hi : i < δ.length) (nl : H l = none) (s : Sb M.b H H1) (bk : BagOk M H1) (hl : H1 l = some (.lst xs))
    (h : DA K (hid (fun a => Wd M δ true a ∨ a = l) H1) xs ds) : Rp K M H0 (δ.set i (.own l ds)) (σ.set i (some (.ref l))) H1 := by
  have hs := R.lt_of hi
  have R1 := R.step s bk
  have nA : ¬ M.A l := fun q => R.cov l q nl
  have nH0 : H0 l = none := by
    cases e : H0 l with
    | none => rfl
    | some o =>
      have := R.sb l o (fun q => nA (R.bagOk.has l q)) e
      rw [nl] at this; cases this
  have lt : ∀ a, Wd M (δ.set i (.own l ds)) true a → (Wd M δ true a ∨ a = l) := by
    rintro a (q | ⟨_, j, es, h1⟩)
    · exact .inl (.inl q)
    · rcases get_set h1 with ⟨n, q⟩ | ⟨n, q⟩
      · cases q
        exact .inr rfl
      · exact .inl (.inr ⟨rfl, j, es, q⟩)
  have up : Same (hid (fun a => Wd M δ true a ∨ a = l) H1) (hid (Wd M (δ.set i (.own l ds)) true) H1) := hid_sub lt
  have up0 : Same (hid (Wd M δ true) H) (hid (fun a => Wd M δ true a ∨ a = l) H1) := (hid_new nl).trans (hid_sb s fun x e => .inl (.inl (R.bagOk.has x e)))
  have fresh : ∀ (j : Nat) (es : List PyData), δ[j]? = some (.own l es) → False := fun j es q1 => by
    obtain ⟨⟨ys, e⟩, _⟩ := R.ownEx ⟨j, es, q1⟩
    rw [nl] at e; cases e
  refine ⟨by rw [List.length_set, List.length_set, R.len], R1.cov, R1.sb, fun j e q => ?_, fun j l' es q => ?_, fun j k ds' es l' h1 h2 => ?_, fun j q => ?_, bk⟩
  · rcases get_set q with ⟨n, q⟩ | ⟨n, q⟩
    · cases q
    · obtain ⟨u, e1, e2⟩ := R.dat j e q
      exact ⟨u, by rw [List.getElem?_set_ne n]; exact e1, e2.up (up0.trans up)⟩
  · rcases get_set q with ⟨n, q⟩ | ⟨n, q⟩
    · cases q; subst n
      exact ⟨xs, by rw [List.getElem?_set_self hs], hl, h.up up, nA, nH0⟩
    · obtain ⟨ys, e1, e2, e3, e4, e5⟩ := R.own j l' es q
      exact ⟨ys, by rw [List.getElem?_set_ne n]; exact e1, s l' _ (fun z => e4 (R.bagOk.has l' z)) e2, e3.up (up0.trans up), e4, e5⟩
  · rcases get_set h1 with ⟨n, q1⟩ | ⟨n, q1⟩
    · cases q1
      rcases get_set h2 with ⟨m, q2⟩ | ⟨m, q2⟩
      · exact n.symm.trans m
      · exact (fresh k es q2).elim
    · rcases get_set h2 with ⟨m, q2⟩ | ⟨m, q2⟩
      · cases q2
        exact (fresh j ds' q1).elim
      · exact R.inj j k ds' es l' q1 q2
  · rcases get_set q with ⟨_, q⟩ | ⟨n, q⟩
    · cases q
    · obtain ⟨b, e1, e2⟩ := R.bag j q
      exact ⟨b, e1, by rw [List.getElem?_set_ne n]; exact e2⟩
theorem Rp.freeze (R : Rp K M H0 δ σ H) {i : Nat} {l : Addr} {ds : List PyData} (hi : δ[i]? = some (.own l ds)) : Rp K M H0 (δ.set i (.dat (.list ds))) σ H := by
  obtain ⟨xs, e1, e2, e3, e4, e5⟩ := R.own i l ds hi
  have lt : ∀ a, Wd M (δ.set i (.dat (.list ds))) true a → Wd M δ true a := Wd.sub fun j l es h1 => by
    rcases get_set h1 with ⟨_, q⟩ | ⟨n, q⟩
    · cases q
    · exact ⟨j, es, q⟩
  have up := hid_sub (H := H) lt
  have nl : ¬ Wd M (δ.set i (.dat (.list ds))) true l := by
    rintro (q | ⟨_, j, es, h1⟩)
    · exact e4 q
    · rcases get_set h1 with ⟨_, q⟩ | ⟨n, q⟩
      · cases q
      · exact n (R.inj i j ds es l hi q)
  refine ⟨by rw [List.length_set, R.len], R.cov, R.sb, fun j e q => ?_, fun j l' es q => ?_, fun j k ds' es l' h1 h2 => ?_, fun j q => ?_, R.bagOk⟩
  · rcases get_set q with ⟨n, q⟩ | ⟨n, q⟩
    · cases q; subst n
      refine ⟨.ref l, e1, .lst ?_ (e3.up up)⟩
      rw [hid_at nl]; exact e2
    · obtain ⟨u, f1, f2⟩ := R.dat j e q
      exact ⟨u, f1, f2.up up⟩
  · rcases get_set q with ⟨n, q⟩ | ⟨n, q⟩
    · cases q
    · obtain ⟨ys, f1, f2, f3, f4, f5⟩ := R.own j l' es q
      exact ⟨ys, f1, f2, f3.up up, f4, f5⟩
  · rcases get_set h1 with ⟨_, q⟩ | ⟨n, q1⟩
    · cases q
    rcases get_set h2 with ⟨_, q⟩ | ⟨m, q2⟩
    · cases q
    exact R.inj j k ds' es l' q1 q2
  · rcases get_set q with ⟨_, q⟩ | ⟨n, q⟩
    · cases q
    · exact R.bag j q
theorem Rp.change (R : Rp K M H0 δ σ H) {i : Nat} {ds es : List PyData} {l : Addr} {ys : List V} (hi : δ[i]? = some (.own l ds)) (h : DA K (hid (Wd M δ true) H) ys es) :
    Rp K M H0 (δ.set i (.own l es)) σ (upd H l (.lst ys)) := by
  obtain ⟨xs, hl, e2, e3, e4, e5⟩ := R.own i l ds hi
  have hW : Wd M δ true l := .inr ⟨rfl, i, ds, hi⟩
  have lt : ∀ a, Wd M (δ.set i (.own l es)) true a → Wd M δ true a := Wd.sub fun j l' fs h1 => by
    rcases get_set h1 with ⟨n, q⟩ | ⟨n, q⟩
    · cases q
      exact ⟨i, ds, hi⟩
    · exact ⟨j, fs, q⟩
  have up : Same (hid (Wd M δ true) H) (hid (Wd M (δ.set i (.own l es)) true) (upd H l (.lst ys))) := (hid_upd hW).trans (hid_sub lt)
  have ilt : i < δ.length := (List.getElem?_eq_some_iff.mp hi).1
  have nb : ∀ x, M.b = some x → x ≠ l := fun x q z => e4 (z ▸ R.bagOk.has x q)
  refine ⟨by rw [List.length_set, R.len], fun a ha => ?_, fun a o n e => ?_, fun j e q => ?_, fun j l' fs q => ?_, fun j k ds' fs l' h1 h2 => ?_, fun j q => ?_, fun x q => ?_⟩
  · have na : a ≠ l := fun z => e4 (z ▸ ha)
    rw [upd_ne na]; exact R.cov a ha
  · have na : a ≠ l := fun z => by rw [z, e5] at e; cases e
    rw [upd_ne na]; exact R.sb a o n e
  · rcases get_set q with ⟨n, q⟩ | ⟨n, q⟩
    · cases q
    · obtain ⟨u, f1, f2⟩ := R.dat j e q
      exact ⟨u, f1, f2.up up⟩
  · rcases get_set q with ⟨n, q⟩ | ⟨n, q⟩
    · cases q; subst n
      exact ⟨ys, hl, upd_same, h.up up, e4, e5⟩
    · obtain ⟨zs, f1, f2, f3, f4, f5⟩ := R.own j l' fs q
      have nl : l' ≠ l := fun z => n (R.inj i j ds fs l hi (by rw [← z]; exact q))
      exact ⟨zs, f1, by rw [upd_ne nl]; exact f2, f3.up up, f4, f5⟩
  · have g1 : ∃ ds, δ[j]? = some (.own l' ds) := by
      rcases get_set h1 with ⟨n, q⟩ | ⟨n, q⟩
      · cases q
        exact ⟨ds, n ▸ hi⟩
      · exact ⟨_, q⟩
    have g2 : ∃ ds, δ[k]? = some (.own l' ds) := by
      rcases get_set h2 with ⟨n, q⟩ | ⟨n, q⟩
      · cases q
        exact ⟨ds, n ▸ hi⟩
      · exact ⟨_, q⟩
    obtain ⟨_, g1⟩ := g1
    obtain ⟨_, g2⟩ := g2
    exact R.inj j k _ _ l' g1 g2
  · rcases get_set q with ⟨_, q⟩ | ⟨n, q⟩
    · cases q
    · exact R.bag j q
  · obtain ⟨hA, ⟨b0, b1, b2, cells, f1, f2, f3, f4, f5⟩⟩ := R.bagOk x q
    refine ⟨hA, ⟨b0, b1, b2, cells, ?_, ?_, f3, f4, f5⟩⟩
    · rw [upd_ne (nb x q)]; exact f1
    · rw [upd_ne (fun z => e4 (by rw [← z]; exact f3))]; exact f2
theorem Rp.base (R : Rp K M H0 δ σ H) : Same (hid M.A H0) (hid (Wd M δ true) H) := fun a o e => by
  obtain ⟨n, e⟩ := hid_some e
  rw [hid_at]
  · exact R.sb a o (fun q => n (R.bagOk.has a q)) e
  · rintro (q | ⟨_, q⟩)
    · exact n q
    · rw [(R.ownEx q).2.2] at e; cases e
theorem Rp.rebase (R : Rp K M H0 δ σ H) : Rp K M (hid (Own δ) H) δ σ H := by
  refine ⟨R.len, R.cov, fun a o _ e => (hid_some e).2, R.dat, fun i l ds e => ?_, R.inj, R.bag, R.bagOk⟩
  obtain ⟨xs, e1, e2, e3, e4, e5⟩ := R.own i l ds e
  refine ⟨xs, e1, e2, e3, e4, ?_⟩
  unfold hid
  rw [if_pos ⟨i, ds, e⟩]
theorem rebased : Same (hid (Wd M δ true) H) (hid M.A (hid (Own δ) H)) := fun a o e => by
  obtain ⟨n, e⟩ := hid_some e
  rw [hid_at (fun q => n (.inl q)), hid_at (fun q => n (.inr ⟨rfl, q⟩))]
  exact e
theorem Rp.sbBase (R : Rp K M H0 δ σ H) : Sb M.b H0 (hid (Own δ) H) := fun a o n e => by
  rw [hid_at]
  · exact R.sb a o n e
  · intro q
    rw [(R.ownEx q).2.2] at e; cases e
theorem Rp.sbOf (R : Rp K M H0 δ σ H) {δ' : List Sl} {σ' : L2.St} (R' : Rp K M (hid (Own δ) H) δ' σ' H') : Rp K M H0 δ' σ' H' := by
  refine ⟨R'.len, R'.cov, R.sbBase.trans R'.sb, R'.dat, fun i l ds e => ?_, R'.inj, R'.bag, R'.bagOk⟩
  obtain ⟨xs, e1, e2, e3, e4, e5⟩ := R'.own i l ds e
  refine ⟨xs, e1, e2, e3, e4, ?_⟩
  cases q : H0 l with
  | none => rfl
  | some o =>
    have e6 := R.sb l o (fun z => e4 (R.bagOk.has l z)) q
    rw [hid_at] at e5
    · rw [e5] at e6; cases e6
    · intro z
      rw [(R.ownEx z).2.2] at q; cases q
def Amb.plus (M : Amb) (p : Addr) : Amb := { M with A := fun a => M.A a ∨ a = p }
theorem BagAt.more {A B : Addr → Prop} {c b : Addr} (h : BagAt A c H b) (k : ∀ a, A a → B a) : BagAt B c H b := by
  obtain ⟨b0, b1, b2, cells, f1, f2, f3, r⟩ := h
  exact ⟨b0, b1, b2, cells, f1, f2, k _ f3, r⟩
theorem BagOk.plus {p : Addr} (h : BagOk M H) : BagOk (M.plus p) H := fun b e => ⟨.inl (h b e).1, (h b e).2.more fun _ q => .inl q⟩
theorem BagOk.unplus {p : Addr} (h : BagOk (M.plus p) H') (g : BagOk M H) : BagOk M H' := fun b e => by
  obtain ⟨h1, h2⟩ := g b e
  obtain ⟨b0, b1, b2, cells, f1, f2, f3, r⟩ := (h b e).2
  obtain ⟨_, _, _, _, _, _, g3, _⟩ := h2
  exact ⟨h1, ⟨b0, b1, b2, cells, f1, f2, g3, r⟩⟩
theorem Rp.plus (R : Rp K M H0 δ σ H) {H1 : Hp} {p : Addr} (np : H p = none) (s : Sb M.b H H1) (bk : BagOk M H1) (h1 : H1 p ≠ none) : Rp K (M.plus p) H0 δ σ H1 := by
  have R1 := R.step s bk
  have up : Same (hid (Wd M δ true) H) (hid (Wd (M.plus p) δ true) H1) := ((hid_new np).trans (hid_sb s fun x e => .inl (.inl (R.bagOk.has x e)))).trans (hid_sub fun a q => by
    rcases q with (q | q) | q
    · exact .inl (.inl q)
    · exact .inr q
    · exact .inl (.inr q))
  have nown : ∀ (l : Addr), Own δ l → l ≠ p := fun l q z => by
    obtain ⟨⟨xs, e⟩, _⟩ := R.ownEx q
    rw [z, np] at e; cases e
  refine ⟨R.len, fun a ha => ?_, R1.sb, fun i d e => ?_, fun i l ds e => ?_, R.inj, R.bag, bk.plus⟩
  · rcases ha with ha | ha
    · exact R1.cov a ha
    · rw [ha]; exact h1
  · obtain ⟨v, e1, e2⟩ := R.dat i d e
    exact ⟨v, e1, e2.up (up.trans (hid_sub fun a q => by
      rcases q with q | q
      · exact .inl q
      · exact .inr q))⟩
  · obtain ⟨xs, e1, e2, e3, e4, e5⟩ := R.own i l ds e
    refine ⟨xs, e1, s l _ (fun q => e4 (R.bagOk.has l q)) e2, e3.up up, ?_, e5⟩
    rintro (q | q)
    · exact e4 q
    · exact nown l ⟨i, ds, e⟩ q
theorem Rp.hidUpd (R : Rp K M H0 δ σ H) {p : Addr} {o : HO} (hp : M.A p) (h0 : H0 p = none) (hb : M.b ≠ some p) (hc : M.c ≠ p) : Rp K M H0 δ σ (upd H p o) := by
  have up : Same (hid (Wd M δ true) H) (hid (Wd M δ true) (upd H p o)) := hid_upd (.inl hp)
  refine ⟨R.len, fun a ha => ?_, fun a u n e => ?_, fun i d e => ?_, fun i l ds e => ?_, R.inj, R.bag, fun b e => ?_⟩
  · by_cases z : a = p
    · rw [z, upd_same]; exact fun q => by cases q
    · rw [upd_ne z]; exact R.cov a ha
  · have na : a ≠ p := fun z => by rw [z, h0] at e; cases e
    rw [upd_ne na]; exact R.sb a u n e
  · obtain ⟨v, e1, e2⟩ := R.dat i d e
    exact ⟨v, e1, e2.up up⟩
  · obtain ⟨xs, e1, e2, e3, e4, e5⟩ := R.own i l ds e
    exact ⟨xs, e1, by rw [upd_ne (fun z => e4 (by rw [z]; exact hp))]; exact e2, e3.up up, e4, e5⟩
  · obtain ⟨hA, ⟨b0, b1, b2, cells, f1, f2, r⟩⟩ := R.bagOk b e
    exact ⟨hA, ⟨b0, b1, b2, cells, by rw [upd_ne (fun z => hb (by rw [← z]; exact e))]; exact f1, by rw [upd_ne hc]; exact f2, r⟩⟩
theorem Rp.hidUpd0 (R : Rp K M H0 δ σ H) {p : Addr} {o : HO} (hp : M.A p) (h0 : H0 p = none) (hb : ∀ b, M.b ≠ some b) : Rp K M H0 δ σ (upd H p o) := by
  have up : Same (hid (Wd M δ true) H) (hid (Wd M δ true) (upd H p o)) := hid_upd (.inl hp)
  refine ⟨R.len, fun a ha => ?_, fun a u n e => ?_, fun i d e => ?_, fun i l ds e => ?_, R.inj, R.bag, fun b e => absurd e (hb b)⟩
  · by_cases z : a = p
    · rw [z, upd_same]; exact fun q => by cases q
    · rw [upd_ne z]; exact R.cov a ha
  · have na : a ≠ p := fun z => by rw [z, h0] at e; cases e
    rw [upd_ne na]; exact R.sb a u n e
  · obtain ⟨v, e1, e2⟩ := R.dat i d e
    exact ⟨v, e1, e2.up up⟩
  · obtain ⟨xs, e1, e2, e3, e4, e5⟩ := R.own i l ds e
    exact ⟨xs, e1, by rw [upd_ne (fun z => e4 (by rw [z]; exact hp))]; exact e2, e3.up up, e4, e5⟩
end
end YV

namespace YV
open PySem PySem.Spec L2
open PyProof.Rows (subscriptTail)

structure Kp (M : Amb) (H H' : Hp) : Prop where
  sb : Sb M.b H H'
  bk : BagOk M H'
theorem BagAt.up {A : Addr → Prop} {c b : Addr} {H H' : Hp} (h : BagAt A c H b) (s : Same H H') : BagAt A c H' b := by
  obtain ⟨b0, b1, b2, cells, f1, f2, r⟩ := h
  exact ⟨b0, b1, b2, cells, s _ _ f1, s _ _ f2, r⟩
theorem BagOk.up {M : Amb} {H H' : Hp} (h : BagOk M H) (s : Same H H') : BagOk M H' := fun b e => ⟨(h b e).1, (h b e).2.up s⟩
theorem Kp.same {M : Amb} {H H' : Hp} (h : BagOk M H) (s : Same H H') : Kp M H H' := ⟨Same.sb s, h.up s⟩
theorem Kp.trans {M : Amb} {H H1 H2 : Hp} (a : Kp M H H1) (b : Kp M H1 H2) : Kp M H H2 := ⟨a.sb.trans b.sb, b.bk⟩
def wE (X : Cx) (w : Bool) (e : Expr) (δ : List Sl) (P : PyData → Prop) : Prop :=
  ∀ M H0 σ H, Rp X.K M H0 δ σ H → ∀ Q : VK, (∀ v H' d, P d → Kp M H H' → D X.K (hid (Wd M δ w) H') v d → Q v H') → sE X e σ H Q
def wA (X : Cx) (w : Bool) (es : List Expr) (δ : List Sl) (P : List PyData → Prop) : Prop :=
  ∀ M H0 σ H, Rp X.K M H0 δ σ H → ∀ Q : List V → Hp → Prop, (∀ vs H' ds, P ds → Kp M H H' → DA X.K (hid (Wd M δ w) H') vs ds → Q vs H') → sA X es σ H Q
def wT (X : Cx) (e : Expr) (δ : List Sl) (P : Bool → Prop) : Prop :=
  ∀ M H0 σ H, Rp X.K M H0 δ σ H → ∀ Q : Bool → Hp → Prop, (∀ k H', P k → Kp M H H' → Q k H') → sT X e σ H Q
def wW (X : Cx) (e : Expr) (δ : List Sl) (P : Bool → Prop) : Prop :=
  ∀ M H0 σ H, Rp X.K M H0 δ σ H → ∀ Q : Bool → Hp → Prop, (∀ k H', P k → Kp M H H' → Q k H') → sW X e σ H Q
def wF (X : Cx) (e : Expr) (δ : List Sl) (P : List PyData → Prop) : Prop :=
  ∀ M H0 σ H, Rp X.K M H0 δ σ H → ∀ Q : VK, (∀ l H' xs ds, P ds → H l = none → Kp M H H' → H' l = some (.lst xs) → DA X.K (hid (fun a => Wd M δ true a ∨ a = l) H') xs ds → Q (.ref l) H') → sE X e σ H Q
def wO (X : Cx) (e : Option Expr) (δ : List Sl) (P : Option Int → Prop) : Prop :=
  match e with
  | none => P none
  | some e => wE X false e δ fun d => ∃ i, d = .int i ∧ P (some i)
def opD (X : Cx) (f : Value → Value → Sem Value) (x y : PyData) (P : PyData → Prop) : Prop :=
  ∀ (W : Addr → Prop) (H : Hp) (v u : V) (Q : VK), (∀ a, W a → H a ≠ none) → D X.K (hid W H) v x → D X.K (hid W H) u y → (∀ r H' d, P d → Same H H' → D X.K (hid W H') r d → Q r H') → oR X f v u H Q
def unD (X : Cx) (f : Value → Sem Value) (x : PyData) (P : PyData → Prop) : Prop :=
  ∀ (W : Addr → Prop) (H : Hp) (v : V) (Q : VK), (∀ a, W a → H a ≠ none) → D X.K (hid W H) v x → (∀ r H' d, P d → Same H H' → D X.K (hid W H') r d → Q r H') → uR X f v H Q
def caD (X : Cx) (f : Value) (ds : List PyData) (P : PyData → Prop) : Prop :=
  ∀ (W : Addr → Prop) (H : Hp) (vs : List V) (Q : VK), (∀ a, W a → H a ≠ none) → DA X.K (hid W H) vs ds → (∀ r H' d, P d → Same H H' → D X.K (hid W H') r d → Q r H') → cR X f vs H Q
def mtD (X : Cx) (id : String) (x : PyData) (ds : List PyData) (P : PyData → Prop) : Prop :=
  ∀ (W : Addr → Prop) (H : Hp) (v : V) (vs : List V) (Q : VK), (∀ a, W a → H a ≠ none) → D X.K (hid W H) v x → DA X.K (hid W H) vs ds → (∀ r H' d, P d → Same H H' → D X.K (hid W H') r d → Q r H') → mtR X id v vs H Q
def ixD (X : Cx) (x y : PyData) (P : PyData → Prop) : Prop :=
  ∀ (W : Addr → Prop) (H : Hp) (v u : V) (Q : VK), (∀ a, W a → H a ≠ none) → D X.K (hid W H) v x → D X.K (hid W H) u y → (∀ r H' d, P d → Same H H' → D X.K (hid W H') r d → Q r H') → ixR X v u H Q
def slD (X : Cx) (x : PyData) (lo hi : Option Int) (P : PyData → Prop) : Prop :=
  ∀ (W : Addr → Prop) (H : Hp) (v : V) (Q : VK), (∀ a, W a → H a ≠ none) → D X.K (hid W H) v x → (∀ r H' d, P d → Same H H' → D X.K (hid W H') r d → Q r H') → slR X v lo hi H Q
section
variable {X : Cx} {w : Bool} {e a b c : Expr} {es : List Expr} {δ : List Sl} {P P' : PyData → Prop} {pos : Pos}
theorem wE.imp (h : wE X w e δ P) (k : ∀ d, P d → P' d) : wE X w e δ P' := fun M H0 σ H R Q q => h M H0 σ H R Q fun v H' d p => q v H' d (k d p)
theorem wE.weak (h : wE X true e δ P) : wE X w e δ P := fun M H0 σ H R Q q => h M H0 σ H R Q fun v H' d p s dd => q v H' d p s (dd.up (hid_sub Wd.le))
theorem wE.scal (h : wE X false e δ fun d => scalD d = true ∧ P d) : wE X w e δ P := fun M H0 σ H R Q q => h M H0 σ H R Q fun v H' d p s dd => q v H' d p.2 s (dd.scal p.1)
theorem wE.ofF {P : PyData → Prop} (h : wF X e δ fun ds => P (.list ds)) : wE X w e δ P := fun M H0 σ H R Q q => h M H0 σ H R Q fun l H' xs ds p nl s hl hd => by
  have nW : ¬ Wd M δ w l := fun z => R.covW l z nl
  refine q _ _ _ p s (.lst ?_ (hd.up (hid_sub fun a z => .inl (Wd.le a z))))
  rw [hid_at nW]; exact hl
theorem wE_dat {i : Nat} {x : Str} {d : PyData} (hd : δ[i]? = some (.dat d)) (p : P d) (hN : X.N[i]? = some x := by rfl) (hv : Vis X.env.scope x := by first | exact Or.inl rfl | exact Or.inr (Or.inl rfl) | exact Or.inr (Or.inr rfl))
    (h1 : (x == ("__debug__" : Str)) = false := by decide) (h2 : (x == ("__classdict__" : Str)) = false := by decide) : wE X w (.Name x pos) δ P := fun M H0 σ H R Q q => by
  obtain ⟨v, e, h⟩ := R.dat i d hd
  exact sE.of (pe_var hN hv h1 h2) ⟨v, e, q v H d p ⟨Sb.refl _ _, R.bagOk⟩ (h.up (hid_sub Wd.le))⟩
theorem wE_own {i : Nat} {x : Str} {l : Addr} {ds : List PyData} (hd : δ[i]? = some (.own l ds)) (p : P (.list ds)) (hN : X.N[i]? = some x := by rfl) (hv : Vis X.env.scope x := by first | exact Or.inl rfl | exact Or.inr (Or.inl rfl) | exact Or.inr (Or.inr rfl))
    (h1 : (x == ("__debug__" : Str)) = false := by decide) (h2 : (x == ("__classdict__" : Str)) = false := by decide) : wE X false (.Name x pos) δ P := fun M H0 σ H R Q q => by
  obtain ⟨xs, e1, e2, e3, e4, e5⟩ := R.own i l ds hd
  refine sE.of (pe_var hN hv h1 h2) ⟨_, e1, q _ H _ p ⟨Sb.refl _ _, R.bagOk⟩ (.lst ?_ (e3.up (hid_sub Wd.weak)))⟩
  rw [hid_at (fun z => z.elim e4 fun y => by cases y.1)]; exact e2
theorem wE_int {i : Int} {j : Nat} (p : P (.int i)) : wE X w (.Constant (.int i) j pos) δ P := fun M H0 σ H R Q q => sE.of pe_int (q _ _ _ p ⟨Sb.refl _ _, R.bagOk⟩ (.int i))
theorem wE_bl {i : Bool} {j : Nat} (p : P (.bool i)) : wE X w (.Constant (.bool i) j pos) δ P := fun M H0 σ H R Q q => sE.of pe_bl (q _ _ _ p ⟨Sb.refl _ _, R.bagOk⟩ (.bl i))
theorem wE_non {j : Nat} (p : P .none) : wE X w (.Constant .none j pos) δ P := fun M H0 σ H R Q q => sE.of pe_non (q _ _ _ p ⟨Sb.refl _ _, R.bagOk⟩ .non)
theorem wE_str {x : Str} {j : Nat} (p : P (.str x)) : wE X w (.Constant (.str x) j pos) δ P := fun M H0 σ H R Q q => sE.of pe_str (q _ _ _ p ⟨Sb.refl _ _, R.bagOk⟩ (.str x))
theorem upK {M : Amb} {H H' : Hp} (k : Kp M H H') : Same (hid (Wd M δ w) H) (hid (Wd M δ w) H') := hid_sb k.sb (Wd.of k.bk.has)
theorem Rp.kp {K : PySem.W.Frag} {M : Amb} {H0 H H' : Hp} {σ : L2.St} (R : Rp K M H0 δ σ H) (k : Kp M H H') : Rp K M H0 δ σ H' := R.step k.sb k.bk
theorem wE_op {op : Operator} (h : wE X w a δ fun x => wE X w b δ fun y => opD X (binaryOp op) x y P) : wE X w (.BinOp a op b pos) δ P := fun M H0 σ H R Q q => by
  refine sE.of (pe_op oR.op sE.pe sE.pe) ?_
  refine h M H0 σ H R _ fun v H1 x hx k1 d1 => ?_
  refine hx M H0 σ H1 (R.kp k1) _ fun u H2 y hy k2 d2 => ?_
  have R2 := (R.kp k1).kp k2
  exact hy _ H2 v u Q (R2.covW (w := w)) (d1.up (upK k2)) d2 fun r H' d p s dd => q r H' d p ((k1.trans k2).trans (Kp.same k2.bk s)) dd
theorem wE_un {op : UnaryOp} (h : wE X w a δ fun x => unD X (unaryOp op) x P) : wE X w (.UnaryOp op a pos) δ P := fun M H0 σ H R Q q => by
  refine sE.of (pe_un uR.op sE.pe) ?_
  refine h M H0 σ H R _ fun v H1 x hx k1 d1 => ?_
  exact hx _ H1 v Q ((R.kp k1).covW (w := w)) d1 fun r H' d p s dd => q r H' d p (k1.trans (Kp.same k1.bk s)) dd
theorem wE_cmp {op : CmpOp} (h : wE X w a δ fun x => wE X w b δ fun y => opD X (compareOp op) x y P) (hm : behindInMarks op b = false := by first | rfl | exact nomark _) : wE X w (.Compare a [op] [b] pos) δ P := fun M H0 σ H R Q q => by
  refine sE.of (pe_cmpR oR.op sE.pe sE.pe hm) ?_
  refine h M H0 σ H R _ fun v H1 x hx k1 d1 => ?_
  refine hx M H0 σ H1 (R.kp k1) _ fun u H2 y hy k2 d2 => ?_
  have R2 := (R.kp k1).kp k2
  exact hy _ H2 v u Q (R2.covW (w := w)) (d1.up (upK k2)) d2 fun r H' d p s dd => q r H' d p ((k1.trans k2).trans (Kp.same k2.bk s)) dd
theorem wT_cmp {op : CmpOp} {P : Bool → Prop} (h : wE X false a δ fun x => wE X false b δ fun y => opD X (compareOp op) x y fun d => ∃ k, d = .bool k ∧ P k) (hm : behindInMarks op b = false := by first | rfl | exact nomark _) : wT X (.Compare a [op] [b] pos) δ P := fun M H0 σ H R Q q => by
  refine sT.of (pt_cmpR oR.op sE.pe sE.pe hm) ?_
  refine h M H0 σ H R _ fun v H1 x hx k1 d1 => ?_
  refine hx M H0 σ H1 (R.kp k1) _ fun u H2 y hy k2 d2 => ?_
  have R2 := (R.kp k1).kp k2
  refine hy _ H2 v u _ (R2.covW (w := false)) (d1.up (upK k2)) d2 fun r H' d p s dd => ?_
  obtain ⟨k, rfl, p⟩ := p
  cases dd
  exact ⟨k, rfl, q k H' p ((k1.trans k2).trans (Kp.same k2.bk s))⟩
theorem wE_chain {op op' : CmpOp} (h : wE X w a δ fun x => wE X w b δ fun y => opD X (compareOp op) x y fun z => ∃ k, z = .bool k ∧ (k = true → wE X w c δ fun t => opD X (compareOp op') y t P) ∧ (k = false → P (.bool false)))
    (hm : lastMarks [op, op'] [b, c] = false := by with_unfolding_all rfl) : wE X w (.Compare a [op, op'] [b, c] pos) δ P := fun M H0 σ H R Q q => by
  refine sE.of (pe_chain oR.op oR.op sE.pe sE.pe sE.pe hm) ?_
  refine h M H0 σ H R _ fun v H1 x hx k1 d1 => ?_
  refine hx M H0 σ H1 (R.kp k1) _ fun u H2 y hy k2 d2 => ?_
  have R2 := (R.kp k1).kp k2
  refine hy _ H2 v u _ (R2.covW (w := w)) (d1.up (upK k2)) d2 fun r H3 d p s dd => ?_
  obtain ⟨k, rfl, p1, p2⟩ := p
  cases dd
  have k3 := Kp.same k2.bk s
  refine ⟨k, rfl, ?_⟩
  cases k with
  | true =>
    refine iteT ?_
    refine p1 rfl M H0 σ H3 (R2.kp k3) _ fun t H4 z hz k4 d4 => ?_
    exact hz _ H4 u t Q (((R2.kp k3).kp k4).covW (w := w)) (d2.up ((upK k3).trans (upK k4))) d4 fun r H' d p s dd => q r H' d p ((((k1.trans k2).trans k3).trans k4).trans (Kp.same k4.bk s)) dd
  | false =>
    refine iteF ?_
    exact q _ _ _ (p2 rfl) ((k1.trans k2).trans k3) (.bl false)
theorem wT_chain {op op' : CmpOp} {P : Bool → Prop} (h : wE X false a δ fun x => wE X false b δ fun y => opD X (compareOp op) x y fun z => ∃ k, z = .bool k ∧ (k = true → wE X false c δ fun t => opD X (compareOp op') y t fun d => ∃ k, d = .bool k ∧ P k) ∧ (k = false → P false))
    (hm : lastMarks [op, op'] [b, c] = false := by with_unfolding_all rfl) : wT X (.Compare a [op, op'] [b, c] pos) δ P := fun M H0 σ H R Q q => by
  refine sT.of (pt_chain oR.op oR.op sE.pe sE.pe sE.pe hm) ?_
  refine h M H0 σ H R _ fun v H1 x hx k1 d1 => ?_
  refine hx M H0 σ H1 (R.kp k1) _ fun u H2 y hy k2 d2 => ?_
  have R2 := (R.kp k1).kp k2
  refine hy _ H2 v u _ (R2.covW (w := false)) (d1.up (upK k2)) d2 fun r H3 d p s dd => ?_
  obtain ⟨k, rfl, p1, p2⟩ := p
  cases dd
  have k3 := Kp.same k2.bk s
  refine ⟨k, rfl, ?_⟩
  cases k with
  | true =>
    refine iteT ?_
    refine p1 rfl M H0 σ H3 (R2.kp k3) _ fun t H4 z hz k4 d4 => ?_
    refine hz _ H4 u t _ (((R2.kp k3).kp k4).covW (w := false)) (d2.up ((upK k3).trans (upK k4))) d4 fun r H' d p s dd => ?_
    obtain ⟨k', rfl, p⟩ := p
    cases dd
    exact ⟨k', rfl, q k' H' p ((((k1.trans k2).trans k3).trans k4).trans (Kp.same k4.bk s))⟩
  | false =>
    refine iteF ?_
    exact ⟨false, rfl, q _ _ (p2 rfl) ((k1.trans k2).trans k3)⟩
theorem wE_not (h : wE X false a δ fun x => ∃ k, x = .bool k ∧ P (.bool (!k))) : wE X w (.UnaryOp .Not a pos) δ P := fun M H0 σ H R Q q => by
  refine sE.of (pe_not sE.pe) ?_
  refine h M H0 σ H R _ fun v H1 x hx k1 d1 => ?_
  obtain ⟨k, rfl, p⟩ := hx
  cases d1
  exact ⟨k, rfl, q _ _ _ p k1 (.bl _)⟩
theorem wE_one {op : BoolOp} (h : wE X w a δ P) : wE X w (.BoolOp op [a] pos) δ P := fun M H0 σ H R Q q => sE.of (pe_one sE.pe) (h M H0 σ H R Q q)
theorem wE_and {rest : List Expr} (h : wE X false a δ fun x => ∃ k, x = .bool k ∧ (k = true → wE X w (.BoolOp .And (b :: rest) pos) δ P) ∧ (k = false → P (.bool false))) : wE X w (.BoolOp .And (a :: b :: rest) pos) δ P := fun M H0 σ H R Q q => by
  refine sE.of (pe_and sE.pe sE.pe) ?_
  refine h M H0 σ H R _ fun v H1 x hx k1 d1 => ?_
  obtain ⟨k, rfl, p1, p2⟩ := hx
  cases d1
  refine ⟨k, rfl, ?_⟩
  cases k with
  | true =>
    refine iteT ?_
    exact p1 rfl M H0 σ H1 (R.kp k1) Q fun v H' d p k2 dd => q v H' d p (k1.trans k2) dd
  | false =>
    refine iteF ?_
    exact q _ _ _ (p2 rfl) k1 (.bl _)
theorem wE_or {rest : List Expr} (h : wE X false a δ fun x => ∃ k, x = .bool k ∧ (k = false → wE X w (.BoolOp .Or (b :: rest) pos) δ P) ∧ (k = true → P (.bool true))) : wE X w (.BoolOp .Or (a :: b :: rest) pos) δ P := fun M H0 σ H R Q q => by
  refine sE.of (pe_or sE.pe sE.pe) ?_
  refine h M H0 σ H R _ fun v H1 x hx k1 d1 => ?_
  obtain ⟨k, rfl, p1, p2⟩ := hx
  cases d1
  refine ⟨k, rfl, ?_⟩
  cases k with
  | true =>
    refine iteT ?_
    exact q _ _ _ (p2 rfl) k1 (.bl _)
  | false =>
    refine iteF ?_
    exact p1 rfl M H0 σ H1 (R.kp k1) Q fun v H' d p k2 dd => q v H' d p (k1.trans k2) dd
section
variable {P : Bool → Prop}
theorem wT.imp {P' : Bool → Prop} (h : wT X e δ P) (k : ∀ d, P d → P' d) : wT X e δ P' := fun M H0 σ H R Q q => h M H0 σ H R Q fun v H' p => q v H' (k v p)
theorem wT_val (h : wE X false e δ fun x => ∃ k, x = .bool k ∧ P k) (he : ∀ whole, isTrue e X.env whole = (do let v ← whole; standAt e.pos; holding [v] (truthy v)) := by intro _; rfl) : wT X e δ P := fun M H0 σ H R Q q => by
  refine sT.of (pt_val sE.pe he) ?_
  refine h M H0 σ H R _ fun v H1 x hx k1 d1 => ?_
  obtain ⟨k, rfl, p⟩ := hx
  cases d1
  exact ⟨k, rfl, q k H1 p k1⟩
theorem wT_not (h : wT X a δ fun k => P (!k)) : wT X (.UnaryOp .Not a pos) δ P := fun M H0 σ H R Q q => sT.of (pt_not sT.pt) (h M H0 σ H R _ fun k H' p s => q (!k) H' p s)
theorem wT_ofW (h : wW X e δ P) : wT X e δ P := fun M H0 σ H R Q q => sT.of (PW.pt sW.pw) (h M H0 σ H R Q q)
theorem wW_and1 (h : wT X a δ P) : wW X (.BoolOp .And [a] pos) δ P := fun M H0 σ H R Q q => sW.of (pw_and1 sT.pt) (h M H0 σ H R Q q)
theorem wW_or1 (h : wT X a δ P) : wW X (.BoolOp .Or [a] pos) δ P := fun M H0 σ H R Q q => sW.of (pw_or1 sT.pt) (h M H0 σ H R Q q)
theorem wW_and {rest : List Expr} (h : wT X a δ fun k => (k = true → wW X (.BoolOp .And (b :: rest) pos) δ P) ∧ (k = false → P false)) : wW X (.BoolOp .And (a :: b :: rest) pos) δ P := fun M H0 σ H R Q q => by
  refine sW.of (pw_and sT.pt sW.pw) ?_
  refine h M H0 σ H R _ fun k H1 p k1 => ?_
  cases k with
  | true => exact iteT (p.1 rfl M H0 σ H1 (R.kp k1) Q fun k' H' p' k2 => q k' H' p' (k1.trans k2))
  | false => exact iteF (q false H1 (p.2 rfl) k1)
theorem wW_or {rest : List Expr} (h : wT X a δ fun k => (k = false → wW X (.BoolOp .Or (b :: rest) pos) δ P) ∧ (k = true → P true)) : wW X (.BoolOp .Or (a :: b :: rest) pos) δ P := fun M H0 σ H R Q q => by
  refine sW.of (pw_or sT.pt sW.pw) ?_
  refine h M H0 σ H R _ fun k H1 p k1 => ?_
  cases k with
  | true => exact iteT (q true H1 (p.2 rfl) k1)
  | false => exact iteF (p.1 rfl M H0 σ H1 (R.kp k1) Q fun k' H' p' k2 => q k' H' p' (k1.trans k2))
end
theorem wE_if (h : wT X c δ fun k => (k = true → wE X w a δ P) ∧ (k = false → wE X w b δ P)) : wE X w (.IfExp c a b pos) δ P := fun M H0 σ H R Q q => by
  refine sE.of (pe_ifExp sT.pt sE.pe sE.pe) ?_
  refine h M H0 σ H R _ fun k H1 p k1 => ?_
  cases k with
  | true => exact iteT (p.1 rfl M H0 σ H1 (R.kp k1) Q fun v H' d p' k2 dd => q v H' d p' (k1.trans k2) dd)
  | false => exact iteF (p.2 rfl M H0 σ H1 (R.kp k1) Q fun v H' d p' k2 dd => q v H' d p' (k1.trans k2) dd)
theorem wA_nil {P : List PyData → Prop} (p : P []) : wA X w [] δ P := fun M H0 σ H R Q q => sA.of pa_nil (q [] H [] p ⟨Sb.refl _ _, R.bagOk⟩ .nil)
theorem wA_cons {P : List PyData → Prop} (h : wE X w e δ fun d => wA X w es δ fun ds => P (d :: ds)) (hs : starEach (e :: es) X.env = (false, eval e X.env) :: starEach es X.env := by rfl) : wA X w (e :: es) δ P := fun M H0 σ H R Q q => by
  refine sA.of (pa_cons sE.pe sA.pa hs) ?_
  refine h M H0 σ H R _ fun v H1 d p1 k1 d1 => ?_
  exact p1 M H0 σ H1 (R.kp k1) _ fun vs H2 ds p2 k2 d2 => q (v :: vs) H2 (d :: ds) p2 (k1.trans k2) (.cons (d1.up (upK k2)) d2)
theorem wA.imp {P P' : List PyData → Prop} (h : wA X w es δ P) (k : ∀ d, P d → P' d) : wA X w es δ P' := fun M H0 σ H R Q q => h M H0 σ H R Q fun v H' d p => q v H' d (k d p)
theorem line_of {n : Nat} (h : n ≤ 100000) : n ≤ sizeLine := Nat.le_trans h (by decide)
theorem wE_tup {j : Nat} (h : wA X w es δ fun ds => ds.length ≤ 100000 ∧ P (.tuple ds)) : wE X w (.Tuple es j pos) δ P := fun M H0 σ H R Q q => by
  refine sE.of (pe_tup sA.pa) ?_
  refine h M H0 σ H R _ fun vs H1 ds p k1 dd => ⟨by rw [dd.len]; exact line_of p.1, fun a na => ?_⟩
  have nW : ¬ Wd M δ w a := fun z => (R.kp k1).covW a z na
  have s : Same H1 (upd H1 a (.tup vs)) := same_upd na
  refine q _ _ _ p.2 (k1.trans (Kp.same k1.bk s)) (.tup ?_ (dd.up (hid_same s)))
  refine SqT.of ?_
  rw [hid_at nW]; exact upd_same
theorem wF_lst {P : List PyData → Prop} (h : wA X true es δ fun ds => ds.length ≤ 100000 ∧ P ds) : wF X (.List es pos) δ P := fun M H0 σ H R Q q => by
  refine sE.of (pe_lst sA.pa) ?_
  refine h M H0 σ H R _ fun vs H1 ds p k1 dd => ⟨by rw [dd.len]; exact line_of p.1, fun a na => ?_⟩
  have s : Same H1 (upd H1 a (.lst vs)) := same_upd na
  have k2 := k1.trans (Kp.same k1.bk s)
  have na0 : H a = none := by
    cases e : H a with
    | none => rfl
    | some o =>
      by_cases z : M.b = some a
      · obtain ⟨b0, b1, b2, cells, e', _⟩ := (k1.bk a z).2.ex
        rw [na] at e'; cases e'
      · rw [k1.sb a o z e] at na; cases na
  exact q a _ vs ds p.2 na0 k2 upd_same (dd.up ((hid_new na).trans (hid_same s)))
theorem wE_lst (h : wA X w es δ fun ds => ds.length ≤ 100000 ∧ P (.list ds)) : wE X w (.List es pos) δ P := fun M H0 σ H R Q q => by
  refine sE.of (pe_lst sA.pa) ?_
  refine h M H0 σ H R _ fun vs H1 ds p k1 dd => ⟨by rw [dd.len]; exact line_of p.1, fun a na => ?_⟩
  have nW : ¬ Wd M δ w a := fun z => (R.kp k1).covW a z na
  have s : Same H1 (upd H1 a (.lst vs)) := same_upd na
  refine q _ _ _ p.2 (k1.trans (Kp.same k1.bk s)) (.lst ?_ (dd.up (hid_same s)))
  rw [hid_at nW]; exact upd_same
theorem Kp.back {M : Amb} {H H1 : Hp} (k : Kp M H H1) {a : Addr} (na : H1 a = none) : H a = none := by
  cases e : H a with
  | none => rfl
  | some o =>
    by_cases z : M.b = some a
    · obtain ⟨b0, b1, b2, cells, e', _⟩ := (k.bk a z).2.ex
      rw [na] at e'; cases e'
    · rw [k.sb a o z e] at na; cases na
theorem wE_bi {x : Str} {id : String} {p : Pos} (h : wA X w (e :: es) δ fun ds => caD X (.builtin id) ds P) (hm : X.mg x = none) (hg : Gl X x := by rfl) (hv : bootBuiltins x = some (.builtin id) := by decide +kernel)
    (hn : x ≠ "__name__" := by decide) (hdb : (x == ("__debug__" : Str)) = false := by decide) (he : starEach (e :: es) X.env = (false, eval e X.env) :: starEach es X.env := by rfl) (hpl : (backTo pos (starEach es X.env)).any (·.1) = false := by rfl) :
    wE X w (.Call (.Name x p) (e :: es) [] pos) δ P := fun M H0 σ H R Q q => by
  refine sE.of (pe_callB cR.op hg hm hv sA.pa hn hdb he hpl) ?_
  refine h M H0 σ H R _ fun vs H1 ds p k1 dd => ?_
  exact p _ H1 vs Q ((R.kp k1).covW (w := w)) dd fun r H' d p s dd => q r H' d p (k1.trans (Kp.same k1.bk s)) dd
theorem wE_ty {x : Str} {T : String} {p : Pos} (h : wA X w (e :: es) δ fun ds => caD X (.type T) ds P) (hm : X.mg x = none) (hg : Gl X x := by rfl) (hv : bootBuiltins x = some (.type T) := by decide +kernel)
    (hn : x ≠ "__name__" := by decide) (hdb : (x == ("__debug__" : Str)) = false := by decide) (he : starEach (e :: es) X.env = (false, eval e X.env) :: starEach es X.env := by rfl) (hpl : (backTo pos (starEach es X.env)).any (·.1) = false := by rfl) :
    wE X w (.Call (.Name x p) (e :: es) [] pos) δ P := fun M H0 σ H R Q q => by
  refine sE.of (pe_callTy cR.op hg hm hv sA.pa hn hdb he hpl) ?_
  refine h M H0 σ H R _ fun vs H1 ds p k1 dd => ?_
  exact p _ H1 vs Q ((R.kp k1).covW (w := w)) dd fun r H' d p s dd => q r H' d p (k1.trans (Kp.same k1.bk s)) dd
theorem wE_ix (h : wE X w a δ fun x => wE X w b δ fun y => ixD X x y P) (hs : PlainIx b := by intro _ _; rfl) : wE X w (.Subscript a b pos) δ P := fun M H0 σ H R Q q => by
  refine sE.of (pe_ix ixR.op sE.pe sE.pe hs) ?_
  refine h M H0 σ H R _ fun v H1 x hx k1 d1 => ?_
  refine hx M H0 σ H1 (R.kp k1) _ fun u H2 y hy k2 d2 => ?_
  exact hy _ H2 v u Q (((R.kp k1).kp k2).covW (w := w)) (d1.up (upK k2)) d2 fun r H' d p s dd => q r H' d p ((k1.trans k2).trans (Kp.same k2.bk s)) dd
theorem wE_ixOwn {i : Nat} {x : Str} {l : Addr} {ds : List PyData} {p : Pos} (hd : δ[i]? = some (.own l ds)) (h : wE X false b δ fun y => ∃ j d, y = .int j ∧ atI ds j = some d ∧ P d) (hN : X.N[i]? = some x := by rfl) (hv : Vis X.env.scope x := by first | exact Or.inl rfl | exact Or.inr (Or.inl rfl) | exact Or.inr (Or.inr rfl))
    (h1 : (x == ("__debug__" : Str)) = false := by decide) (h2 : (x == ("__classdict__" : Str)) = false := by decide) (hs : PlainIx b := by intro _ _; rfl) : wE X w (.Subscript (.Name x p) b pos) δ P := fun M H0 σ H R Q q => by
  obtain ⟨xs, e1, e2, e3, e4, e5⟩ := R.own i l ds hd
  refine sE.of (pe_ix ix_list (pe_var hN hv h1 h2) sE.pe hs) ⟨_, e1, ?_⟩
  refine h M H0 σ H R _ fun u H2 y hy k2 d2 => ?_
  obtain ⟨j, d, rfl, ha, hp⟩ := hy
  cases d2
  obtain ⟨xs', f1, f2, f3, f4, f5⟩ := (R.kp k2).own i l ds hd
  obtain ⟨n, g1, g2⟩ : ∃ n, ixN ds.length j = some n ∧ ds[n]? = some d := by
    unfold atI at ha
    cases e : ixN ds.length j with
    | none => rw [e] at ha; cases ha
    | some n => rw [e] at ha; exact ⟨n, rfl, ha⟩
  obtain ⟨v, g3, g4⟩ := f3.get g2
  refine ⟨l, xs', j, v, rfl, rfl, SqL.of f2, ?_, q v H2 d hp k2 (g4.up (hid_sub Wd.le))⟩
  unfold atI
  rw [f3.len, g1]; exact g3
theorem wO_none {P : Option Int → Prop} (p : P none) : wO X none δ P := p
theorem wO_some {P : Option Int → Prop} (h : wE X false e δ fun d => ∃ i, d = .int i ∧ P (some i)) : wO X (some e) δ P := h
theorem wO.run {P : Option Int → Prop} {o : Option Expr} (h : wO X o δ P) : ∃ t, PO X o t ∧ ∀ M H0 σ H, Rp X.K M H0 δ σ H → ∀ Q : Option Int → Hp → Prop, (∀ i H', P i → Kp M H H' → Q i H') → t σ H Q := by
  cases o with
  | none => exact ⟨_, po_none, fun M H0 σ H R Q q => q none H h ⟨Sb.refl _ _, R.bagOk⟩⟩
  | some e =>
    refine ⟨_, po_some sE.pe, fun M H0 σ H R Q q => ?_⟩
    refine h M H0 σ H R _ fun v H1 d p k1 dd => ?_
    obtain ⟨i, rfl, p⟩ := p
    cases dd
    exact ⟨i, rfl, q (some i) H1 p k1⟩
theorem wE_sl {lo hi : Option Expr} {p2 : Pos} (h : wE X w a δ fun x => wO X lo δ fun l => wO X hi δ fun u => slD X x l u P) : wE X w (.Subscript a (.Slice lo hi none p2) pos) δ P := by
  intro M H0 σ H R Q q
  have hl : ∃ t, PO X lo t ∧ ∀ P', wO X lo δ P' → ∀ M H0 σ H, Rp X.K M H0 δ σ H → ∀ Q : Option Int → Hp → Prop, (∀ i H', P' i → Kp M H H' → Q i H') → t σ H Q := by
    cases lo with
    | none => exact ⟨_, po_none, fun P' p M H0 σ H R Q q => q none H p ⟨Sb.refl _ _, R.bagOk⟩⟩
    | some e =>
      refine ⟨_, po_some sE.pe, fun P' p M H0 σ H R Q q => ?_⟩
      refine p M H0 σ H R _ fun v H1 d p k1 dd => ?_
      obtain ⟨i, rfl, p⟩ := p
      cases dd
      exact ⟨i, rfl, q (some i) H1 p k1⟩
  have hh : ∃ t, PO X hi t ∧ ∀ P', wO X hi δ P' → ∀ M H0 σ H, Rp X.K M H0 δ σ H → ∀ Q : Option Int → Hp → Prop, (∀ i H', P' i → Kp M H H' → Q i H') → t σ H Q := by
    cases hi with
    | none => exact ⟨_, po_none, fun P' p M H0 σ H R Q q => q none H p ⟨Sb.refl _ _, R.bagOk⟩⟩
    | some e =>
      refine ⟨_, po_some sE.pe, fun P' p M H0 σ H R Q q => ?_⟩
      refine p M H0 σ H R _ fun v H1 d p k1 dd => ?_
      obtain ⟨i, rfl, p⟩ := p
      cases dd
      exact ⟨i, rfl, q (some i) H1 p k1⟩
  obtain ⟨tl, pl, ql⟩ := hl
  obtain ⟨th, ph, qh⟩ := hh
  refine sE.of (pe_slice slR.op sE.pe pl ph) ?_
  refine h M H0 σ H R _ fun v H1 x hx k1 d1 => ?_
  refine ql _ hx M H0 σ H1 (R.kp k1) _ fun l H2 h2 k2 => ?_
  refine qh _ h2 M H0 σ H2 ((R.kp k1).kp k2) _ fun u H3 h3 k3 => ?_
  exact h3 _ H3 v Q ((((R.kp k1).kp k2).kp k3).covW (w := w)) (d1.up ((upK k2).trans (upK k3))) fun r H' d p s dd => q r H' d p (((k1.trans k2).trans k3).trans (Kp.same k3.bk s)) dd
end
end YV

namespace YV
open PySem PySem.Spec L2
open PyProof.Rows (subscriptTail)

structure EndsD where
  nx : List Sl → Prop
  rt : PyData → Prop
  bk : List Sl → Prop := fun _ => False
  ct : List Sl → Prop := fun _ => False
  ro : List PyData → Prop := fun _ => False
def OwnBack (K : PySem.W.Frag) (M : Amb) (H0 : Hp) (P : List PyData → Prop) (v : V) (H : Hp) : Prop := ∃ l es xs, v = .ref l ∧ P es ∧ Sb M.b H0 H ∧ BagOk M H ∧ H0 l = none ∧ H l = some (.lst xs) ∧ DA K (hid (fun a => M.A a ∨ a = l) H) xs es
def lf (K : PySem.W.Frag) (M : Amb) (H0 : Hp) (E : EndsD) : Ends where
  nx := fun σ H => ∃ δ, E.nx δ ∧ Rp K M H0 δ σ H
  rt := fun v H => (∃ d, E.rt d ∧ Sb M.b H0 H ∧ BagOk M H ∧ D K (hid M.A H) v d) ∨ OwnBack K M H0 E.ro v H
  bk := fun σ H => ∃ δ, E.bk δ ∧ Rp K M H0 δ σ H
  ct := fun σ H => ∃ δ, E.ct δ ∧ Rp K M H0 δ σ H
def wS (X : Cx) (st : Stmt) (E : EndsD) (δ : List Sl) : Prop := ∀ M H0 σ H, Rp X.K M H0 δ σ H → sS X st (lf X.K M H0 E) σ H
def wSs (X : Cx) (sts : List Stmt) (E : EndsD) (δ : List Sl) : Prop := ∀ M H0 σ H, Rp X.K M H0 δ σ H → sSs X sts (lf X.K M H0 E) σ H
def SlAt (K : PySem.W.Frag) (M : Amb) (δ : List Sl) (H H' : Hp) (v : V) : Sl → Prop
  | .dat d => D K (hid (Wd M δ true) H') v d
  | .own l ds => v = .ref l ∧ H l = none ∧ ∃ xs, H' l = some (.lst xs) ∧ DA K (hid (fun a => Wd M δ true a ∨ a = l) H') xs ds
  | _ => False
def wX (X : Cx) (e : Expr) (δ : List Sl) (P : Sl → Prop) : Prop :=
  ∀ M H0 σ H, Rp X.K M H0 δ σ H → ∀ Q : VK, (∀ v H' sl, P sl → Kp M H H' → SlAt X.K M δ H H' v sl → Q v H') → sE X e σ H Q
section
variable {X : Cx} {e a b : Expr} {es : List Expr} {δ : List Sl} {E : EndsD} {pos : Pos} {st : Stmt} {sts : List Stmt}
theorem wX_dat {P : Sl → Prop} (h : wE X true e δ fun d => P (.dat d)) : wX X e δ P := fun M H0 σ H R Q q => h M H0 σ H R Q fun v H' d p k dd => q v H' (.dat d) p k dd
theorem wX_own {P : Sl → Prop} (h : wF X e δ fun ds => ∀ l, P (.own l ds)) : wX X e δ P := fun M H0 σ H R Q q => h M H0 σ H R Q fun l H' xs ds p nl k hl hd => q _ H' (.own l ds) (p l) k ⟨rfl, nl, xs, hl, hd⟩
theorem Rp.setSl {K : PySem.W.Frag} {M : Amb} {H0 H H' : Hp} {σ : L2.St} {i : Nat} {v : V} {sl : Sl} (R : Rp K M H0 δ σ H) (k : Kp M H H') (s : SlAt K M δ H H' v sl) (hi : i < δ.length) : Rp K M H0 (δ.set i sl) (σ.set i (some v)) H' := by
  cases sl with
  | no => cases s
  | bag => cases s
  | dat d => exact (R.kp k).setDat hi s
  | own l ds =>
    obtain ⟨rfl, nl, xs, hl, hd⟩ := s
    exact R.setOwn hi nl k.sb k.bk hl hd
theorem wSs_nil (h : E.nx δ) : wSs X [] E δ := fun M H0 σ H R => sSs.of pss_nil ⟨δ, h, R⟩
theorem wSs_cons (h : wS X st { E with nx := fun δ' => wSs X sts E δ' } δ) : wSs X (st :: sts) E δ := fun M H0 σ H R => by
  refine sSs.of (pss_cons sS.ps sSs.ps) ?_
  show sS X st { lf X.K M H0 E with nx := sSs X sts (lf X.K M H0 E) } σ H
  exact (h M H0 σ H R).le ⟨fun σ' H' ⟨δ', h', R'⟩ => h' M H0 σ' H' R', fun _ _ z => z, fun _ _ z => z, fun _ _ z => z⟩
theorem wSs_one (h : wS X st E δ) : wSs X [st] E δ := wSs_cons (fun M H0 σ H R => (h M H0 σ H R).le ⟨fun σ' H' ⟨δ', h', R'⟩ => ⟨δ', wSs_nil h', R'⟩, fun _ _ z => z, fun _ _ z => z, fun _ _ z => z⟩)
theorem OwnBack.imp {K : PySem.W.Frag} {M : Amb} {H0 : Hp} {P P' : List PyData → Prop} {v : V} {H : Hp} (h : OwnBack K M H0 P v H) (k : ∀ ds, P ds → P' ds) : OwnBack K M H0 P' v H := by
  obtain ⟨l, es, xs, e, p, r⟩ := h
  exact ⟨l, es, xs, e, k es p, r⟩
theorem OwnBack.no {K : PySem.W.Frag} {M : Amb} {H0 : Hp} {v : V} {H : Hp} (h : OwnBack K M H0 (fun _ => False) v H) : False := by
  obtain ⟨l, es, xs, e, p, r⟩ := h
  exact p
theorem lf_le {K : PySem.W.Frag} {M : Amb} {H0 : Hp} {E E' : EndsD} (h1 : ∀ δ, E.nx δ → E'.nx δ) (h2 : ∀ d, E.rt d → E'.rt d) (h3 : ∀ δ, E.bk δ → E'.bk δ) (h4 : ∀ δ, E.ct δ → E'.ct δ) (h5 : ∀ d, E.ro d → E'.ro d) : Ends.Le (lf K M H0 E) (lf K M H0 E') :=
  ⟨fun _ _ ⟨δ, a, b⟩ => ⟨δ, h1 δ a, b⟩, fun _ _ z => z.elim (fun ⟨d, a, b⟩ => .inl ⟨d, h2 d a, b⟩) fun z => .inr (z.imp h5), fun _ _ ⟨δ, a, b⟩ => ⟨δ, h3 δ a, b⟩, fun _ _ ⟨δ, a, b⟩ => ⟨δ, h4 δ a, b⟩⟩
theorem wSs.imp {E' : EndsD} (h : wSs X sts E δ) (h1 : ∀ δ, E.nx δ → E'.nx δ) (h2 : ∀ d, E.rt d → E'.rt d) (h3 : ∀ δ, E.bk δ → E'.bk δ) (h4 : ∀ δ, E.ct δ → E'.ct δ) (h5 : ∀ d, E.ro d → E'.ro d := by intro _ h; exact h) : wSs X sts E' δ := fun M H0 σ H R => (h M H0 σ H R).le (lf_le h1 h2 h3 h4 h5)
theorem wS.imp {E' : EndsD} (h : wS X st E δ) (h1 : ∀ δ, E.nx δ → E'.nx δ) (h2 : ∀ d, E.rt d → E'.rt d) (h3 : ∀ δ, E.bk δ → E'.bk δ) (h4 : ∀ δ, E.ct δ → E'.ct δ) (h5 : ∀ d, E.ro d → E'.ro d := by intro _ h; exact h) : wS X st E' δ := fun M H0 σ H R => (h M H0 σ H R).le (lf_le h1 h2 h3 h4 h5)
theorem wSs_freeze {i : Nat} {l : Addr} {ds : List PyData} (hi : δ[i]? = some (.own l ds)) (h : wSs X sts E (δ.set i (.dat (.list ds)))) : wSs X sts E δ := fun M H0 σ H R => h M H0 σ H (R.freeze hi)
theorem wS_set {i : Nat} {x : Str} {pos' : Pos} (h : wX X e δ fun sl => E.nx (δ.set i sl)) (hN : X.N.Nodup) (hi : i < δ.length := by simp) (hx : X.N[i]? = some x := by rfl) (hL : Loc X.env.scope x := by first | exact Or.inl rfl | exact Or.inr rfl) (hs : swapsWith e (some (.Name x pos')) pos.line X.env = pure false := by rfl)
    (hf : X.fn x = true ∨ X.env.scope.names.lookup x = some .local := by first | exact .inl rfl | exact .inr rfl) : wS X (.Assign [.Name x pos'] e pos) E δ := fun M H0 σ H R => by
  refine sS.of (ps_set hN hx hL sE.pe hs hf) ?_
  exact h M H0 σ H R _ fun v H' sl p k s => ⟨_, p, R.setSl k s hi⟩
theorem wS_ret (h : wE X false e δ E.rt) : wS X (.Return (some e) pos) E δ := fun M H0 σ H R => by
  refine sS.of (ps_ret sE.pe) ?_
  exact h M H0 σ H R _ fun v H' d p k dd => .inl ⟨d, p, R.sb.trans k.sb, k.bk, dd.up (hid_sub fun a q => .inl q)⟩
theorem wS_retN (h : E.rt .none) : wS X (.Return none pos) E δ := fun M H0 σ H R => sS.of ps_retN (.inl ⟨.none, h, R.sb, R.bagOk, .non⟩)
theorem wS_retOwn {i : Nat} {x : Str} {l : Addr} {ds : List PyData} {p1 : Pos} (hd : δ[i]? = some (.own l ds)) (h : E.ro ds) (hN : X.N[i]? = some x := by rfl) (hv : Vis X.env.scope x := by first | exact Or.inl rfl | exact Or.inr (Or.inl rfl) | exact Or.inr (Or.inr rfl))
    (h1 : (x == ("__debug__" : Str)) = false := by decide) (h2 : (x == ("__classdict__" : Str)) = false := by decide) : wS X (.Return (some (.Name x p1)) pos) E δ := fun M H0 σ H R => by
  obtain ⟨xs, e1, e2, e3, e4, e5⟩ := R.own i l ds hd
  refine sS.of (ps_ret (pe_var hN hv h1 h2)) ⟨_, e1, .inr ⟨l, ds, xs, rfl, h, R.sb, R.bagOk, e5, e2, e3.up (hid_sub fun a z => ?_)⟩⟩
  rcases z with z | rfl
  · exact .inl z
  · exact .inr ⟨rfl, i, ds, hd⟩
theorem wS_retF (h : wF X e δ E.ro) : wS X (.Return (some e) pos) E δ := fun M H0 σ H R => by
  refine sS.of (ps_ret sE.pe) ?_
  refine h M H0 σ H R _ fun l H' xs ds p nl k hl hd => .inr ⟨l, ds, xs, rfl, p, R.sb.trans k.sb, k.bk, ?_, hl, hd.up (hid_sub fun a z => ?_)⟩
  · cases e0 : H0 l with
    | none => rfl
    | some o =>
      by_cases hb : M.b = some l
      · obtain ⟨b0, b1, b2, cells, f1, _⟩ := (R.bagOk l hb).2.ex
        rw [nl] at f1; cases f1
      · rw [R.sb l o hb e0] at nl; cases nl
  · rcases z with z | z
    · exact .inl (.inl z)
    · exact .inr z
theorem wS_if {c : Expr} {s1 s2 : List Stmt} (h : wT X c δ fun k => (k = true → wSs X s1 E δ) ∧ (k = false → wSs X s2 E δ)) : wS X (.If c s1 s2 pos) E δ := fun M H0 σ H R => by
  refine sS.of (ps_if sT.pt sSs.ps sSs.ps) ?_
  refine h M H0 σ H R _ fun k H' p s => ?_
  cases k with
  | true => exact iteT (p.1 rfl M H0 σ H' (R.kp s))
  | false => exact iteF (p.2 rfl M H0 σ H' (R.kp s))
theorem wS_pass (h : E.nx δ) : wS X (.Pass pos) E δ := fun M H0 σ H R => sS.of ps_pass ⟨δ, h, R⟩
theorem wS_break (h : E.bk δ) : wS X (.Break pos) E δ := fun M H0 σ H R => sS.of ps_break ⟨δ, h, R⟩
theorem wS_continue (h : E.ct δ) : wS X (.Continue pos) E δ := fun M H0 σ H R => sS.of ps_continue ⟨δ, h, R⟩
theorem wS_par {i j : Nat} {x y : Str} {px py pt : Pos} {kt k2 : Nat} {pt2 : Pos} (h : wX X a δ fun s1 => wX X b δ fun s2 => E.nx ((δ.set i s1).set j s2)) (hN : X.N.Nodup) (hi : i < δ.length := by simp) (hj : j < δ.length := by simp) (hij : i ≠ j := by decide)
    (hc : X.calm = true := by rfl) (hx : X.N[i]? = some x := by rfl) (hy : X.N[j]? = some y := by rfl) (hxl : X.env.scope.names.lookup x = some .local := by rfl) (hyl : X.env.scope.names.lookup y = some .local := by rfl)
    (hw : swappedStores [.Tuple [.Name x px, .Name y py] kt pt] (.Tuple [a, b] k2 pt2) X.env = pure (some [x, y]) := by rfl)
    (hs : swapsWithSole [.Tuple [.Name x px, .Name y py] kt pt] (.Tuple [a, b] k2 pt2) pos.line X.env = pure false := by rfl)
    (ha1 : starEach [a, b] X.env = (false, eval a X.env) :: starEach [b] X.env := by rfl) (ha2 : starEach [b] X.env = (false, eval b X.env) :: starEach [] X.env := by rfl) :
    wS X (.Assign [.Tuple [.Name x px, .Name y py] kt pt] (.Tuple [a, b] k2 pt2) pos) E δ := fun M H0 σ H R => by
  refine sS.of (ps_par hc hN hx hy hij hxl hyl (pa_cons sE.pe (pa_cons sE.pe pa_nil ha2) ha1) hw hs) ?_
  refine h M H0 σ H R _ fun v H1 s1 p1 k1 c1 => ?_
  cases s1 with
  | no => cases c1
  | bag => cases c1
  | dat d =>
    refine p1 M H0 σ H1 (R.kp k1) _ fun u H2 s2 p2 k2 c2 => ⟨v, u, rfl, _, p2, ?_⟩
    have R1 := (R.setSl k1 c1 hi)
    refine R1.setSl k2 ?_ (by rw [List.length_set]; exact hj)
    have lt : ∀ a, Wd M (δ.set i (.dat d)) true a → Wd M δ true a := Wd.sub fun m l ds h1 => by
      rcases get_set h1 with ⟨_, q⟩ | ⟨n, q⟩
      · cases q
      · exact ⟨m, ds, q⟩
    cases s2 with
    | no => cases c2
    | bag => cases c2
    | dat d' => exact D.up (hid_sub lt) c2
    | own l ds =>
      obtain ⟨e, nl, xs, hl, hd⟩ := c2
      exact ⟨e, nl, xs, hl, hd.up (hid_sub fun a q => q.elim (fun z => .inl (lt a z)) .inr)⟩
  | own l ds =>
    have c1' := id c1
    obtain ⟨rfl, nl, xs, hl, hd⟩ := c1
    have Rm := R.plus nl k1.sb k1.bk (by rw [hl]; exact fun z => by cases z)
    refine p1 (M.plus l) H0 σ H1 Rm _ fun u H2 s2 p2 k2 c2 => ⟨_, u, rfl, _, p2, ?_⟩
    have k2' : Kp M H1 H2 := ⟨k2.sb, k2.bk.unplus k1.bk⟩
    have R1 := R.setSl k1 c1' hi
    refine R1.setSl k2' ?_ (by rw [List.length_set]; exact hj)
    have lt : ∀ a, Wd M (δ.set i (.own l ds)) true a → Wd (M.plus l) δ true a := by
      rintro a (q | ⟨_, m, es, h1⟩)
      · exact .inl (.inl q)
      · rcases get_set h1 with ⟨_, q⟩ | ⟨n, q⟩
        · cases q; exact .inl (.inr rfl)
        · exact .inr ⟨rfl, m, es, q⟩
    cases s2 with
    | no => cases c2
    | bag => cases c2
    | dat d' => exact D.up (hid_sub lt) c2
    | own l' ds' =>
      obtain ⟨e, nl', xs', hl', hd'⟩ := c2
      exact ⟨e, nl', xs', hl', hd'.up (hid_sub fun a q => q.elim (fun z => .inl (lt a z)) .inr)⟩
def MutD (K : PySem.W.Frag) (r : V → List V → Hp → VK → Prop) (ds ds' es' : List PyData) : Prop :=
  ∀ (W : Addr → Prop) (H : Hp) (l : Addr) (xs vs : List V), (∀ a, W a → H a ≠ none) → W l → H l = some (.lst xs) → DA K (hid W H) xs ds → DA K (hid W H) vs ds' → ∃ ys, DA K (hid W H) ys es' ∧ ∀ Q : VK, Q .non (upd H l (.lst ys)) → r (.ref l) vs H Q
theorem wS_mut {i : Nat} {l : Addr} {x name : Str} {id : String} {r : V → List V → Hp → VK → Prop} {p1 apos cpos : Pos} {ds : List PyData} (slot : Slot "list" name id) (hty : typeOf (.builtin id) = pure (.type "method_descriptor")) (hm : MtR X id r)
    (hd : δ[i]? = some (.own l ds)) (h : wA X true (e :: es) δ fun ds' => ∃ es', MutD X.K r ds ds' es' ∧ E.nx (δ.set i (.own l es'))) (hN : X.N[i]? = some x := by rfl) (hv : Vis X.env.scope x := by first | exact Or.inl rfl | exact Or.inr (Or.inl rfl) | exact Or.inr (Or.inr rfl))
    (h1 : (x == ("__debug__" : Str)) = false := by decide) (h2 : (x == ("__classdict__" : Str)) = false := by decide) (hz : swapsWith (.Call (.Attribute (.Name x p1) name apos) (e :: es) [] cpos) none pos.line X.env = pure false := by rfl) (hbase : attributeBase (.Name x p1) name X.env (eval (.Name x p1) X.env) = eval (.Name x p1) X.env := by rfl) (hfew : ((backTo cpos (starEach (e :: es) X.env)).all (fun x => !x.1) && (backToKw cpos (keywordEach [] X.env)).all (fun x => x.1.isSome) && decide ((e :: es).length + ([] : List Keyword).length + (if ([] : List Keyword).isEmpty then 0 else 1) < 30)) = true := by rfl) (hline : (apos.endLine == cpos.line) = true := by rfl) (hs : starEach (e :: es) X.env = (false, eval e X.env) :: starEach es X.env := by rfl) (hplain : (backTo cpos (starEach es X.env)).any (·.1) = false := by rfl) :
    wS X (.Expr (.Call (.Attribute (.Name x p1) name apos) (e :: es) [] cpos) pos) E δ := fun M H0 σ H R => by
  obtain ⟨xs, e1, e2, e3, e4, e5⟩ := R.own i l ds hd
  refine sS.of (ps_expr (pe_bm PySem.F.plainAttrs_list slot hty hm (pe_var hN hv h1 h2) sA.pa hbase hfew hline hs hplain) hz) ?_
  refine ⟨.ref l, e1, .inl ⟨rfl, _, SqL.of e2⟩, ?_⟩
  refine h M H0 σ H R _ fun vs H1 ds' p k dd => ?_
  obtain ⟨es', hmu, hnx⟩ := p
  obtain ⟨xs', f1, f2, f3, f4, f5⟩ := (R.kp k).own i l ds hd
  obtain ⟨ys, g1, g2⟩ := hmu _ H1 l xs' vs ((R.kp k).covW (w := true)) (.inr ⟨rfl, i, ds, hd⟩) f2 f3 dd
  exact g2 _ ⟨_, hnx, (R.kp k).change hd g1⟩
theorem append_mut {ds : List PyData} {d : PyData} (h : ds.length < 100000) : MutD X.K rAppend ds [d] (ds ++ [d]) := fun W H l xs vs _ _ hl hx hv => by
  obtain ⟨v, ws, rfl, h1, h2⟩ := hv.cons_v
  obtain rfl := h2.nil_v
  refine ⟨xs ++ [v], hx.append (.cons h1 .nil), fun Q q => ⟨l, xs, v, rfl, rfl, hl, ?_, q⟩⟩
  rw [hx.len]; exact Nat.lt_of_lt_of_le h (by decide)
theorem extend_mut {ds zs : List PyData} (h : ds.length + zs.length ≤ 100000) : MutD X.K rExtend ds [.list zs] (ds ++ zs) := fun W H l xs vs _ _ hl hx hv => by
  obtain ⟨v, ws, rfl, h1, h2⟩ := hv.cons_v
  obtain rfl := h2.nil_v
  obtain ⟨a, ys, rfl, g1, g2⟩ := h1.lst_v
  refine ⟨xs ++ ys, hx.append g2, fun Q q => ⟨l, a, xs, ys, rfl, rfl, hl, (hid_some g1).2, ?_, q⟩⟩
  rw [hx.len, g2.len]; exact line_of h
theorem wS_append {i : Nat} {l : Addr} {x : Str} {p1 apos cpos : Pos} {ds : List PyData} (hd : δ[i]? = some (.own l ds)) (h : wE X true e δ fun d => ds.length < 100000 ∧ E.nx (δ.set i (.own l (ds ++ [d])))) (hN : X.N[i]? = some x := by rfl) (hv : Vis X.env.scope x := by first | exact Or.inl rfl | exact Or.inr (Or.inl rfl) | exact Or.inr (Or.inr rfl))
    (h1 : (x == ("__debug__" : Str)) = false := by decide) (h2 : (x == ("__classdict__" : Str)) = false := by decide) (hz : swapsWith (.Call (.Attribute (.Name x p1) "append" apos) [e] [] cpos) none pos.line X.env = pure false := by rfl) (hbase : attributeBase (.Name x p1) "append" X.env (eval (.Name x p1) X.env) = eval (.Name x p1) X.env := by rfl) (hfew : ((backTo cpos (starEach [e] X.env)).all (fun x => !x.1) && (backToKw cpos (keywordEach [] X.env)).all (fun x => x.1.isSome) && decide (([e] : List Expr).length + ([] : List Keyword).length + (if ([] : List Keyword).isEmpty then 0 else 1) < 30)) = true := by rfl) (hline : (apos.endLine == cpos.line) = true := by rfl) (hs : starEach [e] X.env = (false, eval e X.env) :: starEach [] X.env := by rfl) :
    wS X (.Expr (.Call (.Attribute (.Name x p1) "append" apos) [e] [] cpos) pos) E δ :=
  wS_mut PySem.F.slot_list_append PySem.F.type_list_append mt_append hd (wA_cons (h.imp fun d p => wA_nil ⟨_, append_mut p.1, p.2⟩) hs) hN hv h1 h2 hz hbase hfew hline hs rfl
theorem wS_extend {i : Nat} {l : Addr} {x : Str} {p1 apos cpos : Pos} {ds : List PyData} (hd : δ[i]? = some (.own l ds)) (h : wE X true e δ fun d => ∃ zs, d = .list zs ∧ ds.length + zs.length ≤ 100000 ∧ E.nx (δ.set i (.own l (ds ++ zs)))) (hN : X.N[i]? = some x := by rfl) (hv : Vis X.env.scope x := by first | exact Or.inl rfl | exact Or.inr (Or.inl rfl) | exact Or.inr (Or.inr rfl))
    (h1 : (x == ("__debug__" : Str)) = false := by decide) (h2 : (x == ("__classdict__" : Str)) = false := by decide) (hz : swapsWith (.Call (.Attribute (.Name x p1) "extend" apos) [e] [] cpos) none pos.line X.env = pure false := by rfl) (hbase : attributeBase (.Name x p1) "extend" X.env (eval (.Name x p1) X.env) = eval (.Name x p1) X.env := by rfl) (hfew : ((backTo cpos (starEach [e] X.env)).all (fun x => !x.1) && (backToKw cpos (keywordEach [] X.env)).all (fun x => x.1.isSome) && decide (([e] : List Expr).length + ([] : List Keyword).length + (if ([] : List Keyword).isEmpty then 0 else 1) < 30)) = true := by rfl) (hline : (apos.endLine == cpos.line) = true := by rfl) (hs : starEach [e] X.env = (false, eval e X.env) :: starEach [] X.env := by rfl) :
    wS X (.Expr (.Call (.Attribute (.Name x p1) "extend" apos) [e] [] cpos) pos) E δ :=
  wS_mut PySem.F.slot_list_extend PySem.F.type_list_extend mt_extend hd (wA_cons (h.imp fun d p => wA_nil (by obtain ⟨zs, rfl, p1, p2⟩ := p; exact ⟨_, extend_mut p1, p2⟩)) hs) hN hv h1 h2 hz hbase hfew hline hs rfl
end
end YV

namespace YV
open PySem PySem.Spec L2
open PyProof.Rows (subscriptTail)

def setAll (σ : L2.St) : List (Nat × V) → L2.St
  | [] => σ
  | p :: ps => setAll (σ.set p.1 (some p.2)) ps
theorem setAll_app (σ : L2.St) : ∀ (ps qs : List (Nat × V)), setAll σ (ps ++ qs) = setAll (setAll σ ps) qs := by
  intro ps
  induction ps generalizing σ with
  | nil => intro qs; rfl
  | cons p ps ih => intro qs; exact ih _ qs
def wG (X : Cx) (tg : Expr) (js : List Nat) (d : PyData) (δ : List Sl) (N : List Sl → Prop) : Prop :=
  ∀ M H0 σ H v, Rp X.K M H0 δ σ H → D X.K (hid (Wd M δ true) H) v d → ∀ Q : L2.St → Hp → Prop, (∀ us δ' H', N δ' → us.map Prod.fst = js → (∀ a, Own δ' a → Own δ a) → (∀ i, i ∉ js → δ'[i]? = δ[i]?) → Kp M H H' → Rp X.K M H0 δ' (setAll σ us) H' → Q (setAll σ us) H') → gR X tg v σ H Q
def gsR (X : Cx) (ts : List Expr) : TGs := fun vs σ H Q => ∀ pins s us, Inv X pins σ H s → Vals vs us → wpAny (model X.prog X.w) X.A (assignInOrder ((assignEach ts X.env).map (·.2)) us) (fun _ s' => ∃ σ' H', Inv X pins σ' H' s' ∧ Q σ' H') X.xe s
theorem gsR.pgs {ts : List Expr} {X : Cx} : PGs X ts (gsR X ts) := ⟨fun pins s σ H vs us Q I r h => h pins s us I r⟩
theorem gsR.of {X : Cx} {ts : List Expr} {t : TGs} (h : PGs X ts t) {vs : List V} {σ : L2.St} {H : Hp} {Q : L2.St → Hp → Prop} (q : t vs σ H Q) : gsR X ts vs σ H Q := fun pins s us I r => h.run pins s σ H vs us Q I r q
def wGs (X : Cx) (ts : List Expr) (js : List Nat) (ds : List PyData) (δ : List Sl) (N : List Sl → Prop) : Prop :=
  ∀ M H0 σ H vs, Rp X.K M H0 δ σ H → DA X.K (hid (Wd M δ true) H) vs ds → ∀ Q : L2.St → Hp → Prop, (∀ us δ' H', N δ' → us.map Prod.fst = js → (∀ a, Own δ' a → Own δ a) → (∀ i, i ∉ js → δ'[i]? = δ[i]?) → Kp M H H' → Rp X.K M H0 δ' (setAll σ us) H' → Q (setAll σ us) H') → gsR X ts vs σ H Q
section
variable {X : Cx} {e a b tg : Expr} {es ts : List Expr} {δ : List Sl} {E : EndsD} {pos : Pos} {st : Stmt} {sts : List Stmt} {N : List Sl → Prop} {d : PyData} {ds : List PyData} {js ks : List Nat}
theorem wG_name {i : Nat} {x : Str} (h : N (δ.set i (.dat d))) (hN : X.N.Nodup) (hi : i < δ.length := by simp) (hx : X.N[i]? = some x := by rfl) (hL : Loc X.env.scope x := by first | exact Or.inl rfl | exact Or.inr rfl)
    (hf : X.fn x = true ∨ X.env.scope.names.lookup x = some .local := by first | exact .inl rfl | exact .inr rfl) : wG X (.Name x pos) [i] d δ N := fun M H0 σ H v R dd Q q => by
  refine gR.of (pg_name hN hx hL hf) ?_
  refine q [(i, v)] _ H h rfl (fun a z => ?_) (fun k hk => List.getElem?_set_ne fun z => hk (by rw [z]; exact List.mem_singleton.mpr rfl)) ⟨Sb.refl _ _, R.bagOk⟩ (R.setDat hi dd)
  obtain ⟨j, es, z⟩ := z
  rcases get_set z with ⟨_, z⟩ | ⟨n, z⟩
  · cases z
  · exact ⟨j, es, z⟩
theorem wGs_nil (h : N δ) : wGs X [] [] [] δ N := fun M H0 σ H vs R dd Q q => by
  obtain rfl := dd.nil_v
  exact gsR.of pgs_nil ⟨rfl, q [] δ H h rfl (fun _ z => z) (fun _ _ => rfl) ⟨Sb.refl _ _, R.bagOk⟩ R⟩
theorem wGs_cons (h : wG X e js d δ fun δ' => wGs X es ks ds δ' N) (hs : (assignEach (e :: es) X.env).map (·.2) = assign e X.env :: (assignEach es X.env).map (·.2) := by rfl) : wGs X (e :: es) (js ++ ks) (d :: ds) δ N := fun M H0 σ H vs R dd Q q => by
  obtain ⟨v, ws, rfl, h1, h2⟩ := dd.cons_v
  refine gsR.of (pgs_cons gR.pg gsR.pgs hs) ⟨v, ws, rfl, ?_⟩
  refine h M H0 σ H v R h1 _ fun us δ' H' p hu ho hk k R' => ?_
  have up : Same (hid (Wd M δ true) H) (hid (Wd M δ' true) H') := (upK k).trans (hid_sub fun a z => z.elim .inl fun z => .inr ⟨rfl, ho a z.2⟩)
  refine p M H0 _ H' ws R' (h2.up up) _ fun us' δ2 H2 p2 hu' ho' hk' k' R2 => ?_
  rw [← setAll_app] at R2 ⊢
  exact q (us ++ us') δ2 H2 p2 (by rw [List.map_append, hu, hu']) (fun a z => ho a (ho' a z)) (fun i hi => (hk' i fun z => hi (List.mem_append_right _ z)).trans (hk i fun z => hi (List.mem_append_left _ z))) (k.trans k') R2
theorem wG_tup {k : Nat} {ds : List PyData} (h : wGs X ts js ds δ N) (hd : d = .tuple ds) (hc : X.calm = true := by rfl) (hn : (assignEach ts X.env).length = ds.length := by rfl) (hst : (assignEach ts X.env).findIdx? (·.1) = none := by rfl) : wG X (.Tuple ts k pos) js d δ N := fun M H0 σ H v R dd Q q => by
  subst hd
  obtain ⟨a, xs, rfl, h1, h2⟩ := dd.tup_v
  refine gR.of (pg_tup hc gsR.pgs (n := xs.length) (by rw [hn, h2.len]) hst) ⟨a, xs, rfl, same_t hid_le h1, rfl, ?_⟩
  exact h M H0 σ H xs R h2 Q q
theorem wS_unpack {tg : Expr} (h : wE X true e δ fun d => wG X tg js d δ E.nx) (hs : swapsWithSole [tg] e pos.line X.env = pure false := by rfl) (hw : swappedStores [tg] e X.env = pure none := by rfl)
    (h1 : (assignEach [tg] X.env).map (·.2) = [assign tg X.env] := by rfl) : wS X (.Assign [tg] e pos) E δ := fun M H0 σ H R => by
  refine sS.of (ps_asg sE.pe gR.pg hs hw h1) ?_
  refine h M H0 σ H R _ fun v H' d p k dd => ?_
  exact p M H0 σ H' v (R.kp k) dd _ fun us δ' H2 p2 _ _ _ _ R2 => ⟨δ', p2, R2⟩
end
def sI (X : Cx) (tg iter : Expr) : TI := fun σ H R => ∀ pins s, Inv X pins σ H s → wpAny (model X.prog X.w) X.A (eval iter X.env) (fun v s1 => wpAny (model X.prog X.w) X.A (pyIter v) (PIE X pins σ tg R) X.xe s1) X.xe s
theorem sI.pi {X : Cx} {tg iter : Expr} : PI X tg iter (sI X tg iter) := ⟨fun pins s σ H R I h => h pins s I⟩
theorem sI.of {X : Cx} {tg iter : Expr} {wi : TI} (h : PI X tg iter wi) {σ : L2.St} {H : Hp} {R : It → Hp → Prop} (q : wi σ H R) : sI X tg iter σ H R := fun pins s I => h.run pins s σ H R I q
def ItD (K : PySem.W.Frag) (b : Option Addr) (G1 G2 : Hp) (J : It) (ds : List PyData) : Prop :=
  ∀ (H' : Hp) (W : Addr → Prop), Sb b G1 H' → (∀ x, b = some x → W x) → (∀ a, W a → H' a ≠ none) → Same G2 (hid W H') →
    (∀ i, i < ds.length → J.go i H') ∧ J.stop ds.length H' ∧ ∀ i x H2, i < ds.length → J.yld i H' x H2 → ∃ d, ds[i]? = some d ∧ Same H' H2 ∧ D K (hid W H2) x d
def wI (X : Cx) (s : Bool) (tg iter : Expr) (δ : List Sl) (P : List PyData → Prop) : Prop :=
  ∀ M H0 σ H, Rp X.K M H0 δ σ H → ∀ R : It → Hp → Prop, (∀ J H1 ds, P ds → Kp M H H1 → ItD X.K M.b (if s = true then hid (Own δ) H1 else H1) (hid (Wd M δ true) H1) J ds → R J H1) → sI X tg iter σ H R
section
variable {X : Cx} {s : Bool} {e a b tg : Expr} {es ts : List Expr} {δ : List Sl} {E : EndsD} {pos : Pos} {P : List PyData → Prop}
theorem wI_list (h : wE X true e δ fun d => ∃ ds, d = .list ds ∧ P ds) : wI X s tg e δ P := fun M H0 σ H R0 R q => by
  refine sI.of (pi_list sE.pe) ?_
  refine h M H0 σ H R0 _ fun v H1 d p k dd => ?_
  obtain ⟨ds, rfl, p⟩ := p
  obtain ⟨a, xs, rfl, h1, h2⟩ := dd.lst_v
  obtain ⟨n1, h1'⟩ := hid_some h1
  refine ⟨a, rfl, ⟨xs, SqL.of h1'⟩, q _ H1 ds p k fun H' W s1 s2 s3 s4 => ?_⟩
  have hA : H' a = some (.lst xs) := by
    refine s1 a _ (fun z => n1 (.inl (k.bk.has a z))) ?_
    cases s with
    | true =>
      rw [if_pos rfl, hid_at (fun z => n1 (.inr ⟨rfl, z⟩))]; exact h1'
    | false => exact h1'
  refine ⟨fun i hi => ?_, ⟨xs, SqL.of hA, by rw [h2.len]; exact Nat.le_refl _⟩, fun i x H2 hi hy => ?_⟩
  · have hx : i < xs.length := by rw [h2.len]; exact hi
    exact ⟨xs, xs[i], SqL.of hA, List.getElem?_eq_getElem hx⟩
  · obtain ⟨rfl, hy⟩ := hy
    obtain ⟨d, g1, g2⟩ := h2.getV (hy xs (SqL.of hA))
    exact ⟨d, g1, Same.refl _, g2.up s4⟩
theorem wI_tup (h : wE X true e δ fun d => ∃ ds, d = .tuple ds ∧ P ds) : wI X s tg e δ P := fun M H0 σ H R0 R q => by
  refine sI.of (pi_tup sE.pe) ?_
  refine h M H0 σ H R0 _ fun v H1 d p k dd => ?_
  obtain ⟨ds, rfl, p⟩ := p
  obtain ⟨a, xs, rfl, h1, h2⟩ := dd.tup_v
  refine ⟨a, rfl, ⟨xs, same_t hid_le h1⟩, q _ H1 ds p k fun H' W s1 s2 s3 s4 => ?_⟩
  have hA : SqT X.K H' a xs := same_t (s4.trans hid_le) h1
  refine ⟨fun i hi => ?_, ⟨xs, hA, by rw [h2.len]; exact Nat.le_refl _⟩, fun i x H2 hi hy => ?_⟩
  · have hx : i < xs.length := by rw [h2.len]; exact hi
    exact ⟨xs, xs[i], hA, List.getElem?_eq_getElem hx⟩
  · obtain ⟨rfl, hy⟩ := hy
    obtain ⟨d, g1, g2⟩ := h2.getV (hy xs hA)
    exact ⟨d, g1, Same.refl _, g2.up s4⟩
theorem wI_own {i : Nat} {l : Addr} {x : Str} {ds : List PyData} {p : Pos} (hd : δ[i]? = some (.own l ds)) (hp : P ds) (hN : X.N[i]? = some x := by rfl) (hv : Vis X.env.scope x := by first | exact Or.inl rfl | exact Or.inr (Or.inl rfl) | exact Or.inr (Or.inr rfl))
    (h1 : (x == ("__debug__" : Str)) = false := by decide) (h2 : (x == ("__classdict__" : Str)) = false := by decide) : wI X false tg (.Name x p) δ P := fun M H0 σ H R0 R q => by
  obtain ⟨xs, e1, e2, e3, e4, e5⟩ := R0.own i l ds hd
  refine sI.of (pi_list (pe_var hN hv h1 h2)) ?_
  refine ⟨_, e1, l, rfl, ⟨xs, SqL.of e2⟩, q _ H ds hp ⟨Sb.refl _ _, R0.bagOk⟩ fun H' W s1 s2 s3 s4 => ?_⟩
  have hA : H' l = some (.lst xs) := s1 l _ (fun z => e4 (R0.bagOk.has l z)) e2
  refine ⟨fun i hi => ?_, ⟨xs, SqL.of hA, by rw [e3.len]; exact Nat.le_refl _⟩, fun i x H2 hi hy => ?_⟩
  · have hx : i < xs.length := by rw [e3.len]; exact hi
    exact ⟨xs, xs[i], SqL.of hA, List.getElem?_eq_getElem hx⟩
  · obtain ⟨rfl, hy⟩ := hy
    obtain ⟨d, g1, g2⟩ := e3.getV (hy xs (SqL.of hA))
    exact ⟨d, g1, Same.refl _, g2.up s4⟩
def rangeD (lo : Int) (n : Nat) : List PyData := (List.range n).map fun (i : Nat) => .int (lo + (i : Int))
theorem rangeD_len {lo : Int} {n : Nat} : (rangeD lo n).length = n := by unfold rangeD; rw [List.length_map, List.length_range]
theorem rangeD_get {lo : Int} {n i : Nat} (h : i < n) : (rangeD lo n)[i]? = some (.int (lo + (i : Int))) := by
  unfold rangeD
  rw [List.getElem?_map, List.getElem?_range h]; rfl
theorem itr_D {K : PySem.W.Frag} {b : Option Addr} {G1 G2 : Hp} {lo : Int} {n : Nat} : ItD K b G1 G2 (Itr lo n) (rangeD lo n) := fun H' W s1 s2 s3 s4 => by
  rw [rangeD_len]
  refine ⟨fun i hi => hi, Nat.le_refl _, fun i x H2 hi hy => ?_⟩
  obtain ⟨rfl, rfl⟩ := hy
  exact ⟨_, rangeD_get hi, Same.refl _, .int _⟩
theorem wI_range1 {p : Pos} (hm : X.mg "range" = none) (h : wE X false a δ fun d => ∃ n : Nat, d = .int n ∧ n ≤ 100000 ∧ P (rangeD 0 n)) (hg : Gl X "range" := by rfl) (hs : starEach [a] X.env = [(false, eval a X.env)] := by rfl)
    (hs0 : starEach [a] X.env = (false, eval a X.env) :: starEach [] X.env := by rfl) : wI X s tg (.Call (.Name "range" p) [a] [] pos) δ P := fun M H0 σ H R0 R q => by
  refine sI.of (pi_range1 hg hm (pa_cons sE.pe pa_nil hs0) hs) ?_
  refine h M H0 σ H R0 _ fun v H1 d p k dd => ?_
  obtain ⟨n, rfl, hn, p⟩ := p
  cases dd
  refine ⟨n, rfl, by omega, by omega, ?_⟩
  exact q _ H1 _ p k itr_D
theorem wI_range2 {p : Pos} (hm : X.mg "range" = none) (h : wE X false a δ fun d => wE X false b δ fun d2 => ∃ i j : Int, d = .int i ∧ d2 = .int j ∧ -100000 ≤ i ∧ i ≤ 100000 ∧ -100000 ≤ j ∧ j ≤ 100000 ∧ P (rangeD i (j - i).toNat)) (hg : Gl X "range" := by rfl)
    (hs : starEach [a, b] X.env = [(false, eval a X.env), (false, eval b X.env)] := by rfl) (hs2 : starEach [b] X.env = [(false, eval b X.env)] := by rfl)
    (hs0 : starEach [a, b] X.env = (false, eval a X.env) :: starEach [b] X.env := by rfl) (hs1 : starEach [b] X.env = (false, eval b X.env) :: starEach [] X.env := by rfl) : wI X s tg (.Call (.Name "range" p) [a, b] [] pos) δ P := fun M H0 σ H R0 R q => by
  refine sI.of (pi_range2 hg hm (pa_cons sE.pe (pa_cons sE.pe pa_nil hs1) hs0) hs hs2) ?_
  refine h M H0 σ H R0 _ fun v H1 d p k dd => ?_
  refine p M H0 σ H1 (R0.kp k) _ fun v2 H2 d2 p k2 dd2 => ?_
  obtain ⟨i, j, rfl, rfl, h1, h2, h3, h4, p⟩ := p
  cases dd
  cases dd2
  refine ⟨i, j, rfl, ⟨by omega, by omega, by omega, by omega⟩, ?_⟩
  exact q _ H2 _ p (k.trans k2) itr_D
theorem sS.for_ {iter : Expr} {body : List Stmt} (hp : PassesOwn (model X.prog X.w) X.A X.env X.xe) (hc : X.calm = true) (hs : ∀ x, foldedSetIterable iter X.env x = pure x) {D : Ends} {σ : L2.St} {H : Hp} (h : tFor (sI X tg iter) (gR X tg) (sSs X body) D σ H) : sS X (.For tg iter body [] pos) D σ H :=
  sS.of (ps_for hp hc sI.pi gR.pg sSs.ps hs) h
theorem gR.mono {v : V} {σ : L2.St} {H : Hp} {Q Q' : L2.St → Hp → Prop} (h : gR X tg v σ H Q) (k : ∀ σ' H', Q σ' H' → Q' σ' H') : gR X tg v σ H Q' := fun pins s u I r => thn (h pins s u I r) fun _ _ ⟨σ', H', I', q⟩ => ⟨σ', H', I', k σ' H' q⟩
theorem wS_for {iter : Expr} {body : List Stmt} {js : List Nat} (hp : PassesOwn (model X.prog X.w) X.A X.env X.xe) (h : wI X true tg iter δ fun ds => ∃ I : Nat → List Sl → Prop, I 0 δ ∧
      (∀ i x δ', ds[i]? = some x → I i δ' → wG X tg js x δ' fun δ2 => wSs X body { nx := I (i + 1), ct := I (i + 1), bk := E.nx, rt := E.rt } δ2) ∧ ∀ δ', I ds.length δ' → E.nx δ')
    (hc : X.calm = true := by rfl) (hs : ∀ x, foldedSetIterable iter X.env x = pure x := by intro _; rfl) : wS X (.For tg iter body [] pos) E δ := fun M H0 σ H R => by
  refine sS.for_ hp hc hs ?_
  refine h M H0 σ H R _ fun J H1 ds p k hJ => ?_
  obtain ⟨I, i0, istep, iend⟩ := p
  have R1 := R.kp k
  rw [if_pos rfl] at hJ
  refine ⟨fun i m σ' H' => m = ds.length - i ∧ i ≤ ds.length ∧ ∃ δ', I i δ' ∧ Rp X.K M (hid (Own δ) H1) δ' σ' H', ⟨ds.length, rfl, Nat.zero_le _, δ, i0, R1.rebase⟩, ?_⟩
  rintro i m σ' H' ⟨rfl, hi, δ', hI, R'⟩
  have hW : Same (hid (Wd M δ true) H1) (hid (Wd M δ' true) H') := rebased.trans R'.base
  obtain ⟨j1, j2, j3⟩ := hJ H' (Wd M δ' true) R'.sb (Wd.of R'.bagOk.has) R'.covW hW
  by_cases hlt : i < ds.length
  · refine .inr ⟨j1 i hlt, fun σ2 H2 => ∃ δ2, I (i + 1) δ2 ∧ Rp X.K M (hid (Own δ) H1) δ2 σ2 H2, fun σ2 H2 ⟨δ2, p2, R2⟩ => ⟨ds.length - (i + 1), by omega, rfl, hlt, δ2, p2, R2⟩, fun x H2 hy => ?_⟩
    obtain ⟨d, g1, g2, g3⟩ := j3 i x H2 hlt hy
    have k2 : Kp M H' H2 := Kp.same R'.bagOk g2
    refine istep i d δ' g1 hI M _ σ' H2 x (R'.kp k2) g3 _ fun us δ3 H3 p3 _ _ _ k3 R3 => ?_
    refine (p3 M _ _ H3 R3).le ⟨fun σ4 H4 ⟨δ4, p4, R4⟩ => ⟨δ4, p4, R4⟩, fun v H4 z => z.elim (fun ⟨d4, p4, s4, b4, dd4⟩ => .inl ⟨d4, p4, R1.sbBase.trans s4, b4, dd4⟩) fun z => z.no.elim, fun σ4 H4 ⟨δ4, p4, R4⟩ => ⟨δ4, p4, R1.sbOf R4⟩, fun σ4 H4 ⟨δ4, p4, R4⟩ => ⟨δ4, p4, R4⟩⟩
  · have e : i = ds.length := by omega
    subst e
    exact .inl ⟨j2, δ', iend δ' hI, R1.sbOf R'⟩
theorem wS_forOwn {body : List Stmt} {js : List Nat} {i0 : Nat} {l : Addr} {x : Str} {ds : List PyData} {p : Pos} (hp : PassesOwn (model X.prog X.w) X.A X.env X.xe) (hd : δ[i0]? = some (.own l ds)) (I : Nat → List Sl → Prop) (i0' : I 0 δ)
    (istep : ∀ i x δ', ds[i]? = some x → I i δ' → wG X tg js x δ' fun δ2 => wSs X body { nx := I (i + 1), ct := I (i + 1), bk := E.nx, rt := E.rt } δ2) (iend : ∀ δ', I ds.length δ' → E.nx δ') (keep : ∀ i δ', I i δ' → δ'[i0]? = some (.own l ds))
    (hN : X.N[i0]? = some x := by rfl) (hv : Vis X.env.scope x := by first | exact Or.inl rfl | exact Or.inr (Or.inl rfl) | exact Or.inr (Or.inr rfl))
    (h1 : (x == ("__debug__" : Str)) = false := by decide) (h2 : (x == ("__classdict__" : Str)) = false := by decide) (hc : X.calm = true := by rfl) (hs : ∀ v, foldedSetIterable (.Name x p) X.env v = pure v := by intro _; rfl) : wS X (.For tg (.Name x p) body [] pos) E δ := fun M H0 σ H R => by
  refine sS.of (ps_for hp hc (pi_list (pe_var hN hv h1 h2)) gR.pg sSs.ps hs) ?_
  obtain ⟨xs, e1, e2, e3, e4, e5⟩ := R.own i0 l ds hd
  refine ⟨_, e1, l, rfl, ⟨xs, SqL.of e2⟩, ?_⟩
  refine ⟨fun i m σ' H' => m = ds.length - i ∧ i ≤ ds.length ∧ ∃ δ', I i δ' ∧ Rp X.K M H0 δ' σ' H', ⟨ds.length, rfl, Nat.zero_le _, δ, i0', R⟩, ?_⟩
  rintro i m σ' H' ⟨rfl, hi, δ', hI, R'⟩
  obtain ⟨ys, f1, f2, f3, f4, f5⟩ := R'.own i0 l ds (keep i δ' hI)
  by_cases hlt : i < ds.length
  · have hx : i < ys.length := by rw [f3.len]; exact hlt
    refine .inr ⟨⟨ys, ys[i], SqL.of f2, List.getElem?_eq_getElem hx⟩, fun σ2 H2 => ∃ δ2, I (i + 1) δ2 ∧ Rp X.K M H0 δ2 σ2 H2, fun σ2 H2 ⟨δ2, p2, R2⟩ => ⟨ds.length - (i + 1), by omega, rfl, hlt, δ2, p2, R2⟩, fun x H2 hy => ?_⟩
    obtain ⟨rfl, hy⟩ := hy
    obtain ⟨d, g1, g2⟩ := f3.getV (hy ys (SqL.of f2))
    refine istep i d δ' g1 hI M _ σ' _ x R' g2 _ fun us δ3 H3 p3 _ _ _ k3 R3 => ?_
    refine (p3 M _ _ H3 R3).le ⟨fun σ4 H4 ⟨δ4, p4, R4⟩ => ⟨δ4, p4, R4⟩, fun v H4 z => z.elim .inl fun z => z.no.elim, fun σ4 H4 z => z, fun σ4 H4 ⟨δ4, p4, R4⟩ => ⟨δ4, p4, R4⟩⟩
  · have e : i = ds.length := by omega
    subst e
    exact .inl ⟨⟨ys, SqL.of f2, by rw [f3.len]; exact Nat.le_refl _⟩, δ', iend δ' hI, R'⟩
theorem wS_while {c : Expr} {body : List Stmt} (hp : PassesOwn (model X.prog X.w) X.A X.env X.xe) (I : Nat → List Sl → Prop) {m0 : Nat} (i0 : I m0 δ)
    (step : ∀ m δ', I m δ' → wT X c δ' fun k => (k = true → wSs X body { nx := fun δ2 => ∃ m', m' < m ∧ I m' δ2, ct := fun δ2 => ∃ m', m' < m ∧ I m' δ2, bk := E.nx, rt := E.rt } δ') ∧ (k = false → E.nx δ')) : wS X (.While c body [] pos) E δ := fun M H0 σ H R => by
  refine sS.of (ps_while hp sT.pt sSs.ps) ?_
  refine ⟨fun m σ' H' => ∃ δ', I m δ' ∧ Rp X.K M H0 δ' σ' H', ⟨m0, δ, i0, R⟩, ?_⟩
  rintro m σ' H' ⟨δ', hI, R'⟩
  refine step m δ' hI M H0 σ' H' R' _ fun k H1 p k1 => ?_
  cases k with
  | true =>
    refine iteT ⟨fun σ2 H2 => ∃ δ2, (∃ m', m' < m ∧ I m' δ2) ∧ Rp X.K M H0 δ2 σ2 H2, fun σ2 H2 ⟨δ2, ⟨m', hm, h2⟩, R2⟩ => ⟨m', hm, δ2, h2, R2⟩, ?_⟩
    exact (p.1 rfl M H0 σ' H1 (R'.kp k1)).le ⟨fun _ _ z => z, fun _ _ z => z.elim .inl fun z => z.no.elim, fun _ _ z => z, fun _ _ z => z⟩
  | false => exact iteF ⟨δ', p.2 rfl, R'.kp k1⟩
end
end YV

namespace YV
open PySem PySem.Spec L2
open PyProof.Rows (subscriptTail)

def wipeD (δ : List Sl) : List Nat → List Sl
  | [] => δ
  | v :: vs => (wipeD δ vs).set v .no
theorem wipeD_len (δ : List Sl) : ∀ vs, (wipeD δ vs).length = δ.length
  | [] => rfl
  | v :: vs => by unfold wipeD; rw [List.length_set, wipeD_len δ vs]
theorem wipe_ge (σ : L2.St) : ∀ (vs : List Nat) (v : Nat), σ.length ≤ v → (wipe σ vs).set v none = wipe σ vs := fun vs v h => by
  apply List.ext_getElem?
  intro i
  by_cases e : v = i
  · subst e
    rw [List.getElem?_eq_none (by rw [List.length_set, wipe_length]; exact h), List.getElem?_eq_none (by rw [wipe_length]; exact h)]
  · rw [List.getElem?_set_ne e]
theorem Rp.wipe {K : PySem.W.Frag} {M : Amb} {H0 H : Hp} {δ : List Sl} {σ : L2.St} (R : Rp K M H0 δ σ H) : ∀ vs, Rp K M H0 (wipeD δ vs) (L2.wipe σ vs) H
  | [] => R
  | v :: vs => by
    have ih := R.wipe vs
    unfold wipeD L2.wipe
    by_cases h : v < (wipeD δ vs).length
    · exact ih.setNo h (fun _ _ e => by cases e) (fun e => by cases e) fun d e => by cases e
    · have e1 : (wipeD δ vs).set v Sl.no = wipeD δ vs := List.set_eq_of_length_le (by omega)
      have e2 : (L2.wipe σ vs).set v none = L2.wipe σ vs := List.set_eq_of_length_le (by rw [wipe_length]; rw [wipeD_len] at h; have := R.len; omega)
      rw [e1, e2]; exact ih
theorem wipe_set (σ : L2.St) (x : Option V) : ∀ (vs : List Nat) (j : Nat), j ∈ vs → L2.wipe (σ.set j x) vs = L2.wipe σ vs
  | [], j, h => by cases h
  | v :: vs, j, h => by
    unfold L2.wipe
    by_cases e : j ∈ vs
    · rw [wipe_set σ x vs j e]
    · have e2 : j = v := by
        rcases List.mem_cons.mp h with h | h
        · exact h
        · exact absurd h e
      subst e2
      have go : ∀ ws : List Nat, j ∉ ws → L2.wipe (σ.set j x) ws = (L2.wipe σ ws).set j x := by
        intro ws
        induction ws with
        | nil => intro _; rfl
        | cons w ws ih =>
          intro hn
          have h1 : w ≠ j := fun z => hn (by rw [z]; exact List.mem_cons_self ..)
          unfold L2.wipe
          rw [ih fun z => hn (List.mem_cons_of_mem _ z), List.set_comm _ _ h1]
      rw [go vs e, List.set_set]
theorem wipe_wipe (σ : L2.St) : ∀ vs : List Nat, ∀ ws : List Nat, (∀ w ∈ ws, w ∈ vs) → L2.wipe (L2.wipe σ ws) vs = L2.wipe σ vs := by
  intro vs ws
  induction ws with
  | nil => intro _; rfl
  | cons w ws ih =>
    intro h
    show L2.wipe ((L2.wipe σ ws).set w none) vs = _
    rw [wipe_set _ _ vs w (h w (List.mem_cons_self ..)), ih fun z hz => h z (List.mem_cons_of_mem _ hz)]
theorem wipe_setAll (vs : List Nat) : ∀ (us : List (Nat × V)) (σ : L2.St), (∀ p ∈ us.map Prod.fst, p ∈ vs) → L2.wipe (setAll σ us) vs = L2.wipe σ vs
  | [], σ, _ => rfl
  | u :: us, σ, h => by
    show L2.wipe (setAll (σ.set u.1 (some u.2)) us) vs = _
    rw [wipe_setAll vs us _ fun p hp => h p (List.mem_cons_of_mem _ hp), wipe_set _ _ vs u.1 (h u.1 (List.mem_cons_self ..))]
def sTs (X : Cx) (ifs : List Expr) : TT := fun σ H Q => ∀ pins s, Inv X pins σ H s → wpAny (model X.prog X.w) X.A (forIn ifs true fun c r => if r = true then do let ok ← isTrue c X.env (eval c X.env); pure (ForInStep.yield ok) else pure (ForInStep.yield r)) (TP X pins σ Q) X.xe s
theorem sTs.pts {X : Cx} {ifs : List Expr} : PTs X ifs (sTs X ifs) := ⟨fun pins s σ H Q I h => h pins s I⟩
theorem sTs.of {X : Cx} {ifs : List Expr} {t : TT} (h : PTs X ifs t) {σ : L2.St} {H : Hp} {Q : Bool → Hp → Prop} (q : t σ H Q) : sTs X ifs σ H Q := fun pins s I => h.run pins s σ H Q I q
def wTs (X : Cx) (ifs : List Expr) (δ : List Sl) (P : Bool → Prop) : Prop :=
  ∀ M H0 σ H, Rp X.K M H0 δ σ H → ∀ Q : Bool → Hp → Prop, (∀ k H', P k → Kp M H H' → Q k H') → sTs X ifs σ H Q
theorem wTs_nil {X : Cx} {δ : List Sl} {P : Bool → Prop} (p : P true) : wTs X [] δ P := fun M H0 σ H R Q q => sTs.of pts_nil (q true H p ⟨Sb.refl _ _, R.bagOk⟩)
theorem wTs_one {X : Cx} {c : Expr} {δ : List Sl} {P : Bool → Prop} (h : wT X c δ P) : wTs X [c] δ P := fun M H0 σ H R Q q => sTs.of (pts_one sT.pt) (h M H0 σ H R Q q)
def BlkOf (X : Cx) (scope : Scope) (X' : Cx) : Prop := ∃ s H C cl fp, X' = X.blk s H scope (compEnvC scope cl C X.env) fp
section
variable {X : Cx} {elt tg iter : Expr} {ifs : List Expr} {scope : Scope} {own : List (Str × Nat)} {pos : Pos} {δ : List Sl} {js : List Nat}
def gB (X : Cx) (scope : Scope) (tg : Expr) : TG := fun v σ H Q => ∀ X', BlkOf X scope X' → gR X' tg v σ H Q
def tB' (X : Cx) (scope : Scope) (ifs : List Expr) : TT := fun σ H Q => ∀ X', BlkOf X scope X' → sTs X' ifs σ H Q
def eB (X : Cx) (scope : Scope) (e : Expr) : TE := fun σ H Q => ∀ X', BlkOf X scope X' → sE X' e σ H Q
def LcD (X : Cx) (scope : Scope) (tg elt : Expr) (ifs : List Expr) (vs : List Nat) (js : List Nat) (δ : List Sl) (P : List PyData → Prop) (ds : List PyData) : Prop :=
  ∃ I : Nat → List PyData → Prop, I 0 [] ∧ ds.length ≤ 100000 ∧
    (∀ i x acc, ds[i]? = some x → I i acc → ∀ X', BlkOf X scope X' → wG X' tg js x (wipeD δ vs) fun δ2 => (∀ X', BlkOf X scope X' → wTs X' ifs δ2 fun k =>
      (k = true → ∀ X', BlkOf X scope X' → wE X' true elt δ2 fun d => I (i + 1) (acc ++ [d])) ∧ (k = false → I (i + 1) acc))) ∧ ∀ acc, I ds.length acc → P acc
theorem lc_run {P : List PyData → Prop} (hj : ∀ j ∈ js, j ∈ own.map (·.2)) (hno : ∀ v ∈ own.map (·.2), ∀ l ds, δ[v]? ≠ some (Sl.own l ds)) (h : wI X false tg iter δ fun ds => LcD X scope tg elt ifs (own.map (·.2)) js δ P ds) :
    ∀ M H0 σ H, Rp X.K M H0 δ σ H → ∀ Q : VK, (∀ l H' xs ds, P ds → H l = none → Kp M H H' → H' l = some (.lst xs) → DA X.K (hid (fun a => Wd M δ true a ∨ a = l) H') xs ds → Q (.ref l) H') →
      tLc (sI X tg iter) (gB X scope tg) (tB' X scope ifs) (eB X scope elt) (own.map (·.2)) σ H Q := by
  intro M H0 σ H R Q q
  refine h M H0 σ H R _ fun J H1 ds p k hJ => ?_
  obtain ⟨I, i0, hlen, istep, iend⟩ := p
  rw [if_neg Bool.false_ne_true] at hJ
  have R1 := R.kp k
  intro Dl nD
  have nb : M.b ≠ some Dl := fun z => by
    obtain ⟨b0, b1, b2, cells, e, _⟩ := (R1.bagOk Dl z).2.ex
    rw [nD] at e; cases e
  have nA : ¬ M.A Dl := fun z => R1.cov Dl z nD
  have nc : ∀ b, M.b = some b → M.c ≠ Dl := fun b e z => by
    obtain ⟨b0, b1, b2, cells, _, e, _⟩ := (R1.bagOk b e).2.ex
    rw [z, nD] at e; cases e
  refine ⟨fun i m H' => m = ds.length - i ∧ i ≤ ds.length ∧ ∃ acc accD, I i accD ∧ accD.length ≤ i ∧ H' Dl = some (.lst acc) ∧ DA X.K (hid (Wd (M.plus Dl) δ true) H') acc accD ∧ Rp X.K (M.plus Dl) H0 δ σ H' ∧ Sb M.b H1 H',
    ⟨ds.length, rfl, Nat.zero_le _, [], [], i0, Nat.le_refl _, upd_same, .nil, R1.plus nD (Same.sb (same_upd nD)) (R1.bagOk.up (same_upd nD)) (by rw [upd_same]; exact fun z => by cases z), Same.sb (same_upd nD)⟩, ?_⟩
  rintro i m H' ⟨rfl, hi, acc, accD, hI, hal, hDl, hacc, R', s1⟩
  have upW : Same (hid (Wd M δ true) H1) (hid (Wd (M.plus Dl) δ true) H') := ((hid_new nD).trans (hid_sb s1 fun x e => .inl (.inl (R1.bagOk.has x e)))).trans (hid_sub fun a z => by
    rcases z with (z | z) | z
    · exact .inl (.inl z)
    · exact .inr z
    · exact .inl (.inr z))
  obtain ⟨j1, j2, j3⟩ := hJ H' (Wd (M.plus Dl) δ true) s1 (fun x e => .inl (.inl (R1.bagOk.has x e))) R'.covW upW
  by_cases hlt : i < ds.length
  · refine .inr ⟨j1 i hlt, fun H2 => ∃ acc accD, I (i + 1) accD ∧ accD.length ≤ i + 1 ∧ H2 Dl = some (.lst acc) ∧ DA X.K (hid (Wd (M.plus Dl) δ true) H2) acc accD ∧ Rp X.K (M.plus Dl) H0 δ σ H2 ∧ Sb M.b H1 H2, fun H2 ⟨acc2, accD2, z1, z2, z3, z4, z5, z6⟩ => ⟨ds.length - (i + 1), by omega, rfl, hlt, acc2, accD2, z1, z2, z3, z4, z5, z6⟩, fun x H2 hy => ?_⟩
    obtain ⟨d, g1, g2, g3⟩ := j3 i x H2 hlt hy
    have k2 : Kp (M.plus Dl) H' H2 := Kp.same R'.bagOk g2
    have R2 := R'.kp k2
    have Rw := R2.wipe (own.map (·.2))
    have upw : Same (hid (Wd (M.plus Dl) δ true) H2) (hid (Wd (M.plus Dl) (wipeD δ (own.map (·.2))) true) H2) := hid_sub fun a z => by
      rcases z with z | ⟨_, j, es, z⟩
      · exact .inl z
      · refine .inr ⟨rfl, j, es, ?_⟩
        have go : ∀ vs : List Nat, (wipeD δ vs)[j]? = some (Sl.own a es) → δ[j]? = some (Sl.own a es) := by
          intro vs
          induction vs with
          | nil => exact fun z => z
          | cons v vs ih =>
            intro z
            rcases get_set z with ⟨_, z⟩ | ⟨_, z⟩
            · cases z
            · exact ih z
        exact go _ z
    intro X' hX'
    obtain ⟨s', Hb, C, cl, fp, rfl⟩ := id hX'
    refine istep i d accD g1 hI _ hX' (M.plus Dl) H0 _ H2 x Rw (g3.up upw) _ fun us δ3 H3 p3 hus ho hk k3 R3 => ?_
    have e1 : L2.wipe (setAll (L2.wipe σ (own.map (·.2))) us) (own.map (·.2)) = L2.wipe σ (own.map (·.2)) := by
      rw [wipe_setAll _ us _ (by rw [hus]; exact hj), wipe_wipe _ _ _ fun _ z => z]
    refine ⟨e1, fun X2 hX2 => ?_⟩
    obtain ⟨s2', Hb2, C2, cl2, fp2, rfl⟩ := id hX2
    refine p3 _ hX2 (M.plus Dl) H0 _ H3 R3 _ fun kk H4 p4 k4 => ?_
    have kAll : Kp (M.plus Dl) H' H4 := (k2.trans k3).trans k4
    have s4 : Sb M.b H1 H4 := s1.trans kAll.sb
    have hD4 : H4 Dl = some (.lst acc) := kAll.sb Dl _ nb hDl
    have upA : Same (hid (Wd (M.plus Dl) δ true) H') (hid (Wd (M.plus Dl) δ true) H4) := upK kAll
    cases kk with
    | true =>
      refine iteT fun X3 hX3 => ?_
      obtain ⟨s3', Hb3, C3, cl3, fp3, rfl⟩ := id hX3
      refine p4.1 rfl _ hX3 (M.plus Dl) H0 _ H4 (R3.kp k4) _ fun y H5 dy p5 k5 dd => ?_
      have k5' : Kp (M.plus Dl) H' H5 := kAll.trans k5
      have hD5 : H5 Dl = some (.lst acc) := k5.sb Dl _ nb hD4
      have up5 : Same (hid (Wd (M.plus Dl) δ true) H') (hid (Wd (M.plus Dl) δ true) H5) := upK k5'
      have upE : Same (hid (Wd (M.plus Dl) δ3 true) H5) (hid (Wd (M.plus Dl) δ true) H5) := hid_sub fun a z => by
        rcases z with z | ⟨_, j, es, z⟩
        · exact .inl z
        · have hjv : j ∉ own.map (·.2) := fun m => hno j m a es z
          refine .inr ⟨rfl, j, es, ?_⟩
          rw [hk j fun m => hjv (hj j m)]
          have go : ∀ vs : List Nat, j ∉ vs → (wipeD δ vs)[j]? = δ[j]? := by
            intro vs
            induction vs with
            | nil => intro _; rfl
            | cons v vs ih =>
              intro m
              unfold wipeD
              rw [List.getElem?_set_ne fun e => m (by rw [e]; exact List.mem_cons_self ..), ih fun e => m (List.mem_cons_of_mem _ e)]
          rw [go _ hjv]; exact z
      have hlen5 : acc.length < sizeLine := by
        rw [hacc.len]; exact Nat.lt_of_lt_of_le (show accD.length < 100001 by omega) (by decide)
      have dd' := dd.up upE
      have hu : Same (hid (Wd (M.plus Dl) δ true) H5) (hid (Wd (M.plus Dl) δ true) (upd H5 Dl (.lst (acc ++ [y])))) := hid_upd (.inl (.inr rfl))
      refine ⟨acc, hD5, hlen5, acc ++ [y], accD ++ [dy], p5, by rw [List.length_append]; show accD.length + 1 ≤ i + 1; omega, upd_same, ((hacc.up up5).append (.cons dd' .nil)).up hu, ?_, ?_⟩
      · have hH0 : H0 Dl = none := by
          cases e : H0 Dl with
          | none => rfl
          | some o =>
            have := R1.sb Dl o nb e
            rw [nD] at this; cases this
        have R5 := R'.kp k5'
        by_cases hb : ∃ b, M.b = some b
        · obtain ⟨b, hb⟩ := hb
          exact R5.hidUpd (.inr rfl) hH0 nb (nc b hb)
        · exact R5.hidUpd0 (.inr rfl) hH0 (fun b e => hb ⟨b, e⟩)
      · exact fun a o n e => by
          rw [upd_ne fun z => by rw [z, nD] at e; cases e]
          exact (s4.trans k5.sb) a o n e
    | false =>
      refine iteF ⟨acc, accD, p4.2 rfl, Nat.le_succ_of_le hal, hD4, hacc.up upA, R'.kp kAll, s4⟩
  · have e : i = ds.length := by omega
    subst e
    refine .inl ⟨j2, ?_⟩
    have k' : Kp M H1 H' := ⟨s1, R'.bagOk.unplus R1.bagOk⟩
    refine q Dl H' acc accD (iend _ hI) (k.back nD) (k.trans k') hDl (hacc.up (hid_sub fun a z => ?_))
    rcases z with (z | z) | z
    · exact .inl (.inl z)
    · exact .inr z
    · exact .inl (.inr z)
theorem wF_comp {P : List PyData → Prop} (hN : X.N.Nodup) (h : wI X false tg iter δ fun ds => LcD X scope tg elt ifs (own.map (·.2)) js δ P ds) (ok : BlkOk X.N X.env.scope scope own) (hj : ∀ j ∈ js, j ∈ own.map (·.2)) (hno : ∀ v ∈ own.map (·.2), ∀ l ds, δ[v]? ≠ some (Sl.own l ds))
    (hc : X.calm = true := by rfl) (hs : ∀ x, foldedSetIterable iter X.env x = pure x := by intro _; rfl) : wF X (.ListComp elt [⟨tg, iter, ifs, 0⟩] scope pos) δ P := fun M H0 σ H R Q q => by
  refine sE.of (pe_lc hc hN sI.pi ok (g := gB X scope tg) (tt := tB' X scope ifs) (te := eB X scope elt) ?_ ?_ ?_ hs) (lc_run hj hno h M H0 σ H R Q q)
  · exact fun s H C cl fp => ⟨fun pins s' σ' H' v u Q' I r z => z _ ⟨s, H, C, cl, fp, rfl⟩ pins s' u I r⟩
  · exact fun s H C cl fp => ⟨fun pins s' σ' H' Q' I z => z _ ⟨s, H, C, cl, fp, rfl⟩ pins s' I⟩
  · exact fun s H C cl fp => ⟨fun pins s' σ' H' Q' I z => z _ ⟨s, H, C, cl, fp, rfl⟩ pins s' I⟩
theorem wS_setComp {E : EndsD} {i : Nat} {y : Str} {py spos : Pos} (hN : X.N.Nodup) (h : wI X false tg iter δ fun ds => LcD X scope tg elt ifs (own.map (·.2)) js δ (fun ds => ∀ l, E.nx (δ.set i (.own l ds))) ds) (ok : BlkOk X.N X.env.scope scope own) (hj : ∀ j ∈ js, j ∈ own.map (·.2)) (hno : ∀ v ∈ own.map (·.2), ∀ l ds, δ[v]? ≠ some (Sl.own l ds)) (hi : i < δ.length := by simp)
    (hy : X.N[i]? = some y := by rfl) (hyl : X.env.scope.names.lookup y = some .local := by rfl) (hsw : swapsWith (.ListComp elt [⟨tg, iter, ifs, 0⟩] scope pos) (some (.Name y py)) spos.line X.env = pure true := by exact sw_true rfl rfl rfl (by decide +kernel))
    (hc : X.calm = true := by rfl) (hs : ∀ x, foldedSetIterable iter X.env x = pure x := by intro _; rfl) : wS X (.Assign [.Name y py] (.ListComp elt [⟨tg, iter, ifs, 0⟩] scope pos) spos) E δ := fun M H0 σ H R => by
  refine sS.of (ps_setLc hc hN hy hyl hsw sI.pi ok (g := gB X scope tg) (tt := tB' X scope ifs) (te := eB X scope elt) ?_ ?_ ?_ hs) (lc_run hj hno h M H0 σ H R _ fun l H' xs ds p nl k hl hd => ?_)
  · exact fun s H C cl fp => ⟨fun pins s' σ' H' v u Q' I r z => z _ ⟨s, H, C, cl, fp, rfl⟩ pins s' u I r⟩
  · exact fun s H C cl fp => ⟨fun pins s' σ' H' Q' I z => z _ ⟨s, H, C, cl, fp, rfl⟩ pins s' I⟩
  · exact fun s H C cl fp => ⟨fun pins s' σ' H' Q' I z => z _ ⟨s, H, C, cl, fp, rfl⟩ pins s' I⟩
  · exact ⟨_, p l, R.setOwn hi nl k.sb k.bk hl hd⟩
end
end YV

namespace YV
open PySem PySem.Spec L2
open PyProof.Rows (envOfC IntsAre AllBare)

structure FnG (Pg : Program) (w : World) (K : PySem.W.Frag) (mg : Str → Option Value) (base : Heap) (CX : CXT) (k : Nat) (f : Addr) (fd : FuncData) (ps : List Str) (sp : Sp) : Prop where
  len : ∀ (xs : List V) (H : Hp) (Q : VK) (E : XK), sp xs H Q E → xs.length = ps.length
  run : ∀ (A : Around) (outer : List Env) (s : Shared) (H : Hp) (args : Args) (us : List Value) (vs : List V) (Q : VK) (E : XK), A.guards = some [] → Room k A → Env0 Pg w K mg base A outer s H → BindsTo s fd args (ps.zip us) → Vals vs us → sp vs H Q E → codeAny (model Pg w) A (.call (.ref f) args) (CR CX outer Pg w H s Q E) s
section
variable {Pg : Program} {w : World} {K : PySem.W.Frag} {mg : Str → Option Value} {base : Heap} {CX : CXT} {k : Nat} {f : Addr} {fd : FuncData} {ps : List Str} {sp : Sp}
theorem FnG.of (F : FnOk Pg w K mg base CX k f fd ps sp) : FnG Pg w K mg base CX k f fd ps sp := ⟨F.len, fun A outer s H args us vs Q E _ => F.run A outer s H args us vs Q E⟩
theorem FnG.up {j : Nat} (F : FnG Pg w K mg base CX j f fd ps sp) (h : j ≤ k) : FnG Pg w K mg base CX k f fd ps sp := ⟨F.len, fun A outer s H args us vs Q E g r => F.run A outer s H args us vs Q E g (r.mono h)⟩
theorem run_body {A : Around} {outer : List Env} {s : Shared} {H : Hp} {args : Args} {us : List Value} {vs : List V} {Q : VK} {E : XK} {t : TS} {nm qual : Str} {params : Arguments} {body : List Stmt} {scope : Scope} {dV kV doc pm cdv ct oc : Value} {an od : Option Addr} {osl : Array (Option Value)} {N : List Str}
    (lk : K.lookup f = some ⟨oc, od, .func (PySem.W.fnOf nm qual params body scope dV kV doc pm an cdv ct), osl⟩) (hcd : PySem.W.codeIn K cdv qual = true) (S : FnScope N ps scope) (hl : vs.length = ps.length) (hr : Room (k + 1) A) (e0 : Env0 Pg w K mg base A outer s H)
    (hb : BindsTo s (PySem.W.fnOf nm qual params body scope dV kV doc pm an cdv ct) args (ps.zip us)) (rv : Vals vs us) (ht : PSs (cxOf CX Pg w K mg base N qual scope f cdv A outer s H E) body t) (hq : t { nx := fun _ H' => Q .non H', rt := Q } (L2.start N vs) H) :
    codeAny (model Pg w) A (.call (.ref f) args) (CR CX outer Pg w H s Q E) s := by
  have inK : K.In s.heap := e0.mod.kin.keeps fun x o z => (e0.bs x o z).1
  have nolim : s.heap.NoLimit := e0.mod.nolimit.keeps fun x o z => (e0.bs x o z).1
  refine codeAny_call_function hr.depth (inK _ _ lk) rfl S.co S.gen rfl (PySem.W.codeRec_of inK hcd) (hb _ _ _ _ ?_)
  refine wpAny_newFunctionEnv_cells S.kind (fun ⟨n, v⟩ hy => (S.par n (List.of_mem_zip hy).1).imp id fun q => ⟨q, PySem.W.cellsFrom_some _ _ _ (.inl q)⟩) fun env he s1 x => ?_
  subst he
  have J0 : Inv (cxOf CX Pg w K mg base N qual scope f cdv A outer s H E) [] (L2.start N vs) H s1 := inv_start S hr.hd e0 hl rv x
  refine ⟨nolim.keeps x.toInCall.keep, codeAny_func (wpAny_mono (ht.run [] s1 (L2.start N vs) H _ J0 hq) (fun fl s' z => ?_) fun _ _ z => z)⟩
  cases fl with
  | ret u =>
    obtain ⟨v, σ', H', J, r', q'⟩ := z
    exact ⟨v, H', J.os, J.bare, J.base, J.hok, r', q'⟩
  | next =>
    obtain ⟨σ', H', J, q'⟩ := z
    exact ⟨.non, H', J.os, J.bare, J.base, J.hok, rfl, q'⟩
  | brk =>
    obtain ⟨_, _, _, no⟩ := z
    exact no.elim
  | cont =>
    obtain ⟨_, _, _, no⟩ := z
    exact no.elim
theorem fn_G {x qual : Str} {st : Stmt} {N : List Str} (Fn : Fun K x qual st f fd) (S : FnScope N ps (defScope st)) (len : ∀ vs H Q E, sp vs H Q E → vs.length = ps.length)
    (hbody : ∀ (cdv : Value) (A : Around) (outer : List Env) (s : Shared) (H : Hp) (vs : List V) (Q : VK) (E : XK), A.guards = some [] → Room k (A.deeper (envOfC qual (defScope st) s.heap.objs.size f cdv)) → sp vs H Q E →
      ∃ t, PSs (cxOf CX Pg w K mg base N qual (defScope st) f cdv A outer s H E) (defBody st) t ∧ t { nx := fun _ H' => Q .non H', rt := Q } (L2.start N vs) H) : FnG Pg w K mg base CX (k + 1) f fd ps sp := by
  obtain ⟨oc, od, kV, doc, pm, an, cdv, ct, osl, rfl, lk, hcd⟩ := Fn.ex
  refine ⟨len, fun A outer s H args us vs Q E hg hr e0 hb rv h => ?_⟩
  obtain ⟨t, ht, hq⟩ := hbody cdv A outer s H vs Q E hg (hr.deeper _) h
  exact run_body lk hcd S (len _ _ _ _ h) hr e0 hb rv ht hq
end
section
variable {X : Cx} {CX : CXT} {k : Nat} {f : Addr} {fd : FuncData} {ps : List Str} {sp : Sp} {E : XK} {x : Str} {p pos : Pos} {e : Expr} {es : List Expr} {t : TA}
theorem run_callG {pins : List (Addr × Obj)} {σ : L2.St} {H : Hp} {s : Shared} {Q : VK} {us : List Value} {vs : List V} (F : FnG X.prog X.w X.K X.mg X.base CX k f fd ps sp) (hg : X.A.guards = some []) (hr : Room k X.A) (hb : Binds X.K fd ps []) (hx : Passes CX X E)
    (I : Inv X pins σ H s) (r : Vals vs us) (h : sp vs H Q E) : wpAny (model X.prog X.w) X.A (call (.ref f) us) (EP X pins σ Q) X.xe s := by
  have hlen : (us ++ []).length = ps.length := by rw [List.append_nil, ← r.length]; exact F.len _ _ _ _ h
  have bind := hb s us I.kIn hlen
  rw [List.append_nil] at bind
  refine wpAny_call (codeAny_mono (F.run X.A X.stack s H ⟨us, []⟩ us vs Q E hg hr I.env0 bind r h) fun res s' z => ?_)
  cases res with
  | error err => exact hx pins σ H s err s' I z
  | ok fl =>
    cases fl with
    | ret u => exact I.after z
    | next => exact z.elim
    | brk => exact z.elim
    | cont => exact z.elim
theorem pe_callG (F : FnG X.prog X.w X.K X.mg X.base CX k f fd ps sp) (hgu : X.A.guards = some []) (hr : Room k X.A) (hg : Gl X x) (hm : X.mg x = some (.ref f)) (hk : PySem.W.keepIn X.K (.ref f) = true) (hb : Binds X.K fd ps []) (hx : Passes CX X E) (ha : PA X (e :: es) t)
    (hdb : (x == ("__debug__" : Str)) = false := by decide) (he : starEach (e :: es) X.env = (false, eval e X.env) :: starEach es X.env := by rfl) (hpl : (backTo pos (starEach es X.env)).any (·.1) = false := by rfl) : PE X (.Call (.Name x p) (e :: es) [] pos) (fun σ H Q => t σ H fun vs H1 => sp vs H1 Q E) := by
  refine ⟨fun pins s σ H Q I h => wpAny_Call_Name_kw (ld_glob I hg hm ?_ hdb)⟩
  exact PySem.W.callWith_K (h₀ := X.base) I.ok.mod.kin hk (thn (ha.run pos pins s σ H _ I h) fun us s1 ⟨vs, H1, I1, r, q⟩ => ⟨I1.kIn, run_callG F hgu hr hb hx I1 r q⟩) he hpl
end
theorem law_callG {Pg : Program} {w : World} {K : PySem.W.Frag} {mg mb : Str → Option Value} {k : Nat} {fa a : Addr} {fd : FuncData} {x : Str} {sp : Sp} {s₁ : Shared} {vs : List Value} {ns : List Int} (inK : K.In s₁.heap) (hns : s₁.heap.Ns mainGlobals mg) (hb : s₁.heap.Ns builtinsNs mb) (hbb : ∀ x : Str, x ≠ "__name__" → mb x = bootBuiltins x) (nolim : s₁.heap.NoLimit) (hgn : s₁.gens = #[])
    (ha : s₁.heap.get? a = some { cls := .type "list", data := .seq vs.toArray }) (hi : IntsAre vs ns) (hl : ns.length ≤ sizeLine) (hr : Room k callerA) (F : ∀ base : Heap, K.In base → base.Ns mainGlobals mg → FnG Pg w K mg base CX0 k fa fd [x] sp) (hbind : ∀ (s : Shared) (u : Value), BindsTo s fd ⟨[u], []⟩ [(x, u)])
    (hsp : ∀ H : Hp, Only H → SqL K H a (ns.map V.int) → sp [.ref a] H (fun v _ => v = .bl true) fun _ _ _ => False) : codeAny (model Pg w) callerA (.call (.ref fa) ⟨[.ref a], []⟩) (fun r s' => r = .ok (.ret (.bool true)) ∧ OldK s₁.heap s'.heap ∧ s'.os = s₁.os ∧ AllBare s'.gens) s₁ := by
  have rv := vals_ints hi
  have hn := hi.length
  have go : ∀ H : Hp, Only H → SqL K H a (ns.map V.int) → HOk Pg w H s₁.heap → (∀ b o, s₁.heap.get? b = some o → (H b = none ∨ (b = a ∧ K.lookup a = none))) →
      codeAny (model Pg w) callerA (.call (.ref fa) ⟨[.ref a], []⟩) (fun r s' => r = .ok (.ret (.bool true)) ∧ OldK s₁.heap s'.heap ∧ s'.os = s₁.os ∧ AllBare s'.gens) s₁ := by
    intro H only seq hok trk
    have up : ∀ {b : Addr} {o : Obj}, s₁.heap.get? b = some o → (∀ ys : Array Value, o.data ≠ .seq ys) → (hidT s₁.heap H).get? b = some o := fun {b o} e d => hidT_get e ((trk b o e).elim id fun z => by
      obtain ⟨rfl, _⟩ := z
      rw [ha] at e; cases e
      exact absurd rfl (d _))
    have ns2 : ∀ {b : Addr} {m : Str → Option Value}, s₁.heap.Ns b m → (hidT s₁.heap H).Ns b m := fun {b m} ⟨o, es, ep, e, d, r⟩ => ⟨o, es, ep, up e (fun ys z => by rw [d] at z; cases z), d, r⟩
    have kb : K.In (hidT s₁.heap H) := fun b o e => hidT_get (inK b o e) ((trk b o (inK b o e)).elim id fun z => by
      obtain ⟨rfl, z⟩ := z
      rw [z] at e; cases e)
    have md : Mod K mg (hidT s₁.heap H) := ⟨kb, ns2 hns, ⟨mb, ns2 hb, hbb⟩, let ⟨mc, h1, h2⟩ := nolim; ⟨mc, ns2 h1, h2⟩⟩
    have ev : Env0 Pg w K mg (hidT s₁.heap H) callerA [] s₁ H := ⟨rfl, md, fun b o e => of_hidT e, Nat.le_of_eq (hidT_size _ _), trivial, fun b z => absurd (show b ∈ ([] : List Addr) from z) (by simp), hok, .of_eq hgn⟩
    refine codeAny_mono ((F _ kb (ns2 hns)).run callerA [] s₁ H ⟨[.ref a], []⟩ [.ref a] [.ref a] _ _ rfl hr ev (hbind s₁ (.ref a)) (.cons rfl .nil) (hsp H only seq)) fun r s' z => ?_
    cases r with
    | error e => exact z.elim
    | ok fl =>
      cases fl with
      | next => exact z.elim
      | brk => exact z.elim
      | cont => exact z.elim
      | ret u =>
        obtain ⟨v, H', os, bare, un, hok', r', rfl⟩ := z
        have hu : u = Value.bool true := r'
        refine ⟨by rw [hu], OldK.of_keep fun b o e => ?_, os, bare⟩
        cases q : H b with
        | none => exact un.keep b o e q (fun z => absurd (show b ∈ ([] : List Addr) from z) (by simp)) (by simp)
        | some ho =>
          rcases only b with z | ⟨ob, ys, z⟩
          · rw [q] at z; cases z
          · obtain ⟨e1, _⟩ := hok b _ z
            obtain ⟨e2, _⟩ := hok' b _ (un.frzs b ob _ z)
            rw [e] at e1; cases e1
            exact e2
  cases hk : K.lookup a with
  | some o =>
    have e := inK a o hk
    rw [ha] at e
    cases e
    exact go (fun _ => none) (fun _ => .inl rfl) (.inr ⟨_, vs.toArray, _, hk, rfl, rfl, rfl, by rw [List.size_toArray, hn]; exact hl, by simpa using rv⟩) (fun b u z => by cases (show (none : Option HO) = some u from z)) fun b o _ => .inl rfl
  | none =>
    refine go (fun b => if b = a then some (.frz { cls := .type "list", data := .seq vs.toArray } (.lst (ns.map V.int))) else none) (fun b => ?_) (.inl (.inr ⟨{ cls := .type "list", data := .seq vs.toArray }, if_pos rfl⟩)) (fun b u z => ?_) fun b o _ => ?_
    · by_cases hb : b = a
      · exact .inr ⟨_, _, if_pos (c := b = a) hb⟩
      · exact .inl (if_neg hb)
    · by_cases hb : b = a
      · cases (if_pos hb).symm.trans z
        rw [hb]
        exact ⟨ha, (by rw [List.length_map]; exact hl), vs, _, rv, ha⟩
      · cases (if_neg hb).symm.trans z
    · by_cases hb : b = a
      · exact .inr ⟨hb, hk⟩
      · exact .inl (if_neg hb)
theorem walk_ofG {l : PySem.W.OpenLaw} {n k : Nat} {q : Program} {loose : List Str} {XP : (Str → Option Value) → Heap → Prop} {YP : World → Heap → Prop} {d : DefRec} {K : Params → PySem.W.Frag} {sp : World → Sp} {x : Str} (hn : l.most = some n) (hn2 : n ≤ sizeLine) (hdf : d.params.defaults = []) (hr : Room k callerA) (hY : ∀ (w : World) (h : Heap), YP w h → (K w.params).In h)
    (F : ∀ (w : World) (mg : Str → Option Value) (fa : Addr) (h : Heap), (K w.params).In h → h.Ns mainGlobals mg → mg d.name = some (.ref fa) → ∃ fd : FuncData, (∀ (s : Shared) (u : Value), BindsTo s fd ⟨[u], []⟩ [(x, u)]) ∧ ∀ base : Heap, (K w.params).In base → base.Ns mainGlobals mg → FnG l.prog w (K w.params) mg base CX0 k fa fd [x] (sp w))
    (hsp : ∀ (w : World) (H : Hp) (a : Addr) (ns : List Int), ns.length ≤ n → Only H → SqL (K w.params) H a (ns.map V.int) → sp w [.ref a] H (fun v _ => v = .bl true) fun _ _ _ => False) : PySem.W.WalkO q loose XP YP l.row.toRowW d [] (fun f vs => PySem.call f vs) := by
  refine Att.attach_call hn hdf fun w s₀ s₁ mg mb fa o pm cd doc a vs ns G Y ho hd hcd hmg hobj hints hlen hgn => ?_
  obtain ⟨fd, hb, hF⟩ := F w mg fa _ (hY w _ Y) G.T.g hmg
  exact law_callG (hY w _ Y) G.T.g G.T.b G.T.builtins G.T.nolimit hgn hobj hints (Nat.le_trans hlen hn2) hr hF hb fun H hO hS => hsp w H a ns hlen hO hS
end YV

namespace YV
open PySem PySem.Spec L2
open PyProof.Rows (subscriptTail envOfC)

def spD (K : PySem.W.Frag) (nb : Bool) (n : Nat) (F : List PyData → (PyData → Prop) → Prop) : Sp := fun vs H Q _ =>
  ∃ (M : Amb) (ds : List PyData) (ws : List V) (P : PyData → Prop), (∀ a, M.A a → H a ≠ none) ∧ BagOk M H ∧ (∃ b, M.b = (if nb = true then some b else none) ∧ vs = (if nb = true then .ref b :: ws else ws)) ∧ ds.length = n ∧ DA K (hid M.A H) ws ds ∧ F ds P ∧
    ∀ v H' d, P d → Kp M H H' → D K (hid M.A H') v d → Q v H'
def enter (nb : Bool) (ds : List PyData) (m : Nat) : List Sl := (if nb = true then [Sl.bag] else []) ++ ds.map Sl.dat ++ List.replicate m Sl.no
section
variable {Pg : Program} {w : World} {K : PySem.W.Frag} {mg : Str → Option Value} {base : Heap}
structure Cal (Pg : Program) (w : World) (K : PySem.W.Frag) (mg : Str → Option Value) (base : Heap) (x : Str) (k : Nat) (nb : Bool) (n : Nat) (F : List PyData → (PyData → Prop) → Prop) : Prop where
  ex : ∃ (f : Addr) (fd : FuncData) (ps : List Str), FnG Pg w K mg base CX0 k f fd ps (spD K nb n F) ∧ mg x = some (.ref f) ∧ PySem.W.keepIn K (.ref f) = true ∧ Binds K fd ps []
theorem enter_Rp {M : Amb} {H : Hp} {nb : Bool} {ds : List PyData} {ws vs : List V} {b : Addr} {m : Nat} (cov : ∀ a, M.A a → H a ≠ none) (bk : BagOk M H) (hb : M.b = (if nb = true then some b else none)) (hv : vs = (if nb = true then .ref b :: ws else ws)) (hd : DA K (hid M.A H) ws ds) :
    Rp K M H (enter nb ds m) (vs.map some ++ List.replicate m none) H := by
  have noown : ∀ (i : Nat) l es, (enter nb ds m)[i]? ≠ some (Sl.own l es) := fun i l es z => by
    have z' := List.mem_of_getElem? z
    unfold enter at z'
    rcases List.mem_append.mp z' with z' | z'
    · rcases List.mem_append.mp z' with z' | z'
      · cases nb with
        | true => rcases List.mem_singleton.mp z' with z'; cases z'
        | false => cases z'
      · obtain ⟨d, _, e⟩ := List.mem_map.mp z'
        cases e
    · have := (List.mem_replicate.mp z').2
      cases this
  have up : Same (hid M.A H) (hid (Wd M (enter nb ds m) true) H) := hid_sub fun a z => by
    rcases z with z | ⟨_, i, es, z⟩
    · exact z
    · exact (noown i a es z).elim
  have key : ∀ (i : Nat) (sl : Sl), (enter nb ds m)[i]? = some sl → (sl = .bag ∧ nb = true ∧ i = 0) ∨ (∃ j d, sl = .dat d ∧ ds[j]? = some d ∧ i = j + (if nb = true then 1 else 0)) ∨ sl = .no := fun i sl z => by
    unfold enter at z
    cases nb with
    | true =>
      rw [if_pos rfl] at z
      cases i with
      | zero =>
        simp at z
        exact .inl ⟨z.symm, rfl, rfl⟩
      | succ j =>
        simp at z
        by_cases hj : j < ds.length
        · rw [List.getElem?_append_left (by rw [List.length_map]; exact hj), List.getElem?_map] at z
          cases e : ds[j]? with
          | none => rw [e] at z; cases z
          | some d =>
            rw [e] at z
            exact .inr (.inl ⟨j, d, (Option.some.inj z).symm, e, rfl⟩)
        · rw [List.getElem?_append_right (by rw [List.length_map]; omega)] at z
          exact .inr (.inr (List.mem_replicate.mp (List.mem_of_getElem? z)).2)
    | false =>
      rw [if_neg Bool.false_ne_true, List.nil_append] at z
      by_cases hj : i < ds.length
      · rw [List.getElem?_append_left (by rw [List.length_map]; exact hj), List.getElem?_map] at z
        cases e : ds[i]? with
        | none => rw [e] at z; cases z
        | some d =>
          rw [e] at z
          exact .inr (.inl ⟨i, d, (Option.some.inj z).symm, e, rfl⟩)
      · rw [List.getElem?_append_right (by rw [List.length_map]; omega)] at z
        exact .inr (.inr (List.mem_replicate.mp (List.mem_of_getElem? z)).2)
  have slot : ∀ (j : Nat) v, ws[j]? = some v → (vs.map some ++ List.replicate m none)[j + (if nb = true then 1 else 0)]? = some (some v) := fun j v z => by
    have hj : j < ws.length := (List.getElem?_eq_some_iff.mp z).1
    subst hv
    cases nb with
    | true =>
      rw [if_pos rfl, if_pos rfl]
      show ((some (V.ref b) :: ws.map some) ++ List.replicate m none)[j + 1]? = some (some v)
      simp only [List.cons_append, List.getElem?_cons_succ]
      rw [List.getElem?_append_left (by rw [List.length_map]; exact hj), List.getElem?_map, z]; rfl
    | false =>
      rw [if_neg Bool.false_ne_true, if_neg Bool.false_ne_true]
      show (ws.map some ++ List.replicate m none)[j]? = some (some v)
      rw [List.getElem?_append_left (by rw [List.length_map]; exact hj), List.getElem?_map, z]; rfl
  refine ⟨?_, cov, Sb.refl _ _, fun i d z => ?_, fun i l es z => (noown i l es z).elim, fun i j es fs l z _ => (noown i l es z).elim, fun i z => ?_, bk⟩
  · subst hv
    unfold enter
    cases nb with
    | true => simp [hd.len]
    | false => simp [hd.len]
  · rcases key i _ z with ⟨q, _⟩ | ⟨j, d', q, e, rfl⟩ | q
    · cases q
    · cases q
      obtain ⟨v, e1, e2⟩ := hd.get e
      exact ⟨v, slot j v e1, e2.up up⟩
    · cases q
  · rcases key i _ z with ⟨_, q, rfl⟩ | ⟨j, d', q, _⟩ | q
    · subst hv
      rw [q, if_pos rfl] at hb
      exact ⟨b, hb, by rw [q, if_pos rfl]; rfl⟩
    · cases q
    · cases q
theorem fn_D {x qual : Str} {st : Stmt} {f : Addr} {fd : FuncData} {N ps : List Str} {k n m : Nat} {nb : Bool} {F : List PyData → (PyData → Prop) → Prop} (Fn : Fun K x qual st f fd) (S : FnScope N ps (defScope st)) (hps : ps.length = n + (if nb = true then 1 else 0)) (hm : N.length = ps.length + m)
    (hbody : ∀ (cdv : Value) (A : Around) (outer : List Env) (s : Shared) (H : Hp) (E : XK), A.guards = some [] → Room k (A.deeper (envOfC qual (defScope st) s.heap.objs.size f cdv)) → ∀ (ds : List PyData) (P : PyData → Prop), ds.length = n → F ds P →
      wSs (cxOf CX0 Pg w K mg base N qual (defScope st) f cdv A outer s H E).nox (defBody st) { nx := fun _ => P .none, rt := P } (enter nb ds m)) : FnG Pg w K mg base CX0 (k + 1) f fd ps (spD K nb n F) := by
  have hlen : ∀ vs H Q E, spD K nb n F vs H Q E → vs.length = ps.length := fun vs H Q E h => by
    obtain ⟨M, ds, ws, P, _, _, ⟨b, _, hv⟩, hl, hd, _⟩ := h
    rw [hps, hv]
    cases nb with
    | true => rw [if_pos rfl, if_pos rfl, List.length_cons, hd.len, hl]
    | false => rw [if_neg Bool.false_ne_true, if_neg Bool.false_ne_true, hd.len, hl]; rfl
  refine fn_G Fn S hlen fun cdv A outer s H vs Q E hg hr h => ?_
  have hvl := hlen _ _ _ _ h
  obtain ⟨M, ds, ws, P, cov, bk, ⟨b, hb, hv⟩, hl, hd, hF, q⟩ := h
  refine ⟨_, sSs.ps.nox, ?_⟩
  have R : Rp K M H (enter nb ds m) (L2.start N vs) H := by
    have e : N.length - vs.length = m := by rw [hvl]; omega
    unfold L2.start
    rw [e]
    exact enter_Rp cov bk hb hv hd
  refine (hbody cdv A outer s H E hg hr ds P hl hF M H _ H R).le ⟨fun σ' H' z => ?_, fun v H' z => ?_, fun _ _ z => ?_, fun _ _ z => ?_⟩
  · obtain ⟨δ', p, R'⟩ := z
    exact q _ _ _ p ⟨R'.sb, R'.bagOk⟩ .non
  · rcases z with ⟨d, p, s1, b1, dd⟩ | z
    · exact q v H' d p ⟨s1, b1⟩ dd
    · exact z.no.elim
  · obtain ⟨_, p, _⟩ := z
    exact p
  · obtain ⟨_, p, _⟩ := z
    exact p
theorem cal_of {x qual : Str} {st : Stmt} {f : Addr} {fd : FuncData} {ps : List Str} {k n : Nat} {nb : Bool} {F : List PyData → (PyData → Prop) → Prop} (Fn : Fun K x qual st f fd) (hb : Binds K fd ps []) (hg : mg x = some (.ref f)) (h : FnG Pg w K mg base CX0 k f fd ps (spD K nb n F)) : Cal Pg w K mg base x k nb n F :=
  ⟨f, fd, ps, h, hg, Fn.kp, hb⟩
end
theorem BagOk.sub {M M' : Amb} {H H' : Hp} (h : BagOk M' H') (hb : M'.b = M.b) (hc : M'.c = M.c) (g : BagOk M H) : BagOk M H' := fun b e => by
  obtain ⟨h1, h2⟩ := g b e
  obtain ⟨b0, b1, b2, cells, f1, f2, f3, r⟩ := (h b (hb.trans e)).2
  obtain ⟨_, _, _, _, _, _, g3, _⟩ := h2
  rw [hc] at f1 f2 f3 r
  exact ⟨h1, ⟨b0, b1, b2, cells, f1, f2, g3, r⟩⟩
section
variable {X : Cx} {w : Bool} {e : Expr} {es : List Expr} {δ : List Sl} {P : PyData → Prop} {pos : Pos} {k j n : Nat} {x y : Str} {F : List PyData → (PyData → Prop) → Prop}
theorem wE_callP {p : Pos} (C : Cal X.prog X.w X.K X.mg X.base x k false n F) (hgu : X.A.guards = some []) (hr : Room j X.A) (hk : k ≤ j) (h : wA X w (e :: es) δ fun ds => ds.length = n ∧ F ds P) (hg : Gl X x := by rfl)
    (hdb : (x == ("__debug__" : Str)) = false := by decide) (he : starEach (e :: es) X.env = (false, eval e X.env) :: starEach es X.env := by rfl) (hpl : (backTo pos (starEach es X.env)).any (·.1) = false := by rfl) : wE X w (.Call (.Name x p) (e :: es) [] pos) δ P := fun M H0 σ H R Q q => by
  obtain ⟨f, fd, ps, G, hm, hkp, hb⟩ := C
  refine sE.of (pe_callG G hgu (hr.mono hk) hg hm hkp hb pass0 sA.pa hdb he hpl) ?_
  refine h M H0 σ H R _ fun vs H1 ds p k1 dd => ?_
  refine ⟨⟨Wd M δ w, none, 0⟩, ds, vs, P, (R.kp k1).covW, (fun b e => by cases e), ⟨0, rfl, rfl⟩, p.1, dd, p.2, fun v H' d p' k2 dd' => ?_⟩
  have s : Same H1 H' := fun a o e => k2.sb a o (fun z => by cases z) e
  exact q v H' d p' (k1.trans (Kp.same k1.bk s)) dd'
theorem wE_callB {i : Nat} {p py : Pos} (C : Cal X.prog X.w X.K X.mg X.base x k true n F) (hgu : X.A.guards = some []) (hr : Room j X.A) (hk : k ≤ j) (hi : δ[i]? = some .bag) (h : wA X w es δ fun ds => ds.length = n ∧ F ds P) (hN : X.N[i]? = some y := by rfl) (hv : Vis X.env.scope y := by first | exact Or.inl rfl | exact Or.inr (Or.inl rfl) | exact Or.inr (Or.inr rfl))
    (hg : Gl X x := by rfl) (h1 : (y == ("__debug__" : Str)) = false := by decide) (h2 : (y == ("__classdict__" : Str)) = false := by decide)
    (hdb : (x == ("__debug__" : Str)) = false := by decide) (he : starEach (.Name y py :: es) X.env = (false, eval (.Name y py) X.env) :: starEach es X.env := by rfl) (hpl : (backTo pos (starEach es X.env)).any (·.1) = false := by rfl) : wE X w (.Call (.Name x p) (.Name y py :: es) [] pos) δ P := fun M H0 σ H R Q q => by
  obtain ⟨f, fd, ps, G, hm, hkp, hb⟩ := C
  obtain ⟨b, hMb, hs⟩ := R.bag i hi
  refine sE.of (pe_callG G hgu (hr.mono hk) hg hm hkp hb pass0 (pa_cons (pe_var hN hv h1 h2) sA.pa he) hdb he hpl) ?_
  refine ⟨.ref b, hs, ?_⟩
  refine h M H0 σ H R _ fun vs H1 ds p k1 dd => ?_
  refine ⟨⟨Wd M δ w, M.b, M.c⟩, ds, vs, P, (R.kp k1).covW, fun b' e => ⟨.inl (k1.bk b' e).1, (k1.bk b' e).2.more fun _ z => .inl z⟩, ⟨b, by rw [if_pos rfl]; exact hMb, by rw [if_pos rfl]⟩, p.1, dd, p.2, fun v H' d p' k2 dd' => ?_⟩
  exact q v H' d p' (k1.trans ⟨k2.sb, k2.bk.sub rfl rfl k1.bk⟩) dd'
end
end YV

namespace YV
open PySem PySem.Spec L2
open PyProof.Rows (subscriptTail envOfC)

def isNone : PyData → Bool
  | .none => true
  | _ => false
section
variable {X : Cx} {P : PyData → Prop}
theorem opD_two {f : Value → Value → Sem Value} {g : Int → Int → V} {r : PyData} {i j : Int} (h : OpR X f (rI0 g)) (hr : ∀ G, D X.K G (g i j) r) (p : P r) : opD X f (.int i) (.int j) P := fun W H v u Q cov d1 d2 q => by
  rw [d1.int_v, d2.int_v]
  exact oR.of h ⟨i, j, rfl, rfl, q _ H r p (Same.refl _) (hr _)⟩
theorem opD_twoC {f : Value → Value → Sem Value} {C : Int → Int → Prop} {g : Int → Int → V} {r : PyData} {i j : Int} (h : OpR X f (rI C g)) (c : C i j) (hr : ∀ G, D X.K G (g i j) r) (p : P r) : opD X f (.int i) (.int j) P := fun W H v u Q cov d1 d2 q => by
  rw [d1.int_v, d2.int_v]
  exact oR.of h ⟨i, j, rfl, rfl, c, q _ H r p (Same.refl _) (hr _)⟩
theorem opD_add {i j : Int} (p : P (.int (i + j))) : opD X (binaryOp .Add) (.int i) (.int j) P := opD_two op_add (fun _ => .int _) p
theorem opD_sub {i j : Int} (p : P (.int (i - j))) : opD X (binaryOp .Sub) (.int i) (.int j) P := opD_two op_sub (fun _ => .int _) p
theorem opD_mul {i j : Int} (h : (-(2 ^ 64) < i ∧ i < 2 ^ 64) ∨ (-(2 ^ 64) < j ∧ j < 2 ^ 64)) (p : P (.int (i * j))) : opD X (binaryOp .Mult) (.int i) (.int j) P := opD_twoC op_mul h (fun _ => .int _) p
theorem opD_mod {i j : Int} (h : 0 < j) (p : P (.int (i % j))) : opD X (binaryOp .Mod) (.int i) (.int j) P := opD_twoC op_mod h (fun _ => .int _) p
theorem opD_fdiv {i j : Int} (h : 0 < j ∧ j < 1073741824) (p : P (.int (i / j))) : opD X (binaryOp .FloorDiv) (.int i) (.int j) P := opD_twoC op_fdiv h (fun _ => .int _) p
theorem opD_lt {i j : Int} (p : P (.bool (decide (i < j)))) : opD X (compareOp .Lt) (.int i) (.int j) P := opD_two op_lt (fun _ => .bl _) p
theorem opD_le {i j : Int} (p : P (.bool (decide (i ≤ j)))) : opD X (compareOp .LtE) (.int i) (.int j) P := opD_two op_le (fun _ => .bl _) p
theorem opD_gt {i j : Int} (p : P (.bool (decide (j < i)))) : opD X (compareOp .Gt) (.int i) (.int j) P := opD_two op_gt (fun _ => .bl _) p
theorem opD_ge {i j : Int} (p : P (.bool (decide (j ≤ i)))) : opD X (compareOp .GtE) (.int i) (.int j) P := opD_two op_ge (fun _ => .bl _) p
theorem opD_eqI {i j : Int} (p : P (.bool (decide (i = j)))) : opD X (compareOp .Eq) (.int i) (.int j) P := fun W H v u Q cov d1 d2 q => by
  rw [d1.int_v, d2.int_v]
  refine oR.of op_eq ⟨rfl, ?_⟩
  have e : decide (V.int i = V.int j) = decide (i = j) := decide_eq_decide.mpr ⟨fun z => V.int.inj z, fun z => by rw [z]⟩
  rw [e]
  exact q _ H _ p (Same.refl _) (.bl _)
theorem opD_neI {i j : Int} (p : P (.bool (!decide (i = j)))) : opD X (compareOp .NotEq) (.int i) (.int j) P := fun W H v u Q cov d1 d2 q => by
  rw [d1.int_v, d2.int_v]
  refine oR.of op_ne ⟨rfl, ?_⟩
  have e : decide (V.int i = V.int j) = decide (i = j) := decide_eq_decide.mpr ⟨fun z => V.int.inj z, fun z => by rw [z]⟩
  rw [e]
  exact q _ H _ p (Same.refl _) (.bl _)
theorem opD_eqS {i j : Str} (p : P (.bool (decide (i = j)))) : opD X (compareOp .Eq) (.str i) (.str j) P := fun W H v u Q cov d1 d2 q => by
  rw [d1.str_v, d2.str_v]
  refine oR.of op_eq ⟨rfl, ?_⟩
  have e : decide (V.str i = V.str j) = decide (i = j) := decide_eq_decide.mpr ⟨fun z => V.str.inj z, fun z => by rw [z]⟩
  rw [e]
  exact q _ H _ p (Same.refl _) (.bl _)
theorem opD_isN {x : PyData} (p : P (.bool (isNone x))) : opD X (compareOp .Is) x .none P := fun W H v u Q cov d1 d2 q => by
  rw [d2.non_v]
  refine oR.of op_isN ⟨rfl, ?_⟩
  have e : decide (v = V.non) = isNone x := by
    cases d1 <;> simp [isNone]
  rw [e]
  exact q _ H _ p (Same.refl _) (.bl _)
theorem opD_notN {x : PyData} (p : P (.bool (!isNone x))) : opD X (compareOp .IsNot) x .none P := fun W H v u Q cov d1 d2 q => by
  rw [d2.non_v]
  refine oR.of op_notN ⟨rfl, ?_⟩
  have e : decide (v = V.non) = isNone x := by
    cases d1 <;> simp [isNone]
  rw [e]
  exact q _ H _ p (Same.refl _) (.bl _)
theorem opD_notB {a b : Bool} (p : P (.bool (!decide (a = b)))) : opD X (compareOp .IsNot) (.bool a) (.bool b) P := fun W H v u Q cov d1 d2 q => by
  rw [d1.bl_v, d2.bl_v]
  exact oR.of op_notBl ⟨a, b, rfl, rfl, q _ H _ p (Same.refl _) (.bl _)⟩
theorem shaped_lay {d : PyData} (e : SeqAt.shaped d = true) : d.canLay0 = true := by
  unfold SeqAt.shaped at e
  rw [Bool.and_eq_true] at e
  exact e.1
theorem same_dp {K : PySem.W.Frag} {W : Addr → Prop} {H : Hp} {v : V} {d : PyData} (e : SeqAt.shaped d = true) (h : D K (hid W H) v d) : Dp K H v d := (h.up hid_le).dp (shaped_lay e)
theorem opD_eqD {x y : PyData} (hu : X.A.units + 64 < cLine) (h1 : SeqAt.shaped x = true) (h2 : SeqAt.shaped y = true) (p : P (.bool (PyData.eqv x y))) : opD X (compareOp .Eq) x y P := fun W H v u Q cov d1 d2 q =>
  oR.of (op_eqD hu) ⟨x, y, same_dp h1 d1, same_dp h2 d2, h1, h2, q _ H _ p (Same.refl _) (.bl _)⟩
theorem opD_neD {x y : PyData} (hu : X.A.units + 64 < cLine) (h1 : SeqAt.shaped x = true) (h2 : SeqAt.shaped y = true) (p : P (.bool (!PyData.eqv x y))) : opD X (compareOp .NotEq) x y P := fun W H v u Q cov d1 d2 q =>
  oR.of (op_neD hu) ⟨x, y, same_dp h1 d1, same_dp h2 d2, h1, h2, q _ H _ p (Same.refl _) (.bl _)⟩
theorem opD_inD {x : PyData} {ds : List PyData} (hu : X.A.units + 65 < cLine) (h1 : SeqAt.shaped x = true) (h2 : SeqAt.shaped (.list ds) = true) (p : P (.bool (ds.any fun z => PyData.eqv z x))) : opD X (compareOp .In) x (.list ds) P := fun W H v u Q cov d1 d2 q =>
  oR.of (op_inD hu) ⟨x, ds, same_dp h1 d1, same_dp h2 d2, h1, h2, q _ H _ p (Same.refl _) (.bl _)⟩
theorem opD_addS {x y : Str} (h : x.length + y.length ≤ 100000) (p : P (.str (x ++ y))) : opD X (binaryOp .Add) (.str x) (.str y) P := fun W H v u Q cov d1 d2 q => by
  rw [d1.str_v, d2.str_v]
  exact oR.of op_add_str ⟨x, y, rfl, rfl, line_of h, q _ H _ p (Same.refl _) (.str _)⟩
theorem op_mulS : OpR X (binaryOp .Mult) (fun x y H Q => ∃ z n, x = .str z ∧ y = .int n ∧ MulOk z n ∧ Q (.str (Txt.mul z n)) H) := by
  intro pins s σ H x y v u Q I rx ry hop
  obtain ⟨z, n, rfl, rfl, ok, q⟩ := hop
  obtain ⟨t, rfl⟩ := rx
  obtain ⟨t', rfl⟩ := ry
  exact SB.mul ok fun t2 k => ⟨.str _, H, I.tok _, ⟨_, rfl⟩, q⟩
theorem opD_mulS {x : Str} {n : Int} (h : MulOk x n) (p : P (.str (Txt.mul x n))) : opD X (binaryOp .Mult) (.str x) (.int n) P := fun W H v u Q cov d1 d2 q => by
  rw [d1.str_v, d2.int_v]
  exact oR.of op_mulS ⟨x, n, rfl, rfl, h, q _ H _ p (Same.refl _) (.str _)⟩
theorem nW_of {W : Addr → Prop} {H : Hp} {a : Addr} (cov : ∀ a, W a → H a ≠ none) (h : H a = none) : ¬ W a := fun z => cov a z h
theorem opD_catT {xs ys : List PyData} (h : xs.length + ys.length ≤ 100000) (p : P (.tuple (xs ++ ys))) : opD X (binaryOp .Add) (.tuple xs) (.tuple ys) P := fun W H v u Q cov d1 d2 q => by
  obtain ⟨a, vs, rfl, h1, h2⟩ := d1.tup_v
  obtain ⟨b, ws, rfl, k1, k2⟩ := d2.tup_v
  refine oR.of op_catA ⟨a, b, vs, ws, rfl, rfl, same_t hid_le h1, same_t hid_le k1, by rw [h2.len, k2.len]; exact line_of h, fun e => ?_, fun e e' => ?_, fun _ _ c nc => ?_⟩
  · subst e
    have e2 : xs = [] := by cases h2; rfl
    subst e2
    exact q _ H _ p (Same.refl _) (.tup k1 k2)
  · subst e'
    have e2 : ys = [] := by cases k2; rfl
    subst e2
    rw [List.append_nil] at p
    exact q _ H _ p (Same.refl _) (.tup h1 h2)
  · have s : Same H (upd H c (.tup (vs ++ ws))) := same_upd nc
    refine q _ _ _ p s (.tup (SqT.of ?_) ((h2.append k2).up (hid_same s)))
    rw [hid_at (nW_of cov nc)]; exact upd_same
theorem opD_catL {xs ys : List PyData} (h : xs.length + ys.length ≤ 100000) (p : P (.list (xs ++ ys))) : opD X (binaryOp .Add) (.list xs) (.list ys) P := fun W H v u Q cov d1 d2 q => by
  obtain ⟨a, vs, rfl, h1, h2⟩ := d1.lst_v
  obtain ⟨b, ws, rfl, k1, k2⟩ := d2.lst_v
  refine oR.of op_cat ⟨a, b, vs, ws, rfl, rfl, (hid_some h1).2, (hid_some k1).2, by rw [h2.len, k2.len]; exact line_of h, fun c nc => ?_⟩
  have s : Same H (upd H c (.lst (vs ++ ws))) := same_upd nc
  refine q _ _ _ p s (.lst ?_ ((h2.append k2).up (hid_same s)))
  rw [hid_at (nW_of cov nc)]; exact upd_same
theorem atI_D {K : PySem.W.Frag} {G : Hp} {xs : List V} {ds : List PyData} {i : Int} {d : PyData} (h : DA K G xs ds) (e : atI ds i = some d) : ∃ v, atI xs i = some v ∧ D K G v d := by
  unfold atI at e ⊢
  rw [h.len]
  cases q : ixN ds.length i with
  | none => exact absurd e (by rw [q]; exact fun z => by cases z)
  | some n => rw [q] at e; exact h.get e
theorem ixD_list {ds : List PyData} {i : Int} {d : PyData} (e : atI ds i = some d) (p : P d) : ixD X (.list ds) (.int i) P := fun W H v u Q cov d1 d2 q => by
  obtain ⟨a, vs, rfl, h1, h2⟩ := d1.lst_v
  rw [d2.int_v]
  obtain ⟨v, e1, e2⟩ := atI_D h2 e
  exact ixR.of ix_list ⟨a, vs, i, v, rfl, rfl, SqL.of (hid_some h1).2, e1, q v H d p (Same.refl _) e2⟩
theorem ixD_tup {ds : List PyData} {i : Int} {d : PyData} (e : atI ds i = some d) (p : P d) : ixD X (.tuple ds) (.int i) P := fun W H v u Q cov d1 d2 q => by
  obtain ⟨a, vs, rfl, h1, h2⟩ := d1.tup_v
  rw [d2.int_v]
  obtain ⟨v, e1, e2⟩ := atI_D h2 e
  exact ixR.of ix_tup ⟨a, vs, i, v, rfl, rfl, same_t hid_le h1, e1, q v H d p (Same.refl _) e2⟩
theorem ixD_str {z : Str} {i : Int} {c : Nat} (hz : z.length ≤ 100000) (e : atI z.cps.toList i = some c) (p : P (.str ⟨#[c]⟩)) : ixD X (.str z) (.int i) P := fun W H v u Q cov d1 d2 q => by
  rw [d1.str_v, d2.int_v]
  exact ixR.of ix_str ⟨z, i, c, rfl, rfl, line_of hz, e, q _ H _ p (Same.refl _) (.str _)⟩
def cutD {α : Type} (xs : List α) (lo hi : Option Int) : List α := (xs.drop (HT.sIx xs.length 0 lo)).take (HT.sIx xs.length xs.length hi - HT.sIx xs.length 0 lo)
theorem DA.cut {K : PySem.W.Frag} {G : Hp} {xs : List V} {ds : List PyData} (h : DA K G xs ds) (lo hi : Option Int) : DA K G (cutV xs lo hi) (cutD ds lo hi) := by
  unfold cutV cutD
  rw [h.len]
  exact (h.drop _).take _
theorem slD_list {ds : List PyData} {lo hi : Option Int} (p : P (.list (cutD ds lo hi))) : slD X (.list ds) lo hi P := fun W H v Q cov d1 q => by
  obtain ⟨a, vs, rfl, h1, h2⟩ := d1.lst_v
  refine slR.of sl_list ⟨a, vs, rfl, SqL.of (hid_some h1).2, fun c nc => ?_⟩
  have s : Same H (upd H c (.lst (cutV vs lo hi))) := same_upd nc
  refine q _ _ _ p s (.lst ?_ ((h2.cut lo hi).up (hid_same s)))
  rw [hid_at (nW_of cov nc)]; exact upd_same
theorem slD_str {z : Str} {lo hi : Option Int} (h : z.length ≤ 100000) (p : P (.str (cutS z lo hi))) : slD X (.str z) lo hi P := fun W H v Q cov d1 q => by
  rw [d1.str_v]
  exact slR.of sl_str ⟨z, rfl, line_of h, q _ H _ p (Same.refl _) (.str _)⟩
theorem slD_tup {ds : List PyData} {lo hi : Option Int} (hw : ¬ (HT.sIx ds.length 0 lo = 0 ∧ HT.sIx ds.length ds.length hi = ds.length)) (p : P (.tuple (cutD ds lo hi))) : slD X (.tuple ds) lo hi P := fun W H v Q cov d1 q => by
  obtain ⟨a, vs, rfl, h1, h2⟩ := d1.tup_v
  refine slR.of sl_tup ⟨a, vs, rfl, same_t hid_le h1, by rw [h2.len]; exact hw, fun c nc => ?_⟩
  have s : Same H (upd H c (.tup (cutV vs lo hi))) := same_upd nc
  refine q _ _ _ p s (.tup (SqT.of ?_) ((h2.cut lo hi).up (hid_same s)))
  rw [hid_at (nW_of cov nc)]; exact upd_same
theorem caD_len_list {ds : List PyData} (p : P (.int ds.length)) : caD X (.builtin "len") [.list ds] P := fun W H vs Q cov dd q => by
  obtain ⟨v, ws, rfl, h1, h2⟩ := dd.cons_v
  obtain rfl := h2.nil_v
  obtain ⟨a, xs, rfl, k1, k2⟩ := h1.lst_v
  refine cR.of call_len_seq ⟨a, xs, rfl, .inl (SqL.of (hid_some k1).2), ?_⟩
  rw [k2.len]
  exact q _ H _ p (Same.refl _) (.int _)
theorem caD_len_tup {ds : List PyData} (p : P (.int ds.length)) : caD X (.builtin "len") [.tuple ds] P := fun W H vs Q cov dd q => by
  obtain ⟨v, ws, rfl, h1, h2⟩ := dd.cons_v
  obtain rfl := h2.nil_v
  obtain ⟨a, xs, rfl, k1, k2⟩ := h1.tup_v
  refine cR.of call_len_seq ⟨a, xs, rfl, .inr (same_t hid_le k1), ?_⟩
  rw [k2.len]
  exact q _ H _ p (Same.refl _) (.int _)
theorem caD_len_str {z : Str} (h : z.length ≤ 100000) (p : P (.int z.length)) : caD X (.builtin "len") [.str z] P := fun W H vs Q cov dd q => by
  obtain ⟨v, ws, rfl, h1, h2⟩ := dd.cons_v
  obtain rfl := h2.nil_v
  rw [h1.str_v]
  exact cR.of call_len_str ⟨z, rfl, line_of h, q _ H _ p (Same.refl _) (.int _)⟩
theorem caD_int {i : Int} (p : P (.int i)) : caD X (.type "int") [.int i] P := fun W H vs Q cov dd q => by
  obtain ⟨v, ws, rfl, h1, h2⟩ := dd.cons_v
  obtain rfl := h2.nil_v
  rw [h1.int_v]
  exact cR.of call_int1 (.inl ⟨i, rfl, q _ H _ p (Same.refl _) (.int _)⟩)
theorem caD_tuple {ds : List PyData} (p : P (.tuple ds)) : caD X (.type "tuple") [.list ds] P := fun W H vs Q cov dd q => by
  obtain ⟨v, ws, rfl, h1, h2⟩ := dd.cons_v
  obtain rfl := h2.nil_v
  obtain ⟨a, xs, rfl, k1, k2⟩ := h1.lst_v
  refine cR.of call_tuple_of ⟨a, xs, rfl, .inl ⟨SqL.of (hid_some k1).2, fun c nc => ?_⟩⟩
  have s : Same H (upd H c (.tup xs)) := same_upd nc
  refine q _ _ _ p s (.tup (SqT.of ?_) (k2.up (hid_same s)))
  rw [hid_at (nW_of cov nc)]; exact upd_same
theorem caD_list {ds : List PyData} {d : PyData} (hd : d = .list ds ∨ d = .tuple ds) (p : P (.list ds)) : caD X (.type "list") [d] P := fun W H vs Q cov dd q => by
  obtain ⟨v, ws, rfl, h1, h2⟩ := dd.cons_v
  obtain rfl := h2.nil_v
  obtain ⟨a, xs, rfl, k1, k2⟩ : ∃ a xs, v = .ref a ∧ (SqL X.K H a xs ∨ SqT X.K H a xs) ∧ DA X.K (hid W H) xs ds := by
    rcases hd with rfl | rfl
    · obtain ⟨a, xs, rfl, k1, k2⟩ := h1.lst_v
      exact ⟨a, xs, rfl, .inl (SqL.of (hid_some k1).2), k2⟩
    · obtain ⟨a, xs, rfl, k1, k2⟩ := h1.tup_v
      exact ⟨a, xs, rfl, .inr (same_t hid_le k1), k2⟩
  refine cR.of call_list_of ⟨a, xs, rfl, k1, fun c nc => ?_⟩
  have s : Same H (upd H c (.lst xs)) := same_upd nc
  refine q _ _ _ p s (.lst ?_ (k2.up (hid_same s)))
  rw [hid_at (nW_of cov nc)]; exact upd_same
theorem caD_gcd {i j : Int} (p : P (.int ((Nat.gcd i.natAbs j.natAbs : Nat) : Int))) : caD X (.builtin "math.gcd") [.int i, .int j] P := fun W H vs Q cov dd q => by
  obtain ⟨v, ws, rfl, h1, h2⟩ := dd.cons_v
  obtain ⟨v2, ws2, rfl, h3, h4⟩ := h2.cons_v
  obtain rfl := h4.nil_v
  rw [h1.int_v, h3.int_v]
  exact cR.of cr_gcd ⟨i, j, rfl, q _ H _ p (Same.refl _) (.int _)⟩
theorem call_reprD {d : PyData} (hu : X.A.units + 70 < cLine) (hg : X.A.guards = some []) (hd : d.depth ≤ 64) (hs : d.showable = true) (hn : d.hasDict = false) (hz : d.shown.length ≤ sizeLine) (hf : scalD d = false) : CallR X (.builtin "repr") (fun xs H Q => ∃ v, xs = [v] ∧ Dp X.K H v d ∧ Q (.str d.shown) H) := by
  intro pins s σ H args us Q I r h
  obtain ⟨v, rfl, dp, q⟩ := h
  obtain ⟨uv, rfl, ru⟩ := vals1 r
  obtain ⟨as, rd⟩ := Dp.reads I d v uv dp ru
  cases dp with
  | non => cases hf
  | bl _ => cases hf
  | int _ => cases hf
  | str _ => cases hf
  | lst _ _ =>
    cases ru
    exact repr_of_reads' rd hs (PyData.noDict_hsm hn) hg (by omega) (fun _ _ e => e) (fun h' u tk hk => ⟨.str _, H, I.kept hk, ⟨_, rfl⟩, q⟩) hz
  | tup _ _ =>
    cases ru
    exact repr_of_reads' rd hs (PyData.noDict_hsm hn) hg (by omega) (fun _ _ e => e) (fun h' u tk hk => ⟨.str _, H, I.kept hk, ⟨_, rfl⟩, q⟩) hz
end
end YV

namespace YV
open PySem PySem.Spec L2
open PyProof.Rows (subscriptTail envOfC)
theorem get_list {X : Cx} : PGet X (rIxL X.K) := by
  intro pins s σ H o i ov iv Q I ro ri h
  obtain ⟨p, xs, k, z, rfl, rfl, hq, he, q⟩ := h
  cases ro
  obtain ⟨t, rfl⟩ := ri
  obtain ⟨cells, r, pl, hz⟩ := I.list hq
  obtain ⟨j, c1, c2, c3, c4, c5⟩ := atI_get he
  obtain ⟨v, ev, rw_⟩ := r.get c2
  have hlen := r.length
  have hn := line63
  have done_ : EP X pins σ Q v s := ⟨z, H, I, rw_, q⟩
  by_cases pos0 : 0 ≤ k
  · have hj : k.toNat = j := by
      rw [seqIndex_of pos0 c5] at c1
      exact Option.some.inj c1
    exact wpAny_getItem_list pl.isList pos0 (by omega) (by rw [hj]; simpa using ev) done_
  · have hj : (k + (cells.toArray.size : Int)).toNat = j := by
      rw [seqIndex_neg (by omega) c4] at c1
      rw [List.size_toArray, ← hlen]
      exact Option.some.inj c1
    exact wpAny_getItem_list_neg pl.isList (by omega) (by rw [List.size_toArray] <;> omega) (by omega) (by rw [hj]; simpa using ev) done_
def FTake (ds : List PyData) (P : PyData → Prop) : Prop := ∃ m : Int, ds = [.int m] ∧ 0 < m ∧ m < 1073741824 ∧ ∀ r, 0 ≤ r → r < m → P (.int r)
def FSome (ds : List PyData) (P : PyData → Prop) : Prop := (∃ xs : List PyData, (ds = [.list xs] ∨ ds = [.tuple xs]) ∧ 0 < xs.length ∧ xs.length ≤ 1000 ∧ ∀ d ∈ xs, P d) ∨ ∃ z : Str, ds = [.str z] ∧ 0 < z.length ∧ z.length ≤ 1000 ∧ ∀ c ∈ z.cps.toList, P (.str ⟨#[c]⟩)
theorem val_ix {K : PySem.W.Frag} {σ : L2.St} {H : Hp} {b : Addr} {xs : List V} {v : V} {i : Int} {j : Nat} (hb : H b = some (.lst xs)) (h0 : σ[j]? = some (some (.ref b))) (h : atI xs i = some v) : Val (tOp (rIxL K) (tVar j) (tC (.int i))) σ H v := fun Q q =>
  ⟨_, h0, b, xs, i, v, rfl, rfl, SqL.of hb, h, q⟩
theorem val_int1 {te : TE} {σ : L2.St} {H : Hp} {i : Int} (h : Val te σ H (.int i)) : Val (tCB (fun xs H Q => (∃ i, xs = [V.int i] ∧ Q (V.int i) H) ∨ ∃ k, xs = [V.bl k] ∧ Q (V.int (if k then 1 else 0)) H) (tCons te tNil)) σ H (.int i) := fun Q q => h _ (.inl ⟨i, rfl, q⟩)
theorem Kp.bag {M : Amb} {H H' : Hp} {b : Addr} {b0 b1 b2 : Int} (bk : BagOk M H) (hb : M.b = some b) (s : Sb (some b) H H') (h : H' b = some (.lst [.int b0, .int b1, .int b2, .ref M.c])) (h0 : 0 ≤ b0) (h1 : 0 ≤ b1) (h2 : b1 < 2147483647) (h3 : 0 ≤ b2) : Kp M H H' := by
  refine ⟨by rw [hb]; exact s, fun b' e => ?_⟩
  rw [hb] at e
  cases e
  obtain ⟨hA, ⟨c0, c1, c2, cells, f1, f2, f3, f4, _, _, _, _, f5, f6⟩⟩ := bk b hb
  exact ⟨hA, ⟨b0, b1, b2, cells, h, s _ _ (fun z => f4 (Option.some.inj z).symm) f2, f3, f4, h0, h1, h2, h3, f5, f6⟩⟩
theorem sb_upd {b : Addr} {H H' : Hp} {o : HO} (s : Sb (some b) H H') : Sb (some b) H (upd H' b o) := fun a u n e => by
  rw [upd_ne (fun z => n (by rw [z]))]
  exact s a u n e
theorem sb_mod {K H1 H2 : Nat} : True := trivial
theorem mod_pos {a m : Int} (h : 0 < m) : 0 ≤ a % m ∧ a % m < m := ⟨Int.emod_nonneg a (by omega), Int.emod_lt_of_pos a h⟩
theorem insert_mut {K : PySem.W.Frag} {ds : List PyData} {i : Int} {d : PyData} (h : ds.length < 100000) (h0 : 0 ≤ i) (h1 : i < 2 ^ 63) : MutD K (fun x vs H Q => ∃ (l : Addr) (xs : List V) (i : Int) (y : V), x = .ref l ∧ vs = [.int i, y] ∧ H l = some (.lst xs) ∧ xs.length < sizeLine ∧ 0 ≤ i ∧ i < 2 ^ 63 ∧ Q .non (upd H l (.lst (xs.take i.toNat ++ [y] ++ xs.drop i.toNat)))) ds [.int i, d] (ds.take i.toNat ++ [d] ++ ds.drop i.toNat) := fun W H l xs vs _ _ hl hx hv => by
  obtain ⟨v, ws, rfl, g1, g2⟩ := hv.cons_v
  obtain ⟨v2, ws2, rfl, g3, g4⟩ := g2.cons_v
  obtain rfl := g4.nil_v
  rw [g1.int_v]
  refine ⟨_, ((hx.take i.toNat).append (.cons g3 .nil)).append (hx.drop i.toNat), fun Q q => ⟨l, xs, i, v2, rfl, rfl, hl, ?_, h0, h1, q⟩⟩
  rw [hx.len]; exact Nat.lt_of_lt_of_le h (by decide)
section
variable {X : Cx} {w : Bool} {e e2 : Expr} {es : List Expr} {δ : List Sl} {P : PyData → Prop} {pos : Pos}
theorem wE_bi1 {x : Str} {id : String} {p : Pos} (hv : bootBuiltins x = some (.builtin id)) (hm : X.mg x = none) (h : wE X w e δ fun d => caD X (.builtin id) [d] P) (hg : Gl X x := by rfl) (hn : x ≠ "__name__" := by decide) (hdb : (x == ("__debug__" : Str)) = false := by decide)
    (he : starEach [e] X.env = (false, eval e X.env) :: starEach [] X.env := by rfl) (hpl : (backTo pos (starEach [] X.env)).any (·.1) = false := by rfl) : wE X w (.Call (.Name x p) [e] [] pos) δ P := wE_bi (wA_cons (h.imp fun d q => wA_nil q) he) hm hg hv hn hdb he hpl
theorem wE_ty1 {x : Str} {T : String} {p : Pos} (hv : bootBuiltins x = some (.type T)) (hm : X.mg x = none) (h : wE X w e δ fun d => caD X (.type T) [d] P) (hg : Gl X x := by rfl) (hn : x ≠ "__name__" := by decide) (hdb : (x == ("__debug__" : Str)) = false := by decide)
    (he : starEach [e] X.env = (false, eval e X.env) :: starEach [] X.env := by rfl) (hpl : (backTo pos (starEach [] X.env)).any (·.1) = false := by rfl) : wE X w (.Call (.Name x p) [e] [] pos) δ P := wE_ty (wA_cons (h.imp fun d q => wA_nil q) he) hm hg hv hn hdb he hpl
theorem wE_len {p : Pos} (hm : X.mg "len" = none) (h : wE X w e δ fun d => (∃ ds, (d = .list ds ∨ d = .tuple ds) ∧ P (.int ds.length)) ∨ ∃ z, d = .str z ∧ z.length ≤ 100000 ∧ P (.int z.length)) (hg : Gl X "len" := by rfl)
    (he : starEach [e] X.env = (false, eval e X.env) :: starEach [] X.env := by rfl) (hpl : (backTo pos (starEach [] X.env)).any (·.1) = false := by rfl) : wE X w (.Call (.Name "len" p) [e] [] pos) δ P := wE_bi1 PySem.boot_len hm (h.imp fun d q => by
  rcases q with ⟨ds, rfl | rfl, q⟩ | ⟨z, rfl, hz, q⟩
  · exact caD_len_list q
  · exact caD_len_tup q
  · exact caD_len_str hz q) hg (by decide) (by decide) he hpl
end
section
variable {X : Cx} {s : Bool} {tg : Expr} {δ : List Sl} {P : List PyData → Prop}
theorem wI_var {i : Nat} {x : Str} {d : PyData} {ds : List PyData} {p : Pos} (hd : δ[i]? = some (.dat d)) (hs : d = .list ds ∨ d = .tuple ds) (hp : P ds) (hN : X.N[i]? = some x := by rfl) (hv : Vis X.env.scope x := by first | exact Or.inl rfl | exact Or.inr (Or.inl rfl) | exact Or.inr (Or.inr rfl))
    (h1 : (x == ("__debug__" : Str)) = false := by decide) (h2 : (x == ("__classdict__" : Str)) = false := by decide) : wI X s tg (.Name x p) δ P := by
  rcases hs with rfl | rfl
  · exact wI_list (wE_dat hd ⟨ds, rfl, hp⟩ hN hv h1 h2)
  · exact wI_tup (wE_dat hd ⟨ds, rfl, hp⟩ hN hv h1 h2)
end
structure Nice (d : PyData) : Prop where
  sh : SeqAt.shaped d = true
  ok : d.showable = true
  nd : d.hasDict = false
  sz : d.shown.length ≤ sizeLine
theorem Nice.eqv {d : PyData} (h : Nice d) : PyData.eqv d d = true := SeqAt.eqv_refl d (SeqAt.canLay_of_shaped h.sh)
section
variable {X : Cx} {P : PyData → Prop}
theorem call_repr_nice {d : PyData} (hu : X.A.units + 70 < cLine) (hg : X.A.guards = some []) (n : Nice d) : CallR X (.builtin "repr") (fun xs H Q => ∃ v, xs = [v] ∧ Dp X.K H v d ∧ Q (.str d.shown) H) := by
  by_cases hf : scalD d = false
  · exact call_reprD hu hg (SeqAt.depth_of_shaped n.sh) n.ok n.nd n.sz hf
  · intro pins s σ H xs us Q I r h
    obtain ⟨v, rfl, dp, q⟩ := h
    obtain ⟨uv, rfl, ru⟩ := vals1 r
    have ok := n.ok
    have sz := n.sz
    cases dp with
    | non =>
      cases ru
      simp only [PyData.shown] at q
      exact PySem.P.repr_of_none ⟨.str _, H, I.tok _, ⟨_, rfl⟩, q⟩
    | bl b =>
      cases ru
      simp only [PyData.shown] at q
      exact PySem.P.repr_of_bool ⟨.str _, H, I.tok _, ⟨_, rfl⟩, q⟩
    | int i =>
      obtain ⟨t, rfl⟩ := ru
      simp only [PyData.shown] at q
      simp only [PyData.showable, decide_eq_true_eq] at ok
      exact PySem.P.repr_of_int ok ⟨.str _, H, I.tok _, ⟨_, rfl⟩, q⟩
    | str x =>
      obtain ⟨t, rfl⟩ := ru
      simp only [PyData.shown] at q sz
      exact PySem.P.repr_of_str ⟨.str _, H, I.tok _, ⟨_, rfl⟩, q⟩ sz
    | lst _ _ => exact absurd rfl hf
    | tup _ _ => exact absurd rfl hf
theorem caD_repr {d : PyData} {k : Nat} (hu : X.A.units + 16 * k + 200 < cLine) (hg : X.A.guards = some []) (n : Nice d) (p : P (.str d.shown)) : caD X (.builtin "repr") [d] P := fun W H vs Q cov dd q => by
  obtain ⟨v, ws, rfl, h1, h2⟩ := dd.cons_v
  obtain rfl := h2.nil_v
  exact cR.of (call_repr_nice (by omega) hg n) ⟨v, rfl, same_dp n.sh h1, q _ H _ p (Same.refl _) (.str _)⟩
end
def FAlike (ds : List PyData) (P : PyData → Prop) : Prop := ∃ x, ds = [x, x] ∧ Nice x ∧ P (.bool true)
def FMixed (ds : List PyData) (P : PyData → Prop) : Prop := ∃ xs : List PyData, (ds = [.list xs] ∨ ds = [.tuple xs]) ∧ xs.length ≤ 1000 ∧ ∀ ys : List PyData, ys.Perm xs → P (.list ys)
end YV

namespace YL
open PySem PySem.Spec L2 YV
open PyProof.Rows (subscriptTail envOfC)
def top (i : Nat) : Stmt := PySem.Challenge.pw_hownarrow_k20_words_there_and_back.main.body.getD i (.Pass ⟨0, 0, 0, 0⟩)
abbrev s_added : Stmt := top 1
abbrev n_added : List Str := ["one", "other"]
theorem sc_added : FnScope n_added ["one", "other"] (defScope s_added) := ⟨rfl, rfl, rfl, by decide +kernel, rfl, by decide +kernel, by decide +kernel⟩
abbrev s_steps_to : Stmt := top 3
abbrev n_steps_to : List Str := ["slope", "p", "q", "steps", "many"]
theorem sc_steps_to : FnScope n_steps_to ["slope"] (defScope s_steps_to) := ⟨rfl, rfl, rfl, by decide +kernel, rfl, by decide +kernel, by decide +kernel⟩
abbrev s_word_of : Stmt := top 4
abbrev n_word_of : List Str := ["slope"]
theorem sc_word_of : FnScope n_word_of ["slope"] (defScope s_word_of) := ⟨rfl, rfl, rfl, by decide +kernel, rfl, by decide +kernel, by decide +kernel⟩
abbrev s_next_neighbours : Stmt := top 5
abbrev n_next_neighbours : List Str := ["neighbours", "letter", "first", "second"]
theorem sc_next_neighbours : FnScope n_next_neighbours ["neighbours", "letter"] (defScope s_next_neighbours) := ⟨rfl, rfl, rfl, by decide +kernel, rfl, by decide +kernel, by decide +kernel⟩
abbrev s_middle_of : Stmt := top 6
abbrev n_middle_of : List Str := ["neighbours"]
theorem sc_middle_of : FnScope n_middle_of ["neighbours"] (defScope s_middle_of) := ⟨rfl, rfl, rfl, by decide +kernel, rfl, by decide +kernel, by decide +kernel⟩
abbrev s_neighbours_of : Stmt := top 7
abbrev n_neighbours_of : List Str := ["word", "neighbours", "letter"]
theorem sc_neighbours_of : FnScope n_neighbours_of ["word"] (defScope s_neighbours_of) := ⟨rfl, rfl, rfl, by decide +kernel, rfl, by decide +kernel, by decide +kernel⟩
abbrev s_slope_of : Stmt := top 8
abbrev n_slope_of : List Str := ["word"]
theorem sc_slope_of : FnScope n_slope_of ["word"] (defScope s_slope_of) := ⟨rfl, rfl, rfl, by decide +kernel, rfl, by decide +kernel, by decide +kernel⟩
abbrev s_range_of : Stmt := top 9
abbrev n_range_of : List Str := ["word"]
theorem sc_range_of : FnScope n_range_of ["word"] (defScope s_range_of) := ⟨rfl, rfl, rfl, by decide +kernel, rfl, by decide +kernel, by decide +kernel⟩
abbrev s_runs_of : Stmt := top 10
abbrev n_runs_of : List Str := ["word", "runs", "start", "end"]
theorem sc_runs_of : FnScope n_runs_of ["word"] (defScope s_runs_of) := ⟨rfl, rfl, rfl, by decide +kernel, rfl, by decide +kernel, by decide +kernel⟩
abbrev s_word_by : Stmt := top 11
abbrev n_word_by : List Str := ["runs", "letter", "many"]
theorem sc_word_by : FnScope n_word_by ["runs"] (defScope s_word_by) := ⟨rfl, rfl, rfl, by decide +kernel, rfl, by decide +kernel, by decide +kernel⟩
abbrev s_exchanged : Stmt := top 12
abbrev n_exchanged : List Str := ["word", "letter"]
theorem sc_exchanged : FnScope n_exchanged ["word"] (defScope s_exchanged) := ⟨rfl, rfl, rfl, by decide +kernel, rfl, by decide +kernel, by decide +kernel⟩
abbrev s_law_bag : Stmt := top 14
abbrev n_law_bag : List Str := ["script", "cell"]
theorem sc_law_bag : FnScope n_law_bag ["script"] (defScope s_law_bag) := ⟨rfl, rfl, rfl, by decide +kernel, rfl, by decide +kernel, by decide +kernel⟩
abbrev s_law_take : Stmt := top 15
abbrev n_law_take : List Str := ["bag", "many", "cell", "stirred", "value", "begin", "second"]
theorem sc_law_take : FnScope n_law_take ["bag", "many"] (defScope s_law_take) := ⟨rfl, rfl, rfl, by decide +kernel, rfl, by decide +kernel, by decide +kernel⟩
abbrev s_law_some : Stmt := top 16
abbrev n_law_some : List Str := ["bag", "things"]
theorem sc_law_some : FnScope n_law_some ["bag", "things"] (defScope s_law_some) := ⟨rfl, rfl, rfl, by decide +kernel, rfl, by decide +kernel, by decide +kernel⟩
abbrev s_law_alike : Stmt := top 17
abbrev n_law_alike : List Str := ["found", "due"]
theorem sc_law_alike : FnScope n_law_alike ["found", "due"] (defScope s_law_alike) := ⟨rfl, rfl, rfl, by decide +kernel, rfl, by decide +kernel, by decide +kernel⟩
abbrev s_law_neighbours : Stmt := top 18
abbrev n_law_neighbours : List Str := ["word", "v", "w", "letter", "middle"]
theorem sc_law_neighbours : FnScope n_law_neighbours ["word"] (defScope s_law_neighbours) := ⟨rfl, rfl, rfl, by decide +kernel, rfl, by decide +kernel, by decide +kernel⟩
abbrev s_law_slope_of : Stmt := top 19
abbrev n_law_slope_of : List Str := ["word", "v", "w"]
theorem sc_law_slope_of : FnScope n_law_slope_of ["word"] (defScope s_law_slope_of) := ⟨rfl, rfl, rfl, by decide +kernel, rfl, by decide +kernel, by decide +kernel⟩
abbrev s_law_word_of : Stmt := top 20
abbrev n_law_word_of : List Str := ["slope", "p", "q", "found"]
theorem sc_law_word_of : FnScope n_law_word_of ["slope"] (defScope s_law_word_of) := ⟨rfl, rfl, rfl, by decide +kernel, rfl, by decide +kernel, by decide +kernel⟩
abbrev s_law_word : Stmt := top 21
abbrev n_law_word : List Str := ["bag", "most", "way", "many", "found", "turn"]
theorem sc_law_word : FnScope n_law_word ["bag", "most"] (defScope s_law_word) := ⟨rfl, rfl, rfl, by decide +kernel, rfl, by decide +kernel, by decide +kernel⟩
abbrev s_law_slope : Stmt := top 22
abbrev n_law_slope : List Str := ["bag", "most", "way", "many", "word", "turn", "slope"]
theorem sc_law_slope : FnScope n_law_slope ["bag", "most"] (defScope s_law_slope) := ⟨rfl, rfl, rfl, by decide +kernel, rfl, by decide +kernel, by decide +kernel⟩
abbrev s_law_less_steep : Stmt := top 23
abbrev n_law_less_steep : List Str := ["one", "other"]
theorem sc_law_less_steep : FnScope n_law_less_steep ["one", "other"] (defScope s_law_less_steep) := ⟨rfl, rfl, rfl, by decide +kernel, rfl, by decide +kernel, by decide +kernel⟩
abbrev s_law_common : Stmt := top 24
abbrev n_law_common : List Str := ["n", "d"]
theorem sc_law_common : FnScope n_law_common ["n", "d"] (defScope s_law_common) := ⟨rfl, rfl, rfl, by decide +kernel, rfl, by decide +kernel, by decide +kernel⟩
abbrev s_law_short_numbers : Stmt := top 25
abbrev n_law_short_numbers : List Str := ["word", "most", "v", "w", "at", "letter", "middle"]
theorem sc_law_short_numbers : FnScope n_law_short_numbers ["word", "most"] (defScope s_law_short_numbers) := ⟨rfl, rfl, rfl, by decide +kernel, rfl, by decide +kernel, by decide +kernel⟩
abbrev s_law_runs : Stmt := top 26
abbrev n_law_runs : List Str := ["word", "found", "letter"]
theorem sc_law_runs : FnScope n_law_runs ["word"] (defScope s_law_runs) := ⟨rfl, rfl, rfl, by decide +kernel, rfl, by decide +kernel, by decide +kernel⟩
abbrev s_law : Stmt := top 27
abbrev n_law : List Str := ["script", "bag", "turn", "word", "v", "w", "slope", "told", "far", "other", "runs", "given", "due", "said", "again", "near", "some", "its", "is_in", "letter", "k", "many", "one"]
theorem sc_law : FnScope n_law ["script"] (defScope s_law) := ⟨rfl, rfl, rfl, by decide +kernel, rfl, by decide +kernel, by decide +kernel⟩
end YL

namespace YV
open PySem PySem.Spec L2
open PyProof.Rows (subscriptTail envOfC)
def pr (p q : Int) : PyData := .tuple [.int p, .int q]
def Sm (i : Int) : Prop := 0 ≤ i ∧ i < 1099511627776
theorem Sm.mul {i j : Int} (h : Sm i) : (-(2 ^ 64) < i ∧ i < 2 ^ 64) ∨ (-(2 ^ 64) < j ∧ j < 2 ^ 64) := .inl ⟨by have := h.1; omega, by have := h.2; omega⟩
def FTwo (g : Int → Int → Int → Int → PyData) (ds : List PyData) (P : PyData → Prop) : Prop := ∃ a b c d, ds = [pr a b, pr c d] ∧ Sm a ∧ Sm b ∧ Sm c ∧ Sm d ∧ P (g a b c d)
def FOne (g : Int → Int → PyData) (ds : List PyData) (P : PyData → Prop) : Prop := ∃ a b, ds = [pr a b] ∧ Sm a ∧ Sm b ∧ P (g a b)
section
variable {X : Cx} {w : Bool} {a b : Expr} {δ : List Sl} {P : PyData → Prop} {pos : Pos}
theorem wE_fst {i j : Nat} {x : Str} {p q : Int} {p1 p2 : Pos} (hd : δ[i]? = some (.dat (pr p q))) (h : P (.int p)) (hN : X.N[i]? = some x := by rfl) (hv : Vis X.env.scope x := by first | exact Or.inl rfl | exact Or.inr (Or.inl rfl) | exact Or.inr (Or.inr rfl))
    (h1 : (x == ("__debug__" : Str)) = false := by decide) (h2 : (x == ("__classdict__" : Str)) = false := by decide) (hs : PlainIx (.Constant (.int 0) j p2) := by intro _ _; rfl) : wE X w (.Subscript (.Name x p1) (.Constant (.int 0) j p2) pos) δ P :=
  wE_ix (wE_dat hd (wE_int (ixD_tup (d := .int p) rfl h)) hN hv h1 h2) hs
theorem wE_snd {i j : Nat} {x : Str} {p q : Int} {p1 p2 : Pos} (hd : δ[i]? = some (.dat (pr p q))) (h : P (.int q)) (hN : X.N[i]? = some x := by rfl) (hv : Vis X.env.scope x := by first | exact Or.inl rfl | exact Or.inr (Or.inl rfl) | exact Or.inr (Or.inr rfl))
    (h1 : (x == ("__debug__" : Str)) = false := by decide) (h2 : (x == ("__classdict__" : Str)) = false := by decide) (hs : PlainIx (.Constant (.int 1) j p2) := by intro _ _; rfl) : wE X w (.Subscript (.Name x p1) (.Constant (.int 1) j p2) pos) δ P :=
  wE_ix (wE_dat hd (wE_int (ixD_tup (d := .int q) rfl h)) hN hv h1 h2) hs
theorem wE_pr {j : Nat} (h : wE X w a δ fun x => wE X w b δ fun y => ∃ p q, x = .int p ∧ y = .int q ∧ P (pr p q)) (hs : starEach [a, b] X.env = (false, eval a X.env) :: starEach [b] X.env := by rfl) (hs2 : starEach [b] X.env = (false, eval b X.env) :: starEach [] X.env := by rfl) : wE X w (.Tuple [a, b] j pos) δ P :=
  wE_tup (wA_cons (h.imp fun x hx => wA_cons (hx.imp fun y hy => wA_nil (by obtain ⟨p, q, rfl, rfl, h⟩ := hy; exact ⟨by show 2 ≤ 100000; omega, h⟩)) hs2) hs)
end
theorem wI_str {X : Cx} {s : Bool} {e tg : Expr} {δ : List Sl} {P : List PyData → Prop} (h : wE X true e δ fun d => ∃ z : Str, d = .str z ∧ P (z.cps.toList.map fun c => .str ⟨#[c]⟩)) : wI X s tg e δ P := fun M H0 σ H R0 R q => by
  refine sI.of (pi_str sE.pe) ?_
  refine h M H0 σ H R0 _ fun v H1 d p k dd => ?_
  obtain ⟨z, rfl, p⟩ := p
  cases dd
  refine ⟨z, rfl, q _ H1 _ p k fun H' W s1 s2 s3 s4 => ?_⟩
  rw [List.length_map (as := z.cps.toList), Array.length_toList]
  refine ⟨fun i hi => hi, Nat.le_refl _, fun i x H2 hi hy => ?_⟩
  obtain ⟨rfl, c, hc, rfl⟩ := hy
  refine ⟨.str ⟨#[c]⟩, ?_, Same.refl _, .str _⟩
  rw [List.getElem?_map, Array.getElem?_toList, hc]; rfl
end YV

namespace YV
open PySem PySem.Spec L2
open PyProof.Rows (subscriptTail envOfC)
theorem notLong {n : Nat} (h : n ≤ 100000) : Builtin.Str.tooLong n = false := by
  unfold Builtin.Str.tooLong
  exact decide_eq_false (by have := line_of h; omega)
theorem mulOk_small {x : Str} {n : Int} (hx : x.length ≤ 100) (h0 : 0 ≤ n) (hn : n ≤ 1000) : MulOk x n := by
  by_cases h1 : n < 1
  · refine ⟨?_, fun h => absurd h1 h, fun h => absurd h1 h⟩
    rw [decide_eq_false (by omega), decide_eq_false (by omega)]; rfl
  · refine ⟨?_, fun _ _ => ?_, fun _ _ => notLong ?_⟩
    · rw [decide_eq_false (by omega), decide_eq_false (by omega)]; rfl
    · have hle : (x.length : Int) * n ≤ 100 * 1000 := Int.mul_le_mul (by omega) hn (by omega) (by omega)
      have := Int.le_ediv_of_mul_le (c := n) (a := x.length) (b := 2 ^ 63 - 1) (by omega) (by omega)
      omega
    exact Nat.le_trans (Nat.mul_le_mul hx (show n.toNat ≤ 1000 by omega)) (by decide)
theorem cut_le (z : Str) {m : Int} (h : 0 ≤ m) : ((cutS z none (some m)).length : Int) ≤ m := by
  show (((((z.cps.toList.drop (HT.sIx z.length 0 none)).take (HT.sIx z.length z.length (some m) - HT.sIx z.length 0 none)).toArray).size : Nat) : Int) ≤ m
  rw [List.size_toArray, List.length_take]
  have : HT.sIx z.length z.length (some m) ≤ m.toNat := by
    show (if m < 0 then (m + (z.length : Int)).toNat else min m.toNat z.length) ≤ _
    rw [if_neg (by omega)]
    exact Nat.min_le_left _ _
  omega
section
variable {X : Cx} {w : Bool} {o e : Expr} {δ : List Sl} {P : PyData → Prop} {pos : Pos}
theorem wE_mt1 {id : String} {name : Str} {apos : Pos} (slot : Slot "str" name id) (ty : typeOf (.builtin id) = pure (.type "method_descriptor")) (h : wE X w o δ fun x => ∃ z : Str, x = .str z ∧ wE X w e δ fun y => mtD X id (.str z) [y] P)
    (hs : starEach [e] X.env = [(false, eval e X.env)] := by rfl) (hbase : attributeBase o name X.env (eval o X.env) = eval o X.env := by rfl) (hline : (apos.endLine == pos.line) = true := by rfl) : wE X w (.Call (.Attribute o name apos) [e] [] pos) δ P := fun M H0 σ H R Q q => by
  refine sE.of (pe_m1 slot ty mtR.op sE.pe sE.pe hs hbase hline) ?_
  refine h M H0 σ H R _ fun v H1 x hx k1 d1 => ?_
  obtain ⟨z, rfl, hx⟩ := hx
  have hv := d1.str_v
  subst hv
  refine ⟨⟨z, rfl⟩, ?_⟩
  refine hx M H0 σ H1 (R.kp k1) _ fun u H2 y hy k2 d2 => ?_
  exact hy _ H2 (.str z) [u] Q (((R.kp k1).kp k2).covW (w := w)) (.str z) (.cons d2 .nil) fun r H' d p s dd => q r H' d p ((k1.trans k2).trans (Kp.same k2.bk s)) dd
theorem da_strs {K : PySem.W.Frag} {G : Hp} : ∀ {xs : List V} {ns : List Str}, DA K G xs (ns.map PyData.str) → xs = ns.map V.str
  | _, [], h => h.nil_v
  | _, n :: ns, h => by
    obtain ⟨v, ws, rfl, h1, h2⟩ := DA.cons_v (d := .str n) (ds := ns.map PyData.str) h
    rw [h1.str_v, da_strs h2]; rfl
theorem mtD_join {a : Str} {ys : List Str} (hn : (ys.map (·.length)).sum + ys.length * a.length ≤ 16777216) (p : P (.str (Txt.join a ys))) : mtD X "str.join" (.str a) [.list (ys.map PyData.str)] P := fun W H v vs Q cov d1 dd q => by
  have hv := d1.str_v
  subst hv
  obtain ⟨v, ws, rfl, h1, h2⟩ := dd.cons_v
  obtain rfl := h2.nil_v
  obtain ⟨b, xs, rfl, k1, k2⟩ := h1.lst_v
  obtain rfl := da_strs k2
  exact mtR.of mt_join ⟨a, b, ys, rfl, rfl, .inl (SqL.of (hid_some k1).2), hn, q _ H _ p (Same.refl _) (.str _)⟩
theorem join1 (ys : List Str) (h : ∀ y ∈ ys, y.length = 1) : (Txt.join (Str.ofString "") ys).length = ys.length := PySem.W.KT.join_ones ys h
theorem sum1 : ∀ (ys : List Str), (∀ y ∈ ys, y.length = 1) → (ys.map (·.length)).sum = ys.length
  | [], _ => rfl
  | y :: ys, h => by
    rw [List.map_cons, List.sum_cons, sum1 ys fun z hz => h z (List.mem_cons_of_mem _ hz), h y (List.mem_cons_self ..), List.length_cons]; omega
theorem unD_neg {i : Int} (p : P (.int (-i))) : unD X (unaryOp .USub) (.int i) P := fun W H v Q cov d1 q => by
  rw [d1.int_v]
  exact uR.of un_neg ⟨i, rfl, q _ H _ p (Same.refl _) (.int _)⟩
end
end YV

namespace YV
open PySem PySem.Spec L2
theorem eqv_pr (p q a b : Int) : PyData.eqv (pr p q) (pr a b) = (decide (p = a) && decide (q = b)) := by
  simp only [pr, PyData.eqv, PyData.eqvAll, Bool.and_true]
  rfl
theorem eqv_prs (p q r s a b c d : Int) : PyData.eqv (.tuple [pr p q, pr r s]) (.tuple [pr a b, pr c d]) = ((decide (p = a) && decide (q = b)) && (decide (r = c) && decide (s = d))) := by
  simp only [pr, PyData.eqv, PyData.eqvAll, Bool.and_true]
  rfl
def Wk (a b c d p q r s m : Int) : Prop := ∃ x y z t : Int, 0 ≤ x ∧ 0 ≤ y ∧ 0 ≤ z ∧ 0 ≤ t ∧ a = x * p + y * r ∧ b = x * q + y * s ∧ c = z * p + t * r ∧ d = z * q + t * s ∧ x + y + z + t ≤ m ∧ x * t = y * z + 1
theorem pos_xt {x y z t : Int} (hx : 0 ≤ x) (hy : 0 ≤ y) (hz : 0 ≤ z) (ht : 0 ≤ t) (h : x * t = y * z + 1) : 1 ≤ x ∧ 1 ≤ t := by
  have h1 := Int.mul_nonneg hy hz
  have hx' : x ≠ 0 := fun e => by rw [e, Int.zero_mul] at h; omega
  have ht' : t ≠ 0 := fun e => by rw [e, Int.mul_zero] at h; omega
  omega
theorem Wk.zero {a b c d : Int} (ha : 0 ≤ a) (hb : 0 ≤ b) (hc : 0 ≤ c) (hd : 0 ≤ d) (h : a * d = b * c + 1) : Wk a b c d 1 0 0 1 (a + b + c + d) :=
  ⟨a, b, c, d, ha, hb, hc, hd, by omega, by omega, by omega, by omega, by omega, h⟩
theorem Wk.end_ {a b c d p q r s m : Int} (h : Wk a b c d p q r s m) : 2 ≤ m := by
  obtain ⟨x, y, z, t, hx, hy, hz, ht, e1, e2, e3, e4, hm, hxt⟩ := h
  have := pos_xt hx hy hz ht hxt
  omega
section
variable {a b c d p q r s m : Int}
theorem goL {x y z t : Int} (hx : 0 ≤ x) (hy : 0 ≤ y) (hz : 0 ≤ z) (ht : 0 ≤ t) (e1 : a = x * p + y * r) (e2 : b = x * q + y * s) (e3 : c = z * p + t * r) (e4 : d = z * q + t * s) (hm : x + y + z + t ≤ m) (hxt : x * t = y * z + 1) (h1 : y ≤ x) (h2 : t ≤ z) : Wk a b c d p q (p + r) (q + s) (m - 1) := by
  have := pos_xt hx hy hz ht hxt
  exact ⟨x - y, y, z - t, t, by omega, hy, by omega, ht, by grind, by grind, by grind, by grind, by omega, by grind⟩
theorem goR {x y z t : Int} (hx : 0 ≤ x) (hy : 0 ≤ y) (hz : 0 ≤ z) (ht : 0 ≤ t) (e1 : a = x * p + y * r) (e2 : b = x * q + y * s) (e3 : c = z * p + t * r) (e4 : d = z * q + t * s) (hm : x + y + z + t ≤ m) (hxt : x * t = y * z + 1) (h1 : x ≤ y) (h2 : z ≤ t) : Wk a b c d (p + r) (q + s) r s (m - 1) := by
  have := pos_xt hx hy hz ht hxt
  exact ⟨x, y - x, z, t - z, hx, by omega, hz, by omega, by grind, by grind, by grind, by grind, by omega, by grind⟩
theorem co1 {x y : Int} (hd : p * s = q * r + 1) (e1 : a = x * p + y * r) (e2 : b = x * q + y * s) : x = a * s - b * r ∧ y = p * b - q * a := by
  constructor <;> grind
theorem caseA (hd : p * s = q * r + 1) (h : Wk a b c d p q r s m) (ha : p = a) (hb : q = b) (hn : ¬ (r = c ∧ s = d)) : Wk a b c d p q (p + r) (q + s) (m - 1) := by
  obtain ⟨x, y, z, t, hx, hy, hz, ht, e1, e2, e3, e4, hm, hxt⟩ := h
  have ⟨c1, c2⟩ := co1 hd e1 e2
  have x1 : x = 1 := by grind
  have y0 : y = 0 := by grind
  have t1 : t = 1 := by grind
  have z1 : z ≠ 0 := fun z0 => hn ⟨by grind, by grind⟩
  exact goL hx hy hz ht e1 e2 e3 e4 hm hxt (by omega) (by omega)
theorem caseB (hd : p * s = q * r + 1) (h : Wk a b c d p q r s m) (ha : r = c) (hb : s = d) (hn : ¬ (p = a ∧ q = b)) : Wk a b c d (p + r) (q + s) r s (m - 1) := by
  obtain ⟨x, y, z, t, hx, hy, hz, ht, e1, e2, e3, e4, hm, hxt⟩ := h
  have ⟨c1, c2⟩ := co1 hd e3 e4
  have z0 : z = 0 := by grind
  have t1 : t = 1 := by grind
  have x1 : x = 1 := by grind
  have y1 : y ≠ 0 := fun y0 => hn ⟨by grind, by grind⟩
  exact goR hx hy hz ht e1 e2 e3 e4 hm hxt (by omega) (by omega)
theorem caseC (hd : p * s = q * r + 1) (h : Wk a b c d p q r s m) (ha : p + r = a) (hb : q + s = b) : Wk a b c d (p + r) (q + s) r s (m - 1) := by
  obtain ⟨x, y, z, t, hx, hy, hz, ht, e1, e2, e3, e4, hm, hxt⟩ := h
  have ⟨c1, c2⟩ := co1 hd e1 e2
  have x1 : x = 1 := by grind
  have y0 : y = 1 := by grind
  exact goR hx hy hz ht e1 e2 e3 e4 hm hxt (by omega) (by subst x1; subst y0; omega)
theorem caseD (hd : p * s = q * r + 1) (h : Wk a b c d p q r s m) (ha : p + r = c) (hb : q + s = d) : Wk a b c d p q (p + r) (q + s) (m - 1) := by
  obtain ⟨x, y, z, t, hx, hy, hz, ht, e1, e2, e3, e4, hm, hxt⟩ := h
  have ⟨c1, c2⟩ := co1 hd e3 e4
  have z1 : z = 1 := by grind
  have t1 : t = 1 := by grind
  exact goL hx hy hz ht e1 e2 e3 e4 hm hxt (by subst z1; subst t1; omega) (by omega)
theorem caseE (hd : p * s = q * r + 1) (h : Wk a b c d p q r s m) (hl : (q + s) * a < (p + r) * b) : Wk a b c d (p + r) (q + s) r s (m - 1) := by
  obtain ⟨x, y, z, t, hx, hy, hz, ht, e1, e2, e3, e4, hm, hxt⟩ := h
  have ⟨c1, c2⟩ := co1 hd e1 e2
  have hxy : x < y := by
    have : (p + r) * b - (q + s) * a = y - x := by grind
    omega
  have hzt : z ≤ t := by
    by_cases k : z ≤ t
    · exact k
    · have h5 : x * t ≤ (y - 1) * (z - 1) := Int.mul_le_mul (by omega) (by omega) ht (by omega)
      grind
  exact goR hx hy hz ht e1 e2 e3 e4 hm hxt (by omega) hzt
theorem caseF (hd : p * s = q * r + 1) (h : Wk a b c d p q r s m) (hl : ¬ (q + s) * a < (p + r) * b) (h1 : ¬ (p = a ∧ q = b)) (h2 : ¬ (p + r = a ∧ q + s = b)) : Wk a b c d p q (p + r) (q + s) (m - 1) := by
  obtain ⟨x, y, z, t, hx, hy, hz, ht, e1, e2, e3, e4, hm, hxt⟩ := h
  have ⟨c1, c2⟩ := co1 hd e1 e2
  have hp := pos_xt hx hy hz ht hxt
  have hxy : y ≤ x := by
    have : (p + r) * b - (q + s) * a = y - x := by grind
    omega
  have hzt : t ≤ z := by
    by_cases k : t ≤ z
    · exact k
    · have e : x * (t - z - 1) + z * (x - y) = 1 - x := by grind
      have g1 : 0 ≤ x * (t - z - 1) := Int.mul_nonneg hx (by omega)
      have g2 : 0 ≤ z * (x - y) := Int.mul_nonneg hz (by omega)
      have x1 : x = 1 := by omega
      have : y = 0 ∨ y = 1 := by omega
      rcases this with y0 | y1
      · exact absurd ⟨by rw [e1, x1, y0]; omega, by rw [e2, x1, y0]; omega⟩ h1
      · exact absurd ⟨by rw [e1, x1, y1]; omega, by rw [e2, x1, y1]; omega⟩ h2
  exact goL hx hy hz ht e1 e2 e3 e4 hm hxt hxy hzt
end
end YV

namespace YV
open PySem PySem.Spec L2
open PyProof.Rows (subscriptTail)
def wJ (X : Cx) (tg iter : Expr) (δ : List Sl) (P : List PyData → Prop) : Prop :=
  ∀ M H0 σ H, Rp X.K M H0 δ σ H → ∀ R : It → Hp → Prop, (∀ J H1 ds, P ds → Kp M H H1 → ItD X.K M.b (hid (Wd M δ true) H1) (hid (Wd M δ true) H1) J ds → R J H1) → sI X tg iter σ H R
section
variable {X : Cx} {e a b tg iter : Expr} {δ : List Sl} {P : List PyData → Prop} {pos : Pos}
theorem wJ_range2 {p : Pos} (hm : X.mg "range" = none) (h : wE X false a δ fun d => wE X false b δ fun d2 => ∃ i j : Int, d = .int i ∧ d2 = .int j ∧ -100000 ≤ i ∧ i ≤ 100000 ∧ -100000 ≤ j ∧ j ≤ 100000 ∧ P (rangeD i (j - i).toNat)) (hg : Gl X "range" := by rfl)
    (hs : starEach [a, b] X.env = [(false, eval a X.env), (false, eval b X.env)] := by rfl) (hs2 : starEach [b] X.env = [(false, eval b X.env)] := by rfl)
    (hs0 : starEach [a, b] X.env = (false, eval a X.env) :: starEach [b] X.env := by rfl) (hs1 : starEach [b] X.env = (false, eval b X.env) :: starEach [] X.env := by rfl) : wJ X tg (.Call (.Name "range" p) [a, b] [] pos) δ P := fun M H0 σ H R0 R q => by
  refine sI.of (pi_range2 hg hm (pa_cons sE.pe (pa_cons sE.pe pa_nil hs1) hs0) hs hs2) ?_
  refine h M H0 σ H R0 _ fun v H1 d p k dd => ?_
  refine p M H0 σ H1 (R0.kp k) _ fun v2 H2 d2 p k2 dd2 => ?_
  obtain ⟨i, j, rfl, rfl, h1, h2, h3, h4, p⟩ := p
  cases dd
  cases dd2
  exact ⟨i, j, rfl, ⟨by omega, by omega, by omega, by omega⟩, q _ H2 _ p (k.trans k2) itr_D⟩
theorem wJ_list (h : wE X true e δ fun d => ∃ ds, d = .list ds ∧ P ds) : wJ X tg e δ P := fun M H0 σ H R0 R q => by
  refine sI.of (pi_list sE.pe) ?_
  refine h M H0 σ H R0 _ fun v H1 d p k dd => ?_
  obtain ⟨ds, rfl, p⟩ := p
  obtain ⟨a, xs, rfl, h1, h2⟩ := dd.lst_v
  refine ⟨a, rfl, ⟨xs, SqL.of (hid_some h1).2⟩, q _ H1 ds p k fun H' W s1 s2 s3 s4 => ?_⟩
  have hA : H' a = some (.lst xs) := s1 a _ (fun z => (hid_some h1).1 (.inl (k.bk.has a z))) h1
  refine ⟨fun i hi => ?_, ⟨xs, SqL.of hA, by rw [h2.len]; exact Nat.le_refl _⟩, fun i x H2 hi hy => ?_⟩
  · have hx : i < xs.length := by rw [h2.len]; exact hi
    exact ⟨xs, xs[i], SqL.of hA, List.getElem?_eq_getElem hx⟩
  · obtain ⟨rfl, hy⟩ := hy
    obtain ⟨d, g1, g2⟩ := h2.getV (hy xs (SqL.of hA))
    exact ⟨d, g1, Same.refl _, g2.up s4⟩
end
theorem own_wipe {δ : List Sl} {j : Nat} : ∀ vs : List Nat, j ∉ vs → (wipeD δ vs)[j]? = δ[j]?
  | [], _ => rfl
  | v :: vs, m => by
    unfold wipeD
    rw [List.getElem?_set_ne fun e => m (by rw [e]; exact List.mem_cons_self ..), own_wipe vs fun e => m (List.mem_cons_of_mem _ e)]
theorem wipe_own {δ : List Sl} {j : Nat} {a : Addr} {es : List PyData} : ∀ vs : List Nat, (wipeD δ vs)[j]? = some (Sl.own a es) → δ[j]? = some (Sl.own a es)
  | [], z => z
  | v :: vs, z => by
    rcases get_set z with ⟨_, z⟩ | ⟨_, z⟩
    · cases z
    · exact wipe_own vs z
section
variable {X : Cx} {elt tg iter tg1 iter1 : Expr} {ifs ifs1 : List Expr} {scope : Scope} {own : List (Str × Nat)} {vs1 : List Nat} {pos : Pos} {δ : List Sl} {js js1 : List Nat}
def iB (X : Cx) (scope : Scope) (tg iter : Expr) : TI := fun σ H R => ∀ X', BlkOf X scope X' → sI X' tg iter σ H R
def LcD2 (X : Cx) (scope : Scope) (tg tg1 iter1 elt : Expr) (ifs ifs1 : List Expr) (vs vs1 js js1 : List Nat) (δ : List Sl) (P : List PyData → Prop) (ds : List PyData) : Prop :=
  ∃ I : Nat → List PyData → Prop, I 0 [] ∧ (∀ i x acc, ds[i]? = some x → I i acc → ∀ X', BlkOf X scope X' → wG X' tg js x (wipeD δ vs) fun δ2 => (∀ X', BlkOf X scope X' → wTs X' ifs δ2 fun k =>
      (k = true → ∀ X', BlkOf X scope X' → wJ X' tg1 iter1 δ2 fun ds1 => ∃ I1 : Nat → List PyData → Prop, I1 0 acc ∧
        (∀ j x1 acc1, ds1[j]? = some x1 → I1 j acc1 → ∀ X', BlkOf X scope X' → wG X' tg1 js1 x1 (wipeD δ2 vs1) fun δ3 => (∀ X', BlkOf X scope X' → wTs X' ifs1 δ3 fun k1 =>
          (k1 = true → ∀ X', BlkOf X scope X' → wE X' true elt δ3 fun d => acc1.length < 100000 ∧ I1 (j + 1) (acc1 ++ [d])) ∧ (k1 = false → I1 (j + 1) acc1))) ∧ ∀ acc1, I1 ds1.length acc1 → I (i + 1) acc1) ∧
      (k = false → I (i + 1) acc))) ∧ ∀ acc, I ds.length acc → P acc
theorem lc2_run {P : List PyData → Prop} (hj : ∀ j ∈ js, j ∈ own.map (·.2)) (hj1 : ∀ j ∈ js1, j ∈ vs1) (hv : ∀ j ∈ vs1, j ∈ own.map (·.2)) (hno : ∀ v ∈ own.map (·.2), ∀ l ds, δ[v]? ≠ some (Sl.own l ds)) (h : wI X false tg iter δ fun ds => LcD2 X scope tg tg1 iter1 elt ifs ifs1 (own.map (·.2)) vs1 js js1 δ P ds) :
    ∀ M H0 σ H, Rp X.K M H0 δ σ H → ∀ Q : VK, (∀ l H' xs ds, P ds → H l = none → Kp M H H' → H' l = some (.lst xs) → DA X.K (hid (fun a => Wd M δ true a ∨ a = l) H') xs ds → Q (.ref l) H') →
      tLc2 (sI X tg iter) (gB X scope tg) (tB' X scope ifs) (iB X scope tg1 iter1) (gB X scope tg1) (tB' X scope ifs1) (eB X scope elt) (own.map (·.2)) vs1 σ H Q := by
  intro M H0 σ H R Q q
  refine h M H0 σ H R _ fun J H1 ds p k hJ => ?_
  obtain ⟨I, i0, istep, iend⟩ := p
  rw [if_neg Bool.false_ne_true] at hJ
  have R1 := R.kp k
  intro Dl nD
  have nb : M.b ≠ some Dl := fun z => by
    obtain ⟨b0, b1, b2, cells, e, _⟩ := (R1.bagOk Dl z).2.ex
    rw [nD] at e; cases e
  have nc : ∀ b, M.b = some b → M.c ≠ Dl := fun b e z => by
    obtain ⟨b0, b1, b2, cells, _, e, _⟩ := (R1.bagOk b e).2.ex
    rw [z, nD] at e; cases e
  have hH0 : H0 Dl = none := by
    cases e : H0 Dl with
    | none => rfl
    | some o =>
      have := R1.sb Dl o nb e
      rw [nD] at this; cases this
  have reHid : ∀ {δ' σ' H5 o}, Rp X.K (M.plus Dl) H0 δ' σ' H5 → Rp X.K (M.plus Dl) H0 δ' σ' (upd H5 Dl o) := fun R5 => by
    by_cases hb : ∃ b, M.b = some b
    · obtain ⟨b, hb⟩ := hb
      exact R5.hidUpd (.inr rfl) hH0 nb (nc b hb)
    · exact R5.hidUpd0 (.inr rfl) hH0 (fun b e => hb ⟨b, e⟩)
  refine ⟨fun i m H' => m = ds.length - i ∧ i ≤ ds.length ∧ ∃ acc accD, I i accD ∧ H' Dl = some (.lst acc) ∧ DA X.K (hid (Wd (M.plus Dl) δ true) H') acc accD ∧ Rp X.K (M.plus Dl) H0 δ σ H' ∧ Sb M.b H1 H',
    ⟨ds.length, rfl, Nat.zero_le _, [], [], i0, upd_same, .nil, R1.plus nD (Same.sb (same_upd nD)) (R1.bagOk.up (same_upd nD)) (by rw [upd_same]; exact fun z => by cases z), Same.sb (same_upd nD)⟩, ?_⟩
  rintro i m H' ⟨rfl, hi, acc, accD, hI, hDl, hacc, R', s1⟩
  have upW : Same (hid (Wd M δ true) H1) (hid (Wd (M.plus Dl) δ true) H') := ((hid_new nD).trans (hid_sb s1 fun x e => .inl (.inl (R1.bagOk.has x e)))).trans (hid_sub fun a z => by
    rcases z with (z | z) | z
    · exact .inl (.inl z)
    · exact .inr z
    · exact .inl (.inr z))
  obtain ⟨j1, j2, j3⟩ := hJ H' (Wd (M.plus Dl) δ true) s1 (fun x e => .inl (.inl (R1.bagOk.has x e))) R'.covW upW
  by_cases hlt : i < ds.length
  · refine .inr ⟨j1 i hlt, fun H2 => ∃ acc accD, I (i + 1) accD ∧ H2 Dl = some (.lst acc) ∧ DA X.K (hid (Wd (M.plus Dl) δ true) H2) acc accD ∧ Rp X.K (M.plus Dl) H0 δ σ H2 ∧ Sb M.b H1 H2, fun H2 ⟨acc2, accD2, z1, z3, z4, z5, z6⟩ => ⟨ds.length - (i + 1), by omega, rfl, hlt, acc2, accD2, z1, z3, z4, z5, z6⟩, fun x H2 hy => ?_⟩
    obtain ⟨d, g1, g2, g3⟩ := j3 i x H2 hlt hy
    have k2 : Kp (M.plus Dl) H' H2 := Kp.same R'.bagOk g2
    have R2 := R'.kp k2
    have Rw := R2.wipe (own.map (·.2))
    have upw : Same (hid (Wd (M.plus Dl) δ true) H2) (hid (Wd (M.plus Dl) (wipeD δ (own.map (·.2))) true) H2) := hid_sub fun a z => by
      rcases z with z | ⟨_, j, es, z⟩
      · exact .inl z
      · exact .inr ⟨rfl, j, es, wipe_own _ z⟩
    intro X' hX'
    obtain ⟨s', Hb, C, cl, fp, rfl⟩ := id hX'
    refine istep i d accD g1 hI _ hX' (M.plus Dl) H0 _ H2 x Rw (g3.up upw) _ fun us δ3 H3 p3 hus ho hk k3 R3 => ?_
    have e1 : L2.wipe (setAll (L2.wipe σ (own.map (·.2))) us) (own.map (·.2)) = L2.wipe σ (own.map (·.2)) := by
      rw [wipe_setAll _ us _ (by rw [hus]; exact hj), wipe_wipe _ _ _ fun _ z => z]
    refine ⟨e1, fun X2 hX2 => ?_⟩
    obtain ⟨s2', Hb2, C2, cl2, fp2, rfl⟩ := id hX2
    refine p3 _ hX2 (M.plus Dl) H0 _ H3 R3 _ fun kk H4 p4 k4 => ?_
    have kAll : Kp (M.plus Dl) H' H4 := (k2.trans k3).trans k4
    have s4 : Sb M.b H1 H4 := s1.trans kAll.sb
    have hD4 : H4 Dl = some (.lst acc) := kAll.sb Dl _ nb hDl
    have upA : Same (hid (Wd (M.plus Dl) δ true) H') (hid (Wd (M.plus Dl) δ true) H4) := upK kAll
    cases kk with
    | false => exact iteF ⟨acc, accD, p4.2 rfl, hD4, hacc.up upA, R'.kp kAll, s4⟩
    | true =>
      refine iteT fun X3 hX3 => ?_
      obtain ⟨s3', Hb3, C3, cl3, fp3, rfl⟩ := id hX3
      refine p4.1 rfl _ hX3 (M.plus Dl) H0 _ H4 (R3.kp k4) _ fun J1 H5 ds1 p5 k5 hJ1 => ?_
      obtain ⟨I1, l0, lstep, lend⟩ := p5
      have k5' : Kp (M.plus Dl) H' H5 := kAll.trans k5
      have R35 := (R3.kp k4).kp k5
      have hbA : ∀ x, M.b = some x → Wd (M.plus Dl) δ3 true x := fun x e => .inl (.inl (R1.bagOk.has x e))
      refine ⟨fun j n H' => n = ds1.length - j ∧ j ≤ ds1.length ∧ ∃ acc accD, I1 j accD ∧ H' Dl = some (.lst acc) ∧ DA X.K (hid (Wd (M.plus Dl) δ true) H') acc accD ∧ Rp X.K (M.plus Dl) H0 δ σ H' ∧ Sb M.b H1 H' ∧ Rp X.K (M.plus Dl) H0 δ3 (setAll (L2.wipe σ (own.map (·.2))) us) H' ∧ Sb M.b (hid (Wd (M.plus Dl) δ3 true) H5) H',
        ⟨ds1.length, rfl, Nat.zero_le _, acc, accD, l0, k5.sb Dl _ nb hD4, hacc.up (upK k5'), R'.kp k5', s4.trans k5.sb, R35, fun a o _ e => (hid_some e).2⟩, ?_⟩
      rintro j n H6 ⟨rfl, hj6, acc6, accD6, hI6, hD6, hacc6, R6, s6, T6, u6⟩
      have up6 : Same (hid (Wd (M.plus Dl) δ3 true) H5) (hid (Wd (M.plus Dl) δ3 true) H6) := fun a o e => by
        have n6 := (hid_some e).1
        rw [hid_at n6]
        exact u6 a o (fun z => n6 (hbA a z)) e
      obtain ⟨r1, r2, r3⟩ := hJ1 H6 (Wd (M.plus Dl) δ3 true) u6 hbA T6.covW up6
      by_cases hlt1 : j < ds1.length
      · refine .inr ⟨r1 j hlt1, fun H' => ∃ acc accD, I1 (j + 1) accD ∧ H' Dl = some (.lst acc) ∧ DA X.K (hid (Wd (M.plus Dl) δ true) H') acc accD ∧ Rp X.K (M.plus Dl) H0 δ σ H' ∧ Sb M.b H1 H' ∧ Rp X.K (M.plus Dl) H0 δ3 (setAll (L2.wipe σ (own.map (·.2))) us) H' ∧ Sb M.b (hid (Wd (M.plus Dl) δ3 true) H5) H', fun H2 ⟨a2, aD2, z1, z2, z3, z4, z5, z6, z7⟩ => ⟨ds1.length - (j + 1), by omega, rfl, hlt1, a2, aD2, z1, z2, z3, z4, z5, z6, z7⟩, fun x1 H7 hy1 => ?_⟩
        obtain ⟨d1, q1, q2, q3⟩ := r3 j x1 H7 hlt1 hy1
        have k7 : Kp (M.plus Dl) H6 H7 := Kp.same R6.bagOk q2
        have T7 := (T6.kp k7).wipe vs1
        have upw1 : Same (hid (Wd (M.plus Dl) δ3 true) H7) (hid (Wd (M.plus Dl) (wipeD δ3 vs1) true) H7) := hid_sub fun a z => by
          rcases z with z | ⟨_, j, es, z⟩
          · exact .inl z
          · exact .inr ⟨rfl, j, es, wipe_own _ z⟩
        intro X4 hX4
        obtain ⟨s4', Hb4, C4, cl4, fp4, rfl⟩ := id hX4
        refine lstep j d1 accD6 q1 hI6 _ hX4 (M.plus Dl) H0 _ H7 x1 T7 (q3.up upw1) _ fun us1 δ4 H8 p8 hus1 ho1 hk1 k8 R8 => ?_
        have e2 : L2.wipe (setAll (L2.wipe (setAll (L2.wipe σ (own.map (·.2))) us) vs1) us1) vs1 = L2.wipe (setAll (L2.wipe σ (own.map (·.2))) us) vs1 := by
          rw [wipe_setAll _ us1 _ (by rw [hus1]; exact hj1), wipe_wipe _ _ _ fun _ z => z]
        refine ⟨e2, fun X5 hX5 => ?_⟩
        obtain ⟨s5', Hb5, C5, cl5, fp5, rfl⟩ := id hX5
        refine p8 _ hX5 (M.plus Dl) H0 _ H8 R8 _ fun kk H9 p9 k9 => ?_
        have kAll9 : Kp (M.plus Dl) H6 H9 := (k7.trans k8).trans k9
        have hD9 : H9 Dl = some (.lst acc6) := kAll9.sb Dl _ nb hD6
        cases kk with
        | false => exact iteF ⟨acc6, accD6, p9.2 rfl, hD9, hacc6.up (upK kAll9), R6.kp kAll9, s6.trans kAll9.sb, T6.kp kAll9, fun a o n e => kAll9.sb a o n (u6 a o n e)⟩
        | true =>
          refine iteT fun X6 hX6 => ?_
          obtain ⟨s6', Hb6, C6, cl6, fp6, rfl⟩ := id hX6
          refine p9.1 rfl _ hX6 (M.plus Dl) H0 _ H9 (R8.kp k9) _ fun y HA dy pA kA dd => ?_
          have kB : Kp (M.plus Dl) H6 HA := kAll9.trans kA
          have hDA : HA Dl = some (.lst acc6) := kA.sb Dl _ nb hD9
          have upE : Same (hid (Wd (M.plus Dl) δ4 true) HA) (hid (Wd (M.plus Dl) δ true) HA) := hid_sub fun a z => by
            rcases z with z | ⟨_, j, es, z⟩
            · exact .inl z
            · have hjv : j ∉ own.map (·.2) := fun m => hno j m a es z
              have hjv1 : j ∉ vs1 := fun m => hjv (hv j m)
              refine .inr ⟨rfl, j, es, ?_⟩
              rw [hk1 j fun m => hjv1 (hj1 j m), own_wipe vs1 hjv1, hk j fun m => hjv (hj j m), own_wipe _ hjv]
              exact z
          have dd' := dd.up upE
          have hu : Same (hid (Wd (M.plus Dl) δ true) HA) (hid (Wd (M.plus Dl) δ true) (upd HA Dl (.lst (acc6 ++ [y])))) := hid_upd (.inl (.inr rfl))
          have hlenA : acc6.length < sizeLine := by
            rw [hacc6.len]; exact Nat.lt_of_lt_of_le pA.1 (by decide)
          refine ⟨acc6, hDA, hlenA, acc6 ++ [y], accD6 ++ [dy], pA.2, upd_same, ((hacc6.up (upK kB)).append (.cons dd' .nil)).up hu, reHid (R6.kp kB), ?_, reHid (T6.kp kB), ?_⟩
          · exact fun a o n e => by
              rw [upd_ne fun z => by rw [z, nD] at e; cases e]
              exact (s6.trans kB.sb) a o n e
          · exact fun a o n e => by
              rw [upd_ne fun z => (hid_some e).1 (.inl (.inr z))]
              exact kB.sb a o n (u6 a o n e)
      · have e : j = ds1.length := by omega
        subst e
        exact .inl ⟨r2, acc6, accD6, lend _ hI6, hD6, hacc6, R6, s6⟩
  · have e : i = ds.length := by omega
    subst e
    refine .inl ⟨j2, ?_⟩
    have k' : Kp M H1 H' := ⟨s1, R'.bagOk.unplus R1.bagOk⟩
    refine q Dl H' acc accD (iend _ hI) (k.back nD) (k.trans k') hDl (hacc.up (hid_sub fun a z => ?_))
    rcases z with (z | z) | z
    · exact .inl (.inl z)
    · exact .inr z
    · exact .inl (.inr z)
theorem wF_comp2 {P : List PyData → Prop} (hN : X.N.Nodup) (h : wI X false tg iter δ fun ds => LcD2 X scope tg tg1 iter1 elt ifs ifs1 (own.map (·.2)) vs1 js js1 δ P ds) (ok : BlkOk X.N X.env.scope scope own) (hj : ∀ j ∈ js, j ∈ own.map (·.2)) (hj1 : ∀ j ∈ js1, j ∈ vs1) (hv : ∀ j ∈ vs1, j ∈ own.map (·.2)) (hno : ∀ v ∈ own.map (·.2), ∀ l ds, δ[v]? ≠ some (Sl.own l ds))
    (hc : X.calm = true := by rfl) (hs : ∀ x, foldedSetIterable iter X.env x = pure x := by intro _; rfl) (hs1 : ∀ env x, foldedSetIterable iter1 env x = pure x := by intro _ _; rfl) : wF X (.ListComp elt [⟨tg, iter, ifs, 0⟩, ⟨tg1, iter1, ifs1, 0⟩] scope pos) δ P := fun M H0 σ H R Q q => by
  refine sE.of (pe_lc2 hc hN sI.pi ok hv (g := gB X scope tg) (tt := tB' X scope ifs) (wi1 := iB X scope tg1 iter1) (g1 := gB X scope tg1) (tt1 := tB' X scope ifs1) (te := eB X scope elt) ?_ ?_ ?_ ?_ ?_ ?_ hs hs1) (lc2_run hj hj1 hv hno h M H0 σ H R Q q)
  · exact fun s H C cl fp => ⟨fun pins s' σ' H' v u Q' I r z => z _ ⟨s, H, C, cl, fp, rfl⟩ pins s' u I r⟩
  · exact fun s H C cl fp => ⟨fun pins s' σ' H' Q' I z => z _ ⟨s, H, C, cl, fp, rfl⟩ pins s' I⟩
  · exact fun s H C cl fp => ⟨fun pins s' σ' H' Q' I z => z _ ⟨s, H, C, cl, fp, rfl⟩ pins s' I⟩
  · exact fun s H C cl fp => ⟨fun pins s' σ' H' v u Q' I r z => z _ ⟨s, H, C, cl, fp, rfl⟩ pins s' u I r⟩
  · exact fun s H C cl fp => ⟨fun pins s' σ' H' Q' I z => z _ ⟨s, H, C, cl, fp, rfl⟩ pins s' I⟩
  · exact fun s H C cl fp => ⟨fun pins s' σ' H' Q' I z => z _ ⟨s, H, C, cl, fp, rfl⟩ pins s' I⟩
end
end YV

namespace YV
open PySem PySem.Spec L2
open PyProof.Rows (subscriptTail envOfC)
def spL (K : PySem.W.Frag) (n : Nat) (F : List PyData → (List PyData → Prop) → Prop) : Sp := fun vs H Q _ =>
  ∃ (A : Addr → Prop) (ds : List PyData) (P : List PyData → Prop), (∀ a, A a → H a ≠ none) ∧ ds.length = n ∧ DA K (hid A H) vs ds ∧ F ds P ∧
    ∀ l H' xs es, P es → H l = none → Same H H' → H' l = some (.lst xs) → DA K (hid (fun a => A a ∨ a = l) H') xs es → Q (.ref l) H'
section
variable {Pg : Program} {w : World} {K : PySem.W.Frag} {mg : Str → Option Value} {base : Heap}
structure CalL (Pg : Program) (w : World) (K : PySem.W.Frag) (mg : Str → Option Value) (base : Heap) (x : Str) (k : Nat) (n : Nat) (F : List PyData → (List PyData → Prop) → Prop) : Prop where
  ex : ∃ (f : Addr) (fd : FuncData) (ps : List Str), FnG Pg w K mg base CX0 k f fd ps (spL K n F) ∧ mg x = some (.ref f) ∧ PySem.W.keepIn K (.ref f) = true ∧ Binds K fd ps []
theorem calL_of {x qual : Str} {st : Stmt} {f : Addr} {fd : FuncData} {ps : List Str} {k n : Nat} {F : List PyData → (List PyData → Prop) → Prop} (Fn : Fun K x qual st f fd) (hb : Binds K fd ps []) (hg : mg x = some (.ref f)) (h : FnG Pg w K mg base CX0 k f fd ps (spL K n F)) : CalL Pg w K mg base x k n F :=
  ⟨f, fd, ps, h, hg, Fn.kp, hb⟩
theorem fn_L {x qual : Str} {st : Stmt} {f : Addr} {fd : FuncData} {N ps : List Str} {k n m : Nat} {F : List PyData → (List PyData → Prop) → Prop} {e : Expr} {pos : Pos} (Fn : Fun K x qual st f fd) (S : FnScope N ps (defScope st)) (hps : ps.length = n) (hm : N.length = ps.length + m) (hst : defBody st = [.Return (some e) pos])
    (hbody : ∀ (cdv : Value) (A : Around) (outer : List Env) (s : Shared) (H : Hp) (E : XK), A.guards = some [] → Room k (A.deeper (envOfC qual (defScope st) s.heap.objs.size f cdv)) → ∀ (ds : List PyData) (P : List PyData → Prop), ds.length = n → F ds P →
      wF (cxOf CX0 Pg w K mg base N qual (defScope st) f cdv A outer s H E).nox e (enter false ds m) P) : FnG Pg w K mg base CX0 (k + 1) f fd ps (spL K n F) := by
  have hlen : ∀ vs H Q E, spL K n F vs H Q E → vs.length = ps.length := fun vs H Q E h => by
    obtain ⟨A, ds, P, _, hl, hd, _⟩ := h
    rw [hps, hd.len, hl]
  refine fn_G Fn S hlen fun cdv A outer s H vs Q E hg hr h => ?_
  have hvl := hlen _ _ _ _ h
  obtain ⟨B, ds, P, cov, hl, hd, hF, q⟩ := h
  refine ⟨_, sSs.ps.nox, ?_⟩
  have bk : BagOk ⟨B, none, 0⟩ H := fun b e => by cases e
  have R : Rp K ⟨B, none, 0⟩ H (enter false ds m) (L2.start N vs) H := by
    have e : N.length - vs.length = m := by rw [hvl]; omega
    unfold L2.start
    rw [e]
    exact enter_Rp (b := 0) (ws := vs) cov bk rfl rfl hd
  have noown : ∀ (i : Nat) l es, (enter false ds m)[i]? ≠ some (Sl.own l es) := fun i l es z => by
    have z' := List.mem_of_getElem? z
    unfold enter at z'
    rcases List.mem_append.mp z' with z' | z'
    · rcases List.mem_append.mp z' with z' | z'
      · cases z'
      · obtain ⟨d, _, e⟩ := List.mem_map.mp z'
        cases e
    · have := (List.mem_replicate.mp z').2
      cases this
  rw [hst]
  refine sSs.of (pss_one (ps_ret sE.pe)) ?_
  refine hbody cdv A outer s H E hg hr ds P hl hF _ H _ H R _ fun l H' xs es p nl k hl' hd' => ?_
  refine q l H' xs es p nl (fun a o e => k.sb a o (fun z => by cases z) e) hl' (hd'.up (hid_sub fun a z => ?_))
  rcases z with z | z
  · exact .inl (.inl z)
  · exact .inr z
end
section
variable {X : Cx} {w : Bool} {e : Expr} {es : List Expr} {δ : List Sl} {pos : Pos} {k j n : Nat} {x : Str}
theorem wF_callL {F : List PyData → (List PyData → Prop) → Prop} {P : List PyData → Prop} {p : Pos} (C : CalL X.prog X.w X.K X.mg X.base x k n F) (hgu : X.A.guards = some []) (hr : Room j X.A) (hk : k ≤ j) (h : wA X true (e :: es) δ fun ds => ds.length = n ∧ F ds P) (hg : Gl X x := by rfl)
    (hdb : (x == ("__debug__" : Str)) = false := by decide) (he : starEach (e :: es) X.env = (false, eval e X.env) :: starEach es X.env := by rfl) (hpl : (backTo pos (starEach es X.env)).any (·.1) = false := by rfl) : wF X (.Call (.Name x p) (e :: es) [] pos) δ P := fun M H0 σ H R Q q => by
  obtain ⟨f, fd, ps, G, hm, hkp, hb⟩ := C
  refine sE.of (pe_callG G hgu (hr.mono hk) hg hm hkp hb pass0 sA.pa hdb he hpl) ?_
  refine h M H0 σ H R _ fun vs H1 ds p k1 dd => ?_
  refine ⟨Wd M δ true, ds, P, (R.kp k1).covW, p.1, dd, p.2, fun l H' xs es pe nl s hl hd => ?_⟩
  exact q l H' xs es pe (k1.back nl) (k1.trans (Kp.same k1.bk s)) hl hd
end
end YV

namespace YV
open PySem PySem.Spec L2
open PyProof.Rows (subscriptTail envOfC IsTup)
theorem ints_da {K : PySem.W.Frag} {G : Hp} : ∀ {xs : List V} {ns : List Int}, DA K G xs (ns.map PyData.int) → xs = ns.map V.int
  | _, [], h => h.nil_v
  | _, n :: ns, h => by
    obtain ⟨v, ws, rfl, g1, g2⟩ := DA.cons_v (d := .int n) (ds := ns.map PyData.int) h
    rw [g1.int_v, ints_da g2]; rfl
theorem back_pick (xs : Array Value) : ((List.range xs.size).filterMap fun (m : Nat) => xs[(((xs.size : Int) - 1) + (m : Int) * (-1)).toNat]?).toArray = xs.toList.reverse.toArray := by
  have e : (fun (m : Nat) => xs[(((xs.size : Int) - 1) + (m : Int) * (-1)).toNat]?) = (fun j => xs[j]?) ∘ (fun m => xs.size - 1 - m) := by
    funext m
    show xs[(((xs.size : Int) - 1) + (m : Int) * (-1)).toNat]? = xs[xs.size - 1 - m]?
    have : (((xs.size : Int) - 1) + (m : Int) * (-1)).toNat = xs.size - 1 - m := by omega
    rw [this]
  rw [e, ← List.filterMap_map, PySem.W.krv_range, List.filterMap_reverse, PySem.W.krv_all]
section
variable {prog : Program} {w : World} {s : Shared} {A : Around} {E : Value → Shared → Prop}
theorem applied_back {sl : Addr} {vl vu vs : Value} {n : Nat} {Q : Int × Int × Nat → Shared → Prop} (hs : s.heap.IsSliceOf sl vl vu vs) (pl : IsPart vl none) (pu : IsPart vu none) (ps : IsPart vs (some (-1)))
    (h : Q ((n : Int) - 1, -1, n) s) : wpAny (model prog w) A (Builtin.Slice.sliceApplied (.ref sl) (pure (n : Int))) Q E s := by
  obtain ⟨ob, g1, g2, g3⟩ := id hs
  unfold Builtin.Slice.sliceApplied
  unfold Builtin.Slice.sliceFields
  refine wpAny_bind (wpAny_bind (wpAny_field g1 g3 (x := vl) rfl (wpAny_bind (wpAny_field g1 g3 (x := vu) rfl (wpAny_bind (wpAny_field g1 g3 (x := vs) rfl (wpAny_pure ?_)))))))
  refine wpAny_bind (HT.slicePart_ ps ?_)
  show wpAny _ _ (if ((-1 : Int) == 0) = true then _ else _) _ _ s
  rw [if_neg (by decide)]
  refine wpAny_bind (HT.slicePart_ pl (wpAny_bind (HT.slicePart_ pu (wpAny_bind (wpAny_pure ?_)))))
  show wpAny _ _ (pure (((n : Int) - 1), (-1 : Int), Builtin.Slice.slicePlaces ((n : Int) - 1) (-1) (-1))) _ _ s
  have e : Builtin.Slice.slicePlaces ((n : Int) - 1) (-1) (-1) = n := by
    delta Builtin.Slice.slicePlaces
    rw [if_neg (by decide)]
    by_cases c : (n : Int) - 1 > -1
    · rw [if_pos c, show (-(-1 : Int)) = 1 by decide, Int.ediv_one]; omega
    · rw [if_neg c]; omega
  rw [e]
  exact wpAny_pure h
theorem item_back {t sl : Addr} {its : Array Value} {vl vu vs : Value} {Q : Value → Shared → Prop} (ht : IsTup s.heap t its) (hs : s.heap.IsSliceOf sl vl vu vs) (pl : IsPart vl none) (pu : IsPart vu none) (ps : IsPart vs (some (-1)))
    (h : Q (.ref s.heap.objs.size) { s with heap := s.heap.push { cls := .type "tuple", data := .seq its.toList.reverse.toArray } }) (hsz : its.size ≤ sizeLine) : wpAny (model prog w) A (getItem (.ref t) (.ref sl)) Q E s := by
  have ok : sizeOk (.seq its.toList.reverse.toArray) := by
    show its.toList.reverse.toArray.size ≤ sizeLine
    rw [List.size_toArray, List.length_reverse, Array.length_toList]; exact hsz
  obtain ⟨ob, g1, g2, g3⟩ := id hs
  have hT : s.TypeIs (.ref sl) "slice" := ⟨ob, g1, g2⟩
  unfold getItem
  (try with_reducible refine wpAny_holding ?_); (first | refine wpAny_bind (wpAny_pure ?_) | skip)
  refine wpAny_bind (wpAny_sequenceKey (IsTup.typeIs ht) (by decide) ?_)
  refine wpAny_bind (wpAny_callSpecial?_slot (name := "__getitem__") (IsTup.typeIs ht) PyProof.Rows.slot_tuple_getitem (wpAny_call_entry PyProof.Rows.slot_tuple_getitem (IsTup.typeIs ht) PyProof.Rows.entry_tuple_getitem ?_ (PyProof.Rows.args_tuple_getitem _ _)))
  refine (show wpAny _ _ (Builtin.Tuple.tupleItemsOf (.ref t) >>= _) _ _ s from wpAny_bind (PyProof.Rows.tupleItemsOf_ ht (wpAny_bind (wpAny_typeOf hT ?_))))
  rw [if_pos (by decide)]
  refine wpAny_bind (applied_back hs pl pu ps ?_)
  have hno : ¬ ((((its.size : Int) - 1) == 0 && (-1 : Int) == 1 && its.size == its.size) = true) := by
    rw [show ((-1 : Int) == 1) = false by decide, Bool.and_false, Bool.false_and]
    exact Bool.false_ne_true
  show wpAny _ _ (if (((its.size : Int) - 1) == 0 && (-1 : Int) == 1 && its.size == its.size) = true then _ else _) _ _ s
  rw [if_neg hno, back_pick]
  first
    | exact wpAny_bind (m := Builtin.Tuple.tupleExact _) (wpAny_newObj_type (wpAny_pure ⟨_, rfl, wpAny_pure h⟩) ok)
    | exact wpAny_bind (m := Builtin.Tuple.tupleExact _) (wpAny_newObj_type (wpAny_bind (wpAny_pure (wpAny_pure ⟨_, rfl, wpAny_pure h⟩))) ok)
    | exact wpAny_bind (wpAny_bind (m := Builtin.Tuple.tupleExact _) (wpAny_newObj_type (wpAny_pure (wpAny_pure ⟨_, rfl, wpAny_pure h⟩)) ok))
    | exact wpAny_bind (wpAny_bind (m := Builtin.Tuple.tupleExact _) (wpAny_newObj_type (wpAny_pure ⟨_, rfl, wpAny_pure h⟩) ok))
end
def tBackT (K : PySem.W.Frag) (te : TE) : TE := fun σ H Q => te σ H fun x H1 => ∃ a xs, x = .ref a ∧ SqT K H1 a xs ∧ ∀ p, H1 p = none → Q (.ref p) (upd H1 p (.tup xs.reverse))
theorem pe_backT {X : Cx} {e : Expr} {te : TE} {k : Nat} {p1 p2 p3 pos : Pos} (he : PE X e te) : PE X (.Subscript e (.Slice none none (some (.UnaryOp .USub (.Constant (.int 1) k p1) p2)) p3) pos) (tBackT X.K te) := by
  refine ⟨fun pins z0 σ G0 Q J0 h => ?_⟩
  refine PyProof.Rows.Subscript_ (thn (he.run pins z0 σ G0 _ J0 h) fun v z1 ⟨x, G1, J1, r1, q1⟩ => ?_)
  obtain ⟨a, xs, rfl, hx, q⟩ := q1
  cases r1
  have stp : PO X (some (.UnaryOp .USub (.Constant (.int 1) k p1) p2)) (tPart (tUn (rU fun i => .int (-i)) (tC (.int 1)))) := po_some (pe_un un_neg pe_int)
  refine wpAny_Slice (thn (po_none.run pins z1 σ G1 (fun o H2 => o = none ∧ H2 = G1) J1 ⟨rfl, rfl⟩) fun vl z2 ⟨l, G2, J2, pl, el, e2⟩ => ?_)
  subst el e2
  refine thn (po_none.run pins z2 σ G2 (fun o H3 => o = none ∧ H3 = G2) J2 ⟨rfl, rfl⟩) fun vu z3 ⟨u, G3, J3, pu, eu, e3⟩ => ?_
  subst eu e3
  refine thn (stp.run pins z3 σ G3 (fun o H4 => o = some (-1) ∧ H4 = G3) J3 ⟨1, rfl, -1, rfl, rfl, rfl⟩) fun vs z4 ⟨o, G4, J4, ps, eo, e4⟩ => ?_
  subst eo e4
  have J5 : Inv X pins σ G4 { z4 with heap := z4.heap.push { cls := .type "slice", data := .fields #[vl, vu, vs] } } := J4.kept (t' := z4.toks) fun b ob q => Heap.get?_push_of_some _ q
  obtain ⟨its, r, ht, hz⟩ := J5.tuple hx
  have hlen := r.length
  show wpAny (model X.prog X.w) X.A (subscriptTail e (.Slice none none (some (.UnaryOp .USub (.Constant (.int 1) k p1) p2)) p3) (.ref a) (.ref z4.heap.objs.size)) (EP X pins σ Q) X.xe { z4 with heap := z4.heap.push { cls := .type "slice", data := .fields #[vl, vu, vs] } }
  refine PyProof.Rows.tail_any (ops := [.ref a, .ref z4.heap.objs.size]) ht.typeIs (PyProof.Rows.slot_tuple_getitem.lookup) ?_ (by with_unfolding_all rfl)
  refine item_back ht (Heap.IsSliceOf.new _ vl vu vs) pl pu ps ?_ (by rw [List.size_toArray]; omega)
  refine ⟨.ref _, _, J5.laid (t' := z4.toks) (o := .tup xs.reverse) (fun b ob q => Heap.get?_push_of_some _ q) (Nat.le_refl _) ?_, rfl, q _ (J5.hok.fresh (Nat.le_refl _))⟩
  exact ⟨by rw [List.length_reverse]; exact hz, its.reverse, r.reverse, IsTup.new _ _⟩
section
variable {X : Cx} {w : Bool} {e a b : Expr} {δ : List Sl} {P : PyData → Prop} {pos : Pos}
theorem wE_backT {k : Nat} {p1 p2 p3 : Pos} (h : wE X w e δ fun d => ∃ ds, d = .tuple ds ∧ P (.tuple ds.reverse)) : wE X w (.Subscript e (.Slice none none (some (.UnaryOp .USub (.Constant (.int 1) k p1) p2)) p3) pos) δ P := fun M H0 σ H R Q q => by
  refine sE.of (pe_backT sE.pe) ?_
  refine h M H0 σ H R _ fun v H1 d p k1 d1 => ?_
  obtain ⟨ds, rfl, p⟩ := p
  obtain ⟨b, xs, rfl, g1, g2⟩ := d1.tup_v
  refine ⟨b, xs, rfl, same_t hid_le g1, fun c nc => ?_⟩
  have s : Same H1 (upd H1 c (.tup xs.reverse)) := same_upd nc
  refine q _ _ _ p (k1.trans (Kp.same k1.bk s)) (.tup (SqT.of ?_) (g2.reverse.up (hid_same s)))
  rw [hid_at (nW_of ((R.kp k1).covW (w := w)) nc)]; exact upd_same
theorem cr_sumT (hc : X.calm = true) : CallR X (.builtin "sum") (fun vs H Q => ∃ (a : Addr) (ns : List Int), vs = [V.ref a] ∧ SqT X.K H a (ns.map V.int) ∧ Q (.int ns.sum) H) := by
  intro pins s σ H args us Q I r hh
  obtain ⟨a, ns, rfl, hsq, q⟩ := hh
  obtain ⟨its, rv, hl, hz⟩ := I.tuple hsq
  rw [Vals.ref1 r]
  have hi := intsAre_of rv
  obtain ⟨nts, hx⟩ := hi.allInts.items
  have hn : numsOf its.toArray.toList = ns := hi.numsOf
  have hl' : s.heap.IsTuple a its.toArray := hl
  rw [hx] at hl' hn
  rw [nums_intItems] at hn
  refine PySem.W.ktm_sumG (I.ok.hd hc) hl' fun h' tk t' hk => ?_
  refine ⟨.int ns.sum, H, I.kept hk, ?_, q⟩
  rw [preSum_eq, List.take_of_length_le (l := nts.toList.map _) (by simp), hn]
  exact ⟨_, rfl⟩
theorem caD_sum {ns : List Int} (hc : X.calm = true) (p : P (.int ns.sum)) : caD X (.builtin "sum") [.tuple (ns.map PyData.int)] P := fun W H vs Q cov dd q => by
  obtain ⟨v, ws, rfl, h1, h2⟩ := dd.cons_v
  obtain rfl := h2.nil_v
  obtain ⟨b, xs, rfl, k1, k2⟩ := h1.tup_v
  obtain rfl := ints_da k2
  exact cR.of (cr_sumT hc) ⟨b, ns, rfl, same_t hid_le k1, q _ H _ p (Same.refl _) (.int _)⟩
theorem opD_notInT {i : Int} {ns : List Int} (p : P (.bool (!ns.any fun n => decide (n = i)))) : opD X (compareOp .NotIn) (.int i) (.tuple (ns.map PyData.int)) P := fun W H v u Q cov d1 d2 q => by
  rw [d1.int_v]
  obtain ⟨b, xs, rfl, k1, k2⟩ := d2.tup_v
  obtain rfl := ints_da k2
  refine oR.of op_notIn_seq ⟨b, ns.map V.int, rfl, .inr (same_t hid_le k1), rfl, ?_, ?_⟩
  · rw [List.all_map]; exact List.all_eq_true.mpr fun _ _ => rfl
  · have e : inV (.int i) (ns.map V.int) = ns.any fun n => decide (n = i) := by
      unfold inV
      rw [List.any_map]
      rfl
    rw [if_pos rfl, e]
    exact q _ H _ p (Same.refl _) (.bl _)
end
theorem wI_zip {X : Cx} {s : Bool} {e e2 : Expr} {elts : List Expr} {kk : Nat} {tpos p pos : Pos} {δ : List Sl} {P : List PyData → Prop} (hm : X.mg "zip" = none) (h : wA X true [e, e2] δ fun ds => ∃ xs ys, ds = [.list xs, .list ys] ∧ P ((xs.zip ys).map fun z => .tuple [z.1, z.2])) (hg : Gl X "zip" := by rfl)
    (hs : starEach [e, e2] X.env = (false, eval e X.env) :: starEach [e2] X.env := by rfl) (hpl : (backTo pos (starEach [e2] X.env)).any (·.1) = false := by rfl) : wI X s (.Tuple elts kk tpos) (.Call (.Name "zip" p) [e, e2] [] pos) δ P := fun M H0 σ H R0 R q => by
  refine sI.of (RZ.pi_zipA hg hm sA.pa hs hpl) ?_
  refine h M H0 σ H R0 _ fun vs H1 ds pp k dd => ?_
  obtain ⟨xs, ys, rfl, pp⟩ := pp
  obtain ⟨v, ws, rfl, g1, g2⟩ := dd.cons_v
  obtain ⟨v2, ws2, rfl, g3, g4⟩ := g2.cons_v
  obtain rfl := g4.nil_v
  obtain ⟨a, us, rfl, a1, a2⟩ := g1.lst_v
  obtain ⟨b, ts, rfl, b1, b2⟩ := g3.lst_v
  obtain ⟨na, a1'⟩ := hid_some a1
  obtain ⟨nb, b1'⟩ := hid_some b1
  refine ⟨a, b, us, ts, rfl, .inl ⟨SqL.of a1', SqL.of b1', q _ H1 _ pp k fun H' W s1 s2 s3 s4 => ?_⟩⟩
  have key : ∀ c zs, ¬ Wd M δ true c → H1 c = some (.lst zs) → H' c = some (.lst zs) := fun c zs nc hc => by
    refine s1 c _ (fun z => nc (.inl (k.bk.has c z))) ?_
    cases s with
    | true => rw [if_pos rfl, hid_at (fun z => nc (.inr ⟨rfl, z⟩))]; exact hc
    | false => exact hc
  have hA := key a us na a1'
  have hB := key b ts nb b1'
  have hl : ((xs.zip ys).map fun z => PyData.tuple [z.1, z.2]).length = min us.length ts.length := by
    rw [List.length_map, List.length_zip, a2.len, b2.len]
  rw [hl]
  refine ⟨fun i hi => ?_, ⟨us, ts, SqL.of hA, SqL.of hB, by omega⟩, fun i x H2 hi hy => ?_⟩
  · have h1 : i < us.length := by omega
    have h2 : i < ts.length := by omega
    exact ⟨us, ts, us[i], ts[i], SqL.of hA, SqL.of hB, List.getElem?_eq_getElem h1, List.getElem?_eq_getElem h2⟩
  · obtain ⟨T, x1, x2, rfl, hT, rfl, f1, f2⟩ := hy
    obtain ⟨d1, e1, e2'⟩ := a2.getV (f1 us (SqL.of hA))
    obtain ⟨d2, e3, e4⟩ := b2.getV (f2 ts (SqL.of hB))
    have st : Same H' (upd H' T (.tup [x1, x2])) := same_upd hT
    refine ⟨.tuple [d1, d2], ?_, st, .tup (SqT.of ?_) (.cons (e2'.up (s4.trans (hid_same st))) (.cons (e4.up (s4.trans (hid_same st))) .nil))⟩
    · rw [List.getElem?_map, List.getElem?_zip_eq_some (z := (d1, d2)) |>.mpr ⟨e1, e3⟩]; rfl
    · rw [hid_at (fun z => s3 T z hT)]; exact upd_same
end YV

namespace YV
open PySem PySem.Spec L2
structure Pl (d : PyData) (n W : Nat) : Prop where
  lay : d.canLay0 = true
  dep : d.depth ≤ n
  wei : d.weight ≤ W
  sho : d.intsShort 13 = true
  abl : d.showable = true
  nod : d.hasDict = false
structure PlA (ds : List PyData) (n W : Nat) : Prop where
  lay : PyData.canLayAll0 ds = true
  dep : PyData.depthAll ds ≤ n
  wei : PyData.weightAll ds ≤ ds.length * (W + 1)
  sho : PyData.intsShortAll 13 ds = true
  abl : PyData.showableAll ds = true
  nod : PyData.hasDictAll ds = false
theorem PlA.nil (n W : Nat) : PlA [] n W := ⟨rfl, Nat.zero_le _, Nat.zero_le _, rfl, rfl, rfl⟩
theorem PlA.cons {d : PyData} {ds : List PyData} {n W : Nat} (h : Pl d n W) (g : PlA ds n W) : PlA (d :: ds) n W := by
  refine ⟨?_, ?_, ?_, ?_, ?_, ?_⟩
  · show (_ && _) = true; rw [h.lay, g.lay]; rfl
  · show max _ _ ≤ n; exact Nat.max_le.mpr ⟨h.dep, g.dep⟩
  · have h1 := h.wei
    have h2 := g.wei
    show d.weight + 1 + PyData.weightAll ds ≤ (ds.length + 1) * (W + 1)
    rw [Nat.add_mul]; omega
  · show (_ && _) = true; rw [h.sho, g.sho]; rfl
  · show (_ && _) = true; rw [h.abl, g.abl]; rfl
  · show (_ || _) = false; rw [h.nod, g.nod]; rfl
theorem PlA.of {ds : List PyData} {n W : Nat} (h : ∀ d ∈ ds, Pl d n W) : PlA ds n W := by
  induction ds with
  | nil => exact .nil n W
  | cons d ds ih => exact .cons (h d (List.mem_cons_self ..)) (ih fun x hx => h x (List.mem_cons_of_mem _ hx))
theorem Pl.list {ds : List PyData} {n W : Nat} (g : PlA ds n W) : Pl (.list ds) (n + 1) (ds.length * (W + 1)) := ⟨g.lay, Nat.succ_le_succ g.dep, g.wei, g.sho, g.abl, g.nod⟩
theorem Pl.tup {ds : List PyData} {n W : Nat} (g : PlA ds n W) : Pl (.tuple ds) (n + 1) (ds.length * (W + 1)) := ⟨g.lay, Nat.succ_le_succ g.dep, g.wei, g.sho, g.abl, g.nod⟩
theorem Pl.up {d : PyData} {n n' W W' : Nat} (h : Pl d n W) (hn : n ≤ n') (hW : W ≤ W') : Pl d n' W' := ⟨h.lay, Nat.le_trans h.dep hn, Nat.le_trans h.wei hW, h.sho, h.abl, h.nod⟩
theorem Pl.bool (b : Bool) (n W : Nat) : Pl (.bool b) n W := ⟨rfl, Nat.zero_le _, Nat.zero_le _, rfl, rfl, rfl⟩
def Md (i : Int) : Prop := 0 ≤ i ∧ i ≤ 100000000000
theorem Md.sm {i : Int} (h : Md i) : Sm i := ⟨h.1, by have := h.2; omega⟩
theorem Pl.int {i : Int} (h : Md i) (n : Nat) : Pl (.int i) n 40 := by
  have hn : i.natAbs < 2 ^ 37 := by have := h.1; have := h.2; omega
  have hl : i.natAbs.log2 < 37 := by
    by_cases z : i.natAbs = 0
    · rw [z]; decide
    · exact (Nat.log2_lt z).mpr hn
  refine ⟨rfl, Nat.zero_le _, ?_, ?_, ?_, rfl⟩
  · show (if i == 0 then 0 else i.natAbs.log2 + 1) ≤ 40
    split <;> omega
  · show decide _ = true
    exact decide_eq_true (PyData.shown_int_le (by have := h.1; have := h.2; omega))
  · show decide (i.natAbs.log2 < 1920) = true
    exact decide_eq_true (Nat.lt_trans hl (by decide))
theorem Pl.pr {p q : Int} (hp : Md p) (hq : Md q) : Pl (pr p q) 1 82 := Pl.tup (.cons (Pl.int hp 0) (.cons (Pl.int hq 0) (.nil 0 40)))
theorem Pl.nice {d : PyData} {n W : Nat} (h : Pl d n W) (hn : n ≤ 64) (hW : W ≤ 1048576) : Nice d := by
  have hd : d.depth ≤ 64 := Nat.le_trans h.dep hn
  have hw : d.weight ≤ 2 ^ 20 := Nat.le_trans h.wei (Nat.le_trans hW (by decide))
  refine ⟨?_, h.abl, h.nod, ?_⟩
  · unfold SeqAt.shaped
    rw [h.lay, decide_eq_true hd]; rfl
  · refine PyData.shown_fits_of_layable0 (B := 13) (by decide) (by decide) ?_ h.sho
    unfold PyData.layable0
    rw [h.lay, decide_eq_true hd, decide_eq_true hw]; rfl
theorem opD_neS {X : Cx} {P : PyData → Prop} {i j : Str} (p : P (.bool (!decide (i = j)))) : opD X (compareOp .NotEq) (.str i) (.str j) P := fun W H v u Q cov d1 d2 q => by
  rw [d1.str_v, d2.str_v]
  refine oR.of op_ne ⟨rfl, ?_⟩
  have e : decide (V.str i = V.str j) = decide (i = j) := decide_eq_decide.mpr ⟨fun z => V.str.inj z, fun z => by rw [z]⟩
  rw [e]
  exact q _ H _ p (Same.refl _) (.bl _)
end YV

namespace YV
open PySem PySem.Spec L2
def Dg (k : Nat) (i : Int) : Prop := i.natAbs < 10 ^ k
theorem op_mulBig {X : Cx} : OpR X (binaryOp .Mult) (fun x y H Q => ∃ i j : Int, x = .int i ∧ y = .int j ∧ IntMulOk i j ∧ Q (.int (i * j)) H) := by
  intro pins s σ H x y v u Q I rx ry hop
  obtain ⟨i, j, rfl, rfl, ok, q⟩ := hop
  obtain ⟨t, rfl⟩ := rx
  obtain ⟨t', rfl⟩ := ry
  exact PyProof.Rows.mul_int ⟨.int _, H, I.tok _, ⟨_, rfl⟩, q⟩ ok
theorem ten_two (k : Nat) : 10 ^ k ≤ 2 ^ (4 * k) := by
  rw [Nat.pow_mul]
  exact Nat.pow_le_pow_left (by decide) k
theorem Dg.bits {k : Nat} {i : Int} (h : Dg k i) : Builtin.Int.intBits i ≤ 4 * k := PySem.intBits_le_iff.mpr (Nat.lt_of_lt_of_le h (ten_two k))
theorem Dg.mulOk {k m : Nat} {i j : Int} (h : Dg k i) (g : Dg m j) (hs : 4 * k + 4 * m ≤ 134217728) : IntMulOk i j := IntMulOk.of_le h.bits g.bits hs
theorem opD_mulB {X : Cx} {P : PyData → Prop} {k m : Nat} {i j : Int} (h : Dg k i) (g : Dg m j) (hs : 4 * k + 4 * m ≤ 134217728) (p : P (.int (i * j))) : opD X (binaryOp .Mult) (.int i) (.int j) P := fun W H v u Q cov d1 d2 q => by
  rw [d1.int_v, d2.int_v]
  exact oR.of op_mulBig ⟨i, j, rfl, rfl, h.mulOk g hs, q _ H _ p (Same.refl _) (.int _)⟩
structure PlB (B : Nat) (d : PyData) (n W : Nat) : Prop where
  lay : d.canLay0 = true
  dep : d.depth ≤ n
  wei : d.weight ≤ W
  sho : d.intsShort B = true
  abl : d.showable = true
  nod : d.hasDict = false
structure PlBA (B : Nat) (ds : List PyData) (n W : Nat) : Prop where
  lay : PyData.canLayAll0 ds = true
  dep : PyData.depthAll ds ≤ n
  wei : PyData.weightAll ds ≤ ds.length * (W + 1)
  sho : PyData.intsShortAll B ds = true
  abl : PyData.showableAll ds = true
  nod : PyData.hasDictAll ds = false
section
variable {B : Nat}
theorem PlBA.nil (n W : Nat) : PlBA B [] n W := ⟨rfl, Nat.zero_le _, Nat.zero_le _, rfl, rfl, rfl⟩
theorem PlBA.cons {d : PyData} {ds : List PyData} {n W : Nat} (h : PlB B d n W) (g : PlBA B ds n W) : PlBA B (d :: ds) n W := by
  refine ⟨?_, ?_, ?_, ?_, ?_, ?_⟩
  · show (_ && _) = true; rw [h.lay, g.lay]; rfl
  · show max _ _ ≤ n; exact Nat.max_le.mpr ⟨h.dep, g.dep⟩
  · have h1 := h.wei
    have h2 := g.wei
    show d.weight + 1 + PyData.weightAll ds ≤ (ds.length + 1) * (W + 1)
    rw [Nat.add_mul]; omega
  · show (_ && _) = true; rw [h.sho, g.sho]; rfl
  · show (_ && _) = true; rw [h.abl, g.abl]; rfl
  · show (_ || _) = false; rw [h.nod, g.nod]; rfl
theorem PlBA.of {ds : List PyData} {n W : Nat} (h : ∀ d ∈ ds, PlB B d n W) : PlBA B ds n W := by
  induction ds with
  | nil => exact .nil n W
  | cons d ds ih => exact .cons (h d (List.mem_cons_self ..)) (ih fun x hx => h x (List.mem_cons_of_mem _ hx))
theorem PlB.list {ds : List PyData} {n W : Nat} (g : PlBA B ds n W) : PlB B (.list ds) (n + 1) (ds.length * (W + 1)) := ⟨g.lay, Nat.succ_le_succ g.dep, g.wei, g.sho, g.abl, g.nod⟩
theorem PlB.tup {ds : List PyData} {n W : Nat} (g : PlBA B ds n W) : PlB B (.tuple ds) (n + 1) (ds.length * (W + 1)) := ⟨g.lay, Nat.succ_le_succ g.dep, g.wei, g.sho, g.abl, g.nod⟩
theorem PlB.up {d : PyData} {n n' W W' : Nat} (h : PlB B d n W) (hn : n ≤ n') (hW : W ≤ W') : PlB B d n' W' := ⟨h.lay, Nat.le_trans h.dep hn, Nat.le_trans h.wei hW, h.sho, h.abl, h.nod⟩
theorem PlB.bool (b : Bool) (n W : Nat) : PlB B (.bool b) n W := ⟨rfl, Nat.zero_le _, Nat.zero_le _, rfl, rfl, rfl⟩
theorem PlB.none (n W : Nat) : PlB B .none n W := ⟨rfl, Nat.zero_le _, Nat.zero_le _, rfl, rfl, rfl⟩
theorem PlB.str {z : Str} (h : PyData.canLay0 (.str z) = true) (n : Nat) : PlB B (.str z) n z.length := ⟨h, Nat.zero_le _, Nat.le_refl _, rfl, rfl, rfl⟩
theorem PlB.int {k : Nat} {i : Int} (h : Dg k i) (hk : k + 1 ≤ B) (h4 : 4 * k ≤ 1900) (n : Nat) : PlB B (.int i) n (4 * k) := by
  have hb : i.natAbs < 2 ^ (4 * k) := Nat.lt_of_lt_of_le h (ten_two k)
  have hl : i.natAbs ≠ 0 → i.natAbs.log2 < 4 * k := fun z => (Nat.log2_lt z).mpr hb
  refine ⟨rfl, Nat.zero_le _, ?_, ?_, ?_, rfl⟩
  · show (if i == 0 then 0 else i.natAbs.log2 + 1) ≤ 4 * k
    split
    · exact Nat.zero_le _
    · have z : i.natAbs ≠ 0 := fun e => by simp_all
      exact hl z
  · show decide _ = true
    refine decide_eq_true ?_
    show (Str.ofString (toString i)).length ≤ B
    rw [ofString_length]
    by_cases k0 : k = 0
    · subst k0
      have : i = 0 := by unfold Dg at h; omega
      subst this
      have e : (toString (0 : Int)).length = 1 := by decide
      rw [e]; omega
    · exact Nat.le_trans (int_text_length_le10 (k := k) (by omega) h) hk
  · show decide (i.natAbs.log2 < 1920) = true
    refine decide_eq_true ?_
    by_cases z : i.natAbs = 0
    · rw [z]; decide
    · have := hl z; omega
theorem PlB.nice {d : PyData} {n W : Nat} (h : PlB B d n W) (hB : 8 ≤ B) (hn : n ≤ 64) (hW : (B + 2) * W + B ≤ 16777216) : Nice d := by
  have hd : d.depth ≤ 64 := Nat.le_trans h.dep hn
  refine ⟨?_, h.abl, h.nod, ?_⟩
  · unfold SeqAt.shaped
    rw [h.lay, decide_eq_true hd]; rfl
  · have h1 := PyData.shown_le B hB d (PyData.leavesShort_of_canLay0 B d h.lay h.sho)
    have h2 := Nat.mul_le_mul_left (B + 2) h.wei
    rw [sizeLine_eq]; omega
end
end YV

namespace YV
open PySem PySem.Spec L2
def tupI (ns : List Int) : PyData := .tuple (ns.map PyData.int)
def LexAhead : List Int → List Int → Prop
  | x :: xs, y :: ys => x < y ∨ (x = y ∧ LexAhead xs ys)
  | _, _ => False
theorem LexAhead.irr : ∀ {x : List Int}, ¬ LexAhead x x
  | [], h => h
  | a :: r, h => by
    rcases h with h | ⟨_, h⟩
    · omega
    · exact LexAhead.irr h
theorem LexAhead.asym : ∀ {x y : List Int}, LexAhead x y → LexAhead y x → False
  | [], _, h, _ => h
  | _ :: _, [], h, _ => h
  | a :: r, b :: t, h, g => by
    rcases h with h | ⟨e, h⟩ <;> rcases g with g | ⟨e', g⟩
    · omega
    · omega
    · omega
    · exact LexAhead.asym h g
theorem lex_uniq {xs ys : List (List Int)} (h : ∀ z, z ∈ xs ↔ z ∈ ys) (hx : xs.Pairwise LexAhead) (hy : ys.Pairwise LexAhead) : xs = ys := by
  have ne : ∀ a b : List Int, LexAhead a b → a ≠ b := fun a b h e => by subst e; exact h.irr
  have nx : xs.Nodup := hx.imp fun {a b} h => ne a b h
  have ny : ys.Nodup := hy.imp fun {a b} h => ne a b h
  exact List.Perm.eq_of_pairwise (le := LexAhead) (fun a b _ _ h1 h2 => (h1.asym h2).elim) hx hy ((List.perm_ext_iff_of_nodup nx ny).mpr h)
theorem code_bd {B : Int} (hB : 0 < B) : ∀ {ns : List Int}, TS.Bd B ns → 0 ≤ TS.code B ns ∧ TS.code B ns < B ^ ns.length
  | [], _ => ⟨by show (0 : Int) ≤ 0; omega, by show (0 : Int) < B ^ 0; rw [Int.pow_zero]; omega⟩
  | d :: r, h => by
    have hd := h d (List.mem_cons_self ..)
    have ⟨h1, h2⟩ := code_bd hB (ns := r) fun m hm => h m (List.mem_cons_of_mem _ hm)
    have hp : 0 < B ^ r.length := Int.pow_pos hB
    show 0 ≤ d * B ^ r.length + TS.code B r ∧ d * B ^ r.length + TS.code B r < B ^ (r.length + 1)
    have h3 : 0 ≤ d * B ^ r.length := Int.mul_nonneg hd.1 (by omega)
    have h4 : d * B ^ r.length ≤ (B - 1) * B ^ r.length := Int.mul_le_mul_of_nonneg_right (by omega) (by omega)
    have h5 : (B - 1) * B ^ r.length = B ^ (r.length + 1) - B ^ r.length := by
      rw [Int.sub_mul, Int.one_mul, Int.pow_succ, Int.mul_comm B]
    omega
theorem code_lex {B : Int} (hB : 0 < B) : ∀ {x y : List Int}, x.length = y.length → TS.Bd B x → TS.Bd B y → TS.code B x ≤ TS.code B y → x ≠ y → LexAhead x y
  | [], [], _, _, _, _, ne => absurd rfl ne
  | a :: r, b :: t, hl, hx, hy, h, ne => by
    have hl' : r.length = t.length := by simpa using hl
    have bx : TS.Bd B r := fun m hm => hx m (List.mem_cons_of_mem _ hm)
    have by_ : TS.Bd B t := fun m hm => hy m (List.mem_cons_of_mem _ hm)
    have ⟨x1, x2⟩ := code_bd hB bx
    have ⟨y1, y2⟩ := code_bd hB by_
    have h' : a * B ^ r.length + TS.code B r ≤ b * B ^ t.length + TS.code B t := h
    rw [← hl'] at h' y2
    have hp : 0 < B ^ r.length := Int.pow_pos hB
    rcases Int.lt_trichotomy a b with c | c | c
    · exact .inl c
    · subst c
      exact .inr ⟨rfl, code_lex hB hl' bx by_ (by omega) fun e => ne (by rw [e])⟩
    · have : (b + 1) * B ^ r.length ≤ a * B ^ r.length := Int.mul_le_mul_of_nonneg_right (by omega) (by omega)
      rw [Int.add_mul, Int.one_mul] at this
      omega
theorem da_tups {K : PySem.W.Frag} {G : Hp} : ∀ {vs : List V} {ls : List (List Int)}, DA K G vs (ls.map tupI) → ∃ ks : List (Addr × List Int), vs = ks.map (fun p => V.ref p.1) ∧ ks.map (·.2) = ls ∧ ∀ p ∈ ks, SqT K G p.1 (p.2.map V.int)
  | _, [], h => ⟨[], h.nil_v, rfl, fun _ h => by cases h⟩
  | _, x :: ls, h => by
    obtain ⟨v, ws, rfl, h1, h2⟩ := DA.cons_v (d := tupI x) (ds := ls.map tupI) h
    obtain ⟨a, xs, rfl, g1, g2⟩ := D.tup_v h1
    obtain rfl := ints_da g2
    obtain ⟨ks, rfl, rfl, hk⟩ := da_tups h2
    refine ⟨(a, x) :: ks, rfl, rfl, fun p hp => ?_⟩
    rcases (List.mem_cons (a := p)).mp hp with rfl | hp
    · exact g1
    · exact hk p hp
theorem tups_da {K : PySem.W.Frag} {G : Hp} : ∀ (L : List (Addr × List Int)), (∀ p ∈ L, SqT K G p.1 (p.2.map V.int)) → DA K G (L.map fun q => V.ref q.1) ((L.map (·.2)).map tupI)
  | [], _ => .nil
  | p :: L, h => .cons (.tup (h p (List.mem_cons_self ..)) (DA.ints p.2)) (tups_da L fun q hq => h q (List.mem_cons_of_mem _ hq))
section
variable {X : Cx} {w : Bool} {e : Expr} {δ : List Sl} {P : PyData → Prop} {pos : Pos}
theorem wE_sortedSetN {p1 p2 pos2 : Pos} (hm1 : X.mg "sorted" = none) (hm2 : X.mg "set" = none) (hu : X.A.units + 64 < cLine)
    (h : wE X w e δ fun d => ∃ (ls : List (List Int)) (B : Int) (n : Nat), d = .list (ls.map tupI) ∧ ls.length < 64 ∧ 0 < B ∧ 1 ≤ n ∧ (∀ z ∈ ls, z.length = n ∧ TS.Bd B z) ∧ ∀ out : List (List Int), (∀ z, z ∈ out ↔ z ∈ ls) → out.Pairwise LexAhead → out.length < 64 → P (.list (out.map tupI)))
    (hc : X.calm = true := by rfl) (hg1 : Gl X "sorted" := by rfl) (hg2 : Gl X "set" := by rfl) (hs : starEach [e] X.env = (false, eval e X.env) :: starEach [] X.env := by rfl) (hp : (backTo pos2 (starEach [] X.env)).any (·.1) = false := by rfl)
    (hs' : starEach [.Call (.Name "set" p2) [e] [] pos2] X.env = (false, eval (.Call (.Name "set" p2) [e] [] pos2) X.env) :: starEach [] X.env := by rfl) (hp' : (backTo pos (starEach [] X.env)).any (·.1) = false := by rfl) :
    wE X w (.Call (.Name "sorted" p1) [.Call (.Name "set" p2) [e] [] pos2] [] pos) δ P := fun M H0 σ H R Q q => by
  refine sE.of (pe_callB (cr_sortedT hc) hg1 hm1 PyProof.Rows.boot_sorted (pa_cons (pe_callTy (cr_setOfT hc hu) hg2 hm2 PyProof.Rows.boot_set (pa_cons sE.pe pa_nil hs) (by decide) (by decide) hs hp) pa_nil hs') (by decide) (by decide) hs' hp') ?_
  refine h M H0 σ H R _ fun v H1 d p k1 d1 => ?_
  obtain ⟨ls, B, n, rfl, hl, hB0, hn, hB, hP⟩ := p
  obtain ⟨a, vs, rfl, g1, g2⟩ := D.lst_v d1
  obtain ⟨ks, rfl, rfl, hk⟩ := da_tups g2
  have hk' : ∀ p ∈ ks, SqT X.K H1 p.1 (p.2.map V.int) := fun p hp => same_t hid_le (hk p hp)
  rw [List.length_map] at hl
  refine ⟨a, ks, rfl, SqL.of (hid_some g1).2, hk', hl, fun a2 L na hL1 hL2 => ?_⟩
  have s2 : Same H1 (upd H1 a2 (SetTO X.prog X.w a2 L)) := same_upd na
  have inB : ∀ p ∈ ks, p.2.length = n ∧ TS.Bd B p.2 := fun p hp => hB p.2 (List.mem_map.mpr ⟨p, hp, rfl⟩)
  refine ⟨a2, L, n, B, rfl, upd_same, fun p hp => same_t s2 (hk' p (hL1 p hp)), hn, fun p hp => inB p (hL1 p hp), fun L' b pm nd few pw nb => ?_⟩
  have hL' : ∀ p ∈ L', p ∈ ks := fun p hp => hL1 p (pm.mem_iff.mp hp)
  have s3 : Same H1 (upd (upd H1 a2 (SetTO X.prog X.w a2 L)) b (.lst (L'.map fun q => V.ref q.1))) := s2.trans (same_upd nb)
  have nW : ¬ Wd M δ w b := fun z => (R.kp (k1.trans (Kp.same k1.bk s2))).covW b z nb
  refine q _ _ (.list ((L'.map (·.2)).map tupI)) (hP (L'.map (·.2)) (fun z => ?_) ?_ ?_) (k1.trans (Kp.same k1.bk s3)) (.lst ?_ (tups_da L' fun p hp => same_t (hid_same s3) (hk p (hL' p hp))))
  · constructor
    · intro hz
      obtain ⟨p, hp, rfl⟩ := List.mem_map.mp hz
      exact List.mem_map.mpr ⟨p, hL' p hp, rfl⟩
    · intro hz
      obtain ⟨p, hp, rfl⟩ := List.mem_map.mp hz
      obtain ⟨p2, hp2, e2⟩ := List.mem_map.mp (hL2 p hp)
      exact List.mem_map.mpr ⟨p2, pm.mem_iff.mpr hp2, e2⟩
  · refine List.pairwise_map.mpr (List.Pairwise.imp_of_mem (fun {p r} hp hr hle => ?_) (pw.and (List.pairwise_map.mp nd)))
    have ⟨l1, b1⟩ := inB p (hL' p hp)
    have ⟨l2, b2⟩ := inB r (hL' r hr)
    exact code_lex hB0 (by rw [l1, l2]) b1 b2 hle.1 hle.2
  · rw [List.length_map]; exact few
  · rw [hid_at nW]; exact upd_same
end
end YV

namespace YV
open PySem PySem.Spec L2
theorem DA.rg {K : PySem.W.Frag} {G : Hp} (n : Nat) : DA K G (rgV 0 (n : Int)) (rangeD 0 n) := by
  have e1 : rgV 0 (n : Int) = ((List.range n).map fun (i : Nat) => (0 + (i : Int))).map V.int := by
    unfold rgV
    rw [show ((n : Int) - 0).toNat = n by omega, List.map_map]; rfl
  have e2 : rangeD 0 n = ((List.range n).map fun (i : Nat) => (0 + (i : Int))).map PyData.int := by
    unfold rangeD
    rw [List.map_map]; rfl
  rw [e1, e2]
  exact DA.ints _
theorem wE_listRange {X : Cx} {w : Bool} {a : Expr} {δ : List Sl} {P : PyData → Prop} {p1 p2 pos pos2 : Pos} (hm : X.mg "list" = none) (hm2 : X.mg "range" = none) (h : wE X w a δ fun d => ∃ n : Nat, d = .int n ∧ n ≤ 100000 ∧ P (.list (rangeD 0 n)))
    (hc : X.calm = true := by rfl) (hg : Gl X "list" := by rfl) (hg2 : Gl X "range" := by rfl) (na : starEach [a] X.env = (false, eval a X.env) :: starEach [] X.env := by rfl)
    (na2 : starEach [.Call (.Name "range" p2) [a] [] pos2] X.env = (false, eval (.Call (.Name "range" p2) [a] [] pos2) X.env) :: starEach [] X.env := by rfl) : wE X w (.Call (.Name "list" p1) [.Call (.Name "range" p2) [a] [] pos2] [] pos) δ P := fun M H0 σ H R Q q => by
  refine sE.of (pe_listRg hc hg hm (prg_1 hg2 hm2 sE.pe na) na2) ?_
  refine h M H0 σ H R _ fun v H1 d p k1 d1 => ?_
  obtain ⟨n, rfl, hn, hP⟩ := p
  rw [d1.int_v]
  refine ⟨n, rfl, RgOk.of_le (by omega) (by omega) (by omega) (by omega), fun c nc => ?_⟩
  have s : Same H1 (upd H1 c (.lst (rgV 0 (n : Int)))) := same_upd nc
  refine q _ _ _ hP (k1.trans (Kp.same k1.bk s)) (.lst ?_ (DA.rg n))
  rw [hid_at (nW_of ((R.kp k1).covW (w := w)) nc)]; exact upd_same
def FName (ds : List PyData) (P : PyData → Prop) : Prop := ds = [] ∧ ∀ z : Str, z ∈ (["a", "b", "top", "red", "side", "zz", "cushion", "abcdefghijkl"] : List Str) → P (.str z)
def IsPerm (n : Nat) (ps : List Int) : Prop := ps.Perm ((List.range n).map fun (i : Nat) => (i : Int))
def FPerm (ds : List PyData) (P : PyData → Prop) : Prop := ∃ (n : Nat) (t : Bool), ds = [.int n, .bool t] ∧ 2 ≤ n ∧ n ≤ 400 ∧ ∀ ps : List Int, IsPerm n ps → ps ≠ ((List.range n).map fun (i : Nat) => (i : Int)) → P (.tuple (ps.map PyData.int))
end YV

namespace YV
open PySem PySem.Spec L2
theorem wI_enum {X : Cx} {s : Bool} {e : Expr} {elts : List Expr} {kk : Nat} {tpos p pos : Pos} {δ : List Sl} {P : List PyData → Prop} (hm : X.mg "enumerate" = none) (h : wE X true e δ fun d => ∃ xs, d = .list xs ∧ P ((xs.zipIdx).map fun z => .tuple [.int (z.2 : Int), z.1])) (hg : Gl X "enumerate" := by rfl)
    (hs : starEach [e] X.env = [(false, eval e X.env)] := by rfl) (hs0 : starEach [e] X.env = (false, eval e X.env) :: starEach [] X.env := by rfl) : wI X s (.Tuple elts kk tpos) (.Call (.Name "enumerate" p) [e] [] pos) δ P := fun M H0 σ H R0 R q => by
  refine sI.of (pi_enum hg hm (pa_cons sE.pe pa_nil hs0) hs) ?_
  refine h M H0 σ H R0 _ fun v H1 d k0 k dd => ?_
  obtain ⟨xs, rfl, pp⟩ := k0
  obtain ⟨a, us, rfl, a1, a2⟩ := dd.lst_v
  obtain ⟨na, a1'⟩ := hid_some a1
  refine ⟨a, us, rfl, SqL.of a1', q _ H1 _ pp k fun H' W s1 s2 s3 s4 => ?_⟩
  have hA : H' a = some (.lst us) := by
    refine s1 a _ (fun z => na (.inl (k.bk.has a z))) ?_
    cases s with
    | true => rw [if_pos rfl, hid_at (fun z => na (.inr ⟨rfl, z⟩))]; exact a1'
    | false => exact a1'
  have hl : ((xs.zipIdx).map fun z => PyData.tuple [.int (z.2 : Int), z.1]).length = us.length := by
    rw [List.length_map, List.length_zipIdx, a2.len]
  rw [hl]
  refine ⟨fun i hi => ⟨us, us[i], SqL.of hA, List.getElem?_eq_getElem hi⟩, ⟨us, SqL.of hA, Nat.le_refl _⟩, fun i x H2 hi hy => ?_⟩
  obtain ⟨T, x1, rfl, hT, rfl, f1⟩ := hy
  obtain ⟨d1, e1, e2⟩ := a2.getV (f1 us (SqL.of hA))
  have st : Same H' (upd H' T (.tup [.int (i : Nat), x1])) := same_upd hT
  refine ⟨.tuple [.int (i : Int), d1], ?_, st, .tup (SqT.of ?_) (.cons (.int _) (.cons (e2.up (s4.trans (hid_same st))) .nil))⟩
  · rw [List.getElem?_map, List.getElem?_zipIdx, e1]
    show some (PyData.tuple [.int ((0 + i : Nat) : Int), d1]) = _
    rw [Nat.zero_add]
  · rw [hid_at (fun z => s3 T z hT)]; exact upd_same
theorem own_new {K : PySem.W.Frag} {M : Amb} {H H1 : Hp} {δ : List Sl} {a : Addr} {xs : List V} {ds : List PyData} (k : Kp M H H1) (na : H1 a = none) (dd : DA K (hid (Wd M δ true) H1) xs ds) {Q : VK}
    (q : ∀ l H' xs ds', ds' = ds → H l = none → Kp M H H' → H' l = some (.lst xs) → DA K (hid (fun a => Wd M δ true a ∨ a = l) H') xs ds' → Q (.ref l) H') : Q (.ref a) (upd H1 a (.lst xs)) := by
  have s : Same H1 (upd H1 a (.lst xs)) := same_upd na
  exact q a _ xs ds rfl (k.back na) (k.trans (Kp.same k.bk s)) upd_same (dd.up ((hid_new na).trans (hid_same s)))
theorem wF_listOf {X : Cx} {e : Expr} {δ : List Sl} {P : List PyData → Prop} {p pos : Pos} (hm : X.mg "list" = none) (h : wE X true e δ fun d => ∃ ds, (d = .list ds ∨ d = .tuple ds) ∧ P ds) (hg : Gl X "list" := by rfl)
    (he : starEach [e] X.env = (false, eval e X.env) :: starEach [] X.env := by rfl) (hpl : (backTo pos (starEach [] X.env)).any (·.1) = false := by rfl) : wF X (.Call (.Name "list" p) [e] [] pos) δ P := fun M H0 σ H R Q q => by
  refine sE.of (pe_callTy call_list_of hg hm PyProof.Rows.boot_list (pa_cons sE.pe pa_nil he) (by decide) (by decide) he hpl) ?_
  refine h M H0 σ H R _ fun v H1 d k0 k1 d1 => ?_
  obtain ⟨ds, hd, hP⟩ := k0
  have go : ∃ a xs, v = .ref a ∧ (SqL X.K H1 a xs ∨ SqT X.K H1 a xs) ∧ DA X.K (hid (Wd M δ true) H1) xs ds := by
    rcases hd with rfl | rfl
    · obtain ⟨a, xs, rfl, g1, g2⟩ := d1.lst_v
      exact ⟨a, xs, rfl, .inl (SqL.of (hid_some g1).2), g2⟩
    · obtain ⟨a, xs, rfl, g1, g2⟩ := d1.tup_v
      exact ⟨a, xs, rfl, .inr (same_t hid_le g1), g2⟩
  obtain ⟨a, xs, rfl, g, g2⟩ := go
  refine ⟨a, xs, rfl, g, fun c nc => ?_⟩
  exact own_new k1 nc g2 fun l H' ys es ee nl k hl hd => q l H' ys es (by rw [ee]; exact hP) nl k hl hd
theorem wF_rep {X : Cx} {a b : Expr} {δ : List Sl} {P : List PyData → Prop} {pos : Pos} (h : wE X true a δ fun x => ∃ ds, x = .list ds ∧ wE X true b δ fun y => ∃ n : Nat, y = .int n ∧ n ≤ 100000 ∧ ds.length * n ≤ 100000 ∧ P (List.replicate n ds).flatten) : wF X (.BinOp a .Mult b pos) δ P := fun M H0 σ H R Q q => by
  refine sE.of (pe_op op_rep sE.pe sE.pe) ?_
  refine h M H0 σ H R _ fun v H1 x hx k1 d1 => ?_
  obtain ⟨ds, rfl, hx⟩ := hx
  refine hx M H0 σ H1 (R.kp k1) _ fun u H2 y hy k2 d2 => ?_
  obtain ⟨n, rfl, hn, hz, hP⟩ := hy
  rw [d2.int_v]
  obtain ⟨l, xs, rfl, g1, g2⟩ := (d1.up (upK k2)).lst_v
  refine ⟨l, n, xs, rfl, rfl, (hid_some g1).2, by omega, by omega, ?_, fun c nc => ?_⟩
  · rw [g2.len, Int.toNat_natCast]; exact line_of hz
  · have rep : ∀ m : Nat, DA X.K (hid (Wd M δ true) H2) (List.replicate m xs).flatten (List.replicate m ds).flatten := fun m => by
      induction m with
      | zero => exact .nil
      | succ m ih =>
        rw [List.replicate_succ, List.flatten_cons, List.replicate_succ, List.flatten_cons]
        exact g2.append ih
    rw [Int.toNat_natCast]
    exact own_new (k1.trans k2) nc (rep n) fun l H' ys es ee nl k hl hd => q l H' ys es (by rw [ee]; exact hP) nl k hl hd
theorem wS_store {X : Cx} {e b : Expr} {δ : List Sl} {E : EndsD} {pos p1 p2 : Pos} {i : Nat} {x : Str} {l : Addr} {ds : List PyData} (hd : δ[i]? = some (.own l ds)) (h : wE X true e δ fun d => wE X true b δ fun y => ∃ j : Int, ∃ n : Nat, y = .int j ∧ ixN ds.length j = some n ∧ E.nx (δ.set i (.own l (ds.set n d)))) (hN : X.N[i]? = some x := by rfl) (hv : Vis X.env.scope x := by first | exact Or.inl rfl | exact Or.inr (Or.inl rfl) | exact Or.inr (Or.inr rfl))
    (h1 : (x == ("__debug__" : Str)) = false := by decide) (h2 : (x == ("__classdict__" : Str)) = false := by decide)
    (ha : ∀ v, assign (.Subscript (.Name x p1) b p2) X.env v = (do let ov ← holding [v] (eval (.Name x p1) X.env); let iv ← holding [v, ov] (eval b X.env); standAt p2; holding [v, ov, iv] (setItem ov iv v); release [v, ov, iv] []) := by intro _; rfl)
    (hs : swapsWithSole [.Subscript (.Name x p1) b p2] e pos.line X.env = pure false := by rfl) (hw : swappedStores [.Subscript (.Name x p1) b p2] e X.env = pure none := by rfl)
    (ht : (assignEach [.Subscript (.Name x p1) b p2] X.env).map (·.2) = [assign (.Subscript (.Name x p1) b p2) X.env] := by rfl) : wS X (.Assign [.Subscript (.Name x p1) b p2] e pos) E δ := fun M H0 σ H R => by
  obtain ⟨xs, e1, e2, e3, e4, e5⟩ := R.own i l ds hd
  refine sS.of (ps_asg sE.pe (pg_sub (pe_var hN hv h1 h2) sE.pe set_list ha) hs hw ht) ?_
  refine h M H0 σ H R _ fun v H1 d p k dd => ?_
  refine ⟨.ref l, e1, ?_⟩
  refine p M H0 σ H1 (R.kp k) _ fun u H2 y p2 k2 d2 => ?_
  obtain ⟨j, n, rfl, hj, hnx⟩ := p2
  rw [d2.int_v]
  have R2 := (R.kp k).kp k2
  obtain ⟨xs', f1, f2, f3, f4, f5⟩ := R2.own i l ds hd
  refine ⟨l, xs', j, n, rfl, rfl, f2, by rw [f3.len]; exact hj, ?_⟩
  exact ⟨_, hnx, R2.change hd (f3.set (dd.up (upK k2)) n)⟩
end YV

namespace YV
open PySem PySem.Spec L2
open PyProof.Rows (subscriptTail envOfC)
def spO (K : PySem.W.Frag) (nb : Bool) (n : Nat) (F : List PyData → (List PyData → Prop) → Prop) : Sp := fun vs H Q _ =>
  ∃ (M : Amb) (ds : List PyData) (ws : List V) (P : List PyData → Prop), (∀ a, M.A a → H a ≠ none) ∧ BagOk M H ∧ (∃ b, M.b = (if nb = true then some b else none) ∧ vs = (if nb = true then .ref b :: ws else ws)) ∧ ds.length = n ∧ DA K (hid M.A H) ws ds ∧ F ds P ∧
    ∀ l H' xs es, P es → H l = none → Kp M H H' → H' l = some (.lst xs) → DA K (hid (fun a => M.A a ∨ a = l) H') xs es → Q (.ref l) H'
section
variable {Pg : Program} {w : World} {K : PySem.W.Frag} {mg : Str → Option Value} {base : Heap}
structure CalO (Pg : Program) (w : World) (K : PySem.W.Frag) (mg : Str → Option Value) (base : Heap) (x : Str) (k : Nat) (nb : Bool) (n : Nat) (F : List PyData → (List PyData → Prop) → Prop) : Prop where
  ex : ∃ (f : Addr) (fd : FuncData) (ps : List Str), FnG Pg w K mg base CX0 k f fd ps (spO K nb n F) ∧ mg x = some (.ref f) ∧ PySem.W.keepIn K (.ref f) = true ∧ Binds K fd ps []
theorem calO_of {x qual : Str} {st : Stmt} {f : Addr} {fd : FuncData} {ps : List Str} {k n : Nat} {nb : Bool} {F : List PyData → (List PyData → Prop) → Prop} (Fn : Fun K x qual st f fd) (hb : Binds K fd ps []) (hg : mg x = some (.ref f)) (h : FnG Pg w K mg base CX0 k f fd ps (spO K nb n F)) : CalO Pg w K mg base x k nb n F :=
  ⟨f, fd, ps, h, hg, Fn.kp, hb⟩
theorem fn_O {x qual : Str} {st : Stmt} {f : Addr} {fd : FuncData} {N ps : List Str} {k n m : Nat} {nb : Bool} {F : List PyData → (List PyData → Prop) → Prop} (Fn : Fun K x qual st f fd) (S : FnScope N ps (defScope st)) (hps : ps.length = n + (if nb = true then 1 else 0)) (hm : N.length = ps.length + m)
    (hbody : ∀ (cdv : Value) (A : Around) (outer : List Env) (s : Shared) (H : Hp) (E : XK), A.guards = some [] → Room k (A.deeper (envOfC qual (defScope st) s.heap.objs.size f cdv)) → ∀ (ds : List PyData) (P : List PyData → Prop), ds.length = n → F ds P →
      wSs (cxOf CX0 Pg w K mg base N qual (defScope st) f cdv A outer s H E).nox (defBody st) { nx := fun _ => False, rt := fun _ => False, ro := P } (enter nb ds m)) : FnG Pg w K mg base CX0 (k + 1) f fd ps (spO K nb n F) := by
  have hlen : ∀ vs H Q E, spO K nb n F vs H Q E → vs.length = ps.length := fun vs H Q E h => by
    obtain ⟨M, ds, ws, P, _, _, ⟨b, _, hv⟩, hl, hd, _⟩ := h
    rw [hps, hv]
    cases nb with
    | true => rw [if_pos rfl, if_pos rfl, List.length_cons, hd.len, hl]
    | false => rw [if_neg Bool.false_ne_true, if_neg Bool.false_ne_true, hd.len, hl]; rfl
  refine fn_G Fn S hlen fun cdv A outer s H vs Q E hg hr h => ?_
  have hvl := hlen _ _ _ _ h
  obtain ⟨M, ds, ws, P, cov, bk, ⟨b, hb, hv⟩, hl, hd, hF, q⟩ := h
  refine ⟨_, sSs.ps.nox, ?_⟩
  have R : Rp K M H (enter nb ds m) (L2.start N vs) H := by
    have e : N.length - vs.length = m := by rw [hvl]; omega
    unfold L2.start
    rw [e]
    exact enter_Rp cov bk hb hv hd
  refine (hbody cdv A outer s H E hg hr ds P hl hF M H _ H R).le ⟨fun σ' H' z => ?_, fun v H' z => ?_, fun _ _ z => ?_, fun _ _ z => ?_⟩
  · obtain ⟨_, p, _⟩ := z
    exact p.elim
  · rcases z with ⟨_, p, _⟩ | ⟨l, es, xs, rfl, p, s1, b1, n1, h1, d1⟩
    · exact p.elim
    · exact q l H' xs es p n1 ⟨s1, b1⟩ h1 d1
  · obtain ⟨_, p, _⟩ := z
    exact p
  · obtain ⟨_, p, _⟩ := z
    exact p
end
section
variable {X : Cx} {e : Expr} {es : List Expr} {δ : List Sl} {P : List PyData → Prop} {pos : Pos} {k j n : Nat} {x y : Str} {F : List PyData → (List PyData → Prop) → Prop}
theorem wF_callB {i : Nat} {p py : Pos} (C : CalO X.prog X.w X.K X.mg X.base x k true n F) (hgu : X.A.guards = some []) (hr : Room j X.A) (hk : k ≤ j) (hi : δ[i]? = some .bag) (h : wA X true es δ fun ds => ds.length = n ∧ F ds P) (hN : X.N[i]? = some y := by rfl) (hv : Vis X.env.scope y := by first | exact Or.inl rfl | exact Or.inr (Or.inl rfl) | exact Or.inr (Or.inr rfl))
    (hg : Gl X x := by rfl) (h1 : (y == ("__debug__" : Str)) = false := by decide) (h2 : (y == ("__classdict__" : Str)) = false := by decide)
    (hdb : (x == ("__debug__" : Str)) = false := by decide) (he : starEach (.Name y py :: es) X.env = (false, eval (.Name y py) X.env) :: starEach es X.env := by rfl) (hpl : (backTo pos (starEach es X.env)).any (·.1) = false := by rfl) : wF X (.Call (.Name x p) (.Name y py :: es) [] pos) δ P := fun M H0 σ H R Q q => by
  obtain ⟨f, fd, ps, G, hm, hkp, hb⟩ := C
  obtain ⟨b, hMb, hs⟩ := R.bag i hi
  refine sE.of (pe_callG G hgu (hr.mono hk) hg hm hkp hb pass0 (pa_cons (pe_var hN hv h1 h2) sA.pa he) hdb he hpl) ?_
  refine ⟨.ref b, hs, ?_⟩
  refine h M H0 σ H R _ fun vs H1 ds p k1 dd => ?_
  refine ⟨⟨Wd M δ true, M.b, M.c⟩, ds, vs, P, (R.kp k1).covW, fun b' e => ⟨.inl (k1.bk b' e).1, (k1.bk b' e).2.more fun _ z => .inl z⟩, ⟨b, by rw [if_pos rfl]; exact hMb, by rw [if_pos rfl]⟩, p.1, dd, p.2, fun l H' xs es' pe nl k2 hl hd => ?_⟩
  have k2' : Kp M H1 H' := ⟨k2.sb, k2.bk.sub rfl rfl k1.bk⟩
  exact q l H' xs es' pe (k1.back nl) (k1.trans k2') hl hd
end
end YV

namespace YV
open PySem PySem.Spec L2
theorem wS_storePop {X : Cx} {b : Expr} {δ : List Sl} {E : EndsD} {pos p1 p2 p3 apos cpos : Pos} {i j : Nat} {x y : Str} {l l2 : Addr} {ds fs : List PyData} {d : PyData} (hi : δ[i]? = some (.own l ds)) (hj : δ[j]? = some (.own l2 fs)) (hij : i ≠ j) (hl : fs[fs.length - 1]? = some d)
    (h : wE X true b (δ.set j (.own l2 fs.dropLast)) fun z => ∃ m : Int, ∃ n : Nat, z = .int m ∧ ixN ds.length m = some n ∧ E.nx ((δ.set j (.own l2 fs.dropLast)).set i (.own l (ds.set n d))))
    (hN : X.N[i]? = some x := by rfl) (hN2 : X.N[j]? = some y := by rfl) (hv : Vis X.env.scope x := by first | exact Or.inl rfl | exact Or.inr (Or.inl rfl) | exact Or.inr (Or.inr rfl)) (hv2 : Vis X.env.scope y := by first | exact Or.inl rfl | exact Or.inr (Or.inl rfl) | exact Or.inr (Or.inr rfl))
    (h1 : (x == ("__debug__" : Str)) = false := by decide) (h2 : (x == ("__classdict__" : Str)) = false := by decide) (h3 : (y == ("__debug__" : Str)) = false := by decide) (h4 : (y == ("__classdict__" : Str)) = false := by decide)
    (hbase : attributeBase (.Name y p3) "pop" X.env (eval (.Name y p3) X.env) = eval (.Name y p3) X.env := by rfl) (hline : (apos.endLine == cpos.line) = true := by rfl)
    (ha : ∀ v, assign (.Subscript (.Name x p1) b p2) X.env v = (do let ov ← holding [v] (eval (.Name x p1) X.env); let iv ← holding [v, ov] (eval b X.env); standAt p2; holding [v, ov, iv] (setItem ov iv v); release [v, ov, iv] []) := by intro _; rfl)
    (hs : swapsWithSole [.Subscript (.Name x p1) b p2] (.Call (.Attribute (.Name y p3) "pop" apos) [] [] cpos) pos.line X.env = pure false := by rfl) (hw : swappedStores [.Subscript (.Name x p1) b p2] (.Call (.Attribute (.Name y p3) "pop" apos) [] [] cpos) X.env = pure none := by rfl)
    (ht : (assignEach [.Subscript (.Name x p1) b p2] X.env).map (·.2) = [assign (.Subscript (.Name x p1) b p2) X.env] := by rfl) : wS X (.Assign [.Subscript (.Name x p1) b p2] (.Call (.Attribute (.Name y p3) "pop" apos) [] [] cpos) pos) E δ := fun M H0 σ H R => by
  obtain ⟨xs, e1, e2, e3, e4, e5⟩ := R.own i l ds hi
  obtain ⟨ys, g1, g2, g3, g4, g5⟩ := R.own j l2 fs hj
  refine sS.of (ps_asg (pe_bm0 PySem.F.plainAttrs_list PySem.F.slot_list_pop PySem.F.type_list_pop mt_pop (pe_var hN2 hv2 h3 h4) hbase hline) (pg_sub (pe_var hN hv h1 h2) sE.pe set_list ha) hs hw ht) ?_
  obtain ⟨v, v1, v2⟩ := g3.get hl
  refine ⟨.ref l2, g1, .inl ⟨rfl, _, SqL.of g2⟩, l2, ys, v, rfl, rfl, g2, by rw [g3.len]; exact v1, ?_⟩
  have R1 := R.change hj g3.dropLast
  have own2 : Wd M δ true l2 := .inr ⟨rfl, j, fs, hj⟩
  have sub : ∀ a, Wd M (δ.set j (.own l2 fs.dropLast)) true a → Wd M δ true a := Wd.sub fun m l' es z => by
    rcases get_set z with ⟨_, z⟩ | ⟨_, z⟩
    · cases z; exact ⟨j, fs, hj⟩
    · exact ⟨m, es, z⟩
  have dv : D X.K (hid (Wd M (δ.set j (.own l2 fs.dropLast)) true) (upd H l2 (.lst ys.dropLast))) v d := (v2.up (hid_upd own2)).up (hid_sub sub)
  refine ⟨.ref l, e1, ?_⟩
  refine h M H0 σ _ R1 _ fun u H2 z p2 k2 d2 => ?_
  obtain ⟨m, n, rfl, hm, hnx⟩ := p2
  rw [d2.int_v]
  have R2 := R1.kp k2
  have hi' : (δ.set j (.own l2 fs.dropLast))[i]? = some (.own l ds) := by rw [List.getElem?_set_ne (Ne.symm hij)]; exact hi
  obtain ⟨xs', f1, f2, f3, f4, f5⟩ := R2.own i l ds hi'
  refine ⟨l, xs', m, n, rfl, rfl, f2, by rw [f3.len]; exact hm, ?_⟩
  exact ⟨_, hnx, R2.change hi' (f3.set (dv.up (upK k2)) n)⟩
end YV

namespace YV
open PySem PySem.Spec L2
open PySem.W (EachIs AllAlike Sortable dataLe)
theorem each_of {X : Cx} {pins : List (Addr × Obj)} {σ : L2.St} {H : Hp} {s : Shared} (I : L2.Inv X pins σ H s) : ∀ (ps : List (V × PyData)) {us : List Value}, Vals (ps.map Prod.fst) us → (∀ p ∈ ps, Dp X.K H p.1 p.2) → EachIs (fun v (p : V × PyData) => RelV p.1 v) us ps ∧ EachIs (fun v (p : V × PyData) => ∃ as, Reads s.heap v p.2 as) us ps
  | [], _, h, _ => by cases h; exact ⟨.nil, .nil⟩
  | p :: ps, _, h, hd => by
    cases h with
    | cons h1 h2 =>
      obtain ⟨e1, e2⟩ := each_of I ps h2 fun q hq => hd q (List.mem_cons_of_mem _ hq)
      exact ⟨.cons h1 e1, .cons (Dp.reads I p.2 p.1 _ (hd p (List.mem_cons_self ..)) h1) e2⟩
theorem each_vals : ∀ {us : List Value} {ps : List (V × PyData)}, EachIs (fun v (p : V × PyData) => RelV p.1 v) us ps → Vals (ps.map Prod.fst) us
  | _, _, .nil => .nil
  | _, _, .cons h t => .cons h (each_vals t)
def rSortD (K : PySem.W.Frag) : List V → Hp → VK → Prop := fun vs H Q => ∃ (a : Addr) (ps : List (V × PyData)), vs = [V.ref a] ∧ SqL K H a (ps.map Prod.fst) ∧ (∀ p ∈ ps, Dp K H p.1 p.2) ∧ AllAlike (ps.map Prod.snd) ∧ Sortable (ps.map Prod.snd) ∧ (∀ p ∈ ps, p.2.depth ≤ 60) ∧ ps.length ≤ 100000 ∧
  ∀ c, H c = none → Q (.ref c) (upd H c (.lst ((ps.mergeSort (dataLe false Prod.snd)).map Prod.fst)))
theorem cr_sortedD {X : Cx} (hu : X.A.units + 64 < cLine) : CallR X (.builtin "sorted") (rSortD X.K) := by
  intro pins s σ H args us Q I r hh
  obtain ⟨a, ps, rfl, hs, hd, hal, hk, hdep, hl, q⟩ := hh
  obtain ⟨its, rvs, pl, hz⟩ := I.list hs
  rw [Vals.ref1 r]
  obtain ⟨e1, e2⟩ := each_of I ps rvs hd
  refine PySem.W.sorted_data (enc := Prod.snd) pl.isList e1 e2 hal hk (line_of hl) (fun p hp => by have := hdep p hp; omega) fun out ho eo => ?_
  obtain ⟨ep, he⟩ := PyProof.Rows.sortedAll_at s.heap its out.toArray
  have hlen : ((ps.mergeSort (dataLe false Prod.snd)).map Prod.fst).length ≤ sizeLine := by
    rw [List.length_map, (List.mergeSort_perm ps _).length_eq]; exact line_of hl
  exact ⟨.ref _, upd H (s.heap.objs.size + 1) (.lst ((ps.mergeSort (dataLe false Prod.snd)).map Prod.fst)), I.laid (t' := s.toks) (fun _ _ => PyProof.Rows.sortedAll_old) (Nat.le_succ _) ⟨hlen, out, ep, each_vals eo, he⟩, rfl, q _ (I.hok.fresh (Nat.le_succ _))⟩
theorem zip_da {K : PySem.W.Frag} {G : Hp} : ∀ {xs : List V} {ds : List PyData}, DA K G xs ds → (xs.zip ds).map Prod.fst = xs ∧ (xs.zip ds).map Prod.snd = ds ∧ ∀ p ∈ xs.zip ds, D K G p.1 p.2
  | _, _, .nil => ⟨rfl, rfl, fun _ h => by cases h⟩
  | _, _, .cons h t => by
    obtain ⟨h1, h2, h3⟩ := zip_da t
    refine ⟨by rw [List.zip_cons_cons, List.map_cons, h1], by rw [List.zip_cons_cons, List.map_cons, h2], fun p hp => ?_⟩
    rcases (List.mem_cons (a := p)).mp hp with rfl | hp
    · exact h
    · exact h3 p hp
theorem da_zip {K : PySem.W.Frag} {G : Hp} : ∀ (ps : List (V × PyData)), (∀ p ∈ ps, D K G p.1 p.2) → DA K G (ps.map Prod.fst) (ps.map Prod.snd)
  | [], _ => .nil
  | p :: ps, h => .cons (h p (List.mem_cons_self ..)) (da_zip ps fun q hq => h q (List.mem_cons_of_mem _ hq))
theorem wE_sortedD {X : Cx} {w : Bool} {e : Expr} {δ : List Sl} {P : PyData → Prop} {pos p : Pos} (hm : X.mg "sorted" = none) (hu : X.A.units + 64 < cLine)
    (h : wE X w e δ fun d => ∃ ds, d = .list ds ∧ ds.length ≤ 100000 ∧ AllAlike ds ∧ Sortable ds ∧ (∀ d ∈ ds, d.depth ≤ 60 ∧ d.canLay0 = true) ∧ ∀ out : List PyData, out.Perm ds → (∃ ps : List (V × PyData), out = (ps.mergeSort (dataLe false Prod.snd)).map Prod.snd) → P (.list out))
    (hg : Gl X "sorted" := by rfl) (he : starEach [e] X.env = (false, eval e X.env) :: starEach [] X.env := by rfl) (hpl : (backTo pos (starEach [] X.env)).any (·.1) = false := by rfl) : wE X w (.Call (.Name "sorted" p) [e] [] pos) δ P := fun M H0 σ H R Q q => by
  refine sE.of (pe_callB (cr_sortedD hu) hg hm PyProof.Rows.boot_sorted (pa_cons sE.pe pa_nil he) (by decide) (by decide) he hpl) ?_
  refine h M H0 σ H R _ fun v H1 d k0 k1 d1 => ?_
  obtain ⟨ds, rfl, hl, hal, hk, hdep, hP⟩ := k0
  obtain ⟨a, xs, rfl, g1, g2⟩ := d1.lst_v
  obtain ⟨z1, z2, z3⟩ := zip_da g2
  refine ⟨a, xs.zip ds, rfl, by rw [z1]; exact SqL.of (hid_some g1).2, fun p hp => ((z3 p hp).up hid_le).dp (hdep p.2 (by rw [← z2]; exact List.mem_map.mpr ⟨p, hp, rfl⟩)).2, by rw [z2]; exact hal, by rw [z2]; exact hk, fun p hp => (hdep p.2 (by rw [← z2]; exact List.mem_map.mpr ⟨p, hp, rfl⟩)).1, ?_, fun c nc => ?_⟩
  · have : (xs.zip ds).length = ds.length := by rw [← List.length_map (f := Prod.snd), z2]
    omega
  have s : Same H1 (upd H1 c (.lst (((xs.zip ds).mergeSort (dataLe false Prod.snd)).map Prod.fst))) := same_upd nc
  have pm := List.mergeSort_perm (xs.zip ds) (dataLe false Prod.snd)
  refine q _ _ (.list (((xs.zip ds).mergeSort (dataLe false Prod.snd)).map Prod.snd)) (hP _ (by have := pm.map Prod.snd; rwa [z2] at this) ⟨_, rfl⟩) (k1.trans (Kp.same k1.bk s)) (.lst ?_ ((da_zip _ fun p hp => z3 p (pm.mem_iff.mp hp)).up (hid_same s)))
  rw [hid_at (nW_of ((R.kp k1).covW (w := w)) nc)]; exact upd_same
end YV

namespace YV
open PySem PySem.Spec L2
theorem wS_parU {X : Cx} {a b : Expr} {δ : List Sl} {E : EndsD} {pos : Pos} {i j : Nat} {x y : Str} {px py pt : Pos} {kt k2 : Nat} {pt2 : Pos} (h : wX X a δ fun s1 => wX X b δ fun s2 => E.nx ((δ.set i s1).set j s2)) (hN : X.N.Nodup) (hi : i < δ.length := by simp) (hj : j < δ.length := by simp)
    (hc : X.calm = true := by rfl) (hx : X.N[i]? = some x := by rfl) (hy : X.N[j]? = some y := by rfl) (hxl : Loc X.env.scope x := by first | exact Or.inl rfl | exact Or.inr rfl) (hyl : Loc X.env.scope y := by first | exact Or.inl rfl | exact Or.inr rfl)
    (hxf : X.fn x = true ∨ X.env.scope.names.lookup x = some .local := by first | exact .inl rfl | exact .inr rfl) (hyf : X.fn y = true ∨ X.env.scope.names.lookup y = some .local := by first | exact .inl rfl | exact .inr rfl)
    (hw : swappedStores [.Tuple [.Name x px, .Name y py] kt pt] (.Tuple [a, b] k2 pt2) X.env = pure none := by rfl)
    (hs : swapsWithSole [.Tuple [.Name x px, .Name y py] kt pt] (.Tuple [a, b] k2 pt2) pos.line X.env = pure false := by rfl)
    (ht : (assignEach [.Tuple [.Name x px, .Name y py] kt pt] X.env).map (·.2) = [assign (.Tuple [.Name x px, .Name y py] kt pt) X.env] := by rfl)
    (hn : (assignEach [.Name x px, .Name y py] X.env).length = 2 := by rfl) (hst : (assignEach [.Name x px, .Name y py] X.env).findIdx? (·.1) = none := by rfl)
    (h1 : (assignEach [.Name x px, .Name y py] X.env).map (·.2) = assign (.Name x px) X.env :: (assignEach [.Name y py] X.env).map (·.2) := by rfl) (h2 : (assignEach [.Name y py] X.env).map (·.2) = assign (.Name y py) X.env :: (assignEach [] X.env).map (·.2) := by rfl)
    (ha1 : starEach [a, b] X.env = (false, eval a X.env) :: starEach [b] X.env := by rfl) (ha2 : starEach [b] X.env = (false, eval b X.env) :: starEach [] X.env := by rfl) :
    wS X (.Assign [.Tuple [.Name x px, .Name y py] kt pt] (.Tuple [a, b] k2 pt2) pos) E δ := fun M H0 σ H R => by
  refine sS.of (ps_asg (pe_tup (pa_cons sE.pe (pa_cons sE.pe pa_nil ha2) ha1)) (pg_tup hc (pgs_cons (pg_name hN hx hxl hxf) (pgs_cons (pg_name hN hy hyl hyf) pgs_nil h2) h1) hn hst) hs hw ht) ?_
  have last : ∀ (v u : V) (H2 : Hp) (δ' : List Sl), E.nx δ' → Rp X.K M H0 δ' ((σ.set i (some v)).set j (some u)) H2 → ([v, u] : List V).length ≤ sizeLine ∧ ∀ p, H2 p = none → ∃ a xs, V.ref p = .ref a ∧ SqT X.K (upd H2 p (.tup [v, u])) a xs ∧ xs.length = 2 ∧ (∃ v' vs, xs = v' :: vs ∧ (∃ u' us, vs = u' :: us ∧ us = [] ∧ (lf X.K M H0 E).nx ((σ.set i (some v')).set j (some u')) (upd H2 p (.tup [v, u])))) := fun v u H2 δ' p2 R2 =>
    ⟨line_of (by show 2 ≤ 100000; omega), fun p np => ⟨p, [v, u], rfl, SqT.of upd_same, rfl, v, [u], rfl, u, [], rfl, rfl, δ', p2, R2.kp (Kp.same R2.bagOk (same_upd np))⟩⟩
  refine h M H0 σ H R _ fun v H1 s1 p1 k1 c1 => ?_
  cases s1 with
  | no => cases c1
  | bag => cases c1
  | dat d =>
    refine p1 M H0 σ H1 (R.kp k1) _ fun u H2 s2 p2 k2 c2 => ?_
    have R1 := (R.setSl k1 c1 hi)
    have lt : ∀ a, Wd M (δ.set i (.dat d)) true a → Wd M δ true a := Wd.sub fun m l ds h1 => by
      rcases get_set h1 with ⟨_, q⟩ | ⟨n, q⟩
      · cases q
      · exact ⟨m, ds, q⟩
    refine last v u H2 _ p2 (R1.setSl k2 ?_ (by rw [List.length_set]; exact hj))
    cases s2 with
    | no => cases c2
    | bag => cases c2
    | dat d' => exact D.up (hid_sub lt) c2
    | own l ds =>
      obtain ⟨e, nl, xs, hl, hd⟩ := c2
      exact ⟨e, nl, xs, hl, hd.up (hid_sub fun a q => q.elim (fun z => .inl (lt a z)) .inr)⟩
  | own l ds =>
    have c1' := id c1
    obtain ⟨rfl, nl, xs, hl, hd⟩ := c1
    have Rm := R.plus nl k1.sb k1.bk (by rw [hl]; exact fun z => by cases z)
    refine p1 (M.plus l) H0 σ H1 Rm _ fun u H2 s2 p2 k2 c2 => ?_
    have k2' : Kp M H1 H2 := ⟨k2.sb, k2.bk.unplus k1.bk⟩
    have R1 := R.setSl k1 c1' hi
    have lt : ∀ a, Wd M (δ.set i (.own l ds)) true a → Wd (M.plus l) δ true a := by
      rintro a (q | ⟨_, m, es, h1⟩)
      · exact .inl (.inl q)
      · rcases get_set h1 with ⟨_, q⟩ | ⟨n, q⟩
        · cases q; exact .inl (.inr rfl)
        · exact .inr ⟨rfl, m, es, q⟩
    refine last _ u H2 _ p2 (R1.setSl k2' ?_ (by rw [List.length_set]; exact hj))
    cases s2 with
    | no => cases c2
    | bag => cases c2
    | dat d' => exact D.up (hid_sub lt) c2
    | own l' ds' =>
      obtain ⟨e, nl', xs', hl', hd'⟩ := c2
      exact ⟨e, nl', xs', hl', hd'.up (hid_sub fun a q => q.elim (fun z => .inl (lt a z)) .inr)⟩
end YV

namespace YV
open PySem PySem.Spec L2
section
variable {X : Cx} {w : Bool} {o e : Expr} {δ : List Sl} {P : PyData → Prop} {pos : Pos}
theorem opD_notInD {x : PyData} {ds : List PyData} (hu : X.A.units + 65 < cLine) (h1 : SeqAt.shaped x = true) (h2 : SeqAt.shaped (.list ds) = true) (p : P (.bool (!ds.any fun z => PyData.eqv z x))) : opD X (compareOp .NotIn) x (.list ds) P := fun W H v u Q cov d1 d2 q =>
  oR.of (op_notInD hu) ⟨x, ds, same_dp h1 d1, same_dp h2 d2, h1, h2, q _ H _ p (Same.refl _) (.bl _)⟩
theorem wE_index {apos : Pos} (hu : X.A.units + 65 < cLine) (h : wE X w o δ fun d => ∃ ds, d = .list ds ∧ wE X w e δ fun x => SeqAt.shaped (.list ds) = true ∧ SeqAt.shaped x = true ∧ ∃ (j : Nat) (z : PyData), ds[j]? = some z ∧ PyData.eqv z x = true ∧ (∀ (m : Nat) (z' : PyData), m < j → ds[m]? = some z' → PyData.eqv z' x = false) ∧ P (.int j))
    (hbase : attributeBase o "index" X.env (eval o X.env) = eval o X.env := by rfl) (hfew : ((backTo pos (starEach [e] X.env)).all (fun x => !x.1) && (backToKw pos (keywordEach [] X.env)).all (fun x => x.1.isSome) && decide (([e] : List Expr).length + ([] : List Keyword).length + (if ([] : List Keyword).isEmpty then 0 else 1) < 30)) = true := by rfl)
    (hline : (apos.endLine == pos.line) = true := by rfl) (hs : starEach [e] X.env = (false, eval e X.env) :: starEach [] X.env := by rfl) (hplain : (backTo pos (starEach [] X.env)).any (·.1) = false := by rfl) : wE X w (.Call (.Attribute o "index" apos) [e] [] pos) δ P := fun M H0 σ H R Q q => by
  refine sE.of (pe_bm PySem.F.plainAttrs_list PySem.F.slot_list_index PySem.F.type_list_index (mt_indexD hu) sE.pe (pa_cons sE.pe pa_nil hs) hbase hfew hline hs hplain) ?_
  refine h M H0 σ H R _ fun v H1 d k0 k1 d1 => ?_
  obtain ⟨ds, rfl, hx⟩ := k0
  obtain ⟨a, xs, rfl, g1, g2⟩ := id d1.lst_v
  refine ⟨.inl ⟨rfl, _, SqL.of (hid_some g1).2⟩, ?_⟩
  refine hx M H0 σ H1 (R.kp k1) _ fun u H2 x hh k2 d2 => ?_
  obtain ⟨s1, s2, j, z, hj, hz, hb, hP⟩ := hh
  exact ⟨a, u, x, ds, j, z, rfl, rfl, same_dp s1 (d1.up (upK k2)), same_dp s2 d2, s1, s2, hj, hz, hb, q _ H2 _ hP (k1.trans k2) (.int _)⟩
end
end YV

namespace YV
def nbF : Int → Int → Int → Int → List Bool → Int × Int × Int × Int
  | a, b, c, d, [] => (a, b, c, d)
  | a, b, c, d, true :: r => nbF a b (a + c) (b + d) r
  | a, b, c, d, false :: r => nbF (a + c) (b + d) c d r
def slF : List Bool → Int × Int
  | [] => (1, 1)
  | true :: r => ((slF r).1 + (slF r).2, (slF r).2)
  | false :: r => ((slF r).1, (slF r).1 + (slF r).2)
def wayF : List Bool → List Bool → List Bool → List Bool × List Bool
  | A, B, [] => (A, B)
  | A, B, true :: r => wayF A (A ++ B) r
  | A, B, false :: r => wayF (B ++ A) B r
def wk (p q : Int) : Nat → Int → Int → List Bool
  | 0, _, _ => []
  | n + 1, i, j => decide (i * q ≤ j * p) :: (if i * q ≤ j * p then wk p q n (i + 1) j else wk p q n i (j + 1))
theorem wk_len (p q : Int) : ∀ n i j, (wk p q n i j).length = n
  | 0, _, _ => rfl
  | n + 1, i, j => by
    unfold wk
    split <;> simp [wk_len p q n]
def ns (L : List Bool) : Int := (L.count true : Nat)
def nu (L : List Bool) : Int := (L.count false : Nat)
theorem ns_cons (b : Bool) (L : List Bool) : ns (b :: L) = ns L + (if b = true then 1 else 0) := by
  unfold ns; rw [List.count_cons]; cases b <;> simp
theorem nu_cons (b : Bool) (L : List Bool) : nu (b :: L) = nu L + (if b = true then 0 else 1) := by
  unfold nu; rw [List.count_cons]; cases b <;> simp
theorem ns_app (L M : List Bool) : ns (L ++ M) = ns L + ns M := by unfold ns; rw [List.count_append]; omega
theorem nu_app (L M : List Bool) : nu (L ++ M) = nu L + nu M := by unfold nu; rw [List.count_append]; omega
theorem ns_nil : ns [] = 0 := rfl
theorem nu_nil : nu [] = 0 := rfl
theorem ns_nn (L : List Bool) : 0 ≤ ns L := Int.natCast_nonneg _
theorem nu_nn (L : List Bool) : 0 ≤ nu L := Int.natCast_nonneg _
theorem nsu (L : List Bool) : ns L + nu L = L.length := by
  induction L with
  | nil => rfl
  | cons b L ih =>
    rw [ns_cons, nu_cons, List.length_cons]
    cases b <;> simp <;> omega
theorem wk_add (p q : Int) : ∀ n m i j, wk p q (n + m) i j = wk p q n i j ++ wk p q m (i + ns (wk p q n i j)) (j + nu (wk p q n i j))
  | 0, m, i, j => by
    have e : wk p q 0 i j = [] := rfl
    rw [Nat.zero_add, e, ns_nil, nu_nil, Int.add_zero, Int.add_zero, List.nil_append]
  | n + 1, m, i, j => by
    rw [show n + 1 + m = (n + m) + 1 by omega]
    by_cases h : i * q ≤ j * p
    · have e1 : ∀ k, wk p q (k + 1) i j = true :: wk p q k (i + 1) j := fun k => by rw [wk, if_pos h, decide_eq_true h]
      rw [e1, e1, wk_add p q n m (i + 1) j, ns_cons, nu_cons, List.cons_append]
      simp [Int.add_assoc, Int.add_comm, Int.add_left_comm]
    · have e1 : ∀ k, wk p q (k + 1) i j = false :: wk p q k i (j + 1) := fun k => by rw [wk, if_neg h, decide_eq_false h]
      rw [e1, e1, wk_add p q n m i (j + 1), ns_cons, nu_cons, List.cons_append]
      simp [Int.add_assoc, Int.add_comm, Int.add_left_comm]
theorem wk_same {p q p' q' s t : Int} : ∀ (n : Nat) (i j : Int), 1 ≤ i → 1 ≤ j → (∀ i' j', i ≤ i' → j ≤ j' → i' + j' < i + j + n → ((i' * q ≤ j' * p) ↔ ((i' + s) * q' ≤ (j' + t) * p'))) → wk p' q' n (i + s) (j + t) = wk p q n i j
  | 0, _, _, _, _, _ => rfl
  | n + 1, i, j, hi, hj, h => by
    have h0 := h i j (Int.le_refl _) (Int.le_refl _) (by omega)
    unfold wk
    by_cases c : i * q ≤ j * p
    · have c' := h0.mp c
      rw [if_pos c, if_pos c', decide_eq_true c, decide_eq_true c', show i + s + 1 = (i + 1) + s by omega, wk_same n (i + 1) j (by omega) hj fun i' j' a b e => h i' j' (by omega) b (by omega)]
    · have c' : ¬ (i + s) * q' ≤ (j + t) * p' := fun z => c (h0.mpr z)
      rw [if_neg c, if_neg c', decide_eq_false c, decide_eq_false c', show j + t + 1 = (j + 1) + t by omega, wk_same n i (j + 1) hi (by omega) fun i' j' a b e => h i' j' a (by omega) (by omega)]
structure NbP (a b c d : Int) : Prop where
  a0 : 0 ≤ a
  b0 : 0 ≤ b
  c0 : 0 ≤ c
  d0 : 0 ≤ d
  dt : a * d = b * c + 1
namespace NbP
variable {a b c d : Int}
theorem base : NbP 1 0 0 1 := ⟨by decide, by decide, by decide, by decide, by decide⟩
theorem a1 (h : NbP a b c d) : 1 ≤ a := by
  have := h.a0; have := Int.mul_nonneg h.b0 h.c0; have := h.dt
  have : a ≠ 0 := fun e => by subst e; simp at *; omega
  omega
theorem d1 (h : NbP a b c d) : 1 ≤ d := by
  have := h.d0; have := Int.mul_nonneg h.b0 h.c0; have := h.dt
  have : d ≠ 0 := fun e => by subst e; simp at *; omega
  omega
theorem l (h : NbP a b c d) : NbP a b (a + c) (b + d) := ⟨h.a0, h.b0, by have := h.a0; have := h.c0; omega, by have := h.b0; have := h.d0; omega, by have := h.dt; grind⟩
theorem r (h : NbP a b c d) : NbP (a + c) (b + d) c d := ⟨by have := h.a0; have := h.c0; omega, by have := h.b0; have := h.d0; omega, h.c0, h.d0, by have := h.dt; grind⟩
theorem mir (h : NbP a b c d) : NbP d c b a := ⟨h.d0, h.c0, h.b0, h.a0, by have := h.dt; grind⟩
theorem coord (h : NbP a b c d) (i j : Int) : ∃ x y : Int, i = x * a + y * c ∧ j = x * b + y * d := ⟨i * d - j * c, j * a - i * b, by have := h.dt; grind, by have := h.dt; grind⟩
theorem f_eq (h : NbP a b c d) (x y : Int) : (x * a + y * c) * (b + d) - (x * b + y * d) * (a + c) = x - y := by have := h.dt; grind
theorem f'_eq (h : NbP a b c d) (x y : Int) : (x * a + y * c) * (b + (b + d)) - (x * b + y * d) * (a + (a + c)) = x - 2 * y := by have := h.dt; grind
theorem neg_no (h : NbP a b c d) {x y : Int} (hx : x ≤ 0) (hy : y ≤ 0) : x * a + y * c ≤ 0 := by
  have h1 := Int.mul_nonneg (show 0 ≤ -x by omega) h.a0
  have h2 := Int.mul_nonneg (show 0 ≤ -y by omega) h.c0
  have e1 : -x * a = -(x * a) := Int.neg_mul x a
  have e2 : -y * c = -(y * c) := Int.neg_mul y c
  omega
theorem big (h : NbP a b c d) {x y k m : Int} (hx : k ≤ x) (hy : m ≤ y) : k * (a + b) + m * (c + d) ≤ (x * a + y * c) + (x * b + y * d) := by
  have h1 := Int.mul_le_mul_of_nonneg_right hx (show 0 ≤ a + b by have := h.a0; have := h.b0; omega)
  have h2 := Int.mul_le_mul_of_nonneg_right hy (show 0 ≤ c + d by have := h.c0; have := h.d0; omega)
  have e1 : x * (a + b) = x * a + x * b := Int.mul_add _ _ _
  have e2 : y * (c + d) = y * c + y * d := Int.mul_add _ _ _
  omega
theorem first (h : NbP a b c d) {i j : Int} (hi : 1 ≤ i) (hs : i + j ≤ a + b + 1) : (i * (b + d) ≤ j * (a + c)) ↔ (i * (b + (b + d)) ≤ j * (a + (a + c))) := by
  obtain ⟨x, y, rfl, rfl⟩ := h.coord i j
  have e1 := h.f_eq x y
  have e2 := h.f'_eq x y
  have ha := h.a1
  have hb := h.b0
  have hc := h.c0
  have hd := h.d1
  constructor
  · intro z
    have hxy : x ≤ y := by omega
    by_cases hy : 0 ≤ y
    · omega
    · have := h.neg_no (x := x) (y := y) (by omega) (by omega)
      omega
  · intro z
    have hxy : x ≤ 2 * y := by omega
    by_cases hle : x ≤ y
    · omega
    · have := h.big (x := x) (y := y) (k := 2) (m := 1) (by omega) (by omega)
      omega
theorem second (h : NbP a b c d) {i j : Int} (hi : 1 ≤ i) (hs : i + j ≤ a + c + (b + d) - 1) : (i * (b + d) ≤ j * (a + c)) ↔ ((i + a) * (b + (b + d)) ≤ (j + b) * (a + (a + c))) := by
  obtain ⟨x, y, rfl, rfl⟩ := h.coord i j
  have e1 := h.f_eq x y
  have e2 := h.f'_eq x y
  have e3 : (x * a + y * c + a) * (b + (b + d)) - (x * b + y * d + b) * (a + (a + c)) = ((x * a + y * c) * (b + (b + d)) - (x * b + y * d) * (a + (a + c))) + 1 := by have := h.dt; grind
  have ha := h.a1
  have hb := h.b0
  have hc := h.c0
  have hd := h.d1
  constructor
  · intro z
    have hxy : x ≤ y := by omega
    by_cases hlt : x < y
    · by_cases hy : 0 ≤ y
      · omega
      · have := h.neg_no (x := x) (y := y) (by omega) (by omega)
        omega
    · have e : x = y := by omega
      subst e
      by_cases hx : x ≤ 0
      · have := h.neg_no (x := x) (y := x) hx hx
        omega
      · have := h.big (x := x) (y := x) (k := 1) (m := 1) (by omega) (by omega)
        omega
  · intro z
    by_cases hle : x ≤ y
    · omega
    · have := h.big (x := x) (y := y) (k := 3) (m := 2) (by omega) (by omega)
      omega
theorem notie (h : NbP a b c d) {i j : Int} (hi : 1 ≤ i) (hs : i + j ≤ a + c + (b + d) - 1) : i * (b + d) ≠ j * (a + c) := by
  obtain ⟨x, y, rfl, rfl⟩ := h.coord i j
  have e1 := h.f_eq x y
  intro z
  have e : x = y := by omega
  subst e
  by_cases hx : x ≤ 0
  · have := h.neg_no (x := x) (y := x) hx hx
    omega
  · have := h.big (x := x) (y := x) (k := 1) (m := 1) (by omega) (by omega)
    omega
end NbP
def cross (p q : Int) : List Bool := wk p q (p + q - 2).toNat 1 1
theorem wk_in {p q : Int} (nt : ∀ i j : Int, 1 ≤ i → i + j ≤ p + q - 1 → i * q ≠ j * p) (hp : 1 ≤ p) (hq : 1 ≤ q) : ∀ (n : Nat) (i j : Int), 1 ≤ i → 1 ≤ j → i ≤ p → j ≤ q → i + j + n ≤ p + q → i + ns (wk p q n i j) ≤ p ∧ j + nu (wk p q n i j) ≤ q
  | 0, i, j, _, _, h1, h2, _ => by unfold wk; rw [ns_nil, nu_nil]; omega
  | n + 1, i, j, hi, hj, h1, h2, h3 => by
    by_cases c : i * q ≤ j * p
    · have hlt : i < p := by
        have hne := nt i j hi (by omega)
        rcases Int.lt_or_eq_of_le h1 with z | z
        · exact z
        · subst z
          have hjq : j < q := by omega
          have := Int.mul_lt_mul_of_pos_left hjq (show 0 < i by omega)
          rw [Int.mul_comm j i] at c
          omega
      have := wk_in nt hp hq n (i + 1) j (by omega) hj (by omega) h2 (by omega)
      rw [wk, if_pos c, decide_eq_true c, ns_cons, nu_cons]
      simp; omega
    · have hlt : j < q := by
        rcases Int.lt_or_eq_of_le h2 with z | z
        · exact z
        · subst z
          have hip : i < p := by omega
          have := Int.mul_lt_mul_of_pos_left hip (show 0 < j by omega)
          rw [Int.mul_comm i j] at c
          omega
      have := wk_in nt hp hq n i (j + 1) hi (by omega) h1 (by omega) (by omega)
      rw [wk, if_neg c, decide_eq_false c, ns_cons, nu_cons]
      simp; omega
structure Slp (p q : Int) : Prop where
  p1 : 1 ≤ p
  q1 : 1 ≤ q
  nt : ∀ i j : Int, 1 ≤ i → i + j ≤ p + q - 1 → i * q ≠ j * p
theorem NbP.slp {a b c d : Int} (h : NbP a b c d) : Slp (a + c) (b + d) := ⟨by have := h.a1; have := h.c0; omega, by have := h.d1; have := h.b0; omega, fun i j hi hs => h.notie hi hs⟩
namespace Slp
variable {p q : Int}
theorem cross_len (h : Slp p q) : ((cross p q).length : Int) = p + q - 2 := by
  unfold cross; rw [wk_len]; have := h.p1; have := h.q1; omega
theorem cross_n (h : Slp p q) : ns (cross p q) = p - 1 ∧ nu (cross p q) = q - 1 := by
  have h1 := h.p1
  have h2 := h.q1
  have := wk_in h.nt h1 h2 (p + q - 2).toNat 1 1 (by omega) (by omega) (by omega) (by omega) (by omega)
  have e := nsu (cross p q)
  rw [h.cross_len] at e
  unfold cross at *
  omega
theorem str (h : Slp p q) : wk p q (p + q).toNat 1 1 = cross p q ++ [true, false] := by
  have h1 := h.p1
  have h2 := h.q1
  obtain ⟨e1, e2⟩ := h.cross_n
  have e : (p + q).toNat = (p + q - 2).toNat + 2 := by omega
  rw [e, wk_add]
  show cross p q ++ wk p q 2 (1 + ns (cross p q)) (1 + nu (cross p q)) = _
  rw [e1, e2, show 1 + (p - 1) = p by omega, show 1 + (q - 1) = q by omega]
  have t1 : p * q ≤ q * p := by rw [Int.mul_comm]; omega
  have t2 : ¬ (p + 1) * q ≤ q * p := by rw [Int.add_mul, Int.mul_comm p q]; omega
  rw [wk, if_pos t1, decide_eq_true t1, wk, if_neg t2, decide_eq_false t2, wk]
theorem mir (h : Slp p q) : Slp q p := ⟨h.q1, h.p1, fun i j hi hs e => by
  have hp := h.p1
  have hq := h.q1
  have hj : 1 ≤ j := by
    by_cases z : j ≤ 0
    · have := Int.mul_nonneg (show 0 ≤ -j by omega) (show 0 ≤ q by omega)
      have h3 := Int.mul_pos (show 0 < i by omega) (show 0 < p by omega)
      rw [Int.neg_mul] at this
      omega
    · omega
  exact h.nt j i hj (by omega) e.symm⟩
theorem mir_wk (h : Slp p q) : ∀ (n : Nat) (i j : Int), 1 ≤ i → 1 ≤ j → i + j + n ≤ p + q → wk q p n j i = (wk p q n i j).map not
  | 0, _, _, _, _, _ => rfl
  | n + 1, i, j, hi, hj, hs => by
    have ne := h.nt i j hi (by omega)
    unfold wk
    by_cases c : i * q ≤ j * p
    · have c' : ¬ j * p ≤ i * q := by omega
      rw [if_pos c, if_neg c', decide_eq_true c, decide_eq_false c', mir_wk h n (i + 1) j (by omega) hj (by omega)]; rfl
    · have c' : j * p ≤ i * q := by omega
      rw [if_neg c, if_pos c', decide_eq_false c, decide_eq_true c', mir_wk h n i (j + 1) hi (by omega) (by omega)]; rfl
theorem mir_cross (h : Slp p q) : cross q p = (cross p q).map not := by
  unfold cross
  have h1 := h.p1
  have h2 := h.q1
  rw [show q + p - 2 = p + q - 2 by omega]
  exact h.mir_wk _ 1 1 (by omega) (by omega) (by omega)
theorem back (h : Slp p q) : ∀ k : Nat, (k : Int) ≤ p + q - 2 → wk p q k (p + 1 - (1 + ns (wk p q k 1 1))) (q + 1 - (1 + nu (wk p q k 1 1))) = (wk p q k 1 1).reverse ∧
    (nu (wk p q k 1 1) * p ≤ (1 + ns (wk p q k 1 1)) * q ∧ ns (wk p q k 1 1) * q ≤ (1 + nu (wk p q k 1 1)) * p)
  | 0, _ => ⟨rfl, by unfold wk; rw [ns_nil, nu_nil]; have := h.p1; have := h.q1; omega⟩
  | k + 1, hk => by
    have h1 := h.p1
    have h2 := h.q1
    obtain ⟨ih, b1, b2⟩ := back h k (by omega)
    have win := wk_in h.nt h1 h2 k 1 1 (by omega) (by omega) (by omega) (by omega) (by omega)
    have hn := nsu (wk p q k 1 1)
    rw [wk_len] at hn
    have n0 := ns_nn (wk p q k 1 1)
    have n1 := nu_nn (wk p q k 1 1)
    rw [wk_add p q k 1 1 1]
    generalize wk p q k 1 1 = L at ih b1 b2 win hn n0 n1
    have hne := h.nt (1 + ns L) (1 + nu L) (by omega) (by omega)
    by_cases c : (1 + ns L) * q ≤ (1 + nu L) * p
    · have e1 : wk p q 1 (1 + ns L) (1 + nu L) = [true] := by rw [wk, decide_eq_true c, if_pos c, wk]
      rw [e1, ns_app, nu_app, List.reverse_append]
      show _ = [true].reverse ++ _ ∧ _
      rw [← ih, show ns [true] = 1 from rfl, show nu [true] = 0 from rfl]
      have r1 : (p + 1 - (1 + (ns L + 1))) * q ≤ (q + 1 - (1 + (nu L + 0))) * p := by
        have e2 : (p + 1 - (1 + (ns L + 1))) * q = p * q - (1 + ns L) * q := by rw [← Int.sub_mul]; congr 1; omega
        have e3 : (q + 1 - (1 + (nu L + 0))) * p = q * p - nu L * p := by rw [← Int.sub_mul]; congr 1; omega
        rw [e2, e3, Int.mul_comm q p]; omega
      refine ⟨?_, ?_, ?_⟩
      · rw [wk, if_pos r1, decide_eq_true r1]
        show true :: _ = true :: _
        congr 2 <;> omega
      · have : (1 + (ns L + 1)) * q = (1 + ns L) * q + q := by rw [← Int.add_assoc, Int.add_mul (1 + ns L), Int.one_mul]
        rw [this, Int.add_zero]; omega
      · rw [Int.add_zero, Int.add_comm (ns L)]; exact c
    · have e1 : wk p q 1 (1 + ns L) (1 + nu L) = [false] := by rw [wk, decide_eq_false c, if_neg c, wk]
      rw [e1, ns_app, nu_app, List.reverse_append]
      show _ = [false].reverse ++ _ ∧ _
      rw [← ih, show ns [false] = 0 from rfl, show nu [false] = 1 from rfl]
      have hlt : ns L * q < (1 + nu L) * p := by
        rcases Int.lt_or_eq_of_le b2 with z | z
        · exact z
        · by_cases h0 : ns L = 0
          · rw [h0, Int.zero_mul] at z
            have := Int.mul_pos (show 0 < 1 + nu L by omega) (show 0 < p by omega)
            omega
          · exact absurd z (h.nt (ns L) (1 + nu L) (by omega) (by omega))
      have r1 : ¬ (p + 1 - (1 + (ns L + 0))) * q ≤ (q + 1 - (1 + (nu L + 1))) * p := by
        have e2 : (p + 1 - (1 + (ns L + 0))) * q = p * q - ns L * q := by rw [← Int.sub_mul]; congr 1; omega
        have e3 : (q + 1 - (1 + (nu L + 1))) * p = q * p - (1 + nu L) * p := by rw [← Int.sub_mul]; congr 1; omega
        rw [e2, e3, Int.mul_comm q p]; omega
      refine ⟨?_, ?_, ?_⟩
      · rw [wk, if_neg r1, decide_eq_false r1]
        show false :: _ = false :: _
        congr 2 <;> omega
      · rw [Int.add_zero, Int.add_comm (nu L)]; omega
      · have : (1 + (nu L + 1)) * p = (1 + nu L) * p + p := by rw [← Int.add_assoc, Int.add_mul (1 + nu L), Int.one_mul]
        rw [this, Int.add_zero]; omega
theorem pal (h : Slp p q) : (cross p q).reverse = cross p q := by
  have h1 := h.p1
  have h2 := h.q1
  obtain ⟨e1, e2⟩ := h.cross_n
  have := (h.back (p + q - 2).toNat (by omega)).1
  show (wk p q (p + q - 2).toNat 1 1).reverse = cross p q
  rw [← this]
  show wk p q _ (p + 1 - (1 + ns (cross p q))) (q + 1 - (1 + nu (cross p q))) = _
  rw [e1, e2, show p + 1 - (1 + (p - 1)) = 1 by omega, show q + 1 - (1 + (q - 1)) = 1 by omega]
  rfl
end Slp
structure Way (a b c d : Int) (A B : List Bool) : Prop where
  nb : NbP a b c d
  sA : ns A = a
  uA : nu A = b
  sB : ns B = c
  uB : nu B = d
  ab : A ++ B = cross (a + c) (b + d) ++ [true, false]
  ba : B ++ A = cross (a + c) (b + d) ++ [false, true]
theorem Way.base : Way 1 0 0 1 [true] [false] := ⟨NbP.base, rfl, rfl, rfl, rfl, rfl, rfl⟩
theorem Way.l {a b c d : Int} {A B : List Bool} (h : Way a b c d A B) : Way a b (a + c) (b + d) A (A ++ B) := by
  obtain ⟨nb, sA, uA, sB, uB, ab, ba⟩ := h
  have ha := nb.a1
  have hb := nb.b0
  have hc := nb.c0
  have hd := nb.d1
  have lA : (A.length : Int) = a + b := by rw [← nsu, sA, uA]
  have sl := nb.slp
  have k1 : wk (a + (a + c)) (b + (b + d)) A.length 1 1 = A := by
    have e1 : wk (a + (a + c)) (b + (b + d)) A.length (1 + 0) (1 + 0) = wk (a + c) (b + d) A.length 1 1 := by
      refine wk_same A.length 1 1 (by omega) (by omega) fun i' j' h1 h2 h3 => ?_
      rw [Int.add_zero, Int.add_zero]
      exact nb.first h1 (by omega)
    have e2 := sl.str
    have e3 : (a + c + (b + d)).toNat = A.length + (c + d).toNat := by omega
    rw [← ab, e3, wk_add] at e2
    have e4 := List.append_inj_left e2 (wk_len _ _ _ _ _)
    rw [e4] at e1
    exact e1
  have k2 : cross (a + (a + c)) (b + (b + d)) = A ++ cross (a + c) (b + d) := by
    have e : (a + (a + c) + (b + (b + d)) - 2).toNat = A.length + (a + c + (b + d) - 2).toNat := by omega
    show wk _ _ _ 1 1 = _
    rw [e, wk_add, k1, sA, uA]
    refine congrArg (A ++ ·) ?_
    refine wk_same (s := a) (t := b) _ 1 1 (by omega) (by omega) fun i' j' h1 h2 h3 => ?_
    exact nb.second h1 (by omega)
  refine ⟨nb.l, sA, uA, by rw [ns_app, sA, sB], by rw [nu_app, uA, uB], ?_, ?_⟩
  · rw [k2, List.append_assoc, ← ab]
  · rw [k2, List.append_assoc, List.append_assoc, ← ba]
theorem ns_not (L : List Bool) : ns (L.map not) = nu L := by
  induction L with
  | nil => rfl
  | cons b L ih => rw [List.map_cons, ns_cons, nu_cons, ih]; cases b <;> simp
theorem nu_not (L : List Bool) : nu (L.map not) = ns L := by
  induction L with
  | nil => rfl
  | cons b L ih => rw [List.map_cons, ns_cons, nu_cons, ih]; cases b <;> simp
theorem not_not_map (L : List Bool) : (L.map not).map not = L := by
  rw [List.map_map]
  have : (not ∘ not) = id := by funext b; cases b <;> rfl
  rw [this, List.map_id]
theorem Way.mir {a b c d : Int} {A B : List Bool} (h : Way a b c d A B) : Way d c b a (B.map not) (A.map not) := by
  have sl := h.nb.slp
  refine ⟨h.nb.mir, by rw [ns_not, h.uB], by rw [nu_not, h.sB], by rw [ns_not, h.uA], by rw [nu_not, h.sA], ?_, ?_⟩
  · rw [← List.map_append, h.ba, List.map_append, Int.add_comm d b, Int.add_comm c a, sl.mir_cross]; rfl
  · rw [← List.map_append, h.ab, List.map_append, Int.add_comm d b, Int.add_comm c a, sl.mir_cross]; rfl
theorem Way.r {a b c d : Int} {A B : List Bool} (h : Way a b c d A B) : Way (a + c) (b + d) c d (B ++ A) B := by
  have g := h.mir.l.mir
  rw [Int.add_comm c a, Int.add_comm d b, List.map_append, not_not_map, not_not_map] at g
  exact g
theorem way_of : ∀ (bs : List Bool) {a b c d : Int} {A B : List Bool}, Way a b c d A B → Way (nbF a b c d bs).1 (nbF a b c d bs).2.1 (nbF a b c d bs).2.2.1 (nbF a b c d bs).2.2.2 (wayF A B bs).1 (wayF A B bs).2
  | [], _, _, _, _, _, _, h => h
  | true :: r, _, _, _, _, _, _, h => way_of r h.l
  | false :: r, _, _, _, _, _, _, h => way_of r h.r
theorem nb_lin : ∀ (bs : List Bool) (a b c d : Int), nbF a b c d bs = ((nbF 1 0 0 1 bs).1 * a + (nbF 1 0 0 1 bs).2.1 * c, (nbF 1 0 0 1 bs).1 * b + (nbF 1 0 0 1 bs).2.1 * d, (nbF 1 0 0 1 bs).2.2.1 * a + (nbF 1 0 0 1 bs).2.2.2 * c, (nbF 1 0 0 1 bs).2.2.1 * b + (nbF 1 0 0 1 bs).2.2.2 * d)
  | [], a, b, c, d => by simp [nbF]
  | true :: r, a, b, c, d => by
    have e1 := nb_lin r a b (a + c) (b + d)
    have e2 := nb_lin r 1 0 (1 + 0) (0 + 1)
    rw [nbF, e1, nbF, e2]
    simp only [Prod.mk.injEq]
    refine ⟨?_, ?_, ?_, ?_⟩ <;> grind
  | false :: r, a, b, c, d => by
    have e1 := nb_lin r (a + c) (b + d) c d
    have e2 := nb_lin r (1 + 0) (0 + 1) 0 1
    rw [nbF, e1, nbF, e2]
    simp only [Prod.mk.injEq]
    refine ⟨?_, ?_, ?_, ?_⟩ <;> grind
theorem sl_nb : ∀ bs : List Bool, slF bs = ((nbF 1 0 0 1 bs).1 + (nbF 1 0 0 1 bs).2.2.1, (nbF 1 0 0 1 bs).2.1 + (nbF 1 0 0 1 bs).2.2.2)
  | [] => rfl
  | true :: r => by
    have e2 := nb_lin r 1 0 (1 + 0) (0 + 1)
    rw [slF, sl_nb r, nbF, e2]
    simp only [Prod.mk.injEq]
    refine ⟨?_, ?_⟩ <;> grind
  | false :: r => by
    have e2 := nb_lin r (1 + 0) (0 + 1) 0 1
    rw [slF, sl_nb r, nbF, e2]
    simp only [Prod.mk.injEq]
    refine ⟨?_, ?_⟩ <;> grind
theorem sl_pos : ∀ bs : List Bool, 1 ≤ (slF bs).1 ∧ 1 ≤ (slF bs).2
  | [] => ⟨Int.le_refl _, Int.le_refl _⟩
  | true :: r => by have := sl_pos r; show 1 ≤ (slF r).1 + (slF r).2 ∧ 1 ≤ (slF r).2; omega
  | false :: r => by have := sl_pos r; show 1 ≤ (slF r).1 ∧ 1 ≤ (slF r).1 + (slF r).2; omega
theorem sl_len : ∀ bs : List Bool, (bs.length : Int) + 2 ≤ (slF bs).1 + (slF bs).2
  | [] => Int.le_refl _
  | true :: r => by have := sl_len r; have := sl_pos r; show ((r.length + 1 : Nat) : Int) + 2 ≤ (slF r).1 + (slF r).2 + (slF r).2; omega
  | false :: r => by have := sl_len r; have := sl_pos r; show ((r.length + 1 : Nat) : Int) + 2 ≤ (slF r).1 + ((slF r).1 + (slF r).2); omega
theorem nb_slp (bs : List Bool) : Slp (slF bs).1 (slF bs).2 := by
  rw [sl_nb]
  exact (way_of bs Way.base).nb.slp
theorem nb_app : ∀ (xs ys : List Bool) (a b c d : Int), nbF a b c d (xs ++ ys) = nbF (nbF a b c d xs).1 (nbF a b c d xs).2.1 (nbF a b c d xs).2.2.1 (nbF a b c d xs).2.2.2 ys
  | [], _, _, _, _, _ => rfl
  | true :: r, ys, a, b, c, d => nb_app r ys _ _ _ _
  | false :: r, ys, a, b, c, d => nb_app r ys _ _ _ _
theorem way_app : ∀ (xs ys A B : List Bool), wayF A B (xs ++ ys) = wayF (wayF A B xs).1 (wayF A B xs).2 ys
  | [], _, _, _ => rfl
  | true :: r, ys, A, B => way_app r ys _ _
  | false :: r, ys, A, B => way_app r ys _ _
theorem way_mono : ∀ (ys A B : List Bool), A.length + B.length ≤ (wayF A B ys).1.length + (wayF A B ys).2.length
  | [], _, _ => Nat.le_refl _
  | true :: r, A, B => Nat.le_trans (by rw [List.length_append]; omega) (way_mono r A (A ++ B))
  | false :: r, A, B => Nat.le_trans (by rw [List.length_append]; omega) (way_mono r (B ++ A) B)
theorem way_cross (bs : List Bool) : (wayF [true] [false] bs).1 ++ (wayF [true] [false] bs).2 = cross (slF bs).1 (slF bs).2 ++ [true, false] ∧ (wayF [true] [false] bs).2 ++ (wayF [true] [false] bs).1 = cross (slF bs).1 (slF bs).2 ++ [false, true] := by
  have h := way_of bs Way.base
  rw [sl_nb]
  exact ⟨h.ab, h.ba⟩
theorem sl_inj : ∀ (xs ys : List Bool), slF xs = slF ys → xs = ys
  | [], [], _ => rfl
  | [], true :: r, h => by
    have := sl_pos r
    have h1 := congrArg Prod.fst h
    have h2 : (1 : Int) = (slF r).1 + (slF r).2 := h1
    omega
  | [], false :: r, h => by
    have := sl_pos r
    have h1 : (1 : Int) = (slF r).1 + (slF r).2 := congrArg Prod.snd h
    omega
  | true :: r, [], h => by
    have := sl_pos r
    have h1 : (slF r).1 + (slF r).2 = (1 : Int) := congrArg Prod.fst h
    omega
  | false :: r, [], h => by
    have := sl_pos r
    have h1 : (slF r).1 + (slF r).2 = (1 : Int) := congrArg Prod.snd h
    omega
  | true :: r, true :: s, h => by
    have h1 : (slF r).1 + (slF r).2 = (slF s).1 + (slF s).2 := congrArg Prod.fst h
    have h2 : (slF (true :: r)).2 = (slF (true :: s)).2 := congrArg Prod.snd h
    have h2 : (slF r).2 = (slF s).2 := h2
    rw [sl_inj r s (Prod.ext (by omega) h2)]
  | false :: r, false :: s, h => by
    have h1 : (slF (false :: r)).1 = (slF (false :: s)).1 := congrArg Prod.fst h
    have h1 : (slF r).1 = (slF s).1 := h1
    have h2 : (slF r).1 + (slF r).2 = (slF s).1 + (slF s).2 := congrArg Prod.snd h
    rw [sl_inj r s (Prod.ext h1 (by omega))]
  | true :: r, false :: s, h => by
    have := sl_pos r
    have := sl_pos s
    have h1 : (slF r).1 + (slF r).2 = (slF s).1 := congrArg Prod.fst h
    have h2 : (slF r).2 = (slF s).1 + (slF s).2 := congrArg Prod.snd h
    omega
  | false :: r, true :: s, h => by
    have := sl_pos r
    have := sl_pos s
    have h1 : (slF r).1 = (slF s).1 + (slF s).2 := congrArg Prod.fst h
    have h2 : (slF r).1 + (slF r).2 = (slF s).2 := congrArg Prod.snd h
    omega
theorem sl_rep_l : ∀ (n : Nat) (r : List Bool), slF (List.replicate n true ++ r) = ((slF r).1 + n * (slF r).2, (slF r).2)
  | 0, r => by simp
  | n + 1, r => by
    rw [List.replicate_succ, List.cons_append, slF, sl_rep_l n r]
    simp only [Prod.mk.injEq, and_true]
    rw [show ((n + 1 : Nat) : Int) = (n : Int) + 1 by omega, Int.add_mul, Int.one_mul]; omega
theorem sl_rep_r : ∀ (n : Nat) (r : List Bool), slF (List.replicate n false ++ r) = ((slF r).1, (slF r).2 + n * (slF r).1)
  | 0, r => by simp
  | n + 1, r => by
    rw [List.replicate_succ, List.cons_append, slF, sl_rep_r n r]
    simp only [Prod.mk.injEq, true_and]
    rw [show ((n + 1 : Nat) : Int) = (n : Int) + 1 by omega, Int.add_mul, Int.one_mul]; omega
end YV

namespace YV
open PySem PySem.Spec L2
open PyProof.Rows (subscriptTail envOfC)
def tx (c0 c1 : Nat) (bs : List Bool) : Str := ⟨(bs.map fun b => if b = true then c0 else c1).toArray⟩
abbrev wd (bs : List Bool) : Str := tx 108 114 bs
abbrev sg (bs : List Bool) : Str := tx 115 117 bs
section
variable {c0 c1 : Nat}
theorem tx_app (xs ys : List Bool) : tx c0 c1 xs ++ tx c0 c1 ys = tx c0 c1 (xs ++ ys) := by
  show Str.mk _ = Str.mk _
  refine congrArg Str.mk ?_
  rw [List.map_append]; simp [tx]
theorem tx_len (bs : List Bool) : (tx c0 c1 bs).length = bs.length := by
  show (List.toArray _).size = _
  rw [List.size_toArray]
  exact List.length_map _
theorem tx_list (bs : List Bool) : (tx c0 c1 bs).cps.toList = bs.map fun b => if b = true then c0 else c1 := rfl
theorem tx_inj (h : c0 ≠ c1) {xs ys : List Bool} (e : tx c0 c1 xs = tx c0 c1 ys) : xs = ys := by
  have e1 := congrArg (fun z : Str => z.cps.toList) e
  rw [tx_list, tx_list] at e1
  refine List.map_inj_right (fun a b z => ?_) |>.mp e1
  cases a <;> cases b <;> simp at z ⊢
  · exact (h z.symm).elim
  · exact (h z).elim
theorem tx_dec (h : c0 ≠ c1) (xs ys : List Bool) : decide (tx c0 c1 xs = tx c0 c1 ys) = decide (xs = ys) := decide_eq_decide.mpr ⟨tx_inj h, fun e => by rw [e]⟩
theorem str_empty_append (z : Str) : Str.empty ++ z = z := by
  show Str.mk _ = _
  simp [Str.empty]
theorem tx_join : ∀ L : List (List Bool), Txt.join (Str.ofString "") (L.map (tx c0 c1)) = tx c0 c1 L.flatten := fun L => by
  show Builtin.Str.glued _ _ = _
  rw [StrLaws.glued_eq_join]
  have e0 : Str.ofString "" = tx c0 c1 [] := by rw [show Str.ofString "" = Str.empty by decide]; rfl
  rw [e0]
  induction L with
  | nil => rfl
  | cons x r ih =>
    cases r with
    | nil => simp [Str.join]
    | cons y r =>
      show tx c0 c1 x ++ tx c0 c1 [] ++ Str.join (tx c0 c1 []) ((y :: r).map (tx c0 c1)) = _
      rw [ih, tx_app, tx_app, List.append_nil]; rfl
theorem flat1 : ∀ bs : List Bool, (bs.map fun b => [b]).flatten = bs
  | [] => rfl
  | b :: bs => by rw [List.map_cons, List.flatten_cons, flat1 bs]; rfl
theorem tx_join1 (bs : List Bool) : Txt.join (Str.ofString "") (bs.map fun b => tx c0 c1 [b]) = tx c0 c1 bs := by
  have := tx_join (c0 := c0) (c1 := c1) (bs.map fun b => [b])
  rw [List.map_map] at this
  rw [flat1] at this
  exact this
def repB (n : Nat) (xs : List Bool) : List Bool := (List.replicate n xs).flatten
theorem repB_succ (n : Nat) (xs : List Bool) : repB (n + 1) xs = xs ++ repB n xs := by unfold repB; rw [List.replicate_succ, List.flatten_cons]
theorem repB_len (n : Nat) (xs : List Bool) : (repB n xs).length = n * xs.length := by
  induction n with
  | zero => simp [repB]
  | succ n ih => rw [repB_succ, List.length_append, ih, Nat.add_mul]; omega
theorem repB_one (n : Nat) (b : Bool) : repB n [b] = List.replicate n b := by
  induction n with
  | zero => rfl
  | succ n ih => rw [repB_succ, ih]; rfl
theorem fold_rep (a : Array Nat) : ∀ (n : Nat) (acc : Array Nat), ((List.replicate n a).foldl (· ++ ·) acc).toList = acc.toList ++ (List.replicate n a.toList).flatten
  | 0, acc => by simp
  | n + 1, acc => by
    rw [List.replicate_succ, List.foldl_cons, fold_rep a n, List.replicate_succ, List.flatten_cons]
    simp
theorem tx_mul (xs : List Bool) (n : Int) : Txt.mul (tx c0 c1 xs) n = tx c0 c1 (repB n.toNat xs) := by
  unfold Txt.mul
  by_cases h : n < 1
  · rw [if_pos h, show n.toNat = 0 by omega]; rfl
  · rw [if_neg h]
    by_cases h1 : (n == 1 || (tx c0 c1 xs).length == 0) = true
    · rw [if_pos h1]
      simp only [Bool.or_eq_true, beq_iff_eq] at h1
      rcases h1 with h1 | h1
      · subst h1
        show _ = tx c0 c1 (repB 1 xs)
        rw [repB_succ]; simp [repB]
      · rw [tx_len] at h1
        have : xs = [] := List.eq_nil_of_length_eq_zero h1
        subst this
        simp [repB]
    · rw [if_neg h1]
      show Str.mk _ = Str.mk _
      refine congrArg Str.mk (Array.ext' ?_)
      rw [fold_rep]
      show [] ++ (List.replicate n.toNat (xs.map _)).flatten = (repB n.toNat xs).map _
      rw [List.nil_append]
      unfold repB
      rw [List.map_flatten]
      rw [List.map_replicate]
theorem tx_cut (bs : List Bool) {m : Int} (h : 0 ≤ m) : cutS (tx c0 c1 bs) none (some m) = tx c0 c1 (bs.take m.toNat) := by
  show Str.mk _ = Str.mk _
  refine congrArg Str.mk (congrArg List.toArray ?_)
  rw [tx_list, tx_len, HT.sIx_none, List.drop_zero]
  show List.take ((if m < 0 then (m + (bs.length : Int)).toNat else min m.toNat bs.length) - 0) _ = _
  rw [if_neg (by omega), Nat.sub_zero, ← List.map_take]
  refine congrArg _ ?_
  by_cases c : m.toNat ≤ bs.length
  · rw [Nat.min_eq_left c]
  · rw [Nat.min_eq_right (by omega), List.take_length, List.take_of_length_le (by omega)]
theorem tx_cutLast (bs : List Bool) : cutS (tx c0 c1 bs) none (some (-1)) = tx c0 c1 bs.dropLast := by
  show Str.mk _ = Str.mk _
  refine congrArg Str.mk (congrArg List.toArray ?_)
  rw [tx_list, tx_len, HT.sIx_none, List.drop_zero]
  show List.take ((if (-1 : Int) < 0 then ((-1 : Int) + (bs.length : Int)).toNat else min (-1 : Int).toNat bs.length) - 0) _ = _
  rw [if_pos (by omega), Nat.sub_zero, ← List.map_take, List.dropLast_eq_take]
  refine congrArg _ (congrArg (fun k => List.take k bs) ?_)
  omega
theorem tx_rev (bs : List Bool) : (⟨(tx c0 c1 bs).cps.toList.reverse.toArray⟩ : Str) = tx c0 c1 bs.reverse := by
  rw [tx_list, ← List.map_reverse]; rfl
theorem tx_lay (h0 : c0 < 0x110000) (h1 : c1 < 0x110000) (bs : List Bool) : PyData.canLay0 (.str (tx c0 c1 bs)) = true := by
  show PyData.strOk _ = true
  unfold PyData.strOk
  rw [← Array.all_toList, tx_list, List.all_map, List.all_eq_true]
  intro b _
  cases b <;> simpa
theorem tx_of {z : Str} (h : ∀ c ∈ z.cps.toList, c = c0 ∨ c = c1) (hn : c0 ≠ c1) : ∃ bs, z = tx c0 c1 bs ∧ bs.length = z.length := by
  refine ⟨z.cps.toList.map fun c => decide (c = c0), ?_, ?_⟩
  · have : (z.cps.toList.map fun c => decide (c = c0)).map (fun b => if b = true then c0 else c1) = z.cps.toList := by
      rw [List.map_map]
      conv => rhs; rw [← List.map_id z.cps.toList]
      refine List.map_congr_left fun c hcm => ?_
      show (if decide (c = c0) = true then c0 else c1) = c
      rcases h c hcm with e | e
      · rw [e]; simp
      · rw [if_neg (by rw [e]; simp; exact fun z => hn z.symm), e]
    unfold tx
    rw [this]
  · rw [List.length_map, Array.length_toList]; rfl
theorem cnt_tx (h : c0 ≠ c1) (bs : List Bool) : Txt.count (tx c0 c1 bs) ⟨#[c0]⟩ = ns bs ∧ Txt.count (tx c0 c1 bs) ⟨#[c1]⟩ = nu bs := by
  rw [PyProof.Rows.count_is, PyProof.Rows.count_is, tx_list]
  have key : ∀ c, PyProof.Rows.cnt c (bs.map fun b => if b = true then c0 else c1) = (if c = c0 then ns bs else 0) + (if c = c1 then nu bs else 0) := by
    intro c
    induction bs with
    | nil => simp [PyProof.Rows.cnt_nil, ns_nil, nu_nil]
    | cons b bs ih =>
      rw [List.map_cons, PyProof.Rows.cnt_cons, ih, ns_cons, nu_cons]
      cases b
      · by_cases e0 : c = c0
        · subst e0
          by_cases e1 : c1 = c
          · exact (h e1.symm).elim
          · simp [e1, Ne.symm e1, h]
        · by_cases e1 : c1 = c
          · subst e1; simp [e0]; omega
          · simp [e0, e1, Ne.symm e1]
      · by_cases e0 : c0 = c
        · subst e0; simp [h]; omega
        · simp [e0, Ne.symm e0]
  constructor
  · have := key c0
    rw [if_pos rfl, if_neg h, Int.add_zero] at this
    exact this
  · have := key c1
    rw [if_pos rfl, if_neg (Ne.symm h), Int.zero_add] at this
    exact this
end
section
variable {X : Cx} {w : Bool} {e a b : Expr} {δ : List Sl} {P : PyData → Prop} {pos : Pos}
theorem mtD_count {x y : Str} (p : P (.int (Txt.count x y))) : mtD X "str.count" (.str x) [.str y] P := fun W H v vs Q cov d1 dd q => by
  have hv := d1.str_v
  subst hv
  obtain ⟨v, ws, rfl, h1, h2⟩ := dd.cons_v
  obtain rfl := h2.nil_v
  have hv := h1.str_v
  subst hv
  exact mtR.of mt_count ⟨x, y, rfl, rfl, q _ H _ p (Same.refl _) (.int _)⟩
theorem range_all : ∀ L : List Nat, (List.range L.length).filterMap (fun j => L[j]?) = L
  | [] => rfl
  | x :: L => by
    rw [List.length_cons, List.range_succ_eq_map, List.filterMap_cons]
    show x :: _ = _
    refine congrArg _ ?_
    rw [List.filterMap_map]
    exact range_all L
theorem str_pick (z : Str) : (Builtin.Str.strSliceIndices none none (-1) z.length).filterMap (z.cps[·]?) = z.cps.toList.reverse := by
  have e1 : Builtin.Str.strSliceIndices none none (-1) z.length = (List.range z.length).map fun k => z.length - 1 - k := by
    unfold Builtin.Str.strSliceIndices sliceRange
    simp only [show ¬ ((-1 : Int) > 0) by decide, if_false]
    by_cases c : z.length = 0
    · rw [c]; rfl
    · rw [if_pos (by omega)]
      have : (((z.length : Int) - 1 - -1 - -1 - 1) / (- -1)).toNat = z.length := by
        rw [show (- -1 : Int) = 1 by decide, Int.ediv_one]; omega
      rw [this]
      refine List.map_congr_left fun k hk => ?_
      have := List.mem_range.mp hk
      omega
  rw [e1, List.filterMap_map]
  have k1 : (List.range z.length).filterMap (fun k => z.cps[z.length - 1 - k]?) = z.cps.toList.reverse := by
    rw [show (fun k => z.cps[z.length - 1 - k]?) = (fun j => z.cps.toList[j]?) ∘ (fun k => z.length - 1 - k) by funext k; simp, ← List.filterMap_map]
    have hn : z.length = z.cps.toList.length := (Array.length_toList).symm
    rw [hn]
    generalize z.cps.toList = L
    have e2 : (List.range L.length).map (fun k => L.length - 1 - k) = (List.range L.length).reverse := by
      apply List.ext_getElem?
      intro i
      by_cases c : i < L.length
      · rw [List.getElem?_map, List.getElem?_range c, List.getElem?_reverse (by rw [List.length_range]; exact c), List.length_range, List.getElem?_range (by omega)]; rfl
      · rw [List.getElem?_eq_none (by simp; omega), List.getElem?_eq_none (by simp; omega)]
    rw [e2, List.filterMap_reverse]
    refine congrArg _ ?_
    exact range_all L
  exact k1
def tBackS (te : TE) : TE := fun σ H Q => te σ H fun x H1 => ∃ z, x = .str z ∧ z.length ≤ sizeLine ∧ Q (.str ⟨z.cps.toList.reverse.toArray⟩) H1
theorem pe_backS {X : Cx} {e : Expr} {te : TE} {k : Nat} {p1 p2 p3 pos : Pos} (he : PE X e te) : PE X (.Subscript e (.Slice none none (some (.UnaryOp .USub (.Constant (.int 1) k p1) p2)) p3) pos) (tBackS te) := by
  refine ⟨fun pins z0 σ G0 Q J0 h => ?_⟩
  refine PyProof.Rows.Subscript_ (thn (he.run pins z0 σ G0 _ J0 h) fun v z1 ⟨x, G1, J1, r1, q1⟩ => ?_)
  obtain ⟨z, rfl, hz, q⟩ := q1
  obtain ⟨t, rfl⟩ := r1
  have stp : PO X (some (.UnaryOp .USub (.Constant (.int 1) k p1) p2)) (tPart (tUn (rU fun i => .int (-i)) (tC (.int 1)))) := po_some (pe_un un_neg pe_int)
  refine wpAny_Slice (thn (po_none.run pins z1 σ G1 (fun o H2 => o = none ∧ H2 = G1) J1 ⟨rfl, rfl⟩) fun vl z2 ⟨l, G2, J2, pl, el, e2⟩ => ?_)
  subst el e2
  refine thn (po_none.run pins z2 σ G2 (fun o H3 => o = none ∧ H3 = G2) J2 ⟨rfl, rfl⟩) fun vu z3 ⟨u, G3, J3, pu, eu, e3⟩ => ?_
  subst eu e3
  refine thn (stp.run pins z3 σ G3 (fun o H4 => o = some (-1) ∧ H4 = G3) J3 ⟨1, rfl, -1, rfl, rfl, rfl⟩) fun vs z4 ⟨o, G4, J4, ps, eo, e4⟩ => ?_
  subst eo e4
  have J5 : Inv X pins σ G4 { z4 with heap := z4.heap.push { cls := .type "slice", data := .fields #[vl, vu, vs] } } := J4.kept (t' := z4.toks) fun b ob q => Heap.get?_push_of_some _ q
  show wpAny (model X.prog X.w) X.A (subscriptTail e (.Slice none none (some (.UnaryOp .USub (.Constant (.int 1) k p1) p2)) p3) (.str z t) (.ref z4.heap.objs.size)) (EP X pins σ Q) X.xe { z4 with heap := z4.heap.push { cls := .type "slice", data := .fields #[vl, vu, vs] } }
  refine PyProof.Rows.tail_any (ops := [.str z t, .ref z4.heap.objs.size]) (typeIs_str _ _ _) (PySem.F.slot_str_getitem.lookup) ?_ (by with_unfolding_all rfl)
  obtain ⟨os, hos, hcs, hds⟩ := Heap.IsSliceOf.new z4.heap vl vu vs
  obtain ⟨l, rfl, hl⟩ := IsPart.raw pl
  obtain ⟨u, rfl, hu⟩ := IsPart.raw pu
  obtain ⟨st, rfl, hst⟩ := IsPart.raw ps
  refine wpAny_getItem_str_slice (l := l) (u := u) (st := st) ⟨os, hos, hcs, hds⟩ (by rw [hst]; rfl) ?_
  unfold sliceMade slicePicked
  rw [hl, hu, hst]
  show Made.post (if ((-1 : Int) == 1 && _) = true then _ else Made.str ⟨((Builtin.Str.strSliceIndices none none (-1) z.length).filterMap (z.cps[·]?)).toArray⟩) _ _
  rw [show ((-1 : Int) == 1) = false by decide, Bool.false_and, if_neg Bool.false_ne_true, str_pick]
  refine ⟨?_, .str _, G4, J5.tok _, ⟨_, rfl⟩, q⟩
  show (List.toArray _).size ≤ sizeLine
  rw [List.size_toArray, List.length_reverse, Array.length_toList]; exact hz
theorem wE_backS {k : Nat} {p1 p2 p3 : Pos} (h : wE X w e δ fun d => ∃ z : Str, d = .str z ∧ z.length ≤ 100000 ∧ P (.str ⟨z.cps.toList.reverse.toArray⟩)) : wE X w (.Subscript e (.Slice none none (some (.UnaryOp .USub (.Constant (.int 1) k p1) p2)) p3) pos) δ P := fun M H0 σ H R Q q => by
  refine sE.of (pe_backS sE.pe) ?_
  refine h M H0 σ H R _ fun v H1 d p k1 d1 => ?_
  obtain ⟨z, rfl, hz, p⟩ := p
  rw [d1.str_v]
  exact ⟨z, rfl, line_of hz, q _ _ _ p k1 (.str _)⟩
theorem wE_dict2 {ka kb va vb : Str} {i1 i2 i3 i4 : Nat} {p1 p2 p3 p4 pd : Pos} (hu : X.A.units + 1 < cLine) (h : wE X w e δ fun d => ∃ z r : Str, d = .str z ∧ valV (mergeK [] [(Sum.inr ka, V.str va), (Sum.inr kb, V.str vb)]) (Sum.inr z) = some (.str r) ∧ P (.str r)) (hs : NoSl e := by intro _ _; rfl) :
    wE X w (.Subscript (.Dict [some (.Constant (.str ka) i1 p1), some (.Constant (.str kb) i2 p2)] [.Constant (.str va) i3 p3, .Constant (.str vb) i4 p4] pd) e pos) δ P := fun M H0 σ H R Q q => by
  refine sE.of (pe_dget hu (pe_disp (pps_cons pe_str pe_str (pps_cons pe_str pe_str pps_nil)) rfl rfl (by simp) (by show 2 ≤ 15; omega)) sE.pe hs) ?_
  intro p np
  refine ⟨upd_same, [(Sum.inr ka, V.str va), (Sum.inr kb, V.str vb)], rfl, by show 2 ≤ 15; omega, ?_⟩
  generalize mergeK [] [(Sum.inr ka, V.str va), (Sum.inr kb, V.str vb)] = kvs at h
  have s : Same H (upd (upd H p (.dK [])) p (.dK kvs)) := fun x o ex => by
    have nx : x ≠ p := fun z => by rw [z, np] at ex; cases ex
    rw [upd_ne nx, upd_ne nx]; exact ex
  have k0 : Kp M H (upd (upd H p (.dK [])) p (.dK kvs)) := Kp.same R.bagOk s
  have hp0 : (upd (upd H p (.dK [])) p (.dK kvs)) p = some (.dK kvs) := upd_same
  have Rm := R.plus np k0.sb k0.bk (by rw [hp0]; exact fun z => by cases z)
  generalize upd (upd H p (.dK [])) p (.dK kvs) = H1 at s k0 hp0 Rm
  refine h (M.plus p) H0 σ H1 Rm _ fun v H2 d pp k1 d1 => ?_
  obtain ⟨z, r, rfl, hv, pr'⟩ := pp
  rw [d1.str_v]
  have hp2 : H2 p = some (.dK kvs) := by
    refine k1.sb p _ (fun zz => ?_) hp0
    obtain ⟨b0, b1, b2, cells, e', _⟩ := (k0.bk p zz).2.ex
    rw [hp0] at e'; cases e'
  refine ⟨p, .str r, rfl, ?_, q _ _ _ pr' (k0.trans ⟨k1.sb, k1.bk.unplus k0.bk⟩) (.str _)⟩
  have g := DGet.k (k := Sum.inr z) hp2
  rw [hv] at g
  exact g
end
end YV

namespace YL
open PySem PySem.Spec L2 YV
open PyProof.Rows (subscriptTail envOfC)
section
variable {Pg : Program} {w : World} {K : PySem.W.Frag} {mg : Str → Option Value} {base : Heap}
theorem ok_law_take {f : Addr} {fd : FuncData} {k : Nat} (F : Fun K "_law_take" "_law_take" s_law_take f fd) (mi : mg "int" = none) : FnOk Pg w K mg base CX0 (k + 1) f fd ["bag", "many"] (spD K true 1 FTake) := by
  refine F.ok sc_law_take (fun vs H Q E h => ?_) (fun cdv A outer s H vs Q E hr h => ?_)
  · obtain ⟨M, ds, ws, P, _, _, ⟨b, _, hv⟩, hl, hd, _⟩ := h
    rw [if_pos rfl] at hv
    rw [hv, List.length_cons, hd.len, hl]; rfl
  · obtain ⟨M, ds, ws, P, cov, bk, ⟨b, hb, hv⟩, hl, hd, ⟨m, rfl, hm0, hm1, hP⟩, q⟩ := h
    rw [if_pos rfl] at hb hv
    obtain ⟨v, ws', rfl, hd1, hd2⟩ := hd.cons_v
    obtain rfl := hd2.nil_v
    obtain rfl := hd1.int_v
    subst hv
    obtain ⟨hA, ⟨b0, b1, b2, cells, f1, f2, f3, f4, g0, g1, g2, g3, f5, f6⟩⟩ := bk b hb
    refine ⟨_, Evl.pss_cut (ps_if (pt_cmpR op_eq (pe_ix ix_list (pv 0) pe_int (fun _ _ => rfl)) pe_int (nomark _))
        (pss_cons (ps_set (i := 2) sc_law_take.nd rfl (.inl rfl) (pe_ix ix_list (pe_op op_cat (pe_slice sl_list (pe_ix ix_list (pv 0) pe_int (fun _ _ => rfl)) (po_some (pe_ix ix_list (pv 0) pe_int (fun _ _ => rfl))) po_none) (pe_lst (pa_cons pe_int pa_nil))) pe_int (fun _ _ => rfl)))
        (pss_cons (ps_augS (pv 0) pe_int get_list pe_int ip_add set_list)
        (Evl.pss_cut (ps_if (pt_cmpR op_ge (pv 2) (pe_op op_pow pe_int pe_int) (nomark _)) (pss_one (ps_asg (pv 2) (pg_sub (pv 0) pe_int set_list))) pss_nil)
        (pss_cons (ps_set (i := 3) sc_law_take.nd rfl (.inl rfl) (pe_op op_add (pe_op op_add (pe_op op_mul (pe_ix ix_list (pv 0) pe_int (fun _ _ => rfl)) pe_int) (pe_op op_mod (pe_callTy call_int1 (by rfl) mi PyProof.Rows.boot_int (pa_cons (pv 2) pa_nil)) pe_int)) (pe_op op_mul pe_int (pe_ix ix_list (pv 0) pe_int (fun _ _ => rfl)))))
        (pss_one (ps_asg (pe_op op_mod (pe_callTy call_int1 (by rfl) mi PyProof.Rows.boot_int (pa_cons (pv 3) pa_nil)) pe_int) (pg_sub (pv 0) pe_int set_list))))))) pss_nil)
      (pss_cons (ps_if (pt_cmpR op_gt (pe_ix ix_list (pv 0) pe_int (fun _ _ => rfl)) pe_int (nomark _))
        (pss_cons (ps_set (i := 4) sc_law_take.nd rfl (.inl rfl) (pe_op op_mod (pe_callTy call_int1 (by rfl) mi PyProof.Rows.boot_int (pa_cons (pe_ix ix_list (pv 0) pe_int (fun _ _ => rfl)) pa_nil)) (pv 1)))
        (pss_cons (ps_asg (pe_op op_fdiv (pe_callTy call_int1 (by rfl) mi PyProof.Rows.boot_int (pa_cons (pe_ix ix_list (pv 0) pe_int (fun _ _ => rfl)) pa_nil)) (pv 1)) (pg_sub (pv 0) pe_int set_list))
        (pss_one (ps_ret (pv 4))))) pss_nil)
      (pss_cons (ps_set (i := 5) sc_law_take.nd rfl (.inl rfl) (pe_op op_mod (pe_callTy call_int1 (by rfl) mi PyProof.Rows.boot_int (pa_cons (pe_op op_mul (pe_op op_add (pe_ix ix_list (pv 0) pe_int (fun _ _ => rfl)) pe_int) pe_int) pa_nil)) pe_int))
      (pss_cons (ps_set (i := 6) sc_law_take.nd rfl (.inl rfl) (pe_op op_mod (pe_callTy call_int1 (by rfl) mi PyProof.Rows.boot_int (pa_cons (pe_op op_mul (pe_op op_mod (pe_callTy call_int1 (by rfl) mi PyProof.Rows.boot_int (pa_cons (pe_op op_mul (pv 5) (pv 5)) pa_nil)) pe_int) pe_int) pa_nil)) pe_int))
      (pss_one (ps_ret (pe_op op_mod (pe_callTy call_int1 (by rfl) mi PyProof.Rows.boot_int (pa_cons (pe_op op_fdiv (pv 6) pe_int) pa_nil)) (pv 1))))))), ?_⟩
    have at0 : ∀ {H' : Hp} {c0 c1 c2 : Int} {σ : L2.St}, H' b = some (.lst [.int c0, .int c1, .int c2, .ref M.c]) → σ[0]? = some (some (.ref b)) → Val (tOp (rIxL K) (tVar 0) (tC (.int 0))) σ H' (.int c0) := fun h1 h2 => val_ix h1 h2 rfl
    have at1 : ∀ {H' : Hp} {c0 c1 c2 : Int} {σ : L2.St}, H' b = some (.lst [.int c0, .int c1, .int c2, .ref M.c]) → σ[0]? = some (some (.ref b)) → Val (tOp (rIxL K) (tVar 0) (tC (.int 1))) σ H' (.int c1) := fun h1 h2 => val_ix h1 h2 rfl
    have at2 : ∀ {H' : Hp} {c0 c1 c2 : Int} {σ : L2.St}, H' b = some (.lst [.int c0, .int c1, .int c2, .ref M.c]) → σ[0]? = some (some (.ref b)) → Val (tOp (rIxL K) (tVar 0) (tC (.int 2))) σ H' (.int c2) := fun h1 h2 => val_ix h1 h2 rfl
    refine ⟨fun σ' H' => ∃ c0 c1 c2 y2 y3, σ' = [some (.ref b), some (.int m), y2, y3, none, none, none] ∧ Sb (some b) H H' ∧ H' b = some (.lst [.int c0, .int c1, .int c2, .ref M.c]) ∧ 0 ≤ c0 ∧ 0 ≤ c1 ∧ c1 < 2147483647 ∧ 0 ≤ c2, ?_, ?_⟩
    · by_cases h00 : b0 = 0
      · refine st_yes (ans_eq (at0 f1 rfl) val_c rfl (by rw [h00]; rfl)) ?_
        refine ⟨_, rfl, b, _, 3, _, rfl, rfl, SqL.of f1, rfl, ?_⟩
        refine at2 f1 rfl _ ?_
        refine ⟨b2, rfl, ?_⟩
        refine ⟨M.c, _, rfl, SqL.of f2, fun p1 n1 => ?_⟩
        refine ⟨by decide, fun p2 n2 => ?_⟩
        have e12 : p1 ≠ p2 := fun z => by rw [z, upd_same] at n2; cases n2
        refine ⟨p1, p2, _, _, rfl, rfl, (by rw [upd_ne e12]; exact upd_same), upd_same, ?_, fun p3 n3 => ?_⟩
        · have := cutV_length (cells.map V.int) (some b2) none
          rw [List.length_map] at this
          exact line_of (by show _ + 1 ≤ 100000; omega)
        have s3 : Same H (upd (upd (upd H p1 (.lst (cutV (cells.map V.int) (some b2) none))) p2 (.lst [.int 0])) p3 (.lst (cutV (cells.map V.int) (some b2) none ++ [.int 0]))) := ((same_upd n1).trans (same_upd n2)).trans (same_upd n3)
        have hcell : ∃ cell : Int, 0 ≤ cell ∧ (cutV (cells.map V.int) (some b2) none ++ [.int 0])[0]? = some (.int cell) := by
          unfold cutV
          cases e : ((cells.map V.int).drop (HT.sIx (cells.map V.int).length 0 (some b2))).take (HT.sIx (cells.map V.int).length (cells.map V.int).length none - HT.sIx (cells.map V.int).length 0 (some b2)) with
          | nil => exact ⟨0, by decide, rfl⟩
          | cons x r =>
            have hx : x ∈ cells.map V.int := List.mem_of_mem_drop (List.mem_of_mem_take (by rw [e]; exact List.mem_cons_self ..))
            obtain ⟨i, hi, rfl⟩ := List.mem_map.mp hx
            exact ⟨i, f5 i hi, rfl⟩
        obtain ⟨cell, hc0, hc1⟩ := hcell
        refine ⟨p3, _, 0, _, rfl, rfl, SqL.of upd_same, atI_nat (j := 0) hc1, ?_⟩
        generalize upd (upd (upd H p1 (.lst (cutV (cells.map V.int) (some b2) none))) p2 (.lst [.int 0])) p3 (.lst (cutV (cells.map V.int) (some b2) none ++ [.int 0])) = H3 at s3 ⊢
        have k1 : H3 b = some (.lst [.int b0, .int b1, .int b2, .ref M.c]) := s3 _ _ f1
        refine ⟨_, rfl, b, _, 2, _, rfl, rfl, SqL.of k1, rfl, b2, 1, rfl, rfl, b, _, 2, 2, rfl, rfl, k1, rfl, ?_⟩
        refine ⟨fun σ' H' => ∃ c0, σ' = [some (.ref b), some (.int m), some (.int cell), none, none, none, none] ∧ Sb (some b) H H' ∧ H' b = some (.lst [.int c0, .int b1, .int (b2 + 1), .ref M.c]) ∧ 0 ≤ c0, ?_, ?_⟩
        · refine ⟨_, rfl, 10, 18, rfl, rfl, ⟨by decide, by decide, by decide⟩, _, _, rfl, rfl, _, rfl, ite2 (fun _ => ?_) (fun _ => ?_)⟩
          · exact ⟨_, rfl, _, rfl, b, _, 0, 0, rfl, rfl, upd_same, rfl, cell, rfl, sb_upd (sb_upd (Same.sb s3)), upd_same, hc0⟩
          · exact ⟨b0, rfl, sb_upd (Same.sb s3), upd_same, g0⟩
        · rintro σ' H' ⟨c0, rfl, s5, k5, j0⟩
          refine ⟨_, rfl, b, _, 1, _, rfl, rfl, SqL.of k5, rfl, b1, 48271, rfl, rfl, .inr (by decide), _, rfl, .inl ⟨cell, rfl, cell, 2147483647, rfl, rfl, (show (0 : Int) < 2147483647 by decide), _, _, rfl, rfl, ?_⟩⟩
          refine ⟨_, rfl, b, _, 2, _, rfl, rfl, SqL.of k5, rfl, 7919, b2 + 1, rfl, rfl, .inl (by decide), _, _, rfl, rfl, ?_⟩
          refine ⟨_, rfl, .inl ⟨_, rfl, _, 2147483647, rfl, rfl, (show (0 : Int) < 2147483647 by decide), _, rfl, b, _, 1, 1, rfl, rfl, k5, rfl, ?_⟩⟩
          refine ⟨c0, _, b2 + 1, some (.int cell), _, rfl, sb_upd s5, upd_same, j0, (mod_pos (by decide)).1, (mod_pos (by decide)).2, by omega⟩
      · refine st_no (ans_eq (at0 f1 rfl) val_c rfl (by exact decide_eq_false fun z => h00 (V.int.inj z))) ?_
        exact ⟨b0, b1, b2, none, none, rfl, Sb.refl _ _, f1, g0, g1, g2, g3⟩
    · rintro σ' H' ⟨c0, c1, c2, y2, y3, rfl, s1, k1, i0, i1, i2, i3⟩
      by_cases hp : 0 < c0
      · refine st_yes (ans_cmp (at0 k1 rfl) val_c (b := true) fun Q q => ⟨_, _, rfl, rfl, (show Q (.bl (decide (0 < c0))) _ by rw [decide_eq_true hp]; exact q)⟩) ?_
        refine ⟨_, rfl, b, _, 0, _, rfl, rfl, SqL.of k1, rfl, .inl ⟨c0, rfl, _, rfl, c0, m, rfl, rfl, hm0, ?_⟩⟩
        refine ⟨_, rfl, b, _, 0, _, rfl, rfl, SqL.of k1, rfl, .inl ⟨c0, rfl, _, rfl, c0, m, rfl, rfl, ⟨hm0, hm1⟩, _, rfl, b, _, 0, 0, rfl, rfl, k1, rfl, _, rfl, ?_⟩⟩
        exact q _ _ (.int (c0 % m)) (hP _ (mod_pos hm0).1 (mod_pos hm0).2) (Kp.bag bk hb (sb_upd s1) upd_same (Int.ediv_nonneg i0 (by omega)) i1 i2 i3) (.int _)
      · refine st_no (ans_cmp (at0 k1 rfl) val_c (b := false) fun Q q => ⟨_, _, rfl, rfl, (show Q (.bl (decide (0 < c0))) _ by rw [decide_eq_false hp]; exact q)⟩) ?_
        refine ⟨_, rfl, b, _, 1, _, rfl, rfl, SqL.of k1, rfl, c1, 1, rfl, rfl, c1 + 1, 39373, rfl, rfl, .inr (by decide), .inl ⟨_, rfl, _, 1000000007, rfl, rfl, (show (0 : Int) < 1000000007 by decide), ?_⟩⟩
        have hbg := mod_pos (a := (c1 + 1) * 39373) (m := 1000000007) (by decide)
        refine ⟨_, rfl, _, rfl, _, _, rfl, rfl, .inl ⟨by omega, by omega⟩, .inl ⟨_, rfl, _, 998244353, rfl, rfl, (show (0 : Int) < 998244353 by decide), _, 30011, rfl, rfl, .inr (by decide), .inl ⟨_, rfl, _, 998244353, rfl, rfl, (show (0 : Int) < 998244353 by decide), ?_⟩⟩⟩
        refine ⟨_, rfl, _, 7, rfl, rfl, ⟨by decide, by decide⟩, .inl ⟨_, rfl, _, rfl, _, m, rfl, rfl, hm0, ?_⟩⟩
        exact q _ _ (.int _) (hP _ (mod_pos hm0).1 (mod_pos hm0).2) (Kp.bag bk hb s1 k1 i0 i1 i2 i3) (.int _)
theorem ok_law_some {f : Addr} {fd : FuncData} {k : Nat} (Fn : Fun K "_law_some" "_law_some" s_law_some f fd) (Ct : Cal Pg w K mg base "_law_take" k true 1 FTake) (ml : mg "len" = none) : FnG Pg w K mg base CX0 (k + 1) f fd ["bag", "things"] (spD K true 1 FSome) := by
  refine fn_D (N := n_law_some) (m := 0) Fn sc_law_some rfl rfl fun cdv A outer s H E hg hr ds P hl hF => ?_
  rcases hF with ⟨xs, hd, h0, h1, hP⟩ | ⟨z, rfl, h0, h1, hP⟩
  · have go : ∀ d, (d = .list xs ∨ d = .tuple xs) → wSs (cxOf CX0 Pg w K mg base n_law_some "_law_some" (defScope s_law_some) f cdv A outer s H E).nox (defBody s_law_some) { nx := fun _ => P .none, rt := P } [Sl.bag, Sl.dat d] := fun d hd => by
      refine wSs_one (wS_ret (wE_ix (wE_dat (i := 1) rfl ?_)))
      refine wE_callB (i := 0) Ct hg hr (Nat.le_refl _) rfl (wA_cons (wE_len ml (wE_dat (i := 1) rfl (.inl ⟨xs, hd, wA_nil ⟨rfl, xs.length, rfl, by omega, by omega, fun r r0 r1 => ?_⟩⟩))))
      obtain ⟨n, rfl⟩ : ∃ n : Nat, r = n := ⟨r.toNat, by omega⟩
      have hn : n < xs.length := by omega
      have e : atI xs (n : Int) = some xs[n] := atI_nat (List.getElem?_eq_getElem hn)
      rcases hd with rfl | rfl
      · exact ixD_list e (hP _ (List.getElem_mem hn))
      · exact ixD_tup e (hP _ (List.getElem_mem hn))
    rcases hd with rfl | rfl
    · exact go _ (.inl rfl)
    · exact go _ (.inr rfl)
  · show wSs _ _ _ [Sl.bag, Sl.dat (.str z)]
    refine wSs_one (wS_ret (wE_ix (wE_dat (i := 1) rfl ?_)))
    refine wE_callB (i := 0) Ct hg hr (Nat.le_refl _) rfl (wA_cons (wE_len ml (wE_dat (i := 1) rfl (.inr ⟨z, rfl, by omega, wA_nil ⟨rfl, z.length, rfl, by omega, by omega, fun r r0 r1 => ?_⟩⟩))))
    obtain ⟨n, rfl⟩ : ∃ n : Nat, r = n := ⟨r.toNat, by omega⟩
    have hn : n < z.cps.toList.length := by
      have : z.length = z.cps.toList.length := Array.length_toList.symm
      omega
    exact ixD_str (by omega) (atI_nat (List.getElem?_eq_getElem hn)) (hP _ (List.getElem_mem hn))
theorem ok_law_alike {f : Addr} {fd : FuncData} {k : Nat} (Fn : Fun K "_law_alike" "_law_alike" s_law_alike f fd) (mr : mg "repr" = none) : FnG Pg w K mg base CX0 (k + 1) f fd ["found", "due"] (spD K false 2 FAlike) := by
  refine fn_D (N := n_law_alike) (m := 0) Fn sc_law_alike rfl rfl fun cdv A outer s H E hg hr ds P hl hF => ?_
  obtain ⟨x, rfl, nx, hP⟩ := hF
  show wSs _ _ _ [Sl.dat x, Sl.dat x]
  refine wSs_one (wS_ret (wE_and (wE_cmp (wE_dat (i := 0) rfl (wE_dat (i := 1) rfl (opD_eqD hr.units nx.sh nx.sh ⟨true, by rw [nx.eqv], fun _ => wE_one ?_, fun e => by cases e⟩))))))
  refine wE_cmp (wE_bi1 PyProof.Rows.boot_repr mr (wE_dat (i := 0) rfl (caD_repr hr.un hg nx ?_)))
  refine wE_bi1 PyProof.Rows.boot_repr mr (wE_dat (i := 1) rfl (caD_repr hr.un hg nx (opD_eqS ?_)))
  rw [decide_eq_true rfl]
  exact hP
end
end YL

namespace YV
open PySem PySem.Spec L2
open PyProof.Rows (subscriptTail envOfC)
section
variable {X : Cx} {e : Expr} {δ : List Sl} {E : EndsD} {pos : Pos}
theorem wS_augI {i : Nat} {x : Str} {op : Operator} {g : Int → Int → Int} {a : Int} {p1 : Pos} (hop : PIp X op (ipI g)) (hd : δ[i]? = some (.dat (.int a))) (h : wE X true e δ fun d => ∃ b, d = .int b ∧ E.nx (δ.set i (.dat (.int (g a b))))) (hN : X.N.Nodup)
    (hx : X.N[i]? = some x := by rfl) (hL : Loc X.env.scope x := by first | exact Or.inl rfl | exact Or.inr rfl) (hf : X.fn x = true ∨ X.env.scope.names.lookup x = some .local := by first | exact .inl rfl | exact .inr rfl) : wS X (.AugAssign (.Name x p1) op e pos) E δ := fun M H0 σ H R => by
  obtain ⟨v, e1, h1⟩ := R.dat i _ hd
  obtain rfl := h1.int_v
  refine sS.of (ps_aug hN hx hL sE.pe hop) ⟨_, e1, ?_⟩
  refine h M H0 σ H R _ fun u H' d p k dd => ?_
  obtain ⟨b, rfl, p⟩ := p
  obtain rfl := dd.int_v
  exact ⟨a, b, rfl, rfl, _, p, (R.kp k).setDat (List.getElem?_eq_some_iff.mp hd).1 (.int _)⟩
theorem wS_par3 {i j k : Nat} {x y z : Str} {a b c : Expr} {px py pz pt : Pos} {kt k2 : Nat} {pt2 : Pos} (h : wX X a δ fun s1 => wE X true b δ fun d2 => wE X true c δ fun d3 => E.nx (((δ.set i s1).set j (.dat d2)).set k (.dat d3))) (hN : X.N.Nodup) (hi : i < δ.length := by simp) (hj : j < δ.length := by simp) (hk : k < δ.length := by simp)
    (hij : i ≠ j := by decide) (hik : i ≠ k := by decide) (hjk : j ≠ k := by decide) (hc : X.calm = true := by rfl) (hx : X.N[i]? = some x := by rfl) (hy : X.N[j]? = some y := by rfl) (hz : X.N[k]? = some z := by rfl) (hxl : X.env.scope.names.lookup x = some .local := by rfl) (hyl : X.env.scope.names.lookup y = some .local := by rfl) (hzl : X.env.scope.names.lookup z = some .local := by rfl)
    (hw : swappedStores [.Tuple [.Name x px, .Name y py, .Name z pz] kt pt] (.Tuple [a, b, c] k2 pt2) X.env = pure (some [x, y, z]) := by rfl)
    (hs : swapsWithSole [.Tuple [.Name x px, .Name y py, .Name z pz] kt pt] (.Tuple [a, b, c] k2 pt2) pos.line X.env = pure false := by rfl)
    (ha1 : starEach [a, b, c] X.env = (false, eval a X.env) :: starEach [b, c] X.env := by rfl) (ha2 : starEach [b, c] X.env = (false, eval b X.env) :: starEach [c] X.env := by rfl) (ha3 : starEach [c] X.env = (false, eval c X.env) :: starEach [] X.env := by rfl) :
    wS X (.Assign [.Tuple [.Name x px, .Name y py, .Name z pz] kt pt] (.Tuple [a, b, c] k2 pt2) pos) E δ := fun M H0 σ H R => by
  refine sS.of (ps_par3 hc hN hx hy hz hij hik hjk hxl hyl hzl (pa_cons sE.pe (pa_cons sE.pe (pa_cons sE.pe pa_nil ha3) ha2) ha1) hw hs) ?_
  refine h M H0 σ H R _ fun v H1 s1 p1 k1 c1 => ?_
  have fin : ∀ (M' : Amb) (u t : V) (H2 H3 : Hp) (d2 d3 : PyData), (∀ a, Wd M (δ.set i s1) true a → Wd M' δ true a) → Rp X.K M H0 (δ.set i s1) (σ.set i (some v)) H1 → Kp M H1 H2 → Kp M H2 H3 → D X.K (hid (Wd M' δ true) H2) u d2 → D X.K (hid (Wd M' δ true) H3) t d3 → Same (hid (Wd M' δ true) H2) (hid (Wd M' δ true) H3) →
      Rp X.K M H0 (((δ.set i s1).set j (.dat d2)).set k (.dat d3)) (((σ.set i (some v)).set j (some u)).set k (some t)) H3 := fun M' u t H2 H3 d2 d3 lt R1 k2 k3 e2 e3 up => by
    have R2 := ((R1.kp k2).kp k3).setDat (i := j) (by rw [List.length_set]; exact hj) ((e2.up up).up (hid_sub lt))
    refine R2.setDat (i := k) (by rw [List.length_set, List.length_set]; exact hk) (e3.up (hid_sub fun a q => lt a ?_))
    rcases q with q | ⟨_, m, es, q⟩
    · exact .inl q
    · rcases get_set q with ⟨_, q⟩ | ⟨n, q⟩
      · cases q
      · exact .inr ⟨rfl, m, es, q⟩
  cases s1 with
  | no => cases c1
  | bag => cases c1
  | dat d =>
    have lt : ∀ a, Wd M (δ.set i (.dat d)) true a → Wd M δ true a := Wd.sub fun m l ds h1 => by
      rcases get_set h1 with ⟨_, q⟩ | ⟨n, q⟩
      · cases q
      · exact ⟨m, ds, q⟩
    refine p1 M H0 σ H1 (R.kp k1) _ fun u H2 d2 p2 k2 e2 => ?_
    refine p2 M H0 σ H2 ((R.kp k1).kp k2) _ fun t H3 d3 p3 k3 e3 => ⟨v, u, t, rfl, _, p3, ?_⟩
    exact fin M u t H2 H3 d2 d3 lt (R.setSl k1 c1 hi) k2 k3 e2 e3 (upK k3)
  | own l ds =>
    have c1' := id c1
    obtain ⟨rfl, nl, xs, hl, hd⟩ := c1
    have Rm := R.plus nl k1.sb k1.bk (by rw [hl]; exact fun z => by cases z)
    have lt : ∀ a, Wd M (δ.set i (.own l ds)) true a → Wd (M.plus l) δ true a := by
      rintro a (q | ⟨_, m, es, h1⟩)
      · exact .inl (.inl q)
      · rcases get_set h1 with ⟨_, q⟩ | ⟨n, q⟩
        · cases q; exact .inl (.inr rfl)
        · exact .inr ⟨rfl, m, es, q⟩
    refine p1 (M.plus l) H0 σ H1 Rm _ fun u H2 d2 p2 k2 e2 => ?_
    refine p2 (M.plus l) H0 σ H2 (Rm.kp k2) _ fun t H3 d3 p3 k3 e3 => ⟨_, u, t, rfl, _, p3, ?_⟩
    have k2' : Kp M H1 H2 := ⟨k2.sb, k2.bk.unplus k1.bk⟩
    have k3' : Kp M H2 H3 := ⟨k3.sb, k3.bk.unplus k2'.bk⟩
    exact fin (M.plus l) u t H2 H3 d2 d3 lt (R.setSl k1 c1' hi) k2' k3' e2 e3 (upK k3)
end
end YV

namespace YV
open PySem PySem.Spec L2
open PyProof.Rows (subscriptTail envOfC)
section
variable {X : Cx} {elt iter : Expr} {scope : Scope} {pos tp : Pos} {δ : List Sl} {x : Str} {v : Nat} {α β : Type}
theorem wF_mapP {Q : α → β → Prop} {P : List PyData → Prop} (hN : X.N.Nodup)
    (h : wI X false (.Name x tp) iter δ fun ds => ∃ (L : List α) (g : α → PyData) (f : β → PyData), ds = L.map g ∧ L.length ≤ 100000 ∧ (∀ a ∈ L, ∀ X', BlkOf X scope X' → wE X' true elt ((wipeD δ [v]).set v (.dat (g a))) fun d => ∃ b, d = f b ∧ Q a b) ∧
      ∀ ys : List β, ys.length = L.length → (∀ (i : Nat) a b, L[i]? = some a → ys[i]? = some b → Q a b) → P (ys.map f))
    (ok : BlkOk X.N X.env.scope scope [(x, v)]) (hno : ∀ l ds, δ[v]? ≠ some (Sl.own l ds)) (hv : v < δ.length := by simp) (hx : ∀ X', BlkOf X scope X' → X'.N = X.N := by rintro X' ⟨s', H', C, cl, fp, rfl⟩; rfl)
    (hxN : X.N[v]? = some x := by rfl) (hL : ∀ X', BlkOf X scope X' → Loc X'.env.scope x := by rintro X' ⟨s', H', C, cl, fp, rfl⟩; first | exact Or.inl rfl | exact Or.inr rfl)
    (hf : ∀ X', BlkOf X scope X' → X'.fn x = true ∨ X'.env.scope.names.lookup x = some .local := by rintro X' ⟨s', H', C, cl, fp, rfl⟩; first | exact .inl rfl | exact .inr rfl)
    (hc : X.calm = true := by rfl) (hs : ∀ x, foldedSetIterable iter X.env x = pure x := by intro _; rfl) : wF X (.ListComp elt [⟨.Name x tp, iter, [], 0⟩] scope pos) δ P := by
  refine wF_comp (own := [(x, v)]) (js := [v]) hN ?_ ok (fun _ h => h) (fun w hw l ds e => ?_) hc hs
  · intro M H0 σ H R Rr q
    refine h M H0 σ H R _ fun J H1 ds p k hJ => q J H1 ds ?_ k hJ
    obtain ⟨L, g, f, rfl, hl, step, fin⟩ := p
    refine ⟨fun i acc => ∃ ys : List β, acc = ys.map f ∧ ys.length = i ∧ ∀ (j : Nat) a b, L[j]? = some a → ys[j]? = some b → Q a b, ⟨[], rfl, rfl, fun j a b _ e => by cases e⟩, by rw [List.length_map]; exact hl, ?_, ?_⟩
    · rintro i y acc hy ⟨ys, rfl, hi, hq⟩ X' hX
      rw [List.getElem?_map] at hy
      obtain ⟨a, ha, rfl⟩ : ∃ a, L[i]? = some a ∧ y = g a := by
        cases e : L[i]? with
        | none => rw [e] at hy; cases hy
        | some a => rw [e] at hy; exact ⟨a, rfl, (Option.some.inj hy).symm⟩
      refine wG_name (i := v) (fun X' hX => wTs_nil ⟨fun _ X' hX => ?_, fun e => by cases e⟩) (by rw [hx X' hX]; exact hN) (by rw [wipeD_len]; exact hv) (by rw [hx X' hX]; exact hxN) (hL X' hX) (hf X' hX)
      refine (step a (List.mem_of_getElem? ha) X' hX).imp fun d hd => ?_
      obtain ⟨b, rfl, hb⟩ := hd
      refine ⟨ys ++ [b], by rw [List.map_append]; rfl, by rw [List.length_append, hi]; rfl, fun j a' b' e1 e2 => ?_⟩
      by_cases c : j < ys.length
      · rw [List.getElem?_append_left c] at e2
        exact hq j a' b' e1 e2
      · rw [List.getElem?_append_right (by omega)] at e2
        have : j = i := by
          have := (List.getElem?_eq_some_iff.mp e2).1
          simp at this; omega
        subst this
        rw [hi, Nat.sub_self] at e2
        rw [ha] at e1
        cases e1
        cases e2
        exact hb
    · rintro acc ⟨ys, rfl, hi, hq⟩
      exact fin ys (by rw [hi, List.length_map]) hq
  · rw [List.mem_singleton.mp hw] at e
    exact hno l ds e
theorem wF_map1 {P : List PyData → Prop} (hN : X.N.Nodup)
    (h : wI X false (.Name x tp) iter δ fun ds => ∃ (L : List α) (g f : α → PyData), ds = L.map g ∧ L.length ≤ 100000 ∧ (∀ a ∈ L, ∀ X', BlkOf X scope X' → wE X' true elt ((wipeD δ [v]).set v (.dat (g a))) fun d => d = f a) ∧ P (L.map f))
    (ok : BlkOk X.N X.env.scope scope [(x, v)]) (hno : ∀ l ds, δ[v]? ≠ some (Sl.own l ds)) (hv : v < δ.length := by simp) (hx : ∀ X', BlkOf X scope X' → X'.N = X.N := by rintro X' ⟨s', H', C, cl, fp, rfl⟩; rfl)
    (hxN : X.N[v]? = some x := by rfl) (hL : ∀ X', BlkOf X scope X' → Loc X'.env.scope x := by rintro X' ⟨s', H', C, cl, fp, rfl⟩; first | exact Or.inl rfl | exact Or.inr rfl)
    (hf : ∀ X', BlkOf X scope X' → X'.fn x = true ∨ X'.env.scope.names.lookup x = some .local := by rintro X' ⟨s', H', C, cl, fp, rfl⟩; first | exact .inl rfl | exact .inr rfl)
    (hc : X.calm = true := by rfl) (hs : ∀ x, foldedSetIterable iter X.env x = pure x := by intro _; rfl) : wF X (.ListComp elt [⟨.Name x tp, iter, [], 0⟩] scope pos) δ P := by
  refine wF_mapP (v := v) (Q := fun (a b : α) => a = b) hN (fun M H0 σ H R Rr q => ?_) ok hno hv hx hxN hL hf hc hs
  refine h M H0 σ H R _ fun J H1 ds p k hJ => q J H1 ds ?_ k hJ
  obtain ⟨L, g, f, e, hl, step, fin⟩ := p
  refine ⟨L, g, f, e, hl, fun a ha X' hX => (step a ha X' hX).imp fun d hd => ⟨a, hd, rfl⟩, fun ys hy hq => ?_⟩
  have : ys = L := by
    refine List.ext_getElem? fun i => ?_
    by_cases c : i < L.length
    · have h1 := List.getElem?_eq_getElem c
      have h2 := List.getElem?_eq_getElem (show i < ys.length by omega)
      rw [h1, h2, hq i _ _ h1 h2]
    · rw [List.getElem?_eq_none (by omega), List.getElem?_eq_none (by omega)]
  rw [this]; exact fin
theorem wF_filter1 {c : Expr} {P : List PyData → Prop} (hN : X.N.Nodup)
    (h : wI X false (.Name x tp) iter δ fun ds => ∃ (L : List α) (g f : α → PyData) (t : α → Bool), ds = L.map g ∧ L.length ≤ 100000 ∧ (∀ a ∈ L, ∀ X', BlkOf X scope X' → wT X' c ((wipeD δ [v]).set v (.dat (g a))) fun k => k = t a) ∧
      (∀ a ∈ L, t a = true → ∀ X', BlkOf X scope X' → wE X' true elt ((wipeD δ [v]).set v (.dat (g a))) fun d => d = f a) ∧ P ((L.filter t).map f))
    (ok : BlkOk X.N X.env.scope scope [(x, v)]) (hno : ∀ l ds, δ[v]? ≠ some (Sl.own l ds)) (hv : v < δ.length := by simp) (hx : ∀ X', BlkOf X scope X' → X'.N = X.N := by rintro X' ⟨s', H', C, cl, fp, rfl⟩; rfl)
    (hxN : X.N[v]? = some x := by rfl) (hL : ∀ X', BlkOf X scope X' → Loc X'.env.scope x := by rintro X' ⟨s', H', C, cl, fp, rfl⟩; first | exact Or.inl rfl | exact Or.inr rfl)
    (hf : ∀ X', BlkOf X scope X' → X'.fn x = true ∨ X'.env.scope.names.lookup x = some .local := by rintro X' ⟨s', H', C, cl, fp, rfl⟩; first | exact .inl rfl | exact .inr rfl)
    (hc : X.calm = true := by rfl) (hs : ∀ x, foldedSetIterable iter X.env x = pure x := by intro _; rfl) : wF X (.ListComp elt [⟨.Name x tp, iter, [c], 0⟩] scope pos) δ P := by
  refine wF_comp (own := [(x, v)]) (js := [v]) hN ?_ ok (fun _ h => h) (fun w hw l ds e => ?_) hc hs
  · intro M H0 σ H R Rr q
    refine h M H0 σ H R _ fun J H1 ds p k hJ => q J H1 ds ?_ k hJ
    obtain ⟨L, g, f, t, rfl, hl, test, step, fin⟩ := p
    refine ⟨fun i acc => acc = ((L.take i).filter t).map f, rfl, by rw [List.length_map]; exact hl, ?_, ?_⟩
    · rintro i y acc hy rfl X' hX
      rw [List.getElem?_map] at hy
      obtain ⟨a, ha, rfl⟩ : ∃ a, L[i]? = some a ∧ y = g a := by
        cases e : L[i]? with
        | none => rw [e] at hy; cases hy
        | some a => rw [e] at hy; exact ⟨a, rfl, (Option.some.inj hy).symm⟩
      have ht : L.take (i + 1) = L.take i ++ [a] := by rw [List.take_add_one, ha]; rfl
      refine wG_name (i := v) (fun X' hX => wTs_one ?_) (by rw [hx X' hX]; exact hN) (by rw [wipeD_len]; exact hv) (by rw [hx X' hX]; exact hxN) (hL X' hX) (hf X' hX)
      refine (test a (List.mem_of_getElem? ha) X' hX).imp fun k hk => ⟨fun e X' hX => ?_, fun e => ?_⟩
      · have e' : t a = true := by rw [← hk]; exact e
        refine (step a (List.mem_of_getElem? ha) e' X' hX).imp fun d hd => ?_
        show _ = ((L.take (i + 1)).filter t).map f
        rw [ht, List.filter_append, List.map_append, hd]
        simp [e']
      · have e' : t a = false := by rw [← hk]; exact e
        show _ = ((L.take (i + 1)).filter t).map f
        rw [ht, List.filter_append, List.map_append]
        simp [e']
    · rintro acc rfl
      rw [List.length_map]
      rw [List.take_length]
      exact fin
  · rw [List.mem_singleton.mp hw] at e
    exact hno l ds e
end
theorem wS_forL {X : Cx} {tg iter : Expr} {body : List Stmt} {js : List Nat} {δ : List Sl} {E : EndsD} {pos : Pos} {α : Type} (hp : PassesOwn (model X.prog X.w) X.A X.env X.xe)
    (h : wI X true tg iter δ fun ds => ∃ (L : List α) (g : α → PyData), ds = L.map g ∧ ∃ I : List α → List α → List Sl → Prop, I [] L δ ∧
      (∀ pre a suf δ', L = pre ++ a :: suf → I pre (a :: suf) δ' → wG X tg js (g a) δ' fun δ2 => wSs X body { nx := I (pre ++ [a]) suf, ct := I (pre ++ [a]) suf, bk := E.nx, rt := E.rt } δ2) ∧ ∀ δ', I L [] δ' → E.nx δ')
    (hc : X.calm = true := by rfl) (hs : ∀ x, foldedSetIterable iter X.env x = pure x := by intro _; rfl) : wS X (.For tg iter body [] pos) E δ := by
  refine wS_for (js := js) hp (fun M H0 σ H R0 R q => ?_) hc hs
  refine h M H0 σ H R0 _ fun J H1 ds p k hJ => q J H1 ds ?_ k hJ
  obtain ⟨L, g, rfl, I, i0, istep, iend⟩ := p
  refine ⟨fun i δ' => I (L.take i) (L.drop i) δ', by simpa using i0, ?_, fun δ' hI => iend δ' (by rw [List.length_map, List.take_length, List.drop_length] at hI; exact hI)⟩
  intro i x δ' hx hI
  rw [List.getElem?_map] at hx
  obtain ⟨a, ha, rfl⟩ : ∃ a, L[i]? = some a ∧ x = g a := by
    cases e : L[i]? with
    | none => rw [e] at hx; cases hx
    | some a => rw [e] at hx; exact ⟨a, rfl, (Option.some.inj hx).symm⟩
  have hi : i < L.length := (List.getElem?_eq_some_iff.mp ha).1
  have hd : L.drop i = a :: L.drop (i + 1) := by
    rw [List.drop_eq_getElem_cons hi]
    have := (List.getElem?_eq_some_iff.mp ha).2
    rw [this]
  have ht : L.take (i + 1) = L.take i ++ [a] := by rw [List.take_add_one, ha]; rfl
  have := istep (L.take i) a (L.drop (i + 1)) δ' (by rw [← hd, List.take_append_drop]) (by rw [← hd]; exact hI)
  rw [← ht] at this
  exact this
theorem tx_signs {c0 c1 : Nat} (bs : List Bool) : ((tx c0 c1 bs).cps.toList.map fun c => PyData.str ⟨#[c]⟩) = bs.map fun b => .str (tx c0 c1 [b]) := by
  rw [tx_list, List.map_map]
  refine List.map_congr_left fun b _ => ?_
  show PyData.str ⟨#[_]⟩ = PyData.str ⟨_⟩
  rfl
theorem mulOk_1 {x : Str} {n : Int} (hx : x.length = 1) (h0 : 0 ≤ n) (hn : n ≤ 100000) : MulOk x n := by
  by_cases h1 : n < 1
  · refine ⟨?_, fun h => absurd h1 h, fun h => absurd h1 h⟩
    rw [decide_eq_false (by omega), decide_eq_false (by omega)]; rfl
  · refine ⟨?_, fun _ _ => ?_, fun _ _ => notLong ?_⟩
    · rw [decide_eq_false (by omega), decide_eq_false (by omega)]; rfl
    · rw [hx]
      have := Int.le_ediv_of_mul_le (c := n) (a := 1) (b := 2 ^ 63 - 1) (by omega) (by omega)
      omega
    · rw [hx]; omega
theorem mulOk_b {x : Str} {n : Int} {b : Nat} (hx : x.length ≤ b) (hb : b ≤ 100) (h0 : 0 ≤ n) (hn : n ≤ 1000) : MulOk x n := mulOk_small (by omega) h0 hn
end YV

namespace YV
open PySem PySem.Spec L2
open PyProof.Rows (subscriptTail envOfC)
def spBag (K : PySem.W.Frag) : Sp := fun vs H Q _ => ∃ (a : Addr) (ns : List Int), vs = [.ref a] ∧ SqL K H a (ns.map V.int) ∧ ns.length ≤ 63 ∧ ∀ (b c : Addr) (cells : List Int) (H' : Hp), Same H H' → H' b = some (.lst [.int 0, .int 1234567891, .int 0, .ref c]) → H' c = some (.lst (cells.map V.int)) → c ≠ b → (∀ x ∈ cells, 0 ≤ x) → cells.length ≤ 63 → Q (.ref b) H'
def spLaw (K : PySem.W.Frag) : Sp := fun vs Hh Q _ => ∃ (p : Addr) (ks : List Int), vs = [.ref p] ∧ SqL K Hh p (ks.map V.int) ∧ ks.length ≤ 63 ∧ ∀ H2, Q (.bl true) H2
structure CalBag (Pg : Program) (w : World) (K : PySem.W.Frag) (mg : Str → Option Value) (base : Heap) (k : Nat) : Prop where
  ex : ∃ (f : Addr) (fd : FuncData) (ps : List Str), FnG Pg w K mg base CX0 k f fd ps (spBag K) ∧ mg "_law_bag" = some (.ref f) ∧ PySem.W.keepIn K (.ref f) = true ∧ Binds K fd ps []
theorem law_Rp {K : PySem.W.Frag} {H' : Hp} {b c : Addr} {cells : List Int} {m : Nat} {a : V} (hB : H' b = some (.lst [.int 0, .int 1234567891, .int 0, .ref c])) (hC : H' c = some (.lst (cells.map V.int))) (hcb : c ≠ b) (h0 : ∀ x ∈ cells, 0 ≤ x) (hl : cells.length ≤ 63) :
    Rp K ⟨fun x => x = b ∨ x = c, some b, c⟩ H' (Sl.no :: Sl.bag :: List.replicate m Sl.no) (some a :: some (.ref b) :: List.replicate m none) H' := by
  have key : ∀ (i : Nat) (sl : Sl), (Sl.no :: Sl.bag :: List.replicate m Sl.no)[i]? = some sl → (sl = .bag ∧ i = 1) ∨ sl = .no := fun i sl e => by
    match i, e with
    | 0, e => exact .inr (Option.some.inj e).symm
    | 1, e => exact .inl ⟨(Option.some.inj e).symm, rfl⟩
    | j + 2, e =>
      have e' : (List.replicate m Sl.no)[j]? = some sl := e
      exact .inr (List.mem_replicate.mp (List.mem_of_getElem? e')).2
  refine ⟨by simp, fun x hx => ?_, Sb.refl _ _, fun i d e => ?_, fun i l ds e => ?_, fun i j ds es l e _ => ?_, fun i e => ?_, fun b' e => ?_⟩
  · rcases hx with rfl | rfl
    · rw [hB]; exact fun z => by cases z
    · rw [hC]; exact fun z => by cases z
  · rcases key i _ e with ⟨z, _⟩ | z <;> cases z
  · rcases key i _ e with ⟨z, _⟩ | z <;> cases z
  · rcases key i _ e with ⟨z, _⟩ | z <;> cases z
  · rcases key i _ e with ⟨_, rfl⟩ | z
    · exact ⟨b, rfl, rfl⟩
    · cases z
  · cases e
    exact ⟨.inl rfl, ⟨0, 1234567891, 0, cells, hB, hC, .inr rfl, hcb, by omega, by omega, by omega, by omega, h0, hl⟩⟩
theorem law_end {K : PySem.W.Frag} {M : Amb} {H0 : Hp} {Q : VK} (q : ∀ H', Q (.bl true) H') : Ends.Le (lf K M H0 { nx := fun _ => False, rt := fun d => d = .bool true }) { nx := fun _ H' => Q .non H', rt := Q } := by
  refine ⟨fun σ' H2 z => ?_, fun v H2 z => ?_, fun _ _ z => ?_, fun _ _ z => ?_⟩
  · obtain ⟨_, z, _⟩ := z
    exact z.elim
  · rcases z with ⟨d, rfl, _, _, dd⟩ | z
    · rw [dd.bl_v]
      exact q _
    · exact z.no.elim
  · obtain ⟨_, z, _⟩ := z
    exact z.elim
  · obtain ⟨_, z, _⟩ := z
    exact z.elim
structure Got (K : PySem.W.Frag) (mg : Str → Option Value) (x : Str) (st : Stmt) (ps : List Str) : Prop where
  ex : ∃ (f : Addr) (fd : FuncData), Fun K x x st f fd ∧ Binds K fd ps [] ∧ mg x = some (.ref f)
section
variable {Pg : Program} {w : World} {K : PySem.W.Frag} {mg : Str → Option Value} {base : Heap} {k : Nat}
theorem got {x : Str} {st : Stmt} {ps : List Str} {h : Heap} {f : Addr} {oc : Value} {od an : Option Addr} {osl : Array (Option Value)} {kV doc pm cdv ct : Value} (X : K.In h) (G : h.Ns mainGlobals mg)
    (hb : ∀ (kV doc pm : Value) (an : Option Addr) (cdv ct : Value) (us : List Value), us.length = ps.length → bindArgs (PySem.W.fnOf x x (defArgs st) (defBody st) (defScope st) .none kV doc pm an cdv ct) ⟨us, []⟩ = pure (ps.zip us))
    (a : PySem.W.nsIn K mainGlobals x = some (some (.ref f))) (l : K.lookup f = some ⟨oc, od, .func (PySem.W.fnOf x x (defArgs st) (defBody st) (defScope st) .none kV doc pm an cdv ct), osl⟩)
    (c : PySem.W.codeIn K cdv x = true) (kp : PySem.W.keepIn K (.ref f) = true) : Got K mg x st ps :=
  let F := fun_mk (st := st) l c kp
  ⟨f, _, F, F.binds hb, PySem.W.mg_of X G a⟩
theorem Got.cal {x : Str} {st : Stmt} {ps : List Str} {j n : Nat} {nb : Bool} {F : List PyData → (PyData → Prop) → Prop} (g : Got K mg x st ps) (h : ∀ f fd, Fun K x x st f fd → FnG Pg w K mg base CX0 j f fd ps (spD K nb n F)) (hj : j ≤ k) : Cal Pg w K mg base x k nb n F := by
  obtain ⟨f, fd, Fn, hb, hm⟩ := g
  exact cal_of Fn hb hm ((h f fd Fn).up hj)
theorem Got.calL {x : Str} {st : Stmt} {ps : List Str} {j n : Nat} {F : List PyData → (List PyData → Prop) → Prop} (g : Got K mg x st ps) (h : ∀ f fd, Fun K x x st f fd → FnG Pg w K mg base CX0 j f fd ps (spL K n F)) (hj : j ≤ k) : CalL Pg w K mg base x k n F := by
  obtain ⟨f, fd, Fn, hb, hm⟩ := g
  exact calL_of Fn hb hm ((h f fd Fn).up hj)
theorem Got.calB {st : Stmt} {ps : List Str} {j : Nat} (g : Got K mg "_law_bag" st ps) (h : ∀ f fd, Fun K "_law_bag" "_law_bag" st f fd → FnG Pg w K mg base CX0 j f fd ps (spBag K)) (hj : j ≤ k) : CalBag Pg w K mg base k := by
  obtain ⟨f, fd, Fn, hb, hm⟩ := g
  exact ⟨f, fd, _, (h f fd Fn).up hj, hm, Fn.kp, hb⟩
end
end YV

namespace YV
structure LI (p q : Int) (m : Nat) (i j : Int) (acc : List Bool) : Prop where
  ex : ∃ n : Nat, acc = wk p q n 1 1 ∧ (n : Int) + m = p + q - 2
  ei : i = 1 + ns acc
  ej : j = 1 + nu acc
namespace LI
variable {p q i j : Int} {m : Nat} {acc : List Bool}
theorem zero (h : Slp p q) : LI p q (p + q - 2).toNat 1 1 [] := ⟨⟨0, rfl, by have := h.p1; have := h.q1; omega⟩, rfl, rfl⟩
theorem bd (h : LI p q m i j acc) (s : Slp p q) : 1 ≤ i ∧ 1 ≤ j ∧ i ≤ p ∧ j ≤ q ∧ i + j + m = p + q ∧ (acc.length : Int) + m = p + q - 2 := by
  obtain ⟨⟨n, rfl, hn⟩, ei, ej⟩ := h
  have := s.p1
  have := s.q1
  have w := wk_in s.nt s.p1 s.q1 n 1 1 (by omega) (by omega) (by omega) (by omega) (by omega)
  have e := nsu (wk p q n 1 1)
  have := ns_nn (wk p q n 1 1)
  have := nu_nn (wk p q n 1 1)
  rw [wk_len] at e
  rw [wk_len]
  omega
theorem done (h : LI p q 0 i j acc) (s : Slp p q) : acc = cross p q := by
  obtain ⟨⟨n, rfl, hn⟩, ei, ej⟩ := h
  unfold cross
  congr 1; omega
theorem step (h : LI p q (m + 1) i j acc) : LI p q m (if i * q ≤ j * p then i + 1 else i) (if i * q ≤ j * p then j else j + 1) (acc ++ [decide (i * q ≤ j * p)]) := by
  obtain ⟨⟨n, rfl, hn⟩, ei, ej⟩ := h
  have e : wk p q (n + 1) 1 1 = wk p q n 1 1 ++ [decide (i * q ≤ j * p)] := by
    rw [wk_add, ← ei, ← ej]
    refine congrArg (wk p q n 1 1 ++ ·) ?_
    unfold wk
    split <;> rfl
  refine ⟨⟨n + 1, e.symm, by omega⟩, ?_, ?_⟩
  · rw [ns_app, ns_cons, ns_nil, ei]
    by_cases c : (1 + ns (wk p q n 1 1)) * q ≤ j * p
    · simp [c]; omega
    · simp [c]
  · rw [nu_app, nu_cons, nu_nil, ej]
    by_cases c : i * q ≤ (1 + nu (wk p q n 1 1)) * p
    · simp [c]
    · simp [c]; omega
theorem side (h : LI p q (m + 1) i j acc) (c : i * q ≤ j * p) : LI p q m (i + 1) j (acc ++ [true]) := by
  have := h.step
  rw [if_pos c, if_pos c, decide_eq_true c] at this
  exact this
theorem up (h : LI p q (m + 1) i j acc) (c : ¬ i * q ≤ j * p) : LI p q m i (j + 1) (acc ++ [false]) := by
  have := h.step
  rw [if_neg c, if_neg c, decide_eq_false c] at this
  exact this
theorem test (h : LI p q (m + 1) i j acc) (s : Slp p q) : (i * q ≤ j * p) ↔ (i < p ∧ (q ≤ j ∨ i * q < j * p)) := by
  have b := h.bd s
  have hp := s.p1
  have hq := s.q1
  have nt := s.nt i j b.1 (by omega)
  constructor
  · intro c
    refine ⟨?_, .inr (by omega)⟩
    rcases Int.lt_or_eq_of_le b.2.2.1 with z | z
    · exact z
    · subst z
      have hjq : j < q := by omega
      have := Int.mul_lt_mul_of_pos_left hjq (show 0 < i by omega)
      rw [Int.mul_comm j i] at c
      omega
  · rintro ⟨c1, c2 | c2⟩
    · have e : j = q := by omega
      subst e
      rw [Int.mul_comm j p]
      have := Int.mul_le_mul_of_nonneg_right (show i ≤ p by omega) (show 0 ≤ j by omega)
      omega
    · omega
end LI
theorem sl_app_nil (xs : List Bool) : slF (xs ++ []) = slF xs := by rw [List.append_nil]
theorem sl_run_l : ∀ (k : Nat) (bs : List Bool) (p q : Int), slF bs = (p, q) → (k : Int) * q < p → ∃ r, bs = List.replicate k true ++ r ∧ slF r = (p - k * q, q)
  | 0, bs, p, q, h, _ => ⟨bs, rfl, by simp [h]⟩
  | k + 1, bs, p, q, h, hk => by
    have pos := sl_pos bs
    rw [h] at pos
    have e : ((k + 1 : Nat) : Int) * q = k * q + q := by rw [show ((k + 1 : Nat) : Int) = (k : Int) + 1 by omega, Int.add_mul, Int.one_mul]
    rw [e] at hk
    obtain ⟨r, rfl, hr⟩ := sl_run_l k bs p q h (by omega)
    cases r with
    | nil =>
      have h1 : (1 : Int) = p - k * q := congrArg Prod.fst hr
      have h2 : (1 : Int) = q := congrArg Prod.snd hr
      omega
    | cons b r =>
      have pr := sl_pos r
      cases b with
      | false =>
        have h1 : (slF r).1 = p - k * q := congrArg Prod.fst hr
        have h2 : (slF r).1 + (slF r).2 = q := congrArg Prod.snd hr
        omega
      | true =>
        have h1 : (slF r).1 + (slF r).2 = p - k * q := congrArg Prod.fst hr
        have h2 : (slF (true :: r)).2 = q := congrArg Prod.snd hr
        have h2 : (slF r).2 = q := h2
        refine ⟨r, ?_, Prod.ext ?_ h2⟩
        · rw [List.replicate_succ', List.append_assoc]; rfl
        · show (slF r).1 = _
          rw [e]; omega
theorem sl_not : ∀ bs : List Bool, slF (bs.map not) = ((slF bs).2, (slF bs).1)
  | [] => rfl
  | true :: r => by
    show ((slF (r.map not)).1, (slF (r.map not)).1 + (slF (r.map not)).2) = _
    rw [sl_not r]
    show ((slF r).2, (slF r).2 + (slF r).1) = ((slF r).2, (slF r).1 + (slF r).2)
    rw [Int.add_comm]
  | false :: r => by
    show ((slF (r.map not)).1 + (slF (r.map not)).2, (slF (r.map not)).2) = _
    rw [sl_not r]
    show ((slF r).2 + (slF r).1, (slF r).1) = ((slF r).1 + (slF r).2, (slF r).1)
    rw [Int.add_comm]
theorem sl_run_r (k : Nat) (bs : List Bool) (p q : Int) (h : slF bs = (p, q)) (hk : (k : Int) * p < q) : ∃ r, bs = List.replicate k false ++ r ∧ slF r = (p, q - k * p) := by
  have h2 : slF (bs.map not) = (q, p) := by rw [sl_not, h]
  obtain ⟨r, e, hr⟩ := sl_run_l k (bs.map not) q p h2 hk
  refine ⟨r.map not, ?_, by rw [sl_not, hr]⟩
  have := congrArg (List.map not) e
  rw [not_not_map, List.map_append, List.map_replicate] at this
  exact this
theorem sl_le : ∀ bs : List Bool, (slF bs).1 + (slF bs).2 ≤ 2 ^ (bs.length + 1)
  | [] => by decide
  | true :: r => by
    have := sl_le r
    have := sl_pos r
    show (slF r).1 + (slF r).2 + (slF r).2 ≤ 2 ^ (r.length + 1 + 1)
    rw [Int.pow_succ]; omega
  | false :: r => by
    have := sl_le r
    have := sl_pos r
    show (slF r).1 + ((slF r).1 + (slF r).2) ≤ 2 ^ (r.length + 1 + 1)
    rw [Int.pow_succ]; omega
theorem sl_nil {bs : List Bool} {p : Int} (h : slF bs = (p, p)) : bs = [] := by
  cases bs with
  | nil => rfl
  | cons b r =>
    have pr := sl_pos r
    cases b with
    | true =>
      have h1 : (slF r).1 + (slF r).2 = p := congrArg Prod.fst h
      have h2 : (slF (true :: r)).2 = p := congrArg Prod.snd h
      have h2 : (slF r).2 = p := h2
      omega
    | false =>
      have h1 : (slF (false :: r)).1 = p := congrArg Prod.fst h
      have h1 : (slF r).1 = p := h1
      have h2 : (slF r).1 + (slF r).2 = p := congrArg Prod.snd h
      omega
theorem flatten_len_le : ∀ (L : List (List Bool)), (L.map List.length).sum = L.flatten.length
  | [] => rfl
  | x :: L => by rw [List.map_cons, List.sum_cons, flatten_len_le L, List.flatten_cons, List.length_append]
end YV

namespace YV
open PySem PySem.Spec L2
open PyProof.Rows (subscriptTail envOfC)
section
variable {X : Cx} {elt iter tg : Expr} {scope : Scope} {pos tp : Pos} {δ : List Sl} {own : List (Str × Nat)} {js : List Nat} {α : Type}
theorem wF_mapT {P : List PyData → Prop} (hN : X.N.Nodup)
    (h : wI X false tg iter δ fun ds => ∃ (L : List α) (g f : α → PyData), ds = L.map g ∧ L.length ≤ 100000 ∧ (∀ a ∈ L, ∀ X', BlkOf X scope X' → wG X' tg js (g a) (wipeD δ (own.map (·.2))) fun δ2 => ∀ X', BlkOf X scope X' → wE X' true elt δ2 fun d => d = f a) ∧ P (L.map f))
    (ok : BlkOk X.N X.env.scope scope own) (hj : ∀ j ∈ js, j ∈ own.map (·.2)) (hno : ∀ v ∈ own.map (·.2), ∀ l ds, δ[v]? ≠ some (Sl.own l ds))
    (hc : X.calm = true := by rfl) (hs : ∀ x, foldedSetIterable iter X.env x = pure x := by intro _; rfl) : wF X (.ListComp elt [⟨tg, iter, [], 0⟩] scope pos) δ P := by
  refine wF_comp (own := own) (js := js) hN ?_ ok hj hno hc hs
  intro M H0 σ H R Rr q
  refine h M H0 σ H R _ fun J H1 ds p k hJ => q J H1 ds ?_ k hJ
  obtain ⟨L, g, f, rfl, hl, step, fin⟩ := p
  refine ⟨fun i acc => acc = (L.take i).map f, rfl, by rw [List.length_map]; exact hl, ?_, ?_⟩
  · rintro i y acc hy rfl X' hX
    rw [List.getElem?_map] at hy
    obtain ⟨a, ha, rfl⟩ : ∃ a, L[i]? = some a ∧ y = g a := by
      cases e : L[i]? with
      | none => rw [e] at hy; cases hy
      | some a => rw [e] at hy; exact ⟨a, rfl, (Option.some.inj hy).symm⟩
    have ht : L.take (i + 1) = L.take i ++ [a] := by rw [List.take_add_one, ha]; rfl
    intro M2 H02 σ2 H2 v2 R2 d2 Q2 q2
    refine step a (List.mem_of_getElem? ha) X' hX M2 H02 σ2 H2 v2 R2 d2 Q2 fun us δ' H' hn => q2 us δ' H' fun X' hX => wTs_nil ⟨fun _ X' hX => ?_, fun e => by cases e⟩
    refine (hn X' hX).imp fun d hd => ?_
    show _ = (L.take (i + 1)).map f
    rw [ht, List.map_append, hd]; rfl
  · rintro acc rfl
    rw [List.length_map]
    rw [List.take_length]
    exact fin
end
section
variable {X : Cx} {elt iter : Expr} {scope : Scope} {pos tp py spos : Pos} {δ : List Sl} {x y : Str} {v i : Nat} {α β : Type} {E : EndsD}
theorem wS_setMapP {Q : α → β → Prop} (hN : X.N.Nodup)
    (h : wI X false (.Name x tp) iter δ fun ds => ∃ (L : List α) (g : α → PyData) (f : β → PyData), ds = L.map g ∧ L.length ≤ 100000 ∧ (∀ a ∈ L, ∀ X', BlkOf X scope X' → wE X' true elt ((wipeD δ [v]).set v (.dat (g a))) fun d => ∃ b, d = f b ∧ Q a b) ∧
      ∀ ys : List β, ys.length = L.length → (∀ (i : Nat) a b, L[i]? = some a → ys[i]? = some b → Q a b) → ∀ l, E.nx (δ.set i (.own l (ys.map f))))
    (ok : BlkOk X.N X.env.scope scope [(x, v)]) (hno : ∀ l ds, δ[v]? ≠ some (Sl.own l ds)) (hv : v < δ.length := by simp) (hi : i < δ.length := by simp)
    (hy : X.N[i]? = some y := by rfl) (hyl : X.env.scope.names.lookup y = some .local := by rfl) (hsw : swapsWith (.ListComp elt [⟨.Name x tp, iter, [], 0⟩] scope pos) (some (.Name y py)) spos.line X.env = pure true := by exact sw_true rfl rfl rfl (by decide +kernel))
    (hx : ∀ X', BlkOf X scope X' → X'.N = X.N := by rintro X' ⟨s', H', C, cl, fp, rfl⟩; rfl)
    (hxN : X.N[v]? = some x := by rfl) (hL : ∀ X', BlkOf X scope X' → Loc X'.env.scope x := by rintro X' ⟨s', H', C, cl, fp, rfl⟩; first | exact Or.inl rfl | exact Or.inr rfl)
    (hf : ∀ X', BlkOf X scope X' → X'.fn x = true ∨ X'.env.scope.names.lookup x = some .local := by rintro X' ⟨s', H', C, cl, fp, rfl⟩; first | exact .inl rfl | exact .inr rfl)
    (hc : X.calm = true := by rfl) (hs : ∀ x, foldedSetIterable iter X.env x = pure x := by intro _; rfl) : wS X (.Assign [.Name y py] (.ListComp elt [⟨.Name x tp, iter, [], 0⟩] scope pos) spos) E δ := by
  refine wS_setComp (own := [(x, v)]) (js := [v]) hN ?_ ok (fun _ h => h) (fun w hw l ds e => ?_) hi hy hyl hsw hc hs
  · intro M H0 σ H R Rr q
    refine h M H0 σ H R _ fun J H1 ds p k hJ => q J H1 ds ?_ k hJ
    obtain ⟨L, g, f, rfl, hl, step, fin⟩ := p
    refine ⟨fun i acc => ∃ ys : List β, acc = ys.map f ∧ ys.length = i ∧ ∀ (j : Nat) a b, L[j]? = some a → ys[j]? = some b → Q a b, ⟨[], rfl, rfl, fun j a b _ e => by cases e⟩, by rw [List.length_map]; exact hl, ?_, ?_⟩
    · rintro i y acc hy ⟨ys, rfl, hi, hq⟩ X' hX
      rw [List.getElem?_map] at hy
      obtain ⟨a, ha, rfl⟩ : ∃ a, L[i]? = some a ∧ y = g a := by
        cases e : L[i]? with
        | none => rw [e] at hy; cases hy
        | some a => rw [e] at hy; exact ⟨a, rfl, (Option.some.inj hy).symm⟩
      refine wG_name (i := v) (fun X' hX => wTs_nil ⟨fun _ X' hX => ?_, fun e => by cases e⟩) (by rw [hx X' hX]; exact hN) (by rw [wipeD_len]; exact hv) (by rw [hx X' hX]; exact hxN) (hL X' hX) (hf X' hX)
      refine (step a (List.mem_of_getElem? ha) X' hX).imp fun d hd => ?_
      obtain ⟨b, rfl, hb⟩ := hd
      refine ⟨ys ++ [b], by rw [List.map_append]; rfl, by rw [List.length_append, hi]; rfl, fun j a' b' e1 e2 => ?_⟩
      by_cases c : j < ys.length
      · rw [List.getElem?_append_left c] at e2
        exact hq j a' b' e1 e2
      · rw [List.getElem?_append_right (by omega)] at e2
        have : j = i := by
          have := (List.getElem?_eq_some_iff.mp e2).1
          simp at this; omega
        subst this
        rw [hi, Nat.sub_self] at e2
        rw [ha] at e1
        cases e1
        cases e2
        exact hb
    · rintro acc ⟨ys, rfl, hi, hq⟩ l
      exact fin ys (by rw [hi, List.length_map]) hq l
  · rw [List.mem_singleton.mp hw] at e
    exact hno l ds e
end
section
variable {X : Cx} {w : Bool} {a b : Expr} {δ : List Sl} {P : PyData → Prop} {pos : Pos}
theorem caD_max {i j : Int} (hc : X.calm = true) (p : P (.int (if j > i then j else i))) : caD X (.builtin "max") [.int i, .int j] P := fun W H vs Q cov dd q => by
  obtain ⟨v, ws, rfl, h1, h2⟩ := dd.cons_v
  obtain ⟨v2, ws2, rfl, h3, h4⟩ := h2.cons_v
  obtain rfl := h4.nil_v
  rw [h1.int_v, h3.int_v]
  exact cR.of (call_max2 hc) ⟨i, j, rfl, q _ H _ p (Same.refl _) (.int _)⟩
end
end YV

namespace YV
def runsF : List Bool → List (Bool × Nat)
  | [] => []
  | b :: r => match runsF r with
    | [] => [(b, 1)]
    | (c, n) :: t => if c = b then (b, n + 1) :: t else (b, 1) :: (c, n) :: t
theorem runs_ne {b : Bool} {r : List Bool} : ∃ n t, runsF (b :: r) = (b, n + 1) :: t := by
  unfold runsF
  cases runsF r with
  | nil => exact ⟨0, [], rfl⟩
  | cons p t =>
    obtain ⟨c, n⟩ := p
    by_cases e : c = b
    · simp only [e, if_true]
      exact ⟨n, t, rfl⟩
    · simp only [e, if_false]
      exact ⟨0, _, rfl⟩
theorem runs_cut : ∀ (n : Nat) (b : Bool) (r : List Bool), (∀ c t, r = c :: t → c ≠ b) → runsF (List.replicate (n + 1) b ++ r) = (b, n + 1) :: runsF r
  | 0, b, r, h => by
    show runsF (b :: r) = _
    cases r with
    | nil => rfl
    | cons c t =>
      have hc := h c t rfl
      obtain ⟨m, u, e⟩ := runs_ne (b := c) (r := t)
      show (match runsF (c :: t) with
        | [] => [(b, 1)]
        | (c, n) :: t => if c = b then (b, n + 1) :: t else (b, 1) :: (c, n) :: t) = _
      rw [e]
      simp [hc]
  | n + 1, b, r, h => by
    show (match runsF (List.replicate (n + 1) b ++ r) with
        | [] => [(b, 1)]
        | (c, n) :: t => if c = b then (b, n + 1) :: t else (b, 1) :: (c, n) :: t) = _
    rw [runs_cut n b r h]
    simp
def addRun (L : List (Bool × Nat)) (b : Bool) : List (Bool × Nat) :=
  match L.getLast? with
  | some (c, n) => if c = b then L.dropLast ++ [(b, n + 1)] else L ++ [(b, 1)]
  | none => [(b, 1)]
theorem addRun_cons {p : Bool × Nat} {L : List (Bool × Nat)} {b : Bool} (h : L ≠ []) : addRun (p :: L) b = p :: addRun L b := by
  unfold addRun
  cases L with
  | nil => exact absurd rfl h
  | cons q t =>
    rw [List.getLast?_cons_cons]
    cases e : (q :: t).getLast? with
    | none => simp at e
    | some u =>
      obtain ⟨c, n⟩ := u
      simp only
      split
      · rw [List.dropLast_cons₂]; rfl
      · rfl
theorem runs_snoc : ∀ (xs : List Bool) (b : Bool), runsF (xs ++ [b]) = addRun (runsF xs) b
  | [], b => rfl
  | a :: r, b => by
    have ih := runs_snoc r b
    show (match runsF (r ++ [b]) with
        | [] => [(a, 1)]
        | (c, n) :: t => if c = a then (a, n + 1) :: t else (a, 1) :: (c, n) :: t) = _
    rw [ih]
    cases r with
    | nil =>
      show _ = addRun [(a, 1)] b
      unfold addRun
      simp only [runsF, List.getLast?_nil, List.getLast?_singleton]
      by_cases e : a = b
      · subst e; simp
      · have e' : ¬ b = a := fun z => e z.symm
        simp [e, e']
    | cons c t =>
      obtain ⟨n, u, e⟩ := runs_ne (b := c) (r := t)
      have hx : runsF (a :: c :: t) = (if c = a then (a, n + 1 + 1) :: u else (a, 1) :: (c, n + 1) :: u) := by
        show (match runsF (c :: t) with
        | [] => [(a, 1)]
        | (c, n) :: t => if c = a then (a, n + 1) :: t else (a, 1) :: (c, n) :: t) = _
        rw [e]
      rw [hx, e]
      cases u with
      | nil =>
        by_cases e1 : c = a
        · subst e1
          unfold addRun
          by_cases e2 : c = b
          · subst e2; simp
          · simp [e2]
        · have h2 : addRun [(a, 1), (c, n + 1)] b = (a, 1) :: addRun [(c, n + 1)] b := addRun_cons (by simp)
          rw [if_neg e1, h2]
          unfold addRun
          by_cases e2 : c = b
          · subst e2; simp [e1]
          · simp [e1, e2]
      | cons v u =>
        have h1 : addRun ((c, n + 1) :: v :: u) b = (c, n + 1) :: addRun (v :: u) b := addRun_cons (by simp)
        rw [h1]
        by_cases e1 : c = a
        · subst e1
          have h2 : addRun ((c, n + 1 + 1) :: v :: u) b = (c, n + 1 + 1) :: addRun (v :: u) b := addRun_cons (by simp)
          rw [if_pos rfl, h2]
          simp
        · have h2 : addRun ((a, 1) :: (c, n + 1) :: v :: u) b = (a, 1) :: addRun ((c, n + 1) :: v :: u) b := addRun_cons (by simp)
          rw [if_neg e1, h2, h1]
          simp [e1]
theorem runs_back : ∀ xs : List Bool, ((runsF xs).map fun p => List.replicate p.2 p.1).flatten = xs
  | [] => rfl
  | b :: r => by
    have ih := runs_back r
    show (List.map (fun p => List.replicate p.2 p.1) (match runsF r with
        | [] => [(b, 1)]
        | (c, n) :: t => if c = b then (b, n + 1) :: t else (b, 1) :: (c, n) :: t)).flatten = _
    cases e : runsF r with
    | nil => rw [e] at ih; rw [← ih]; rfl
    | cons p t =>
      obtain ⟨c, n⟩ := p
      rw [e] at ih
      simp only
      split
      · next h =>
        subst h
        rw [List.map_cons, List.flatten_cons, List.replicate_succ, List.cons_append]
        rw [List.map_cons, List.flatten_cons] at ih
        rw [ih]
      · rw [List.map_cons, List.flatten_cons, ih]; rfl
theorem runs_len : ∀ xs : List Bool, (runsF xs).length ≤ xs.length ∧ ∀ p ∈ runsF xs, p.2 ≤ xs.length
  | [] => ⟨Nat.le_refl _, fun _ h => by cases h⟩
  | b :: r => by
    obtain ⟨h1, h2⟩ := runs_len r
    show (match runsF r with
        | [] => [(b, 1)]
        | (c, n) :: t => if c = b then (b, n + 1) :: t else (b, 1) :: (c, n) :: t).length ≤ _ ∧ ∀ p ∈ (match runsF r with
        | [] => [(b, 1)]
        | (c, n) :: t => if c = b then (b, n + 1) :: t else (b, 1) :: (c, n) :: t), p.2 ≤ _
    cases e : runsF r with
    | nil => simp
    | cons p t =>
      obtain ⟨c, n⟩ := p
      rw [e] at h1 h2
      have hn := h2 (c, n) (by simp)
      simp only [List.length_cons] at h1 ⊢
      split
      · refine ⟨by simp; omega, fun p hp => ?_⟩
        rcases (List.mem_cons (a := p)).mp hp with rfl | hp
        · simp at hn ⊢; omega
        · have := h2 p (List.mem_cons_of_mem _ hp); omega
      · refine ⟨by simp; omega, fun p hp => ?_⟩
        rcases (List.mem_cons (a := p)).mp hp with rfl | hp
        · simp
        · have := h2 p hp; omega
def betw (bs : List Bool) (p q : Int) : Prop := (nbF 1 0 0 1 bs).2.1 * p < (nbF 1 0 0 1 bs).1 * q ∧ q * (nbF 1 0 0 1 bs).2.2.1 < p * (nbF 1 0 0 1 bs).2.2.2
theorem nb_nn (bs : List Bool) : 1 ≤ (nbF 1 0 0 1 bs).1 ∧ 0 ≤ (nbF 1 0 0 1 bs).2.1 ∧ 0 ≤ (nbF 1 0 0 1 bs).2.2.1 ∧ 1 ≤ (nbF 1 0 0 1 bs).2.2.2 ∧ (nbF 1 0 0 1 bs).1 * (nbF 1 0 0 1 bs).2.2.2 = (nbF 1 0 0 1 bs).2.1 * (nbF 1 0 0 1 bs).2.2.1 + 1 := by
  have h := (way_of bs Way.base).nb
  exact ⟨h.a1, h.b0, h.c0, h.d1, h.dt⟩
theorem betw_l (r : List Bool) (p q : Int) : betw (true :: r) p q ↔ betw r (p - q) q := by
  unfold betw
  have e := nb_lin r 1 0 (1 + 0) (0 + 1)
  rw [nbF, e]
  simp only
  generalize nbF 1 0 0 1 r = z
  obtain ⟨a, b, c, d⟩ := z
  simp only
  constructor
  · rintro ⟨h1, h2⟩
    constructor <;> grind
  · rintro ⟨h1, h2⟩
    constructor <;> grind
theorem betw_r (r : List Bool) (p q : Int) : betw (false :: r) p q ↔ betw r p (q - p) := by
  unfold betw
  have e := nb_lin r (1 + 0) (0 + 1) 0 1
  rw [nbF, e]
  simp only
  generalize nbF 1 0 0 1 r = z
  obtain ⟨a, b, c, d⟩ := z
  simp only
  constructor
  · rintro ⟨h1, h2⟩
    constructor <;> grind
  · rintro ⟨h1, h2⟩
    constructor <;> grind
theorem betw_no1 (r : List Bool) {p q : Int} (hp : p ≤ 0) (hq : 0 ≤ q) : ¬ betw r p q := by
  rintro ⟨_, h⟩
  obtain ⟨h1, h2, h3, h4, h5⟩ := nb_nn r
  have e1 := Int.mul_nonneg hq h3
  have e2 := Int.mul_nonneg (show 0 ≤ -p by omega) (show 0 ≤ (nbF 1 0 0 1 r).2.2.2 by omega)
  rw [Int.neg_mul] at e2
  omega
theorem betw_no2 (r : List Bool) {p q : Int} (hp : 0 ≤ p) (hq : q ≤ 0) : ¬ betw r p q := by
  rintro ⟨h, _⟩
  obtain ⟨h1, h2, h3, h4, h5⟩ := nb_nn r
  have e1 := Int.mul_nonneg h2 hp
  have e2 := Int.mul_nonneg (show 0 ≤ (nbF 1 0 0 1 r).1 by omega) (show 0 ≤ -q by omega)
  rw [Int.mul_neg] at e2
  omega
theorem betw_pre : ∀ (bs ys : List Bool), betw bs (slF ys).1 (slF ys).2 ↔ ys.take bs.length = bs
  | [], ys => by
    have := sl_pos ys
    unfold betw
    simp [nbF]
    omega
  | true :: r, ys => by
    rw [betw_l]
    cases ys with
    | nil =>
      refine ⟨fun h => absurd h (betw_no1 r (by show (1 : Int) - 1 ≤ 0; omega) (by show (0 : Int) ≤ 1; omega)), fun h => by simp at h⟩
    | cons b zs =>
      have := sl_pos zs
      cases b with
      | true =>
        have e : (slF (true :: zs)).1 - (slF (true :: zs)).2 = (slF zs).1 := by show (slF zs).1 + (slF zs).2 - (slF zs).2 = _; omega
        rw [e]
        show betw r (slF zs).1 (slF zs).2 ↔ _
        rw [betw_pre r zs]; simp
      | false =>
        refine ⟨fun h => absurd h (betw_no1 r (by show (slF zs).1 - ((slF zs).1 + (slF zs).2) ≤ 0; omega) (by show 0 ≤ (slF zs).1 + (slF zs).2; omega)), fun h => by simp at h⟩
  | false :: r, ys => by
    rw [betw_r]
    cases ys with
    | nil =>
      refine ⟨fun h => absurd h (betw_no2 r (by show (0 : Int) ≤ 1; omega) (by show (1 : Int) - 1 ≤ 0; omega)), fun h => by simp at h⟩
    | cons b zs =>
      have := sl_pos zs
      cases b with
      | false =>
        have e : (slF (false :: zs)).2 - (slF (false :: zs)).1 = (slF zs).2 := by show (slF zs).1 + (slF zs).2 - (slF zs).1 = _; omega
        rw [e]
        show betw r (slF zs).1 (slF zs).2 ↔ _
        rw [betw_pre r zs]; simp
      | true =>
        refine ⟨fun h => absurd h (betw_no2 r (by show 0 ≤ (slF zs).1 + (slF zs).2; omega) (by show (slF zs).2 - ((slF zs).1 + (slF zs).2) ≤ 0; omega)), fun h => by simp at h⟩
end YV

namespace YL
open PySem PySem.Spec L2 YV
open PyProof.Rows (subscriptTail envOfC)
def Bg (i : Int) : Prop := i.natAbs < 2 ^ 1000
theorem Bg.le {i j : Int} (h : Bg j) (h0 : 0 ≤ i) (hij : i ≤ j) : Bg i := Nat.lt_of_le_of_lt (show i.natAbs ≤ j.natAbs by omega) h
theorem opD_mulW {X : Cx} {P : PyData → Prop} {i j : Int} (ha : Bg i) (hb : Bg j) (p : P (.int (i * j))) : opD X (binaryOp .Mult) (.int i) (.int j) P := opD_twoC op_mulW (wide_mul ha hb (by decide) (by decide) (by decide)) (fun _ => .int _) p
theorem opD_fdivW {X : Cx} {P : PyData → Prop} {i j : Int} (h : 0 < j) (hb : Bg j) (p : P (.int (i / j))) : opD X (binaryOp .FloorDiv) (.int i) (.int j) P := opD_twoC op_fdivW (wide_div h hb (by decide) (by decide)) (fun _ => .int _) p
def nbD (bs : List Bool) : PyData := .tuple [pr (nbF 1 0 0 1 bs).1 (nbF 1 0 0 1 bs).2.1, pr (nbF 1 0 0 1 bs).2.2.1 (nbF 1 0 0 1 bs).2.2.2]
def slD (bs : List Bool) : PyData := pr (slF bs).1 (slF bs).2
def FOfWord (g : List Bool → PyData) (ds : List PyData) (P : PyData → Prop) : Prop := ∃ bs : List Bool, ds = [.str (wd bs)] ∧ P (g bs)
def FWordB (ds : List PyData) (P : PyData → Prop) : Prop := ∃ m : Int, ds = [.int m] ∧ 0 ≤ m ∧ m ≤ 300 ∧ ∀ bs : List Bool, (bs.length : Int) ≤ m → P (.str (wd bs))
def FSlopeB (ds : List PyData) (P : PyData → Prop) : Prop := ∃ m : Int, ds = [.int m] ∧ 16 ≤ m ∧ m ≤ 10000 ∧ ∀ bs : List Bool, (slF bs).1 + (slF bs).2 ≤ m → P (slD bs)
def FWordLaw (ds : List PyData) (P : PyData → Prop) : Prop := ∃ bs : List Bool, ds = [slD bs] ∧ bs.length ≤ 10000 ∧ P (.str (wd bs))
theorem wd_l (b : Bool) : decide (wd [b] = Str.ofString "l") = b := by revert b; decide +kernel
theorem strL : Str.ofString "l" = wd [true] := by decide +kernel
theorem strR : Str.ofString "r" = wd [false] := by decide +kernel
theorem strE : Str.ofString "" = wd [] := by decide +kernel
theorem sl_eq {bs : List Bool} : slD bs = pr (slF bs).1 (slF bs).2 := rfl
def rnD (p : Bool × Nat) : PyData := .tuple [.str (wd [p.1]), .int (p.2 : Nat)]
def flatR (rs : List (Bool × Nat)) : List Bool := (rs.map fun p => List.replicate p.2 p.1).flatten
def FSteps (ds : List PyData) (P : PyData → Prop) : Prop := ∃ (bs : List Bool) (p q : Int), ds = [pr p q] ∧ slF bs = (p, q) ∧ bs.length ≤ 10000 ∧ Bg p ∧ Bg q ∧ ∀ rs : List (Bool × Nat), flatR rs = bs → rs.length ≤ bs.length → P (.list (rs.map rnD))
def FWordBy (ds : List PyData) (P : PyData → Prop) : Prop := ∃ (rs : List (Bool × Nat)) (g : PyData), ds = [g] ∧ (g = .list (rs.map rnD) ∨ g = .tuple (rs.map rnD)) ∧ rs.length ≤ 10000 ∧ (flatR rs).length ≤ 100000 ∧ P (.str (wd (flatR rs)))
def FWordW (ds : List PyData) (P : PyData → Prop) : Prop := ∃ (bs : List Bool) (p q : Int), ds = [pr p q] ∧ slF bs = (p, q) ∧ bs.length ≤ 10000 ∧ Bg p ∧ Bg q ∧ P (.str (wd bs))
theorem flatR_more (rs : List (Bool × Nat)) (b : Bool) (n : Nat) : flatR (rs ++ [(b, n)]) = flatR rs ++ List.replicate n b := by
  unfold flatR
  rw [List.map_append, List.flatten_append]
  simp
theorem flatR_part {rs : List (Bool × Nat)} {p : Bool × Nat} (h : p ∈ rs) : p.2 ≤ (flatR rs).length := by
  obtain ⟨a, b, rfl⟩ := List.append_of_mem h
  unfold flatR
  rw [List.map_append, List.flatten_append, List.map_cons, List.flatten_cons, List.length_append, List.length_append, List.length_replicate]
  omega
theorem strL' : Str.ofString "l" = wd [true] := by decide +kernel
theorem strR' : Str.ofString "r" = wd [false] := by decide +kernel
section
variable {Pg : Program} {w : World} {K : PySem.W.Frag} {mg : Str → Option Value} {base : Heap}
theorem ok_steps_to {f : Addr} {fd : FuncData} {k : Nat} (Fn : Fun K "steps_to" "steps_to" s_steps_to f fd) : FnG Pg w K mg base CX0 (k + 1) f fd ["slope"] (spD K false 1 FSteps) := by
  refine fn_D (N := n_steps_to) (m := 4) Fn sc_steps_to rfl rfl fun cdv A outer s H E hg hr ds P hl hF => ?_
  obtain ⟨bs, p, q, rfl, hs, hb, hp2, hq2, hP⟩ := hF
  have nd := sc_steps_to.nd
  show wSs _ _ _ [Sl.dat (pr p q), Sl.no, Sl.no, Sl.no, Sl.no]
  refine wSs_cons (wS_unpack (wE_dat (i := 0) rfl (wG_tup (wGs_cons (wG_name (i := 1) (wGs_cons (wG_name (i := 2) (wGs_nil ?_) nd)) nd)) rfl)))
  refine wSs_cons (wS_set (i := 3) (wX_own (wF_lst (wA_nil ⟨by decide, fun l => ?_⟩))) nd)
  refine wSs_cons (wS_while (m0 := bs.length) PassesOwn.never (fun m δ' => ∃ (L : List (Bool × Nat)) (r : List Bool) (x y : Int) (sl : Sl), δ' = [Sl.dat (pr p q), Sl.dat (.int x), Sl.dat (.int y), Sl.own l (L.map rnD), sl] ∧ bs = flatR L ++ r ∧ slF r = (x, y) ∧ m = r.length ∧ L.length ≤ (flatR L).length ∧ Bg x ∧ Bg y) ⟨[], bs, p, q, Sl.no, rfl, rfl, hs, rfl, Nat.le_refl _, hp2, hq2⟩ ?_)
  rintro m δ' ⟨L, r, x, y, sl, rfl, hbs, hr2, rfl, hLl, hx2, hy2⟩
  have pos := sl_pos r
  rw [hr2] at pos
  have hlen : (flatR L).length + r.length = bs.length := by rw [hbs, List.length_append]
  refine wT_cmp (wE_dat (i := 1) rfl (wE_dat (i := 2) rfl (opD_neI ⟨_, rfl, fun e => ?_, fun e => ?_⟩)))
  · have hxy : x ≠ y := by simpa using e
    refine wSs_one (wS_if (wT_cmp (wE_dat (i := 1) rfl (wE_dat (i := 2) rfl (opD_gt ⟨_, rfl, fun e => ?_, fun e => ?_⟩)))))
    · have hlt := of_decide_eq_true e
      refine wSs_cons (wS_set (i := 4) (wX_dat (wE_op (wE_op (wE_dat (i := 1) rfl (wE_int (opD_sub (wE_dat (i := 2) rfl (opD_fdivW (by omega) hy2 ?_)))))))) nd)
      obtain ⟨n, hn⟩ : ∃ n : Nat, (x - 1) / y = n := ⟨((x - 1) / y).toNat, by have := Int.ediv_nonneg (show 0 ≤ x - 1 by omega) (show 0 ≤ y by omega); omega⟩
      have hny : (n : Int) * y < x := by
        have := Int.ediv_mul_le (x - 1) (show y ≠ 0 by omega)
        rw [hn] at this; omega
      have hn1 : 1 ≤ n := by
        have := Int.le_ediv_of_mul_le (c := y) (a := 1) (b := x - 1) (by omega) (by omega)
        rw [hn] at this; omega
      rw [hn]
      obtain ⟨r', rfl, hr'⟩ := sl_run_l n r x y hr2 hny
      rw [List.length_append, List.length_replicate] at hlen
      have hne : Bg (n : Int) := hx2.le (by omega) (by have := Int.mul_le_mul_of_nonneg_left (show 1 ≤ y by omega) (show 0 ≤ (n : Int) by omega); omega)
      refine wSs_cons (wS_append (i := 3) rfl (wE_tup (wA_cons (wE_str (wA_cons (wE_dat (i := 4) rfl (wA_nil ⟨by show 2 ≤ 100000; omega, by rw [List.length_map]; omega, ?_⟩)))))))
      refine wSs_one (wS_augI (i := 1) ip_sub rfl (wE_op (wE_dat (i := 4) rfl (wE_dat (i := 2) rfl (opD_mulW hne hy2 ⟨(n : Int) * y, rfl, r'.length, ?_, L ++ [(true, n)], r', x - n * y, y, Sl.dat (.int n), ?_, ?_, hr', rfl, ?_, ?_, hy2⟩)))) nd)
      · rw [List.length_append, List.length_replicate]; omega
      · rw [List.map_append, List.map_cons, List.map_nil, strL']; rfl
      · rw [flatR_more, List.append_assoc, hbs]
      · rw [flatR_more, List.length_append, List.length_append, List.length_replicate, List.length_singleton]; omega
      · have := Int.mul_nonneg (show 0 ≤ (n : Int) by omega) (show 0 ≤ y by omega); exact hx2.le (by omega) (by omega)
    · have hlt : x < y := by have := of_decide_eq_false e; omega
      refine wSs_cons (wS_set (i := 4) (wX_dat (wE_op (wE_op (wE_dat (i := 2) rfl (wE_int (opD_sub (wE_dat (i := 1) rfl (opD_fdivW (by omega) hx2 ?_)))))))) nd)
      obtain ⟨n, hn⟩ : ∃ n : Nat, (y - 1) / x = n := ⟨((y - 1) / x).toNat, by have := Int.ediv_nonneg (show 0 ≤ y - 1 by omega) (show 0 ≤ x by omega); omega⟩
      have hny : (n : Int) * x < y := by
        have := Int.ediv_mul_le (y - 1) (show x ≠ 0 by omega)
        rw [hn] at this; omega
      have hn1 : 1 ≤ n := by
        have := Int.le_ediv_of_mul_le (c := x) (a := 1) (b := y - 1) (by omega) (by omega)
        rw [hn] at this; omega
      rw [hn]
      obtain ⟨r', rfl, hr'⟩ := sl_run_r n r x y hr2 hny
      rw [List.length_append, List.length_replicate] at hlen
      have hne : Bg (n : Int) := hy2.le (by omega) (by have := Int.mul_le_mul_of_nonneg_left (show 1 ≤ x by omega) (show 0 ≤ (n : Int) by omega); omega)
      refine wSs_cons (wS_append (i := 3) rfl (wE_tup (wA_cons (wE_str (wA_cons (wE_dat (i := 4) rfl (wA_nil ⟨by show 2 ≤ 100000; omega, by rw [List.length_map]; omega, ?_⟩)))))))
      refine wSs_one (wS_augI (i := 2) ip_sub rfl (wE_op (wE_dat (i := 4) rfl (wE_dat (i := 1) rfl (opD_mulW hne hx2 ⟨(n : Int) * x, rfl, r'.length, ?_, L ++ [(false, n)], r', x, y - n * x, Sl.dat (.int n), ?_, ?_, hr', rfl, ?_, hx2, ?_⟩)))) nd)
      · rw [List.length_append, List.length_replicate]; omega
      · rw [List.map_append, List.map_cons, List.map_nil, strR']; rfl
      · rw [flatR_more, List.append_assoc, hbs]
      · rw [flatR_more, List.length_append, List.length_append, List.length_replicate, List.length_singleton]; omega
      · have := Int.mul_nonneg (show 0 ≤ (n : Int) by omega) (show 0 ≤ x by omega); exact hy2.le (by omega) (by omega)
  · have hxy : x = y := by simpa using e
    subst hxy
    have := sl_nil hr2
    subst this
    rw [List.append_nil] at hbs
    refine wSs_one (wS_ret (wE_own (i := 3) rfl ?_))
    exact hP L hbs.symm (by rw [hbs]; exact hLl)
theorem ok_word_by {f : Addr} {fd : FuncData} {k : Nat} (Fn : Fun K "word_by" "word_by" s_word_by f fd) : FnG Pg w K mg base CX0 (k + 1) f fd ["runs"] (spD K false 1 FWordBy) := by
  refine fn_D (N := n_word_by) (m := 2) Fn sc_word_by rfl rfl fun cdv A outer s H E hg hr ds P hl hF => ?_
  obtain ⟨rs, g, rfl, hgv, hrs, hr2, hP⟩ := hF
  have nd := sc_word_by.nd
  show wSs _ _ _ [Sl.dat g, Sl.no, Sl.no]
  refine wSs_one <| wS_ret <| wE_mt1 PySem.F.slot_str_join PySem.F.type_str_join <| wE_str ⟨_, rfl, wE.ofF ?_⟩
  refine wF_mapT (own := [("letter", 1), ("many", 2)]) (js := [1] ++ ([2] ++ [])) nd (wI_var (i := 0) rfl hgv ⟨rs, rnD, (fun p => .str (wd (List.replicate p.2 p.1))), rfl, by omega, ?_, ?_⟩) (blkOk_by (N := n_word_by) (sc := defScope s_word_by) (by decide +kernel)) (by decide) (fun v hv l ds e => ?_)
  · rintro ⟨b, n⟩ hb X' ⟨s', H', C', cl, fp, rfl⟩
    have hn : n ≤ (flatR rs).length := flatR_part hb
    refine wG_tup (wGs_cons (wG_name (i := 1) (wGs_cons (wG_name (i := 2) (wGs_nil fun X' hX => ?_) nd (hi := by simp [wipeD_len]))) nd (hi := by simp [wipeD_len]))) rfl
    obtain ⟨s', H', C', cl, fp, rfl⟩ := hX
    refine wE_op <| wE_dat (i := 1) rfl <| wE_dat (i := 2) rfl <| opD_mulS (mulOk_1 (tx_len _) (by omega) (by omega)) ?_
    rw [tx_mul, repB_one, Int.toNat_natCast]
  · have e2 : rs.map (fun p => PyData.str (wd (List.replicate p.2 p.1))) = ((rs.map fun p => List.replicate p.2 p.1).map wd).map PyData.str := by rw [List.map_map, List.map_map]; rfl
    rw [e2]
    refine mtD_join ?_ ?_
    · rw [List.map_map, show (Str.length ∘ wd) = List.length from funext fun b => tx_len b, flatten_len_le]
      have e3 : (rs.map fun p => List.replicate p.2 p.1).flatten.length = (flatR rs).length := rfl
      show _ + _ * 0 ≤ 16777216
      omega
    · rw [tx_join]; exact hP
  · simp at hv
    rcases hv with rfl | rfl <;> cases e
theorem ok_word_of {f : Addr} {fd : FuncData} {k : Nat} (Fn : Fun K "word_of" "word_of" s_word_of f fd) (Cs : Cal Pg w K mg base "steps_to" k false 1 FSteps) (Cb : Cal Pg w K mg base "word_by" k false 1 FWordBy) : FnG Pg w K mg base CX0 (k + 1) f fd ["slope"] (spD K false 1 FWordW) := by
  refine fn_D (N := n_word_of) (m := 0) Fn sc_word_of rfl rfl fun cdv A outer s H E hg hr ds P hl hF => ?_
  obtain ⟨bs, p, q, rfl, hs, hb, hp2, hq2, hP⟩ := hF
  have nd := sc_word_of.nd
  show wSs _ _ _ [Sl.dat (pr p q)]
  refine wSs_one <| wS_ret <| wE_callP Cb hg hr (Nat.le_refl _) <| wA_cons <| wE_callP Cs hg hr (Nat.le_refl _) <| wA_cons <| wE_dat (i := 0) rfl <| wA_nil ⟨rfl, bs, p, q, rfl, hs, hb, hp2, hq2, fun rs e1 e2 => wA_nil ⟨rfl, rs, _, rfl, .inl rfl, by omega, by rw [e1]; omega, ?_⟩⟩
  rw [e1]
  exact hP
end
section
variable {Pg : Program} {w : World} {K : PySem.W.Frag} {mg : Str → Option Value} {base : Heap}
theorem ok_law_neighbours {f : Addr} {fd : FuncData} {k : Nat} (Fn : Fun K "_law_neighbours" "_law_neighbours" s_law_neighbours f fd) : FnG Pg w K mg base CX0 (k + 1) f fd ["word"] (spD K false 1 (FOfWord nbD)) := by
  refine fn_D (N := n_law_neighbours) (m := 4) Fn sc_law_neighbours rfl rfl fun cdv A outer s H E hg hr ds P hl hF => ?_
  obtain ⟨bs, rfl, hP⟩ := hF
  have nd := sc_law_neighbours.nd
  show wSs _ _ _ [Sl.dat (.str (wd bs)), Sl.no, Sl.no, Sl.no, Sl.no]
  refine wSs_cons (wS_unpack (wE_tup (wA_cons (wE_pr (wE_int (wE_int ⟨1, 0, rfl, rfl, wA_cons (wE_pr (wE_int (wE_int ⟨0, 1, rfl, rfl, wA_nil ⟨by show 2 ≤ 100000; omega, wG_tup (wGs_cons (wG_name (i := 1) (wGs_cons (wG_name (i := 2) (wGs_nil ?_) nd)) nd)) rfl⟩⟩)))⟩))))))
  refine wSs_cons (wS_forL (js := [3]) PassesOwn.never (wI_str (wE_dat (i := 0) rfl ⟨_, rfl, bs, fun b => .str (wd [b]), tx_signs bs, ?_⟩)))
  refine ⟨fun pre suf δ' => ∃ a b c d sl sl2, δ' = [Sl.dat (.str (wd bs)), Sl.dat (pr a b), Sl.dat (pr c d), sl, sl2] ∧ nbF 1 0 0 1 pre = (a, b, c, d), ⟨1, 0, 0, 1, Sl.no, Sl.no, rfl, rfl⟩, ?_, ?_⟩
  · rintro pre x suf δ' hbs ⟨a, b, c, d, sl, sl2, rfl, hI⟩
    refine wG_name (i := 3) ?_ nd
    refine wSs_cons (wS_set (i := 4) (wX_dat (wE_pr (wE_op (wE_fst (i := 1) rfl (wE_fst (i := 2) rfl (opD_add (wE_op (wE_snd (i := 1) rfl (wE_snd (i := 2) rfl (opD_add ⟨_, _, rfl, rfl, ?_⟩))))))))))  nd)
    refine wSs_one (wS_unpack (js := [1] ++ ([2] ++ [])) (wE_if (wT_cmp (wE_dat (i := 3) rfl (wE_str (opD_eqS ⟨_, rfl, fun e => ?_, fun e => ?_⟩))))))
    · rw [wd_l] at e; subst e
      refine wE_tup (wA_cons (wE_dat (i := 1) rfl (wA_cons (wE_dat (i := 4) rfl (wA_nil ⟨by show 2 ≤ 100000; omega, wG_tup (wGs_cons (wG_name (i := 1) (wGs_cons (wG_name (i := 2) (wGs_nil ?_) nd)) nd)) rfl⟩)))))
      exact ⟨_, _, _, _, _, _, rfl, by rw [nb_app, hI]; rfl⟩
    · rw [wd_l] at e; subst e
      refine wE_tup (wA_cons (wE_dat (i := 4) rfl (wA_cons (wE_dat (i := 2) rfl (wA_nil ⟨by show 2 ≤ 100000; omega, wG_tup (wGs_cons (wG_name (i := 1) (wGs_cons (wG_name (i := 2) (wGs_nil ?_) nd)) nd)) rfl⟩)))))
      exact ⟨_, _, _, _, _, _, rfl, by rw [nb_app, hI]; rfl⟩
  · rintro δ' ⟨a, b, c, d, sl, sl2, rfl, hI⟩
    unfold nbD at hP
    rw [hI] at hP
    exact wSs_one (wS_ret (wE_tup (wA_cons (wE_dat (i := 1) rfl (wA_cons (wE_dat (i := 2) rfl (wA_nil ⟨by show 2 ≤ 100000; omega, hP⟩)))))))
theorem ok_law_slope_of {f : Addr} {fd : FuncData} {k : Nat} (Fn : Fun K "_law_slope_of" "_law_slope_of" s_law_slope_of f fd) (Cn : Cal Pg w K mg base "_law_neighbours" k false 1 (FOfWord nbD)) : FnG Pg w K mg base CX0 (k + 1) f fd ["word"] (spD K false 1 (FOfWord slD)) := by
  refine fn_D (N := n_law_slope_of) (m := 2) Fn sc_law_slope_of rfl rfl fun cdv A outer s H E hg hr ds P hl hF => ?_
  obtain ⟨bs, rfl, hP⟩ := hF
  have nd := sc_law_slope_of.nd
  unfold slD at hP
  rw [sl_nb] at hP
  show wSs _ _ _ [Sl.dat (.str (wd bs)), Sl.no, Sl.no]
  refine wSs_cons (wS_unpack (js := [1] ++ ([2] ++ [])) (wE_callP Cn hg hr (Nat.le_refl _) (wA_cons (wE_dat (i := 0) rfl (wA_nil ⟨rfl, bs, rfl, ?_⟩)))))
  refine wG_tup (wGs_cons (wG_name (i := 1) (wGs_cons (wG_name (i := 2) (wGs_nil ?_) nd)) nd)) rfl
  exact wSs_one (wS_ret (wE_pr (wE_op (wE_fst (i := 1) rfl (wE_fst (i := 2) rfl (opD_add (wE_op (wE_snd (i := 1) rfl (wE_snd (i := 2) rfl (opD_add ⟨_, _, rfl, rfl, hP⟩))))))))))
theorem ok_law_word_of {f : Addr} {fd : FuncData} {k : Nat} (Fn : Fun K "_law_word_of" "_law_word_of" s_law_word_of f fd) : FnG Pg w K mg base CX0 (k + 1) f fd ["slope"] (spD K false 1 FWordLaw) := by
  refine fn_D (N := n_law_word_of) (m := 3) Fn sc_law_word_of rfl rfl fun cdv A outer s H E hg hr ds P hl hF => ?_
  obtain ⟨bs, rfl, hb, hP⟩ := hF
  have nd := sc_law_word_of.nd
  show wSs _ _ _ [Sl.dat (pr (slF bs).1 (slF bs).2), Sl.no, Sl.no, Sl.no]
  refine wSs_cons (wS_par3 (i := 1) (j := 2) (k := 3) (wX_dat (wE_fst (i := 0) rfl (wE_snd (i := 0) rfl (wE_str ?_)))) nd)
  refine wSs_cons (wS_while (m0 := bs.length) PassesOwn.never (fun m δ' => ∃ (pre r : List Bool) (x y : Int), δ' = [Sl.dat (slD bs), Sl.dat (.int x), Sl.dat (.int y), Sl.dat (.str (wd pre))] ∧ bs = pre ++ r ∧ slF r = (x, y) ∧ m = r.length) ⟨[], bs, _, _, rfl, rfl, rfl, rfl⟩ ?_)
  rintro m δ' ⟨pre, r, x, y, rfl, hbs, hr2, rfl⟩
  have hlen : pre.length + r.length = bs.length := by rw [hbs, List.length_append]
  refine wT_cmp (wE_dat (i := 1) rfl (wE_dat (i := 2) rfl (opD_neI ⟨_, rfl, fun e => ?_, fun e => ?_⟩)))
  · have hxy : x ≠ y := by simpa using e
    have pos := sl_pos r
    rw [hr2] at pos
    refine wSs_one (wS_if (wT_cmp (wE_dat (i := 1) rfl (wE_dat (i := 2) rfl (opD_gt ⟨_, rfl, fun e => ?_, fun e => ?_⟩)))))
    · have hlt := of_decide_eq_true e
      obtain ⟨r', rfl, hr'⟩ := sl_run_l 1 r x y hr2 (by omega)
      refine wSs_one (wS_par (i := 1) (j := 3) (wX_dat (wE_op (wE_dat (i := 1) rfl (wE_dat (i := 2) rfl (opD_sub (wX_dat (wE_op (wE_dat (i := 3) rfl (wE_str (opD_addS ?_ ?_))))))))) ) nd)
      · rw [tx_len, show (Str.ofString "l").length = 1 by decide +kernel]; omega
      · rw [strL, tx_app]
        exact ⟨r'.length, by rw [List.length_append, List.length_replicate]; omega, pre ++ [true], r', x - y, y, rfl, by rw [hbs, List.append_assoc]; rfl, by rw [hr']; simp, rfl⟩
    · have hlt : x < y := by have := of_decide_eq_false e; omega
      obtain ⟨r', rfl, hr'⟩ := sl_run_r 1 r x y hr2 (by omega)
      refine wSs_one (wS_par (i := 2) (j := 3) (wX_dat (wE_op (wE_dat (i := 2) rfl (wE_dat (i := 1) rfl (opD_sub (wX_dat (wE_op (wE_dat (i := 3) rfl (wE_str (opD_addS ?_ ?_))))))))) ) nd)
      · rw [tx_len, show (Str.ofString "r").length = 1 by decide +kernel]; omega
      · rw [strR, tx_app]
        exact ⟨r'.length, by rw [List.length_append, List.length_replicate]; omega, pre ++ [false], r', x, y - x, rfl, by rw [hbs, List.append_assoc]; rfl, by rw [hr']; simp, rfl⟩
  · have hxy : x = y := by simpa using e
    subst hxy
    have := sl_nil hr2
    subst this
    rw [List.append_nil] at hbs
    subst hbs
    exact wSs_one (wS_ret (wE_dat (i := 3) rfl hP))
theorem ok_law_word {f : Addr} {fd : FuncData} {k : Nat} (Fn : Fun K "_law_word" "_law_word" s_law_word f fd) (Ct : Cal Pg w K mg base "_law_take" k true 1 FTake) (Cs : Cal Pg w K mg base "_law_some" k true 1 FSome) (mr : mg "range" = none) : FnG Pg w K mg base CX0 (k + 1) f fd ["bag", "most"] (spD K true 1 FWordB) := by
  refine fn_D (N := n_law_word) (m := 4) Fn sc_law_word rfl rfl fun cdv A outer s H E hg hr ds P hl hF => ?_
  obtain ⟨m, rfl, hm0, hm1, hP⟩ := hF
  have nd := sc_law_word.nd
  have one : ∀ c ∈ (Str.ofString "lr").cps.toList, ∃ b, (⟨#[c]⟩ : Str) = wd [b] := by decide +kernel
  show wSs _ _ _ [Sl.bag, Sl.dat (.int m), Sl.no, Sl.no, Sl.no, Sl.no]
  refine wSs_cons (wS_par (i := 2) (j := 3) (wX_dat (wE_callB (i := 0) Ct hg hr (Nat.le_refl _) rfl (wA_cons (wE_int (wA_nil ⟨rfl, 4, rfl, by omega, by omega, fun way w0 w1 => ?_⟩))))) nd)
  refine wX_dat (wE_callB (i := 0) Ct hg hr (Nat.le_refl _) rfl (wA_cons (wE_op (wE_dat (i := 1) rfl (wE_int (opD_add (wA_nil ⟨rfl, m + 1, rfl, by omega, by omega, fun many y0 y1 => ?_⟩)))))))
  show wSs _ _ _ [Sl.bag, Sl.dat (.int m), Sl.dat (.int way), Sl.dat (.int many), Sl.no, Sl.no]
  refine wSs_cons (wS_if (wT_cmp (wE_dat (i := 2) rfl (wE_int (opD_eqI ⟨_, rfl, fun _ => ?_, fun _ => wSs_nil ?_⟩)))))
  · refine wSs_one (wS_ret (wE_mt1 PySem.F.slot_str_join PySem.F.type_str_join (wE_str ⟨_, rfl, wE.ofF ?_⟩)))
    refine wF_mapP (v := 5) (Q := fun (_ : Nat) (_ : Bool) => True) nd (wI_range1 mr (wE_dat (i := 3) rfl ⟨many.toNat, by rw [Int.toNat_of_nonneg y0], by omega, ?_⟩)) (blkOk_by (N := n_law_word) (sc := defScope s_law_word) (by decide +kernel)) (fun l ds e => by cases e)
    refine ⟨List.range many.toNat, fun i => .int (0 + (i : Int)), fun b => .str (wd [b]), rfl, by rw [List.length_range]; omega, ?_, ?_⟩
    · rintro a ha X' ⟨s', H', C, cl, fp, rfl⟩
      refine wE_callB (i := 0) Cs hg hr (Nat.le_refl _) rfl (wA_cons (wE_str (wA_nil ⟨rfl, .inr ⟨_, rfl, by decide, by decide, fun c hc => ?_⟩⟩)))
      obtain ⟨b, e⟩ := one c hc
      exact ⟨b, by rw [e], trivial⟩
    · intro ys hy _
      rw [List.length_range] at hy
      have e1 : ys.map (fun b => PyData.str (wd [b])) = (ys.map fun b => wd [b]).map PyData.str := by rw [List.map_map]; rfl
      rw [e1]
      refine mtD_join ?_ ?_
      · rw [sum1 _ (fun y hy => by obtain ⟨b, _, rfl⟩ := List.mem_map.mp hy; exact tx_len [b]), List.length_map]
        show _ + _ * 0 ≤ 16777216
        omega
      · rw [tx_join1]
        exact hP _ (by omega)
  refine wSs_cons (wS_if (wT_cmp (wE_dat (i := 2) rfl (wE_int (opD_eqI ⟨_, rfl, fun _ => ?_, fun _ => wSs_nil ?_⟩)))))
  · refine wSs_one (wS_ret (wE_sl (wE_op (wE_callB (i := 0) Cs hg hr (Nat.le_refl _) rfl (wA_cons (wE_lst (wA_cons (wE_str (wA_cons (wE_str (wA_cons (wE_str (wA_cons (wE_str (wA_nil ⟨by show 4 ≤ 100000; omega, wA_nil ⟨rfl, .inl ⟨_, .inl rfl, by show 0 < 4; omega, by show 4 ≤ 1000; omega, fun d hd => ?_⟩⟩⟩)))))))))))))))
    have : ∃ xs : List Bool, d = .str (wd xs) ∧ xs.length ≤ 3 := by
      simp only [List.mem_cons, List.not_mem_nil, or_false] at hd
      rcases hd with rfl | rfl | rfl | rfl
      · exact ⟨[true, false], congrArg PyData.str (by decide +kernel), by decide⟩
      · exact ⟨[false, true], congrArg PyData.str (by decide +kernel), by decide⟩
      · exact ⟨[true, false, false], congrArg PyData.str (by decide +kernel), by decide⟩
      · exact ⟨[true, true, false], congrArg PyData.str (by decide +kernel), by decide⟩
    obtain ⟨xs, rfl, hx⟩ := this
    have hr3 := repB_len many.toNat xs
    have hm3 : many.toNat * xs.length ≤ many.toNat * 3 := Nat.mul_le_mul_left _ hx
    refine wE_dat (i := 3) rfl (opD_mulS (mulOk_small (by rw [tx_len]; omega) y0 (by omega)) (wO_none (wO_some (wE_dat (i := 3) rfl ⟨many, rfl, slD_str ?_ ?_⟩))))
    · rw [tx_mul, tx_len]; omega
    · rw [tx_mul, tx_cut _ y0]
      exact hP _ (by rw [List.length_take]; omega)
  refine wSs_cons (wS_set (i := 4) (wX_dat (wE_str ?_)) nd)
  rw [strE]
  refine wSs_cons (wS_forL (α := Nat) (js := [5]) PassesOwn.never (wI_range1 mr (wE_int ⟨4, rfl, by omega, List.range 4, fun i => .int (0 + (i : Int)), rfl, ?_⟩)))
  refine ⟨fun pre suf δ' => ∃ xs sl, δ' = [Sl.bag, Sl.dat (.int m), Sl.dat (.int way), Sl.dat (.int many), Sl.dat (.str (wd xs)), sl] ∧ xs.length ≤ pre.length * 300, ⟨[], Sl.no, rfl, Nat.zero_le _⟩, ?_, ?_⟩
  · rintro pre x suf δ' hL ⟨xs, sl, rfl, hz⟩
    have hi : pre.length < 4 := by
      have := congrArg List.length hL
      rw [List.length_range, List.length_append, List.length_cons] at this
      omega
    refine wG_name (i := 5) ?_ nd
    refine wSs_one (wS_set (i := 4) (wX_dat (wE_op (wE_dat (i := 4) rfl (wE_op (wE_callB (i := 0) Cs hg hr (Nat.le_refl _) rfl (wA_cons (wE_str (wA_nil ⟨rfl, .inr ⟨_, rfl, by decide, by decide, fun c hc => ?_⟩⟩)))))))) nd)
    obtain ⟨b, e⟩ := one c hc
    rw [e]
    refine wE_callB (i := 0) Ct hg hr (Nat.le_refl _) rfl (wA_cons (wE_op (wE_dat (i := 3) rfl (wE_int (opD_add (wA_nil ⟨rfl, many + 1, rfl, by omega, by omega, fun t t0 t1 => ?_⟩))))))
    refine opD_mulS (mulOk_1 (tx_len _) t0 (by omega)) ?_
    have hr3 := repB_len t.toNat [b]
    rw [List.length_singleton, Nat.mul_one] at hr3
    rw [tx_mul]
    refine opD_addS (by rw [tx_len, tx_len]; omega) ?_
    rw [tx_app]
    exact ⟨xs ++ repB t.toNat [b], _, rfl, by rw [List.length_append, List.length_append, List.length_singleton]; omega⟩
  · rintro δ' ⟨xs, sl, rfl, hz⟩
    rw [List.length_range] at hz
    refine wSs_one (wS_ret (wE_sl (wE_dat (i := 4) rfl (wO_none (wO_some (wE_dat (i := 3) rfl ⟨many, rfl, slD_str (by rw [tx_len]; omega) ?_⟩))))))
    rw [tx_cut _ y0]
    exact hP _ (by rw [List.length_take]; omega)
theorem ok_law_slope {f : Addr} {fd : FuncData} {k : Nat} (Fn : Fun K "_law_slope" "_law_slope" s_law_slope f fd) (Ct : Cal Pg w K mg base "_law_take" k true 1 FTake) (Cw : Cal Pg w K mg base "_law_word" k true 1 FWordB) (Cs : Cal Pg w K mg base "_law_slope_of" k false 1 (FOfWord slD)) (mr : mg "range" = none) : FnG Pg w K mg base CX0 (k + 1) f fd ["bag", "most"] (spD K true 1 FSlopeB) := by
  refine fn_D (N := n_law_slope) (m := 5) Fn sc_law_slope rfl rfl fun cdv A outer s H E hg hr ds P hl hF => ?_
  obtain ⟨m, rfl, hm0, hm1, hP⟩ := hF
  have nd := sc_law_slope.nd
  show wSs _ _ _ [Sl.bag, Sl.dat (.int m), Sl.no, Sl.no, Sl.no, Sl.no, Sl.no]
  refine wSs_cons (wS_set (i := 2) (wX_dat (wE_callB (i := 0) Ct hg hr (Nat.le_refl _) rfl (wA_cons (wE_int (wA_nil ⟨rfl, 3, rfl, by omega, by omega, fun way w0 w1 => ?_⟩))))) nd)
  refine wSs_cons (wS_if (wT_cmp (wE_dat (i := 2) rfl (wE_int (opD_eqI ⟨_, rfl, fun _ => ?_, fun _ => wSs_nil ?_⟩)))))
  · refine wSs_one (wS_ret (wE_callP Cs hg hr (Nat.le_refl _) (wA_cons (wE_callB (i := 0) Cw hg hr (Nat.le_refl _) rfl (wA_cons (wE_int (wA_nil ⟨rfl, 3, rfl, by omega, by omega, fun bs hb => wA_nil ⟨rfl, bs, rfl, hP bs ?_⟩⟩)))))))
    have := sl_le bs
    have h2 : (2 : Int) ^ (bs.length + 1) ≤ 2 ^ 4 := by exact_mod_cast Nat.pow_le_pow_right (by decide) (by omega)
    have : (2 : Int) ^ 4 = 16 := by decide
    omega
  refine wSs_cons (wS_if (wT_cmp (wE_dat (i := 2) rfl (wE_int (opD_eqI ⟨_, rfl, fun _ => ?_, fun _ => wSs_nil ?_⟩)))))
  · refine wSs_cons (wS_set (i := 3) (wX_dat (wE_callB (i := 0) Ct hg hr (Nat.le_refl _) rfl (wA_cons (wE_op (wE_dat (i := 1) rfl (wE_int (opD_sub (wA_nil ⟨rfl, m - 1, rfl, by omega, by omega, fun many y0 y1 => ?_⟩)))))))) nd)
    have el : slF (List.replicate many.toNat true) = (1 + many, 1) := by
      have := sl_rep_l many.toNat []
      rw [List.append_nil] at this
      rw [this]
      show ((1 : Int) + (many.toNat : Int) * 1, (1 : Int)) = _
      rw [Int.toNat_of_nonneg y0, Int.mul_one]
    have er : slF (List.replicate many.toNat false) = (1, 1 + many) := by
      have := sl_rep_r many.toNat []
      rw [List.append_nil] at this
      rw [this]
      show ((1 : Int), (1 : Int) + (many.toNat : Int) * 1) = _
      rw [Int.toNat_of_nonneg y0, Int.mul_one]
    have h1 := hP (List.replicate many.toNat true) (by rw [el]; show 1 + many + 1 ≤ m; omega)
    have h2 := hP (List.replicate many.toNat false) (by rw [er]; show 1 + (1 + many) ≤ m; omega)
    rw [sl_eq, el] at h1
    rw [sl_eq, er] at h2
    refine wSs_one (wS_ret (wE_if (wT_cmp (wE_callB (i := 0) Ct hg hr (Nat.le_refl _) rfl (wA_cons (wE_int (wA_nil ⟨rfl, 2, rfl, by omega, by omega, fun t t0 t1 => wE_int (opD_eqI ⟨_, rfl, fun _ => ?_, fun _ => ?_⟩)⟩)))))))
    · exact wE_pr (wE_op (wE_int (wE_dat (i := 3) rfl (opD_add (wE_int ⟨_, _, rfl, rfl, h1⟩)))))
    · exact wE_pr (wE_int (wE_op (wE_int (wE_dat (i := 3) rfl (opD_add ⟨_, _, rfl, rfl, h2⟩)))))
  refine wSs_cons (wS_set (i := 4) (wX_dat (wE_callB (i := 0) Cw hg hr (Nat.le_refl _) rfl (wA_cons (wE_int (wA_nil ⟨rfl, 12, rfl, by omega, by omega, fun bs hb => ?_⟩))))) nd)
  refine wSs_cons (wS_forL (α := Nat) (js := [5]) PassesOwn.never (wI_range1 mr (wE_int ⟨12, rfl, by omega, List.range 12, fun i => .int (0 + (i : Int)), rfl, ?_⟩)))
  refine ⟨fun pre suf δ' => ∃ (xs : List Bool) (s5 s6 : Sl), δ' = [Sl.bag, Sl.dat (.int m), Sl.dat (.int way), Sl.no, Sl.dat (.str (wd xs)), s5, s6] ∧ xs.length ≤ 300, ⟨bs, Sl.no, Sl.no, rfl, by omega⟩, ?_, ?_⟩
  · rintro pre x suf δ' hL ⟨xs, s5, s6, rfl, hx⟩
    refine wG_name (i := 5) ?_ nd
    refine wSs_cons (wS_set (i := 6) (wX_dat (wE_callP Cs hg hr (Nat.le_refl _) (wA_cons (wE_dat (i := 4) rfl (wA_nil ⟨rfl, xs, rfl, ?_⟩))))) nd)
    refine wSs_cons (wS_if (wT_cmp (wE_op (wE_fst (i := 6) rfl (wE_snd (i := 6) rfl (opD_add (wE_dat (i := 1) rfl (opD_le ⟨_, rfl, fun e => ?_, fun _ => wSs_nil ?_⟩))))))))
    · exact wSs_one (wS_ret (wE_dat (i := 6) rfl (hP xs (of_decide_eq_true e))))
    · refine wSs_one (wS_set (i := 4) (wX_dat (wE_sl (wE_dat (i := 4) rfl (wO_none (wO_some (wE_un (wE_int (unD_neg ⟨-1, rfl, slD_str (by rw [tx_len]; omega) ?_⟩)))))))) nd)
      rw [tx_cutLast]
      exact ⟨xs.dropLast, _, _, rfl, by rw [List.length_dropLast]; omega⟩
  · rintro δ' ⟨xs, s5, s6, rfl, hx⟩
    exact wSs_one (wS_ret (wE_pr (wE_int (wE_int ⟨1, 1, rfl, rfl, hP [] (by show (1 : Int) + 1 ≤ m; omega)⟩))))
end
end YL

namespace YL
open PySem PySem.Spec L2 YV
open PyProof.Rows (subscriptTail envOfC)
def FAdd (ds : List PyData) (P : PyData → Prop) : Prop := ∃ a b c d : Int, ds = [pr a b, pr c d] ∧ P (pr (a + c) (b + d))
def FNextN (ds : List PyData) (P : PyData → Prop) : Prop := ∃ (a b c d : Int) (x : Bool), ds = [.tuple [pr a b, pr c d], .str (wd [x])] ∧ P (if x = true then .tuple [pr a b, pr (a + c) (b + d)] else .tuple [pr (a + c) (b + d), pr c d])
def FMid (ds : List PyData) (P : PyData → Prop) : Prop := ∃ a b c d : Int, ds = [.tuple [pr a b, pr c d]] ∧ P (pr (a + c) (b + d))
def FRuns (ds : List PyData) (P : PyData → Prop) : Prop := ∃ bs : List Bool, ds = [.str (wd bs)] ∧ bs.length ≤ 300 ∧ P (.tuple ((runsF bs).map rnD))
def exD (bs : List Bool) : PyData := .str (wd (bs.map not))
def FExch (ds : List PyData) (P : PyData → Prop) : Prop := ∃ bs : List Bool, ds = [.str (wd bs)] ∧ bs.length ≤ 300 ∧ P (exD bs)
theorem sum_le : ∀ (L : List (List Bool)) (m : Nat), (∀ x ∈ L, x.length ≤ m) → (L.map List.length).sum ≤ L.length * m
  | [], _, _ => Nat.zero_le _
  | x :: L, m, h => by
    rw [List.map_cons, List.sum_cons, List.length_cons, Nat.add_mul]
    have := sum_le L m fun y hy => h y (List.mem_cons_of_mem _ hy)
    have := h x (List.mem_cons_self ..)
    omega
section
variable {Pg : Program} {w : World} {K : PySem.W.Frag} {mg : Str → Option Value} {base : Heap}
theorem ok_added {f : Addr} {fd : FuncData} {k : Nat} (Fn : Fun K "added" "added" s_added f fd) : FnG Pg w K mg base CX0 (k + 1) f fd ["one", "other"] (spD K false 2 FAdd) := by
  refine fn_D (N := n_added) (m := 0) Fn sc_added rfl rfl fun cdv A outer s H E hg hr ds P hl hF => ?_
  obtain ⟨a, b, c, d, rfl, hP⟩ := hF
  show wSs _ _ _ [Sl.dat (pr a b), Sl.dat (pr c d)]
  exact wSs_one <| wS_ret <| wE_pr <| wE_op <| wE_fst (i := 0) rfl <| wE_fst (i := 1) rfl <| opD_add <| wE_op <| wE_snd (i := 0) rfl <| wE_snd (i := 1) rfl <| opD_add ⟨_, _, rfl, rfl, hP⟩
theorem ok_next_neighbours {f : Addr} {fd : FuncData} {k : Nat} (Fn : Fun K "next_neighbours" "next_neighbours" s_next_neighbours f fd) (Ca : Cal Pg w K mg base "added" k false 2 FAdd) : FnG Pg w K mg base CX0 (k + 1) f fd ["neighbours", "letter"] (spD K false 2 FNextN) := by
  refine fn_D (N := n_next_neighbours) (m := 2) Fn sc_next_neighbours rfl rfl fun cdv A outer s H E hg hr ds P hl hF => ?_
  obtain ⟨a, b, c, d, x, rfl, hP⟩ := hF
  have nd := sc_next_neighbours.nd
  show wSs _ _ _ [Sl.dat (.tuple [pr a b, pr c d]), Sl.dat (.str (wd [x])), Sl.no, Sl.no]
  refine wSs_cons <| wS_unpack <| wE_dat (i := 0) rfl <| wG_tup (wGs_cons (wG_name (i := 2) (wGs_cons (wG_name (i := 3) (wGs_nil ?_) nd)) nd)) rfl
  refine wSs_cons <| wS_if <| wT_cmp <| wE_dat (i := 1) rfl <| wE_str <| opD_eqS ⟨_, rfl, fun e => ?_, fun e => wSs_nil ?_⟩
  · rw [wd_l] at e; subst e
    exact wSs_one <| wS_ret <| wE_tup <| wA_cons <| wE_dat (i := 2) rfl <| wA_cons <| wE_callP Ca hg hr (Nat.le_refl _) <| wA_cons <| wE_dat (i := 2) rfl <| wA_cons <| wE_dat (i := 3) rfl <| wA_nil ⟨rfl, a, b, c, d, rfl, wA_nil ⟨by show 2 ≤ 100000; omega, hP⟩⟩
  · rw [wd_l] at e; subst e
    exact wSs_one <| wS_ret <| wE_tup <| wA_cons <| wE_callP Ca hg hr (Nat.le_refl _) <| wA_cons <| wE_dat (i := 2) rfl <| wA_cons <| wE_dat (i := 3) rfl <| wA_nil ⟨rfl, a, b, c, d, rfl, wA_cons <| wE_dat (i := 3) rfl <| wA_nil ⟨by show 2 ≤ 100000; omega, hP⟩⟩
theorem ok_middle_of {f : Addr} {fd : FuncData} {k : Nat} (Fn : Fun K "middle_of" "middle_of" s_middle_of f fd) (Ca : Cal Pg w K mg base "added" k false 2 FAdd) : FnG Pg w K mg base CX0 (k + 1) f fd ["neighbours"] (spD K false 1 FMid) := by
  refine fn_D (N := n_middle_of) (m := 0) Fn sc_middle_of rfl rfl fun cdv A outer s H E hg hr ds P hl hF => ?_
  obtain ⟨a, b, c, d, rfl, hP⟩ := hF
  show wSs _ _ _ [Sl.dat (.tuple [pr a b, pr c d])]
  exact wSs_one <| wS_ret <| wE_callP Ca hg hr (Nat.le_refl _) <| wA_cons <| wE_ix <| wE_dat (i := 0) rfl <| wE_int <| ixD_tup (d := pr a b) rfl <| wA_cons <| wE_ix <| wE_dat (i := 0) rfl <| wE_int <| ixD_tup (d := pr c d) rfl <| wA_nil ⟨rfl, a, b, c, d, rfl, hP⟩
theorem ok_neighbours_of {f : Addr} {fd : FuncData} {k : Nat} (Fn : Fun K "neighbours_of" "neighbours_of" s_neighbours_of f fd) (Cn : Cal Pg w K mg base "next_neighbours" k false 2 FNextN) : FnG Pg w K mg base CX0 (k + 1) f fd ["word"] (spD K false 1 (FOfWord nbD)) := by
  refine fn_D (N := n_neighbours_of) (m := 2) Fn sc_neighbours_of rfl rfl fun cdv A outer s H E hg hr ds P hl hF => ?_
  obtain ⟨bs, rfl, hP⟩ := hF
  have nd := sc_neighbours_of.nd
  show wSs _ _ _ [Sl.dat (.str (wd bs)), Sl.no, Sl.no]
  refine wSs_cons <| wS_set (i := 1) (wX_dat <| wE_tup <| wA_cons <| wE_pr <| wE_int <| wE_int ⟨1, 0, rfl, rfl, wA_cons <| wE_pr <| wE_int <| wE_int ⟨0, 1, rfl, rfl, wA_nil ⟨by show 2 ≤ 100000; omega, ?_⟩⟩⟩) nd
  refine wSs_cons (wS_forL (js := [2]) PassesOwn.never (wI_str (wE_dat (i := 0) rfl ⟨_, rfl, bs, fun b => .str (wd [b]), tx_signs bs, ?_⟩)))
  refine ⟨fun pre suf δ' => ∃ a b c d sl, δ' = [Sl.dat (.str (wd bs)), Sl.dat (.tuple [pr a b, pr c d]), sl] ∧ nbF 1 0 0 1 pre = (a, b, c, d), ⟨1, 0, 0, 1, Sl.no, rfl, rfl⟩, ?_, ?_⟩
  · rintro pre x suf δ' hbs ⟨a, b, c, d, sl, rfl, hI⟩
    refine wG_name (i := 2) ?_ nd
    refine wSs_one <| wS_set (i := 1) (wX_dat <| wE_callP Cn hg hr (Nat.le_refl _) <| wA_cons <| wE_dat (i := 1) rfl <| wA_cons <| wE_dat (i := 2) rfl <| wA_nil ⟨rfl, a, b, c, d, x, rfl, ?_⟩) nd
    cases x with
    | true =>
      rw [if_pos rfl]
      exact ⟨_, _, _, _, _, rfl, by rw [nb_app, hI]; rfl⟩
    | false =>
      rw [if_neg (show ¬ false = true from Bool.false_ne_true)]
      exact ⟨_, _, _, _, _, rfl, by rw [nb_app, hI]; rfl⟩
  · rintro δ' ⟨a, b, c, d, sl, rfl, hI⟩
    unfold nbD at hP
    rw [hI] at hP
    exact wSs_one <| wS_ret <| wE_dat (i := 1) rfl hP
theorem ok_slope_of {f : Addr} {fd : FuncData} {k : Nat} (Fn : Fun K "slope_of" "slope_of" s_slope_of f fd) (Cn : Cal Pg w K mg base "neighbours_of" k false 1 (FOfWord nbD)) (Cm : Cal Pg w K mg base "middle_of" k false 1 FMid) : FnG Pg w K mg base CX0 (k + 1) f fd ["word"] (spD K false 1 (FOfWord slD)) := by
  refine fn_D (N := n_slope_of) (m := 0) Fn sc_slope_of rfl rfl fun cdv A outer s H E hg hr ds P hl hF => ?_
  obtain ⟨bs, rfl, hP⟩ := hF
  unfold slD at hP
  rw [sl_nb] at hP
  show wSs _ _ _ [Sl.dat (.str (wd bs))]
  exact wSs_one <| wS_ret <| wE_callP Cm hg hr (Nat.le_refl _) <| wA_cons <| wE_callP Cn hg hr (Nat.le_refl _) <| wA_cons <| wE_dat (i := 0) rfl <| wA_nil ⟨rfl, bs, rfl, wA_nil ⟨rfl, _, _, _, _, rfl, hP⟩⟩
theorem ok_range_of {f : Addr} {fd : FuncData} {k : Nat} (Fn : Fun K "range_of" "range_of" s_range_of f fd) (Cn : Cal Pg w K mg base "neighbours_of" k false 1 (FOfWord nbD)) : FnG Pg w K mg base CX0 (k + 1) f fd ["word"] (spD K false 1 (FOfWord nbD)) := by
  refine fn_D (N := n_range_of) (m := 0) Fn sc_range_of rfl rfl fun cdv A outer s H E hg hr ds P hl hF => ?_
  obtain ⟨bs, rfl, hP⟩ := hF
  show wSs _ _ _ [Sl.dat (.str (wd bs))]
  exact wSs_one <| wS_ret <| wE_callP Cn hg hr (Nat.le_refl _) <| wA_cons <| wE_dat (i := 0) rfl <| wA_nil ⟨rfl, bs, rfl, hP⟩
theorem ok_exchanged {f : Addr} {fd : FuncData} {k : Nat} (Fn : Fun K "exchanged" "exchanged" s_exchanged f fd) : FnG Pg w K mg base CX0 (k + 1) f fd ["word"] (spD K false 1 FExch) := by
  refine fn_D (N := n_exchanged) (m := 1) Fn sc_exchanged rfl rfl fun cdv A outer s H E hg hr ds P hl hF => ?_
  obtain ⟨bs, rfl, hb, hP⟩ := hF
  have nd := sc_exchanged.nd
  show wSs _ _ _ [Sl.dat (.str (wd bs)), Sl.no]
  refine wSs_one <| wS_ret <| wE_mt1 PySem.F.slot_str_join PySem.F.type_str_join <| wE_str ⟨_, rfl, wE.ofF ?_⟩
  refine wF_map1 (v := 1) nd (wI_str (wE_dat (i := 0) rfl ⟨_, rfl, bs, (fun b => .str (wd [b])), (fun b => .str (wd [!b])), tx_signs bs, by omega, ?_, ?_⟩)) (blkOk_by (N := n_exchanged) (sc := defScope s_exchanged) (by decide +kernel)) (fun l ds e => by cases e)
  · rintro b hb X' ⟨s', H', C', cl, fp, rfl⟩
    refine wE_if <| wT_cmp <| wE_dat (i := 1) rfl <| wE_str <| opD_eqS ⟨_, rfl, fun e => wE_str ?_, fun e => wE_str ?_⟩
    · rw [wd_l] at e; subst e; exact congrArg PyData.str strR
    · rw [wd_l] at e; subst e; exact congrArg PyData.str strL
  have e2 : bs.map (fun b => PyData.str (wd [!b])) = ((bs.map not).map fun b => wd [b]).map PyData.str := by rw [List.map_map, List.map_map]; rfl
  rw [e2]
  refine mtD_join ?_ ?_
  · rw [sum1 _ (fun y hy => by obtain ⟨b, _, rfl⟩ := List.mem_map.mp hy; exact tx_len [b]), List.length_map, List.length_map]
    show _ + _ * 0 ≤ 16777216
    omega
  rw [tx_join1]
  exact hP
end
end YL

namespace YL
open PySem PySem.Spec L2 YV
open PyProof.Rows (subscriptTail envOfC)
theorem ixD_tx {X : Cx} {P : PyData → Prop} {c0 c1 : Nat} {bs : List Bool} {n : Nat} {b : Bool} (hl : bs.length ≤ 100000) (e : bs[n]? = some b) (p : P (.str (tx c0 c1 [b]))) : ixD X (.str (tx c0 c1 bs)) (.int n) P :=
  ixD_str (c := if b = true then c0 else c1) (by rw [tx_len]; exact hl) (atI_nat (by rw [tx_list, List.getElem?_map, e]; rfl)) p
theorem ixD_txI {X : Cx} {P : PyData → Prop} {c0 c1 : Nat} {bs : List Bool} {n : Nat} {i : Int} {b : Bool} (hi : i = (n : Int)) (hl : bs.length ≤ 100000) (e : bs[n]? = some b) (p : P (.str (tx c0 c1 [b]))) : ixD X (.str (tx c0 c1 bs)) (.int i) P := by
  subst hi; exact ixD_tx hl e p
theorem wd_ne (c b : Bool) : decide (wd [c] = wd [b]) = decide (c = b) := by
  rw [tx_dec (by decide)]
  exact decide_eq_decide.mpr ⟨fun e => (List.cons.inj e).1, fun e => by rw [e]⟩
structure RunI (bs : List Bool) (i : Nat) (acc : List (Bool × Nat)) (start : Nat) : Prop where
  go : i < bs.length → ∃ pre m b rest, bs = pre ++ (List.replicate (m + 1) b ++ rest) ∧ pre.length = start ∧ start + m = i ∧ runsF bs = acc ++ runsF (List.replicate (m + 1) b ++ rest)
  stop : i = bs.length → acc = runsF bs
  few : acc.length ≤ i
theorem RunI.zero (bs : List Bool) : RunI bs 0 [] 0 := by
  refine ⟨fun h => ?_, fun h => ?_, Nat.le_refl _⟩
  · cases bs with
    | nil => simp at h
    | cons b r => exact ⟨[], 0, b, r, rfl, rfl, rfl, rfl⟩
  · rw [List.eq_nil_of_length_eq_zero h.symm]; rfl
theorem rnP (rs : List (Bool × Nat)) (h : ∀ p ∈ rs, p.2 ≤ 1000) : PlBA 8 (rs.map rnD) 1 100 := PlBA.of fun d hd => by
  obtain ⟨p, hp, rfl⟩ := List.mem_map.mp hd
  have hn : Dg 4 (p.2 : Int) := by have := h p hp; show Int.natAbs _ < 10 ^ 4; omega
  have h1 : PlB 8 (.str (wd [p.1])) 0 1 := by
    have := PlB.str (B := 8) (tx_lay (c0 := 108) (c1 := 114) (by decide) (by decide) [p.1]) 0
    rw [tx_len] at this
    exact this
  have h2 : PlB 8 (.int (p.2 : Nat)) 0 (4 * 4) := PlB.int hn (by decide) (by decide) 0
  exact (PlB.tup (n := 0) (W := 16) (.cons (h1.up (Nat.le_refl _) (by decide)) (.cons h2 (.nil _ _)))).up (Nat.le_refl _) (by show 2 * (16 + 1) ≤ 100; decide)
section
variable {Pg : Program} {w : World} {K : PySem.W.Frag} {mg : Str → Option Value} {base : Heap}
theorem ok_runs_of {f : Addr} {fd : FuncData} {k : Nat} (Fn : Fun K "runs_of" "runs_of" s_runs_of f fd) (mr : mg "range" = none) (ml : mg "len" = none) (mt : mg "tuple" = none) : FnG Pg w K mg base CX0 (k + 1) f fd ["word"] (spD K false 1 FRuns) := by
  refine fn_D (N := n_runs_of) (m := 3) Fn sc_runs_of rfl rfl fun cdv A outer s H E hg hr ds P hl hF => ?_
  obtain ⟨bs, rfl, hb, hP⟩ := hF
  have nd := sc_runs_of.nd
  show wSs _ _ _ [Sl.dat (.str (wd bs)), Sl.no, Sl.no, Sl.no]
  refine wSs_cons (wS_set (i := 1) (wX_own (wF_lst (wA_nil ⟨by decide, fun l => ?_⟩))) nd)
  refine wSs_cons (wS_set (i := 2) (wX_dat (wE_int ?_)) nd)
  refine wSs_cons <| wS_forL (α := Nat) (js := [3]) PassesOwn.never <| wI_range2 mr <| wE_int <| wE.scal <| wE_op <| wE_len ml <| wE_dat (i := 0) rfl <| .inr ⟨_, rfl, by rw [tx_len]; omega, wE_int <| opD_add ⟨rfl, 1, ((wd bs).length : Int) + 1, rfl, rfl, by decide, by decide, by omega, by rw [tx_len]; omega, List.range bs.length, fun i => .int (1 + (i : Int)), ?_, ?_⟩⟩
  · rw [tx_len]
    unfold rangeD
    rw [show ((bs.length : Int) + 1 - 1).toNat = bs.length by omega]
  refine ⟨fun pre suf δ' => ∃ acc start sl, δ' = [Sl.dat (.str (wd bs)), Sl.own l (acc.map rnD), Sl.dat (.int (start : Nat)), sl] ∧ RunI bs pre.length acc start, ⟨[], 0, Sl.no, rfl, RunI.zero bs⟩, ?_, ?_⟩
  · rintro pre x suf δ' hL ⟨acc, start, sl, rfl, hI⟩
    have hi : pre.length < bs.length := by
      have := congrArg List.length hL
      rw [List.length_range, List.length_append, List.length_cons] at this
      omega
    have hx : x = pre.length := by
      have h1 : (List.range bs.length)[pre.length]? = some x := by rw [hL, List.getElem?_append_right (Nat.le_refl _), Nat.sub_self]; rfl
      rw [List.getElem?_range hi] at h1
      exact Eq.symm (Option.some.inj h1)
    subst hx
    obtain ⟨pr0, m, b, rest, hbs, hp, hm, hrun⟩ := hI.go hi
    have hlen : bs.length = start + (m + 1) + rest.length := by
      rw [hbs, List.length_append, List.length_append, List.length_replicate, hp]; omega
    have hst : bs[start]? = some b := by
      rw [hbs, List.getElem?_append_right (by omega), hp, Nat.sub_self]; rfl
    have hfew := hI.few
    have hpl : (pre ++ [pre.length]).length = pre.length + 1 := by rw [List.length_append]; rfl
    refine wG_name (i := 3) ?_ nd
    have push : ∀ acc' : List (Bool × Nat), acc' = acc ++ [(b, m + 1)] → RunI bs (pre.length + 1) acc' (pre.length + 1) → wSs (cxOf CX0 Pg w K mg base n_runs_of "runs_of" (defScope s_runs_of) f cdv A outer s H E).nox
        (match (defBody s_runs_of).getD 2 (.Pass ⟨0, 0, 0, 0⟩) with | .For _ _ [.If _ t _ _] _ _ => t | _ => [])
        { nx := fun δ' => ∃ acc start sl, δ' = [Sl.dat (.str (wd bs)), Sl.own l (acc.map rnD), Sl.dat (.int (start : Nat)), sl] ∧ RunI bs (pre ++ [pre.length]).length acc start, ct := fun δ' => ∃ acc start sl, δ' = [Sl.dat (.str (wd bs)), Sl.own l (acc.map rnD), Sl.dat (.int (start : Nat)), sl] ∧ RunI bs (pre ++ [pre.length]).length acc start, rt := P } [Sl.dat (.str (wd bs)), Sl.own l (acc.map rnD), Sl.dat (.int (start : Nat)), Sl.dat (.int (1 + ((pre.length : Nat) : Int)))] := fun acc' ha hR => by
      refine wSs_cons <| wS_append (i := 1) rfl <| wE_tup <| wA_cons <| wE_ix <| wE_dat (i := 0) rfl <| wE_dat (i := 2) rfl <| ixD_tx (by omega) hst <| wA_cons <| wE_op <| wE_dat (i := 3) rfl <| wE_dat (i := 2) rfl <| opD_sub <| wA_nil ⟨by show 2 ≤ 100000; omega, by rw [List.length_map]; omega, ?_⟩
      refine wSs_one <| wS_set (i := 2) (wX_dat <| wE_dat (i := 3) rfl ?_) nd
      refine ⟨acc', pre.length + 1, Sl.dat (.int (1 + ((pre.length : Nat) : Int))), ?_, by rw [hpl]; exact hR⟩
      rw [ha, List.map_append, show ((pre.length + 1 : Nat) : Int) = 1 + (pre.length : Int) by omega, show (1 + (pre.length : Int) - (start : Int)) = ((m + 1 : Nat) : Int) by omega]; rfl
    refine wSs_one <| wS_if <| wT_ofW <| wW_or <| wT_cmp <| wE_dat (i := 3) rfl <| wE_len ml <| wE_dat (i := 0) rfl <| .inr ⟨_, rfl, by rw [tx_len]; omega, opD_eqI ⟨_, rfl, fun e => ?_, fun e => ?_⟩⟩
    · have e1 := of_decide_eq_false e
      rw [tx_len] at e1
      cases rest with
      | nil => rw [List.length_nil] at hlen; omega
      | cons c t =>
        have hen : bs[pre.length + 1]? = some c := by
          rw [hbs, List.getElem?_append_right (by omega), List.getElem?_append_right (by rw [List.length_replicate]; omega), List.length_replicate, show pre.length + 1 - pr0.length - (m + 1) = 0 by omega]; rfl
        refine wW_or1 <| wT_cmp <| wE_ix <| wE_dat (i := 0) rfl <| wE_dat (i := 3) rfl <| ixD_txI (n := pre.length + 1) (by show 1 + (pre.length : Int) = _; omega) (by omega) hen <| wE_ix <| wE_dat (i := 0) rfl <| wE_dat (i := 2) rfl <| ixD_tx (by omega) hst <| opD_neS ⟨_, rfl, fun e => ?_, fun e => ?_⟩
        · rw [wd_ne] at e
          have hcb : c ≠ b := by simpa using e
          refine wSs.imp (push _ rfl ⟨fun _ => ⟨pr0 ++ List.replicate (m + 1) b, 0, c, t, by rw [hbs]; simp, by rw [List.length_append, List.length_replicate]; omega, by omega, ?_⟩, fun h => ?_, by rw [List.length_append]; show _ + 1 ≤ _; omega⟩) (fun _ h => h) (fun _ h => h) (fun _ h => h.elim) (fun _ h => h)
          · rw [hrun, runs_cut m b (c :: t) (fun c' t' e' => by cases e'; exact hcb), List.append_assoc]; rfl
          · rw [List.length_cons] at hlen; omega
        · rw [wd_ne] at e
          have hcb : c = b := by simpa using e
          subst hcb
          refine wSs_nil ⟨acc, start, _, rfl, ?_⟩
          rw [hpl]
          have er : List.replicate (m + 1) c ++ c :: t = List.replicate (m + 1 + 1) c ++ t := by rw [List.replicate_succ' (n := m + 1), List.append_assoc]; rfl
          refine ⟨fun _ => ⟨pr0, m + 1, c, t, by rw [hbs, er], hp, by omega, by rw [hrun, er]⟩, fun h => ?_, by omega⟩
          rw [List.length_cons] at hlen; omega
    · have e1 := of_decide_eq_true e
      rw [tx_len] at e1
      have hre : rest = [] := List.eq_nil_of_length_eq_zero (by omega)
      subst hre
      refine ⟨fun _ => wSs.imp (push _ rfl ⟨fun h => by omega, fun _ => ?_, by rw [List.length_append]; show _ + 1 ≤ _; omega⟩) (fun _ h => h) (fun _ h => h) (fun _ h => h.elim) (fun _ h => h), fun e => by cases e⟩
      rw [hrun, runs_cut m b [] (fun c' t' e' => by cases e')]; rfl
  · rintro δ' ⟨acc, start, sl, rfl, hI⟩
    rw [List.length_range] at hI
    have := hI.stop rfl
    subst this
    exact wSs_one <| wS_ret <| wE_ty1 PyProof.Rows.boot_tuple mt <| wE_own (i := 1) rfl <| caD_tuple hP
end
end YL

namespace YL
open PySem PySem.Spec L2 YV
open PyProof.Rows (subscriptTail envOfC)
def FLessB (ds : List PyData) (P : PyData → Prop) : Prop := ∃ a b c d : Int, ds = [pr a b, pr c d] ∧ Bg a ∧ Bg b ∧ Bg c ∧ Bg d ∧ P (.bool (decide (b * c < a * d)))
def FGcd (ds : List PyData) (P : PyData → Prop) : Prop := ∃ a b : Nat, ds = [.int a, .int b] ∧ a ≤ 10000 ∧ b ≤ 10000 ∧ P (.int (Nat.gcd a b : Nat))
def FShort (ds : List PyData) (P : PyData → Prop) : Prop := ∃ (bs : List Bool) (m : Int), ds = [.str (wd bs), .int m] ∧ bs.length ≤ 300 ∧ 1 ≤ m ∧ ∀ xs : List Bool, (slF xs).1 ≤ m → (slF xs).2 ≤ m → P (.str (wd xs))
theorem gcd_go (a b : Nat) : Nat.gcd b (a % b) = Nat.gcd a b := by rw [Nat.gcd_comm b, ← Nat.gcd_rec, Nat.gcd_comm]
theorem sl_ex : ∀ (n p q : Nat), p + q ≤ n → 1 ≤ p → 1 ≤ q → Nat.gcd p q = 1 → ∃ bs : List Bool, slF bs = ((p : Int), (q : Int))
  | 0, p, q, h, hp, hq, _ => by omega
  | n + 1, p, q, h, hp, hq, hg => by
    rcases Nat.lt_trichotomy p q with c | c | c
    · have e : Nat.gcd p (q - p) = 1 := by rw [Nat.gcd_sub_self_right (Nat.le_of_lt c)]; exact hg
      obtain ⟨r, hr⟩ := sl_ex n p (q - p) (by omega) hp (by omega) e
      refine ⟨false :: r, ?_⟩
      rw [slF, hr]
      simp only [Prod.mk.injEq, true_and]; omega
    · subst c
      rw [Nat.gcd_self] at hg
      subst hg
      exact ⟨[], rfl⟩
    · have e : Nat.gcd (p - q) q = 1 := by rw [Nat.gcd_sub_self_left (Nat.le_of_lt c)]; exact hg
      obtain ⟨r, hr⟩ := sl_ex n (p - q) q (by omega) (by omega) hq e
      refine ⟨true :: r, ?_⟩
      rw [slF, hr]
      simp only [Prod.mk.injEq, and_true]; omega
theorem eqv_nil (L : List PyData) : PyData.eqv (.list L) (.list []) = L.isEmpty := by
  cases L with
  | nil => rfl
  | cons a L => simp [PyData.eqv, PyData.eqvAll]
section
variable {Pg : Program} {w : World} {K : PySem.W.Frag} {mg : Str → Option Value} {base : Heap}
theorem ok_law_less {f : Addr} {fd : FuncData} {k : Nat} (Fn : Fun K "_law_less_steep" "_law_less_steep" s_law_less_steep f fd) : FnG Pg w K mg base CX0 (k + 1) f fd ["one", "other"] (spD K false 2 FLessB) := by
  refine fn_D (N := n_law_less_steep) (m := 0) Fn sc_law_less_steep rfl rfl fun cdv A outer s H E hg hr ds P hl hF => ?_
  obtain ⟨a, b, c, d, rfl, ha, hb, hc, hd, hP⟩ := hF
  show wSs _ _ _ [Sl.dat (pr a b), Sl.dat (pr c d)]
  exact wSs_one <| wS_ret <| wE_cmp <| wE_op <| wE_snd (i := 0) rfl <| wE_fst (i := 1) rfl <| opD_mulW hb hc <| wE_op <| wE_fst (i := 0) rfl <| wE_snd (i := 1) rfl <| opD_mulW ha hd <| opD_lt hP
theorem ok_law_common {f : Addr} {fd : FuncData} {k : Nat} (Fn : Fun K "_law_common" "_law_common" s_law_common f fd) : FnG Pg w K mg base CX0 (k + 1) f fd ["n", "d"] (spD K false 2 FGcd) := by
  refine fn_D (N := n_law_common) (m := 0) Fn sc_law_common rfl rfl fun cdv A outer s H E hg hr ds P hl hF => ?_
  obtain ⟨a, b, rfl, ha, hb, hP⟩ := hF
  show wSs _ _ _ [Sl.dat (.int a), Sl.dat (.int b)]
  refine wSs_cons (wS_while (m0 := b) PassesOwn.never (fun m δ' => ∃ x y : Nat, δ' = [Sl.dat (.int x), Sl.dat (.int y)] ∧ x ≤ 10000 ∧ y ≤ 10000 ∧ Nat.gcd x y = Nat.gcd a b ∧ y = m) ⟨a, b, rfl, ha, hb, rfl, rfl⟩ ?_)
  rintro m δ' ⟨x, y, rfl, hx, hy, hg', rfl⟩
  refine wT_cmp (wE_dat (i := 1) rfl (wE_int (opD_gt ⟨_, rfl, fun e => ?_, fun e => ?_⟩)))
  · have y0 : 0 < y := by have := of_decide_eq_true e; omega
    refine wSs_one (wS_par (i := 0) (j := 1) (wX_dat (wE_dat (i := 1) rfl ?_)) sc_law_common.nd)
    refine wX_dat (wE_op (wE_dat (i := 0) rfl (wE_op (wE_op (wE_dat (i := 0) rfl (wE_dat (i := 1) rfl (opD_fdiv ⟨by omega, by omega⟩ ?_)))))))
    refine wE_dat (i := 1) rfl (opD_mul (.inr ⟨by omega, by omega⟩) (opD_sub ?_))
    refine ⟨x % y, Nat.mod_lt _ y0, y, x % y, ?_, hy, Nat.le_trans (Nat.mod_le _ _) hx, by rw [gcd_go]; exact hg', rfl⟩
    have e : (x : Int) - (x : Int) / (y : Int) * (y : Int) = ((x % y : Nat) : Int) := by
      have h1 := Int.emod_def (x : Int) (y : Int)
      rw [Int.mul_comm, ← h1]; rfl
    rw [e]; rfl
  · have y0 : y = 0 := by have := of_decide_eq_false e; omega
    subst y0
    rw [Nat.gcd_zero_right] at hg'
    rw [← hg'] at hP
    exact wSs_one (wS_ret (wE_dat (i := 0) rfl hP))
theorem ok_law_short_numbers {f : Addr} {fd : FuncData} {k : Nat} (Fn : Fun K "_law_short_numbers" "_law_short_numbers" s_law_short_numbers f fd) (mm : mg "max" = none) : FnG Pg w K mg base CX0 (k + 1) f fd ["word", "most"] (spD K false 2 FShort) := by
  refine fn_D (N := n_law_short_numbers) (m := 5) Fn sc_law_short_numbers rfl rfl fun cdv A outer s H E hg hr ds P hl hF => ?_
  obtain ⟨bs, m, rfl, hb, hm, hP⟩ := hF
  have nd := sc_law_short_numbers.nd
  show wSs _ _ _ [Sl.dat (.str (wd bs)), Sl.dat (.int m), Sl.no, Sl.no, Sl.no, Sl.no, Sl.no]
  refine wSs_cons <| wS_unpack <| wE_tup <| wA_cons <| wE_pr <| wE_int <| wE_int ⟨1, 0, rfl, rfl, wA_cons <| wE_pr <| wE_int <| wE_int ⟨0, 1, rfl, rfl, wA_cons <| wE_int <| wA_nil ⟨by show 3 ≤ 100000; omega, wG_tup (wGs_cons (wG_name (i := 2) (wGs_cons (wG_name (i := 3) (wGs_cons (wG_name (i := 4) (wGs_nil ?_) nd)) nd)) nd)) rfl⟩⟩⟩
  refine wSs_cons (wS_forL (js := [5]) PassesOwn.never (wI_str (wE_dat (i := 0) rfl ⟨_, rfl, bs, fun b => .str (wd [b]), tx_signs bs, ?_⟩)))
  refine ⟨fun pre suf δ' => ∃ a b c d sl sl2, δ' = [Sl.dat (.str (wd bs)), Sl.dat (.int m), Sl.dat (pr a b), Sl.dat (pr c d), Sl.dat (.int (pre.length : Nat)), sl, sl2] ∧ nbF 1 0 0 1 pre = (a, b, c, d) ∧ (slF pre).1 ≤ m ∧ (slF pre).2 ≤ m, ⟨1, 0, 0, 1, Sl.no, Sl.no, rfl, rfl, hm, hm⟩, ?_, ?_⟩
  · rintro pre x suf δ' hbs ⟨a, b, c, d, sl, sl2, rfl, hI, hp, hq⟩
    have hpl : pre.length < bs.length := by rw [hbs, List.length_append, List.length_cons]; omega
    have key : ∀ a' b' c' d' : Int, nbF 1 0 0 1 (pre ++ [x]) = (a', b', c', d') → wSs (cxOf CX0 Pg w K mg base n_law_short_numbers "_law_short_numbers" (defScope s_law_short_numbers) f cdv A outer s H E).nox
        (match (defBody s_law_short_numbers).getD 1 (.Pass ⟨0, 0, 0, 0⟩) with | .For _ _ t _ _ => t.drop 2 | _ => [])
        { nx := fun δ' => ∃ a b c d sl sl2, δ' = [Sl.dat (.str (wd bs)), Sl.dat (.int m), Sl.dat (pr a b), Sl.dat (pr c d), Sl.dat (.int ((pre ++ [x]).length : Nat)), sl, sl2] ∧ nbF 1 0 0 1 (pre ++ [x]) = (a, b, c, d) ∧ (slF (pre ++ [x])).1 ≤ m ∧ (slF (pre ++ [x])).2 ≤ m,
          ct := fun δ' => ∃ a b c d sl sl2, δ' = [Sl.dat (.str (wd bs)), Sl.dat (.int m), Sl.dat (pr a b), Sl.dat (pr c d), Sl.dat (.int ((pre ++ [x]).length : Nat)), sl, sl2] ∧ nbF 1 0 0 1 (pre ++ [x]) = (a, b, c, d) ∧ (slF (pre ++ [x])).1 ≤ m ∧ (slF (pre ++ [x])).2 ≤ m, rt := P }
        [Sl.dat (.str (wd bs)), Sl.dat (.int m), Sl.dat (pr a' b'), Sl.dat (pr c' d'), Sl.dat (.int (pre.length : Nat)), Sl.dat (.str (wd [x])), Sl.dat (pr (a + c) (b + d))] := fun a' b' c' d' hn => by
      have hs : slF (pre ++ [x]) = (a' + c', b' + d') := by rw [sl_nb, hn]
      refine wSs_one <| wS_if <| wT_cmp <| wE_bi (wA_cons <| wE_op <| wE_fst (i := 2) rfl <| wE_fst (i := 3) rfl <| opD_add <| wA_cons <| wE_op <| wE_snd (i := 2) rfl <| wE_snd (i := 3) rfl <| opD_add <| wA_nil <| caD_max rfl <| wE_dat (i := 1) rfl <| opD_le ⟨_, rfl, fun e => ?_, fun e => ?_⟩) mm
      · have e1 := of_decide_eq_true e
        have hle : a' + c' ≤ m ∧ b' + d' ≤ m := by
          split at e1 <;> omega
        refine wSs_one <| wS_augI (i := 4) ip_add rfl (wE_int ⟨1, rfl, a', b', c', d', Sl.dat (.str (wd [x])), Sl.dat (pr (a + c) (b + d)), ?_, hn, by rw [hs]; exact hle.1, by rw [hs]; exact hle.2⟩) nd
        rw [List.length_append]; rfl
      · refine wSs_one <| wS_ret <| wE_sl <| wE_dat (i := 0) rfl <| wO_none <| wO_some <| wE_dat (i := 4) rfl ⟨_, rfl, slD_str (by rw [tx_len]; omega) ?_⟩
        rw [tx_cut _ (by omega), Int.toNat_natCast, hbs, List.take_left' rfl]
        exact hP pre hp hq
    refine wG_name (i := 5) ?_ nd
    refine wSs_cons (wS_set (i := 6) (wX_dat (wE_pr (wE_op (wE_fst (i := 2) rfl (wE_fst (i := 3) rfl (opD_add (wE_op (wE_snd (i := 2) rfl (wE_snd (i := 3) rfl (opD_add ⟨_, _, rfl, rfl, ?_⟩))))))))))  nd)
    refine wSs_cons (wS_unpack (js := [2] ++ ([3] ++ [])) (wE_if (wT_cmp (wE_dat (i := 5) rfl (wE_str (opD_eqS ⟨_, rfl, fun e => ?_, fun e => ?_⟩))))))
    · rw [wd_l] at e; subst e
      refine wE_tup (wA_cons (wE_dat (i := 2) rfl (wA_cons (wE_dat (i := 6) rfl (wA_nil ⟨by show 2 ≤ 100000; omega, wG_tup (wGs_cons (wG_name (i := 2) (wGs_cons (wG_name (i := 3) (wGs_nil ?_) nd)) nd)) rfl⟩)))))
      exact wSs.imp (key _ _ _ _ (by rw [nb_app, hI]; rfl)) (fun _ h => h) (fun _ h => h) (fun _ h => h.elim) (fun _ h => h)
    · rw [wd_l] at e; subst e
      refine wE_tup (wA_cons (wE_dat (i := 6) rfl (wA_cons (wE_dat (i := 3) rfl (wA_nil ⟨by show 2 ≤ 100000; omega, wG_tup (wGs_cons (wG_name (i := 2) (wGs_cons (wG_name (i := 3) (wGs_nil ?_) nd)) nd)) rfl⟩)))))
      exact wSs.imp (key _ _ _ _ (by rw [nb_app, hI]; rfl)) (fun _ h => h) (fun _ h => h) (fun _ h => h.elim) (fun _ h => h)
  · rintro δ' ⟨a, b, c, d, sl, sl2, rfl, hI, hp, hq⟩
    exact wSs_one <| wS_ret <| wE_dat (i := 0) rfl <| hP bs hp hq
theorem ok_law_runs {f : Addr} {fd : FuncData} {k : Nat} (Fn : Fun K "_law_runs" "_law_runs" s_law_runs f fd) (mt : mg "tuple" = none) : FnG Pg w K mg base CX0 (k + 1) f fd ["word"] (spD K false 1 FRuns) := by
  refine fn_D (N := n_law_runs) (m := 2) Fn sc_law_runs rfl rfl fun cdv A outer s H E hg hr ds P hl hF => ?_
  obtain ⟨bs, rfl, hb, hP⟩ := hF
  have nd := sc_law_runs.nd
  show wSs _ _ _ [Sl.dat (.str (wd bs)), Sl.no, Sl.no]
  refine wSs_cons (wS_set (i := 1) (wX_own (wF_lst (wA_nil ⟨by decide, fun l => ?_⟩))) nd)
  refine wSs_cons (wS_forL (js := [2]) PassesOwn.never (wI_str (wE_dat (i := 0) rfl ⟨_, rfl, bs, fun b => .str (wd [b]), tx_signs bs, ?_⟩)))
  refine ⟨fun pre suf δ' => ∃ sl, δ' = [Sl.dat (.str (wd bs)), Sl.own l ((runsF pre).map rnD), sl], ⟨Sl.no, rfl⟩, ?_, ?_⟩
  · rintro pre x suf δ' hbs ⟨sl, rfl⟩
    have hpl : pre.length < bs.length := by rw [hbs, List.length_append, List.length_cons]; omega
    have hrl := runs_len pre
    have hsn := runs_snoc pre x
    generalize runsF pre = R at hrl hsn
    have hnice : ∀ L : List (Bool × Nat), L.length ≤ 300 → (∀ p ∈ L, p.2 ≤ 1000) → SeqAt.shaped (.list (L.map rnD)) = true := fun L h1 h2 =>
      ((PlB.list (rnP L h2)).nice (by decide) (by decide) (by rw [List.length_map]; omega)).sh
    refine wG_name (i := 2) ?_ nd
    have els : addRun R x = R ++ [(x, 1)] → wSs (cxOf CX0 Pg w K mg base n_law_runs "_law_runs" (defScope s_law_runs) f cdv A outer s H E).nox
        (match (defBody s_law_runs).getD 1 (.Pass ⟨0, 0, 0, 0⟩) with | .For _ _ [.If _ _ t _] _ _ => t | _ => [])
        { nx := fun δ' => ∃ sl, δ' = [Sl.dat (.str (wd bs)), Sl.own l ((runsF (pre ++ [x])).map rnD), sl], ct := fun δ' => ∃ sl, δ' = [Sl.dat (.str (wd bs)), Sl.own l ((runsF (pre ++ [x])).map rnD), sl], rt := P }
        [Sl.dat (.str (wd bs)), Sl.own l (R.map rnD), Sl.dat (.str (wd [x]))] := fun h => by
      refine wSs_one <| wS_append (i := 1) rfl <| wE_tup <| wA_cons <| wE_dat (i := 2) rfl <| wA_cons <| wE_int <| wA_nil ⟨by show 2 ≤ 100000; omega, by rw [List.length_map]; omega, Sl.dat (.str (wd [x])), ?_⟩
      rw [hsn, h, List.map_append]; rfl
    refine wSs_one <| wS_if <| wT_ofW <| wW_and <| wT_cmp <| wE_own (i := 1) rfl <| wE_lst <| wA_nil ⟨by decide, opD_neD hr.units (hnice R (by omega) (fun p hp => by have := hrl.2 p hp; omega)) rfl ⟨_, rfl, fun e => ?_, fun e => ?_⟩⟩
    · rw [eqv_nil] at e
      have hne : R ≠ [] := fun z => by subst z; simp at e
      obtain ⟨c, n, Ri, hR⟩ : ∃ c n Ri, R = Ri ++ [(c, n)] := ⟨(R.getLast hne).1, (R.getLast hne).2, R.dropLast, (List.dropLast_concat_getLast hne).symm⟩
      subst hR
      have hlen : ((Ri ++ [(c, n)]).map rnD).length = Ri.length + 1 := by rw [List.length_map, List.length_append]; rfl
      have hix : ixN ((Ri ++ [(c, n)]).map rnD).length (-1) = some Ri.length := by
        rw [hlen]; unfold ixN
        rw [if_neg (by omega), if_pos (by omega)]
        congr 1; omega
      have hat : atI ((Ri ++ [(c, n)]).map rnD) (-1) = some (rnD (c, n)) := by
        unfold atI
        rw [hix]
        show ((Ri ++ [(c, n)]).map rnD)[Ri.length]? = _
        rw [List.getElem?_map, List.getElem?_append_right (Nat.le_refl _), Nat.sub_self]; rfl
      have hadd : addRun (Ri ++ [(c, n)]) x = if c = x then Ri ++ [(x, n + 1)] else Ri ++ [(c, n)] ++ [(x, 1)] := by
        unfold addRun
        rw [List.getLast?_concat]
        simp only [List.dropLast_concat]
      refine wW_and1 <| wT_cmp <| wE_ix <| wE_ixOwn (i := 1) rfl <| wE_un <| wE_int <| unD_neg ⟨-1, rnD (c, n), rfl, hat, wE_int <| ixD_tup (d := .str (wd [c])) rfl <| wE_dat (i := 2) rfl <| opD_eqS ⟨_, rfl, fun e => ?_, fun e => ?_⟩⟩
      · rw [wd_ne] at e
        have hc := of_decide_eq_true e
        rw [if_pos hc] at hadd
        refine wSs_one <| wS_store (i := 1) rfl <| wE_tup <| wA_cons <| wE_dat (i := 2) rfl <| wA_cons <| wE_op <| wE_ix <| wE_ixOwn (i := 1) rfl <| wE_un <| wE_int <| unD_neg ⟨-1, rnD (c, n), rfl, hat, wE_int <| ixD_tup (d := .int (n : Nat)) rfl <| wE_int <| opD_add <| wA_nil ⟨by show 2 ≤ 100000; omega, wE_un <| wE_int <| unD_neg ⟨-1, Ri.length, rfl, hix, Sl.dat (.str (wd [x])), ?_⟩⟩⟩
        rw [hsn, hadd, List.map_append, List.map_append]
        have : ((Ri.map rnD) ++ [rnD (c, n)]).set Ri.length (.tuple [.str (wd [x]), .int ((n : Int) + 1)]) = Ri.map rnD ++ [rnD (x, n + 1)] := by
          have h0 : Ri.length = (Ri.map rnD).length := (List.length_map _).symm
          rw [h0, List.set_append_right _ _ (Nat.le_refl _), Nat.sub_self]; rfl
        show [Sl.dat (.str (wd bs)), Sl.own l (((Ri.map rnD) ++ [rnD (c, n)]).set Ri.length (.tuple [.str (wd [x]), .int ((n : Int) + 1)])), Sl.dat (.str (wd [x]))] = _
        rw [this]; rfl
      · rw [wd_ne] at e
        have hc := of_decide_eq_false e
        rw [if_neg hc] at hadd
        exact wSs.imp (els hadd) (fun _ h => h) (fun _ h => h) (fun _ h => h.elim) (fun _ h => h)
    · rw [eqv_nil] at e
      have hR : R = [] := by cases R with
        | nil => rfl
        | cons a R => simp at e
      subst hR
      exact ⟨(fun e => by cases e), fun _ => wSs.imp (els rfl) (fun _ h => h) (fun _ h => h) (fun _ h => h.elim) (fun _ h => h)⟩
  · rintro δ' ⟨sl, rfl⟩
    exact wSs_one <| wS_ret <| wE_ty1 PyProof.Rows.boot_tuple mt <| wE_own (i := 1) rfl <| caD_tuple hP
end
end YL

namespace YL
open PySem PySem.Spec L2 YV
open PyProof.Rows (subscriptTail envOfC)
theorem wdP (B : Nat) (xs : List Bool) (n : Nat) : PlB B (.str (wd xs)) n xs.length := by
  have := PlB.str (B := B) (tx_lay (c0 := 108) (c1 := 114) (by decide) (by decide) xs) n
  rw [tx_len] at this
  exact this
theorem lr_val (b : Bool) : valV (mergeK [] [(Sum.inr (Str.ofString "l"), V.str (Str.ofString "r")), (Sum.inr (Str.ofString "r"), V.str (Str.ofString "l"))]) (Sum.inr (wd [b])) = some (.str (wd [!b])) := by
  rw [strL, strR]
  cases b
  · rfl
  · rfl
def Hd (i : Int) : Prop := 0 ≤ i ∧ i ≤ 10 ^ 99
theorem Hd.dg {i : Int} (h : Hd i) : Dg 100 i := by
  obtain ⟨h0, h1⟩ := h
  show i.natAbs < 10 ^ 100
  have e : ((i.natAbs : Nat) : Int) = i := Int.natAbs_of_nonneg h0
  have e2 : (((10 ^ 99 : Nat)) : Int) = 10 ^ 99 := by norm_cast
  have : i.natAbs ≤ 10 ^ 99 := by omega
  exact Nat.lt_of_le_of_lt this (by decide)
theorem Hd.bg {i : Int} (h : Hd i) : Bg i := by
  have := h.dg
  show i.natAbs < 2 ^ 1000
  exact Nat.lt_of_lt_of_le this (Nat.le_trans (ten_two 100) (Nat.pow_le_pow_right (by decide) (by decide)))
theorem Hd.le {i j : Int} (h : Hd j) (h0 : 0 ≤ i) (hij : i ≤ j) : Hd i := ⟨h0, Int.le_trans hij h.2⟩
theorem Hd.sm {i : Int} (h0 : 0 ≤ i) (h : i ≤ 100000) : Hd i := ⟨h0, Int.le_trans h (by decide)⟩
theorem Hd.pl {i : Int} (h : Hd i) (n : Nat) : PlB 101 (.int i) n 400 := PlB.int h.dg (by decide) (by decide) n
theorem prP {p q : Int} (hp : Hd p) (hq : Hd q) : PlB 101 (pr p q) 1 802 := PlB.tup (.cons (hp.pl 0) (.cons (hq.pl 0) (.nil 0 400)))
theorem nb_hd {bs : List Bool} (h : bs.length ≤ 300) : Hd (nbF 1 0 0 1 bs).1 ∧ Hd (nbF 1 0 0 1 bs).2.1 ∧ Hd (nbF 1 0 0 1 bs).2.2.1 ∧ Hd (nbF 1 0 0 1 bs).2.2.2 := by
  have h1 := sl_le bs
  rw [sl_nb] at h1
  obtain ⟨n1, n2, n3, n4, _⟩ := nb_nn bs
  have h2 : (2 : Int) ^ (bs.length + 1) ≤ 2 ^ 301 := by exact_mod_cast Nat.pow_le_pow_right (by decide) (by omega)
  have h3 : (2 : Int) ^ 301 ≤ 10 ^ 99 := by exact_mod_cast (by decide +kernel : 2 ^ 301 ≤ 10 ^ 99)
  simp only at h1
  generalize (2 : Int) ^ 301 = z at h2 h3
  generalize (2 : Int) ^ (bs.length + 1) = y at h1 h2
  exact ⟨⟨by omega, by omega⟩, ⟨by omega, by omega⟩, ⟨by omega, by omega⟩, ⟨by omega, by omega⟩⟩
theorem sl_hd {bs : List Bool} (h : bs.length ≤ 300) : Hd (slF bs).1 ∧ Hd (slF bs).2 := by
  have h1 := sl_le bs
  have n1 := sl_pos bs
  have h2 : (2 : Int) ^ (bs.length + 1) ≤ 2 ^ 301 := by exact_mod_cast Nat.pow_le_pow_right (by decide) (by omega)
  have h3 : (2 : Int) ^ 301 ≤ 10 ^ 99 := by exact_mod_cast (by decide +kernel : 2 ^ 301 ≤ 10 ^ 99)
  generalize (2 : Int) ^ 301 = z at h2 h3
  generalize (2 : Int) ^ (bs.length + 1) = y at h1 h2
  exact ⟨⟨by omega, by omega⟩, ⟨by omega, by omega⟩⟩
structure Ks (Pg : Program) (w : World) (K : PySem.W.Frag) (mg : Str → Option Value) (base : Heap) (k : Nat) : Prop where
  take : Cal Pg w K mg base "_law_take" k true 1 FTake
  some_ : Cal Pg w K mg base "_law_some" k true 1 FSome
  alike : Cal Pg w K mg base "_law_alike" k false 2 FAlike
  nbr : Cal Pg w K mg base "_law_neighbours" k false 1 (FOfWord nbD)
  slo : Cal Pg w K mg base "_law_slope_of" k false 1 (FOfWord slD)
  wordL : Cal Pg w K mg base "_law_word_of" k false 1 FWordLaw
  word : Cal Pg w K mg base "_law_word" k true 1 FWordB
  slope : Cal Pg w K mg base "_law_slope" k true 1 FSlopeB
  less : Cal Pg w K mg base "_law_less_steep" k false 2 FLessB
  common : Cal Pg w K mg base "_law_common" k false 2 FGcd
  short : Cal Pg w K mg base "_law_short_numbers" k false 2 FShort
  runsL : Cal Pg w K mg base "_law_runs" k false 1 FRuns
  wordG : Cal Pg w K mg base "word_of" k false 1 FWordW
  nbG : Cal Pg w K mg base "neighbours_of" k false 1 (FOfWord nbD)
  slG : Cal Pg w K mg base "slope_of" k false 1 (FOfWord slD)
  rgG : Cal Pg w K mg base "range_of" k false 1 (FOfWord nbD)
  runsG : Cal Pg w K mg base "runs_of" k false 1 FRuns
  byG : Cal Pg w K mg base "word_by" k false 1 FWordBy
  exG : Cal Pg w K mg base "exchanged" k false 1 FExch
  mrange : mg "range" = none
  mrepr : mg "repr" = none
  mlen : mg "len" = none
  mtuple : mg "tuple" = none
abbrev lawX (Pg : Program) (w : World) (K : PySem.W.Frag) (mg : Str → Option Value) (base : Heap) (f : Addr) (cdv : Value) (A : Around) (outer : List Env) (s : Shared) (H : Hp) (E : XK) : Cx := (cxOf CX0 Pg w K mg base n_law "law" (defScope s_law) f cdv A outer s H E).nox
def bodyOf : Stmt → List Stmt
  | .For _ _ b _ _ => b
  | _ => []
def turnBody : List Stmt := bodyOf ((defBody s_law).getD 1 (.Pass ⟨0, 0, 0, 0⟩))
def NX : List Sl → Prop := fun δ => ∃ s2 s3 s4 s5 s6 s7 s8 s9 s10 s11 s12 s13 s14 s15 s16 s17 s18, δ = [Sl.no, Sl.bag, s2, s3, s4, s5, s6, s7, s8, s9, s10, s11, s12, s13, s14, s15, s16, s17, s18, Sl.no, Sl.no, Sl.no, Sl.no]
abbrev vD (bs : List Bool) : PyData := pr (nbF 1 0 0 1 bs).1 (nbF 1 0 0 1 bs).2.1
abbrev uD (bs : List Bool) : PyData := pr (nbF 1 0 0 1 bs).2.2.1 (nbF 1 0 0 1 bs).2.2.2
section
variable {Pg : Program} {w : World} {K : PySem.W.Frag} {mg : Str → Option Value} {base : Heap} {k : Nat}
variable {f : Addr} {cdv : Value} {A : Around} {outer : List Env} {s : Shared} {H : Hp} {E : XK}
theorem again_ok (C : Ks Pg w K mg base k) (hg : A.guards = some []) (hr : Room k (A.deeper (envOfC "law" (defScope s_law) s.heap.objs.size f cdv))) {bs : List Bool} (hb : bs.length ≤ 200)
    {s2 s6 s7 s8 s9 s10 s11 s12 s13 s14 s15 s16 s17 s18 : Sl} :
    wSs (lawX Pg w K mg base f cdv A outer s H E) (turnBody.drop 13) { nx := NX, rt := fun d => d = .bool true } [Sl.no, Sl.bag, s2, Sl.dat (.str (wd bs)), Sl.dat (vD bs), Sl.dat (uD bs), s6, s7, s8, s9, s10, s11, s12, s13, s14, s15, s16, s17, s18, Sl.no, Sl.no, Sl.no, Sl.no] := by
  have nd := sc_law.nd
  obtain ⟨ha, hb', hc, hd⟩ := nb_hd (bs := bs) (by omega)
  refine wSs_one <| wS_forL (α := Nat) (js := [14]) PassesOwn.never <| wI_range1 C.mrange <| wE_int ⟨4, rfl, by omega, List.range 4, fun i => .int (0 + (i : Int)), rfl, ?_⟩
  refine ⟨fun _ _ δ' => ∃ s14 s15 s16 s17 s18, δ' = [Sl.no, Sl.bag, s2, Sl.dat (.str (wd bs)), Sl.dat (vD bs), Sl.dat (uD bs), s6, s7, s8, s9, s10, s11, s12, s13, s14, s15, s16, s17, s18, Sl.no, Sl.no, Sl.no, Sl.no], ⟨s14, s15, s16, s17, s18, rfl⟩, ?_, ?_⟩
  · rintro pre x suf δ' hL ⟨s14, s15, s16, s17, s18, rfl⟩
    refine wG_name (i := 14) ?_ nd
    refine wSs_cons <| wS_setMapP (i := 15) (v := 22) (Q := fun (_ : List Bool) (xs : List Bool) => (slF xs).1 ≤ 4000 ∧ (slF xs).2 ≤ 4000) nd (wI_tup <| wE_tup <| wA_cons <| wE_dat (i := 3) rfl <| wA_cons <| wE_sl <| wE_dat (i := 3) rfl <| wO_none <| wO_some <| wE_un <| wE_int <| unD_neg ⟨-1, rfl, slD_str (by rw [tx_len]; omega) ?_⟩) (blkOk_by (N := n_law) (sc := defScope s_law) (by decide +kernel)) (fun l ds e => by cases e)
    rw [tx_cutLast]
    refine wA_nil ⟨by show 2 ≤ 100000; omega, _, rfl, [bs, bs.dropLast], fun b => .str (wd b), fun xs => .str (wd xs), rfl, by show 2 ≤ 100000; omega, ?_, ?_⟩
    · rintro a hma X' ⟨s', H', C', cl, fp, rfl⟩
      have hal : a.length ≤ 200 := by
        simp only [List.mem_cons, List.not_mem_nil, or_false] at hma
        rcases hma with rfl | rfl
        · exact hb
        · rw [List.length_dropLast]; omega
      refine wE_callP C.short hg hr (Nat.le_refl _) <| wA_cons <| wE_op <| wE_dat (i := 22) rfl <| wE_callB (i := 1) C.word hg hr (Nat.le_refl _) rfl <| wA_cons <| wE_int <| wA_nil ⟨rfl, 6, rfl, by omega, by omega, fun zs hz => opD_addS (by rw [tx_len, tx_len]; omega) <| wA_cons <| wE_int <| wA_nil ⟨rfl, a ++ zs, 4000, by rw [tx_app], by rw [List.length_append]; omega, by omega, fun xs h1 h2 => ⟨xs, rfl, h1, h2⟩⟩⟩
    · intro ys hy hq lo
      refine wSs_freeze (i := 15) rfl ?_
      obtain ⟨y1, y2, rfl⟩ : ∃ y1 y2, ys = [y1, y2] := by
        match ys, hy with
        | [y1, y2], _ => exact ⟨y1, y2, rfl⟩
      have q1 := hq 0 bs y1 rfl rfl
      have q2 := hq 1 bs.dropLast y2 rfl rfl
      show wSs _ _ _ [Sl.no, Sl.bag, s2, Sl.dat (.str (wd bs)), Sl.dat (vD bs), Sl.dat (uD bs), s6, s7, s8, s9, s10, s11, s12, s13, _, Sl.dat (.list [.str (wd y1), .str (wd y2)]), s16, s17, s18, Sl.no, Sl.no, Sl.no, Sl.no]
      refine wSs_cons <| wS_set (i := 16) (wX_dat <| wE_callB (i := 1) C.some_ hg hr (Nat.le_refl _) rfl <| wA_cons <| wE_lst <| wA_cons <| wE_callB (i := 1) C.slope hg hr (Nat.le_refl _) rfl <| wA_cons <| wE_int <| wA_nil ⟨rfl, 40, rfl, by omega, by omega, fun y3 h3 => ?_⟩) nd
      refine wA_cons <| wE_callP C.slo hg hr (Nat.le_refl _) <| wA_cons <| wE_ix <| wE_dat (i := 15) rfl <| wE_int <| ixD_list (d := .str (wd y1)) rfl <| wA_nil ⟨rfl, y1, rfl, ?_⟩
      refine wA_cons <| wE_callP C.slo hg hr (Nat.le_refl _) <| wA_cons <| wE_ix <| wE_dat (i := 15) rfl <| wE_int <| ixD_list (d := .str (wd y2)) rfl <| wA_nil ⟨rfl, y2, rfl, ?_⟩
      refine wA_nil ⟨by show 3 ≤ 100000; omega, wA_nil ⟨rfl, .inl ⟨_, .inl rfl, by show 0 < 3; omega, by show 3 ≤ 1000; omega, fun d hdm => ?_⟩⟩⟩
      have : ∃ ys, d = slD ys ∧ (slF ys).1 ≤ 4000 ∧ (slF ys).2 ≤ 4000 := by
        have p3 := sl_pos y3
        simp only [List.mem_cons, List.not_mem_nil, or_false] at hdm
        rcases hdm with rfl | rfl | rfl
        · exact ⟨y3, rfl, by omega, by omega⟩
        · exact ⟨y1, rfl, q1⟩
        · exact ⟨y2, rfl, q2⟩
      obtain ⟨ys, rfl, hy1, hy2⟩ := this
      have py := sl_pos ys
      have ly := sl_len ys
      have hp : Hd (slF ys).1 := Hd.sm (by omega) (by omega)
      have hq' : Hd (slF ys).2 := Hd.sm (by omega) (by omega)
      have hyl : ys.length ≤ 8000 := by omega
      have hbt := betw_pre bs ys
      refine wSs_cons <| wS_set (i := 17) (wX_dat <| wE_callP C.wordG hg hr (Nat.le_refl _) <| wA_cons <| wE_dat (i := 16) rfl <| wA_nil ⟨rfl, ys, _, _, rfl, rfl, by omega, hp.bg, hq'.bg, ?_⟩) nd
      refine wSs_cons <| wS_set (i := 18) (wX_dat <| wE.imp (P := fun d => d = .bool (decide (ys.take bs.length = bs))) (wE_and <| wE_callP C.less hg hr (Nat.le_refl _) <| wA_cons <| wE_dat (i := 4) rfl <| wA_cons <| wE_dat (i := 16) rfl <| wA_nil ⟨rfl, _, _, _, _, rfl, ha.bg, hb'.bg, hp.bg, hq'.bg, _, rfl, fun e => ?_, fun e => ?_⟩) fun d hd => ?_) nd
      · have e1 := of_decide_eq_true e
        refine wE_one <| wE_callP C.less hg hr (Nat.le_refl _) <| wA_cons <| wE_dat (i := 16) rfl <| wA_cons <| wE_dat (i := 5) rfl <| wA_nil ⟨rfl, _, _, _, _, rfl, hp.bg, hq'.bg, hc.bg, hd.bg, ?_⟩
        refine congrArg PyData.bool (decide_eq_decide.mpr ?_)
        rw [← hbt]
        exact ⟨fun z => ⟨e1, z⟩, fun z => z.2⟩
      · have e1 := of_decide_eq_false e
        refine congrArg PyData.bool (decide_eq_false fun z => e1 ?_).symm
        rw [← hbt] at z
        exact z.1
      subst hd
      show wSs _ _ _ [Sl.no, Sl.bag, s2, Sl.dat (.str (wd bs)), Sl.dat (vD bs), Sl.dat (uD bs), s6, s7, s8, s9, s10, s11, s12, s13, _, Sl.dat (.list [.str (wd y1), .str (wd y2)]), Sl.dat (slD ys), Sl.dat (.str (wd ys)), Sl.dat (.bool (decide (ys.take bs.length = bs))), Sl.no, Sl.no, Sl.no, Sl.no]
      have nn : Nice (.list [.str (wd ys), .bool (decide (ys.take bs.length = bs))]) := (PlB.list (n := 0) (W := 8000) (.cons ((wdP 8 _ _).up (Nat.le_refl _) (by omega)) (.cons (PlB.bool _ _ _) (.nil _ _)))).nice (by decide) (by decide) (by show (8 + 2) * (2 * (8000 + 1)) + 8 ≤ 16777216; decide)
      refine wSs_one <| wS_if <| wT_not <| wT_val <| wE_callP C.alike hg hr (Nat.le_refl _) <| wA_cons <| wE_lst <| wA_cons <| wE_dat (i := 17) rfl <| wA_cons <| wE_cmp <| wE_sl <| wE_dat (i := 17) rfl <| wO_none <| wO_some <| wE_len C.mlen <| wE_dat (i := 3) rfl <| .inr ⟨_, rfl, by rw [tx_len]; omega, _, rfl, slD_str (by rw [tx_len]; omega) ?_⟩
      rw [tx_len, tx_cut _ (by omega), Int.toNat_natCast]
      refine wE_dat (i := 3) rfl <| opD_eqS ?_
      rw [tx_dec (by decide)]
      refine wA_nil ⟨by show 2 ≤ 100000; omega, wA_cons <| wE_lst <| wA_cons <| wE_callP C.wordL hg hr (Nat.le_refl _) <| wA_cons <| wE_dat (i := 16) rfl <| wA_nil ⟨rfl, ys, rfl, by omega, wA_cons <| wE_dat (i := 18) rfl <| wA_nil ⟨by show 2 ≤ 100000; omega, wA_nil ⟨rfl, _, rfl, nn, true, rfl, (fun e => (by cases e)), fun _ => wSs_nil ⟨_, _, _, _, _, rfl⟩⟩⟩⟩⟩
  · rintro δ' ⟨s14, s15, s16, s17, s18, rfl⟩
    exact ⟨_, _, _, _, _, _, _, _, _, _, _, _, _, _, _, _, _, rfl⟩
end
end YL

namespace YL
open PySem PySem.Spec L2 YV
open PyProof.Rows (subscriptTail envOfC)
section
variable {Pg : Program} {w : World} {K : PySem.W.Frag} {mg : Str → Option Value} {base : Heap} {k : Nat}
variable {f : Addr} {cdv : Value} {A : Around} {outer : List Env} {s : Shared} {H : Hp} {E : XK}
theorem runs_ok (C : Ks Pg w K mg base k) (hg : A.guards = some []) (hr : Room k (A.deeper (envOfC "law" (defScope s_law) s.heap.objs.size f cdv))) {bs : List Bool} (hb : bs.length ≤ 200)
    {s2 s6 s7 s8 s9 s10 s11 s12 s13 s14 s15 s16 s17 s18 : Sl} :
    wSs (lawX Pg w K mg base f cdv A outer s H E) (turnBody.drop 9) { nx := NX, rt := fun d => d = .bool true } [Sl.no, Sl.bag, s2, Sl.dat (.str (wd bs)), Sl.dat (vD bs), Sl.dat (uD bs), s6, s7, s8, s9, s10, s11, s12, s13, s14, s15, s16, s17, s18, Sl.no, Sl.no, Sl.no, Sl.no] := by
  have nd := sc_law.nd
  have one : ∀ c ∈ (Str.ofString "lr").cps.toList, ∃ b, (⟨#[c]⟩ : Str) = wd [b] := by decide +kernel
  refine wSs_cons <| wS_setMapP (i := 10) (v := 20) (Q := fun (_ : Nat) (p : Bool × Nat) => p.2 ≤ 9) nd (wI_range1 C.mrange <| wE_callB (i := 1) C.take hg hr (Nat.le_refl _) rfl <| wA_cons <| wE_int <| wA_nil ⟨rfl, 6, rfl, by omega, by omega, fun t t0 t1 => ⟨t.toNat, by rw [Int.toNat_of_nonneg t0], by omega, List.range t.toNat, fun i => .int (0 + (i : Int)), rnD, rfl, by rw [List.length_range]; omega, ?_, ?_⟩⟩) (blkOk_by (N := n_law) (sc := defScope s_law) (by decide +kernel)) (fun l ds e => by cases e)
  · rintro a ha X' ⟨s', H', C', cl, fp, rfl⟩
    refine wE_tup <| wA_cons <| wE_callB (i := 1) C.some_ hg hr (Nat.le_refl _) rfl <| wA_cons <| wE_str <| wA_nil ⟨rfl, .inr ⟨_, rfl, by decide, by decide, fun c hc => ?_⟩⟩
    obtain ⟨b, e⟩ := one c hc
    rw [e]
    refine wA_cons <| wE_callB (i := 1) C.some_ hg hr (Nat.le_refl _) rfl <| wA_cons <| wE_lst <| wA_cons <| wE_int <| wA_cons <| wE_int <| wA_cons <| wE_int <| wA_cons <| wE_int <| wA_nil ⟨by show 4 ≤ 100000; omega, wA_nil ⟨rfl, .inl ⟨_, .inl rfl, by show 0 < 4; omega, by show 4 ≤ 1000; omega, fun d hd => ?_⟩⟩⟩
    have : ∃ n : Nat, d = .int (n : Nat) ∧ n ≤ 9 := by
      simp only [List.mem_cons, List.not_mem_nil, or_false] at hd
      rcases hd with rfl | rfl | rfl | rfl
      · exact ⟨1, rfl, by omega⟩
      · exact ⟨0, rfl, by omega⟩
      · exact ⟨2, rfl, by omega⟩
      · exact ⟨9, rfl, by omega⟩
    obtain ⟨n, rfl, hn⟩ := this
    exact wA_nil ⟨by show 2 ≤ 100000; omega, (b, n), rfl, hn⟩
  · intro rs hrs hq lo
    refine wSs_freeze (i := 10) rfl ?_
    rw [List.length_range] at hrs
    have hr9 : ∀ p ∈ rs, p.2 ≤ 9 := fun p hp => by
      obtain ⟨i, hi, e⟩ := List.getElem_of_mem hp
      have h2 := List.getElem?_eq_getElem hi
      rw [e] at h2
      exact hq i i p (by rw [List.getElem?_range (by omega)]) h2
    have hrl : rs.length ≤ 6 := by omega
    generalize hR : rs = RS at *
    show wSs _ _ _ [Sl.no, Sl.bag, s2, Sl.dat (.str (wd bs)), Sl.dat (vD bs), Sl.dat (uD bs), s6, s7, s8, s9, Sl.dat (.list (RS.map rnD)), s11, s12, s13, s14, s15, s16, s17, s18, Sl.no, Sl.no, Sl.no, Sl.no]
    have pR := rnP RS (fun p hp => Nat.le_trans (hr9 p hp) (by decide))
    refine wSs_cons <| wS_set (i := 11) (wX_dat <| wE_callB (i := 1) C.some_ hg hr (Nat.le_refl _) rfl <| wA_cons <| wE_lst <| wA_cons <| wE_dat (i := 10) rfl <| wA_cons <| wE_ty1 PyProof.Rows.boot_tuple C.mtuple <| wE_dat (i := 10) rfl <| caD_tuple <| wA_nil ⟨by show 2 ≤ 100000; omega, wA_nil ⟨rfl, .inl ⟨_, .inl rfl, by show 0 < 2; omega, by show 2 ≤ 1000; omega, fun g hgm => ?_⟩⟩⟩) nd
    have hgv : g = .list (RS.map rnD) ∨ g = .tuple (RS.map rnD) := by
      simpa only [List.mem_cons, List.not_mem_nil, or_false] using hgm
    have ng : Nice g := by
      rcases hgv with rfl | rfl
      · exact (PlB.list pR).nice (by decide) (by decide) (by rw [List.length_map]; omega)
      · exact (PlB.tup pR).nice (by decide) (by decide) (by rw [List.length_map]; omega)
    refine wSs_cons <| wS_par (i := 12) (j := 13) (wX_dat <| wE_mt1 PySem.F.slot_str_join PySem.F.type_str_join <| wE_str ⟨_, rfl, wE.ofF ?_⟩) nd
    refine wF_mapT (own := [("letter", 19), ("many", 21)]) (js := [19] ++ ([21] ++ [])) nd (wI_list <| wE_dat (i := 10) rfl ⟨_, rfl, RS, rnD, (fun p => .str (wd (List.replicate p.2 p.1))), rfl, by omega, ?_, ?_⟩) (blkOk_by (N := n_law) (sc := defScope s_law) (by decide +kernel)) (by decide) (fun v hv l ds e => ?_)
    · rintro ⟨b, n⟩ hb X' ⟨s', H', C', cl, fp, rfl⟩
      have hn := hr9 _ hb
      refine wG_tup (wGs_cons (wG_name (i := 19) (wGs_cons (wG_name (i := 21) (wGs_nil fun X' hX => ?_) nd (hi := by simp [wipeD_len]))) nd (hi := by simp [wipeD_len]))) rfl
      obtain ⟨s', H', C', cl, fp, rfl⟩ := hX
      refine wE_op <| wE_dat (i := 19) rfl <| wE_dat (i := 21) rfl <| opD_mulS (mulOk_1 (tx_len _) (by omega) (by have : n ≤ 9 := hn; omega)) ?_
      rw [tx_mul, repB_one, Int.toNat_natCast]
    · have e2 : RS.map (fun p => PyData.str (wd (List.replicate p.2 p.1))) = ((RS.map fun p => List.replicate p.2 p.1).map wd).map PyData.str := by rw [List.map_map, List.map_map]; rfl
      rw [e2]
      have hfl := sum_le (RS.map fun p => List.replicate p.2 p.1) 9 (fun x hx => by obtain ⟨p, hp, rfl⟩ := List.mem_map.mp hx; rw [List.length_replicate]; exact hr9 p hp)
      rw [List.length_map] at hfl
      refine mtD_join ?_ ?_
      · rw [List.map_map, show (Str.length ∘ wd) = List.length from funext fun b => tx_len b]
        show _ + _ * 0 ≤ 16777216
        omega
      rw [tx_join]
      rw [flatten_len_le] at hfl
      generalize hFL : (RS.map fun p => List.replicate p.2 p.1).flatten = FL at hfl
      refine wX_dat <| wE_bi1 PyProof.Rows.boot_repr C.mrepr <| wE_dat (i := 11) rfl <| caD_repr hr.un hg ng ?_
      show wSs _ _ _ [Sl.no, Sl.bag, s2, Sl.dat (.str (wd bs)), Sl.dat (vD bs), Sl.dat (uD bs), s6, s7, s8, s9, Sl.dat (.list (RS.map rnD)), Sl.dat g, Sl.dat (.str (wd FL)), Sl.dat (.str g.shown), s14, s15, s16, s17, s18, Sl.no, Sl.no, Sl.no, Sl.no]
      have hrb := runs_len bs
      have nn : Nice (.list [.str (wd FL), .str (wd bs)]) := (PlB.list (n := 0) (W := 300) (.cons ((wdP 8 _ _).up (Nat.le_refl _) (by omega)) (.cons ((wdP 8 _ _).up (Nat.le_refl _) (by omega)) (.nil _ _)))).nice (by decide) (by decide) (by show (8 + 2) * (2 * (300 + 1)) + 8 ≤ 16777216; decide)
      refine wSs_cons <| wS_if <| wT_ofW <| wW_or <| wT_not <| wT_val <| wE_callP C.alike hg hr (Nat.le_refl _) <| wA_cons <| wE_lst <| wA_cons <| wE_callP C.byG hg hr (Nat.le_refl _) <| wA_cons <| wE_dat (i := 11) rfl <| wA_nil ⟨rfl, RS, g, rfl, hgv, by omega, by rw [show flatR RS = FL from hFL]; omega, ?_⟩
      rw [show flatR RS = FL from hFL]
      refine wA_cons <| wE_callP C.byG hg hr (Nat.le_refl _) <| wA_cons <| wE_callP C.runsG hg hr (Nat.le_refl _) <| wA_cons <| wE_dat (i := 3) rfl <| wA_nil ⟨rfl, bs, rfl, by omega, wA_nil ⟨rfl, runsF bs, _, rfl, .inr rfl, by omega, by rw [show flatR (runsF bs) = bs from runs_back bs]; omega, ?_⟩⟩
      rw [show flatR (runsF bs) = bs from runs_back bs]
      refine wA_nil ⟨by show 2 ≤ 100000; omega, wA_cons <| wE_lst <| wA_cons <| wE_dat (i := 12) rfl <| wA_cons <| wE_dat (i := 3) rfl <| wA_nil ⟨by show 2 ≤ 100000; omega, wA_nil ⟨rfl, _, rfl, nn, true, rfl, fun _ => ?_, (fun e => (by cases e))⟩⟩⟩
      refine wW_or1 <| wT_cmp <| wE_bi1 PyProof.Rows.boot_repr C.mrepr <| wE_dat (i := 11) rfl <| caD_repr hr.un hg ng <| wE_dat (i := 13) rfl <| opD_neS ⟨_, rfl, (fun e => (by simp at e)), fun _ => wSs_nil ?_⟩
      exact again_ok C hg hr hb
    · simp at hv
      rcases hv with rfl | rfl <;> cases e
end
end YL

namespace YL
open PySem PySem.Spec L2 YV
open PyProof.Rows (subscriptTail envOfC)
section
variable {Pg : Program} {w : World} {K : PySem.W.Frag} {mg : Str → Option Value} {base : Heap} {k : Nat}
variable {f : Addr} {cdv : Value} {A : Around} {outer : List Env} {s : Shared} {H : Hp} {E : XK}
theorem other_ok (C : Ks Pg w K mg base k) (hg : A.guards = some []) (hr : Room k (A.deeper (envOfC "law" (defScope s_law) s.heap.objs.size f cdv))) {bs : List Bool} (hb : bs.length ≤ 200) {p q : Nat} 
    {s2 s9 s10 s11 s12 s13 s14 s15 s16 s17 s18 : Sl} :
    wSs (lawX Pg w K mg base f cdv A outer s H E) (turnBody.drop 7) { nx := NX, rt := fun d => d = .bool true } [Sl.no, Sl.bag, s2, Sl.dat (.str (wd bs)), Sl.dat (vD bs), Sl.dat (uD bs), Sl.dat (slD bs), Sl.dat (.list [.str (wd bs), slD bs, nbD bs, nbD bs]), Sl.dat (pr p q), s9, s10, s11, s12, s13, s14, s15, s16, s17, s18, Sl.no, Sl.no, Sl.no, Sl.no] := by
  have nd := sc_law.nd
  have hs := sl_hd (bs := bs) (by omega)
  refine wSs_cons <| wS_set (i := 9) (wX_dat <| wE_mt1 PySem.F.slot_str_join PySem.F.type_str_join <| wE_str ⟨_, rfl, wE.ofF ?_⟩) nd
  refine wF_map1 (v := 19) nd (wI_str (wE_dat (i := 3) rfl ⟨_, rfl, bs, (fun b => .str (wd [b])), (fun b => .str (wd [!b])), tx_signs bs, by omega, ?_, ?_⟩)) (blkOk_by (N := n_law) (sc := defScope s_law) (by decide +kernel)) (fun l ds e => by cases e)
  · rintro b hb X' ⟨s', H', C', cl, fp, rfl⟩
    exact wE_dict2 (hu_of hr) (wE_dat (i := 19) rfl ⟨_, _, rfl, lr_val b, rfl⟩)
  have e2 : bs.map (fun b => PyData.str (wd [!b])) = ((bs.map not).map fun b => wd [b]).map PyData.str := by rw [List.map_map, List.map_map]; rfl
  rw [e2]
  refine mtD_join ?_ ?_
  · rw [sum1 _ (fun y hy => by obtain ⟨b, _, rfl⟩ := List.mem_map.mp hy; exact tx_len [b]), List.length_map, List.length_map]
    show _ + _ * 0 ≤ 16777216
    omega
  rw [tx_join1]
  have hml : (bs.map not).length ≤ 200 := by rw [List.length_map]; exact hb
  have hrb := runs_len bs
  have pr1 := rnP (runsF bs) (fun p hp => Nat.le_trans (hrb.2 p hp) (by omega))
  have esl : slD (bs.map not) = pr (slF bs).2 (slF bs).1 := by unfold slD; rw [sl_not]
  have pr2 : PlB 101 (.tuple ((runsF bs).map rnD)) 2 40000 := by
    have h0 := PlB.tup pr1
    rw [List.length_map] at h0
    refine ⟨h0.lay, h0.dep, Nat.le_trans h0.wei (by omega), ?_, h0.abl, h0.nod⟩
    have := (PlBA.of (B := 101) (n := 1) (W := 1000) (ds := (runsF bs).map rnD) fun d hd => ?_)
    · exact this.sho
    · obtain ⟨p, hp, rfl⟩ := List.mem_map.mp hd
      have hn : Hd (p.2 : Int) := Hd.sm (by omega) (by have := hrb.2 p hp; omega)
      exact (PlB.tup (n := 0) (W := 400) (.cons ((wdP 101 [p.1] 0).up (Nat.le_refl _) (by show 1 ≤ 400; decide)) (.cons (hn.pl 0) (.nil _ _)))).up (Nat.le_refl _) (by show 2 * (400 + 1) ≤ 1000; decide)
  have n2 : Nice (.list [.str (wd (bs.map not)), pr (slF bs).2 (slF bs).1, .tuple ((runsF bs).map rnD)]) := (PlB.list (n := 2) (W := 40000) (.cons ((wdP 101 _ 0).up (Nat.zero_le _) (by omega)) (.cons ((prP hs.2 hs.1).up (by decide) (by decide)) (.cons pr2 (.nil _ _))))).nice (by decide) (by decide) (by show (101 + 2) * (3 * (40000 + 1)) + 101 ≤ 16777216; decide)
  refine wSs_cons <| wS_if <| wT_not <| wT_val <| wE_callP C.alike hg hr (Nat.le_refl _) <| wA_cons <| wE_lst <| wA_cons <| wE_callP C.exG hg hr (Nat.le_refl _) <| wA_cons <| wE_dat (i := 3) rfl <| wA_nil ⟨rfl, bs, rfl, by omega, ?_⟩
  refine wA_cons <| wE_callP C.slG hg hr (Nat.le_refl _) <| wA_cons <| wE_dat (i := 9) rfl <| wA_nil ⟨rfl, bs.map not, rfl, ?_⟩
  rw [esl]
  refine wA_cons <| wE_callP C.runsG hg hr (Nat.le_refl _) <| wA_cons <| wE_dat (i := 3) rfl <| wA_nil ⟨rfl, bs, rfl, by omega, wA_nil ⟨by show 3 ≤ 100000; omega, ?_⟩⟩
  refine wA_cons <| wE_lst <| wA_cons <| wE_dat (i := 9) rfl <| wA_cons <| wE_backT <| wE_dat (i := 6) rfl ⟨_, rfl, ?_⟩
  refine wA_cons <| wE_callP C.runsL hg hr (Nat.le_refl _) <| wA_cons <| wE_dat (i := 3) rfl <| wA_nil ⟨rfl, bs, rfl, by omega, wA_nil ⟨by show 3 ≤ 100000; omega, wA_nil ⟨rfl, _, rfl, n2, true, rfl, (fun e => (by cases e)), fun _ => wSs_nil ?_⟩⟩⟩
  exact runs_ok C hg hr hb
theorem common_ok (C : Ks Pg w K mg base k) (hg : A.guards = some []) (hr : Room k (A.deeper (envOfC "law" (defScope s_law) s.heap.objs.size f cdv))) {bs : List Bool} (hb : bs.length ≤ 200) {p q : Nat} (hp1 : 1 ≤ p) (hp2 : p ≤ 4000) (hq1 : 1 ≤ q) (hq2 : q ≤ 4000)
    {s2 s9 s10 s11 s12 s13 s14 s15 s16 s17 s18 : Sl} :
    wSs (lawX Pg w K mg base f cdv A outer s H E) (turnBody.drop 6) { nx := NX, rt := fun d => d = .bool true } [Sl.no, Sl.bag, s2, Sl.dat (.str (wd bs)), Sl.dat (vD bs), Sl.dat (uD bs), Sl.dat (slD bs), Sl.dat (.list [.str (wd bs), slD bs, nbD bs, nbD bs]), Sl.dat (pr p q), s9, s10, s11, s12, s13, s14, s15, s16, s17, s18, Sl.no, Sl.no, Sl.no, Sl.no] := by
  have nd := sc_law.nd
  refine wSs_cons <| wS_if <| wT_ofW <| wW_and <| wT_cmp <| wE_callP C.common hg hr (Nat.le_refl _) <| wA_cons <| wE_fst (i := 8) rfl <| wA_cons <| wE_snd (i := 8) rfl <| wA_nil ⟨rfl, p, q, rfl, by omega, by omega, wE_int <| opD_eqI ⟨_, rfl, fun e => ?_, fun e => ⟨(fun z => by cases z), fun _ => wSs_nil (other_ok C hg hr hb)⟩⟩⟩
  have hgcd : Nat.gcd p q = 1 := by have := of_decide_eq_true e; exact_mod_cast this
  obtain ⟨fs, hfs⟩ := sl_ex (p + q) p q (Nat.le_refl _) hp1 hq1 hgcd
  have hfl := sl_len fs
  rw [hfs] at hfl
  have hfl : fs.length ≤ 8000 := by
    have h1 : (fs.length : Int) + 2 ≤ (p : Int) + (q : Int) := hfl
    omega
  have efs : slD fs = pr p q := by unfold slD; rw [hfs]
  have n3 : Nice (.str (wd fs)) := ((wdP 8 fs 0).up (Nat.le_refl _) hfl).nice (by decide) (by decide) (by decide)
  refine wW_and1 <| wT_not <| wT_val <| wE_callP C.alike hg hr (Nat.le_refl _) <| wA_cons <| wE_callP C.wordG hg hr (Nat.le_refl _) <| wA_cons <| wE_dat (i := 8) rfl <| wA_nil ⟨rfl, fs, p, q, rfl, hfs, by omega, (Hd.sm (by omega) (by omega)).bg, (Hd.sm (by omega) (by omega)).bg, ?_⟩
  exact wA_cons <| wE_callP C.wordL hg hr (Nat.le_refl _) <| wA_cons <| wE_dat (i := 8) rfl <| wA_nil ⟨rfl, fs, by rw [efs], by omega, wA_nil ⟨rfl, _, rfl, n3, true, rfl, (fun e => (by cases e)), fun _ => wSs_nil (other_ok C hg hr hb)⟩⟩
end
end YL

namespace YL
open PySem PySem.Spec L2 YV
open PyProof.Rows (subscriptTail envOfC)
section
variable {Pg : Program} {w : World} {K : PySem.W.Frag} {mg : Str → Option Value} {base : Heap} {k : Nat}
variable {f : Addr} {cdv : Value} {A : Around} {outer : List Env} {s : Shared} {H : Hp} {E : XK}
theorem turn_ok (C : Ks Pg w K mg base k) (hg : A.guards = some []) (hr : Room k (A.deeper (envOfC "law" (defScope s_law) s.heap.objs.size f cdv)))
    {s2 s3 s4 s5 s6 s7 s8 s9 s10 s11 s12 s13 s14 s15 s16 s17 s18 : Sl} :
    wSs (lawX Pg w K mg base f cdv A outer s H E) turnBody { nx := NX, rt := fun d => d = .bool true } [Sl.no, Sl.bag, s2, s3, s4, s5, s6, s7, s8, s9, s10, s11, s12, s13, s14, s15, s16, s17, s18, Sl.no, Sl.no, Sl.no, Sl.no] := by
  have nd := sc_law.nd
  refine wSs_cons <| wS_set (i := 3) (wX_dat <| wE_callB (i := 1) C.some_ hg hr (Nat.le_refl _) rfl <| wA_cons <| wE_lst <| ?_) nd
  refine wA_cons <| wE_callB (i := 1) C.word hg hr (Nat.le_refl _) rfl <| wA_cons <| wE_int <| wA_nil ⟨rfl, 12, rfl, by omega, by omega, fun b1 h1 => ?_⟩
  refine wA_cons <| wE_callB (i := 1) C.word hg hr (Nat.le_refl _) rfl <| wA_cons <| wE_int <| wA_nil ⟨rfl, 200, rfl, by omega, by omega, fun b2 h2 => ?_⟩
  refine wA_cons <| wE_callB (i := 1) C.word hg hr (Nat.le_refl _) rfl <| wA_cons <| wE_int <| wA_nil ⟨rfl, 40, rfl, by omega, by omega, fun b3 h3 => ?_⟩
  refine wA_cons <| wE_op <| wE_str <| wE_callB (i := 1) C.take hg hr (Nat.le_refl _) rfl <| wA_cons <| wE_int <| wA_nil ⟨rfl, 200, rfl, by omega, by omega, fun t t0 t1 => opD_mulS (mulOk_1 (by decide +kernel) t0 (by omega)) ?_⟩
  rw [strL, tx_mul, repB_one]
  refine wA_nil ⟨by show 4 ≤ 100000; omega, wA_nil ⟨rfl, .inl ⟨_, .inl rfl, by show 0 < 4; omega, by show 4 ≤ 1000; omega, fun d hd => ?_⟩⟩⟩
  have : ∃ bs, d = .str (wd bs) ∧ bs.length ≤ 200 := by
    simp only [List.mem_cons, List.not_mem_nil, or_false] at hd
    rcases hd with rfl | rfl | rfl | rfl
    · exact ⟨b1, rfl, by omega⟩
    · exact ⟨b2, rfl, by omega⟩
    · exact ⟨b3, rfl, by omega⟩
    · exact ⟨_, rfl, by rw [List.length_replicate]; omega⟩
  obtain ⟨bs, rfl, hb⟩ := this
  have hn := nb_hd (bs := bs) (by omega)
  have hs := sl_hd (bs := bs) (by omega)
  have hdt := nb_nn bs
  have hsl : slF bs = ((nbF 1 0 0 1 bs).1 + (nbF 1 0 0 1 bs).2.2.1, (nbF 1 0 0 1 bs).2.1 + (nbF 1 0 0 1 bs).2.2.2) := sl_nb bs
  refine wSs_cons <| wS_unpack (js := [4] ++ ([5] ++ [])) <| wE_callP C.nbr hg hr (Nat.le_refl _) <| wA_cons <| wE_dat (i := 3) rfl <| wA_nil ⟨rfl, bs, rfl, wG_tup (wGs_cons (wG_name (i := 4) (wGs_cons (wG_name (i := 5) (wGs_nil ?_) nd)) nd)) rfl⟩
  show wSs _ _ _ [Sl.no, Sl.bag, s2, Sl.dat (.str (wd bs)), Sl.dat (vD bs), Sl.dat (uD bs), s6, s7, s8, s9, s10, s11, s12, s13, s14, s15, s16, s17, s18, Sl.no, Sl.no, Sl.no, Sl.no]
  refine wSs_cons <| wS_set (i := 6) (wX_dat <| wE_pr <| wE_op <| wE_fst (i := 4) rfl <| wE_fst (i := 5) rfl <| opD_add <| wE_op <| wE_snd (i := 4) rfl <| wE_snd (i := 5) rfl <| opD_add ⟨_, _, rfl, rfl, ?_⟩) nd
  have e6 : pr ((nbF 1 0 0 1 bs).1 + (nbF 1 0 0 1 bs).2.2.1) ((nbF 1 0 0 1 bs).2.1 + (nbF 1 0 0 1 bs).2.2.2) = slD bs := by unfold slD; rw [hsl]
  rw [e6]
  refine wSs_cons <| wS_set (i := 7) (wX_dat <| wE_lst <| wA_cons <| wE_callP C.wordG hg hr (Nat.le_refl _) <| wA_cons <| wE_callP C.slG hg hr (Nat.le_refl _) <| wA_cons <| wE_dat (i := 3) rfl <| wA_nil ⟨rfl, bs, rfl, wA_nil ⟨rfl, bs, _, _, rfl, rfl, by omega, hs.1.bg, hs.2.bg, ?_⟩⟩) nd
  refine wA_cons <| wE_callP C.slG hg hr (Nat.le_refl _) <| wA_cons <| wE_dat (i := 3) rfl <| wA_nil ⟨rfl, bs, rfl, ?_⟩
  refine wA_cons <| wE_callP C.nbG hg hr (Nat.le_refl _) <| wA_cons <| wE_dat (i := 3) rfl <| wA_nil ⟨rfl, bs, rfl, ?_⟩
  refine wA_cons <| wE_callP C.rgG hg hr (Nat.le_refl _) <| wA_cons <| wE_dat (i := 3) rfl <| wA_nil ⟨rfl, bs, rfl, wA_nil ⟨by show 4 ≤ 100000; omega, ?_⟩⟩
  have pn : PlB 101 (nbD bs) 2 2000 := (PlB.tup (.cons (prP hn.1 hn.2.1) (.cons (prP hn.2.2.1 hn.2.2.2) (.nil 1 802)))).up (Nat.le_refl _) (by show 2 * (802 + 1) ≤ 2000; decide)
  have n1 : Nice (.list [.str (wd bs), slD bs, nbD bs, nbD bs]) := (PlB.list (n := 2) (W := 2000) (.cons ((wdP 101 _ _).up (Nat.le_refl _) (by omega)) (.cons ((prP hs.1 hs.2).up (by decide) (by decide)) (.cons pn (.cons pn (.nil _ _)))))).nice (by decide) (by decide) (by show (101 + 2) * (4 * (2000 + 1)) + 101 ≤ 16777216; decide)
  refine wSs_cons <| wS_if <| wT_ofW <| wW_or <| wT_not <| wT_val <| wE_callP C.alike hg hr (Nat.le_refl _) <| wA_cons <| wE_dat (i := 7) rfl <| wA_cons <| wE_lst <| wA_cons <| wE_dat (i := 3) rfl <| wA_cons <| wE_dat (i := 6) rfl <| wA_cons <| wE_tup <| wA_cons <| wE_dat (i := 4) rfl <| wA_cons <| wE_dat (i := 5) rfl <| wA_nil ⟨by show 2 ≤ 100000; omega, wA_cons <| wE_tup <| wA_cons <| wE_dat (i := 4) rfl <| wA_cons <| wE_dat (i := 5) rfl <| wA_nil ⟨by show 2 ≤ 100000; omega, wA_nil ⟨by show 4 ≤ 100000; omega, wA_nil ⟨rfl, _, rfl, n1, true, rfl, fun _ => ?_, (fun e => (by cases e))⟩⟩⟩⟩
  have e1 : (nbF 1 0 0 1 bs).1 * (nbF 1 0 0 1 bs).2.2.2 - (nbF 1 0 0 1 bs).2.1 * (nbF 1 0 0 1 bs).2.2.1 = 1 := by rw [hdt.2.2.2.2]; omega
  have e2 : PyData.bool (!decide ((nbF 1 0 0 1 bs).1 * (nbF 1 0 0 1 bs).2.2.2 - (nbF 1 0 0 1 bs).2.1 * (nbF 1 0 0 1 bs).2.2.1 = 1)) = .bool false := congrArg PyData.bool (by rw [decide_eq_true e1]; rfl)
  refine wW_or1 <| wT_cmp <| wE_op <| wE_op <| wE_fst (i := 4) rfl <| wE_snd (i := 5) rfl <| ?_
  refine opD_mulW hn.1.bg hn.2.2.2.bg <| ?_
  refine wE_op <| wE_snd (i := 4) rfl <| wE_fst (i := 5) rfl <| ?_
  refine opD_mulW hn.2.1.bg hn.2.2.1.bg <| ?_
  refine opD_sub <| ?_
  refine wE_int <| ?_
  refine opD_neI ?_
  refine ⟨false, ?_, ?_, ?_⟩
  · exact e2
  · intro e; cases e
  intro _
  refine wSs_nil ?_
  show wSs _ _ _ [Sl.no, Sl.bag, s2, Sl.dat (.str (wd bs)), Sl.dat (vD bs), Sl.dat (uD bs), Sl.dat (slD bs), Sl.dat (.list [.str (wd bs), slD bs, nbD bs, nbD bs]), s8, s9, s10, s11, s12, s13, s14, s15, s16, s17, s18, Sl.no, Sl.no, Sl.no, Sl.no]
  clear hn hs hdt hsl e6 pn n1 e1 e2
  refine wSs_cons <| wS_set (i := 8) (wX_dat <| ?_) nd
  refine wE_callB (i := 1) C.some_ hg hr (Nat.le_refl _) rfl ?_
  refine wA_cons ?_
  refine wE_lst ?_
  refine wA_cons ?_
  refine wE_pr <| wE_int <| wE_int ⟨_, _, rfl, rfl, ?_⟩
  refine wA_cons ?_
  refine wE_pr <| wE_int <| wE_int ⟨_, _, rfl, rfl, ?_⟩
  refine wA_cons ?_
  refine wE_pr <| wE_int <| wE_int ⟨_, _, rfl, rfl, ?_⟩
  refine wA_cons ?_
  refine wE_pr <| wE_int <| wE_int ⟨_, _, rfl, rfl, ?_⟩
  refine wA_cons ?_
  refine wE_pr <| wE_int <| wE_int ⟨_, _, rfl, rfl, ?_⟩
  refine wA_cons ?_
  refine wE_pr <| wE_int <| wE_op <| wE_int <| wE_op <| wE_int ?_
  refine wE_callB (i := 1) C.take hg hr (Nat.le_refl _) rfl ?_
  refine wA_cons <| wE_int <| wA_nil ⟨rfl, 9, rfl, by omega, by omega, fun t t0 t1 => ?_⟩
  refine opD_mul (.inl ⟨by omega, by omega⟩) ?_
  refine opD_add ⟨_, _, rfl, rfl, ?_⟩
  refine wA_nil ⟨by show 6 ≤ 100000; omega, ?_⟩
  refine wA_nil ⟨rfl, .inl ⟨_, .inl rfl, by show 0 < 6; omega, by show 6 ≤ 1000; omega, fun d hd => ?_⟩⟩
  have : ∃ p q : Nat, d = pr p q ∧ 1 ≤ p ∧ p ≤ 4000 ∧ 1 ≤ q ∧ q ≤ 4000 := by
    simp only [List.mem_cons, List.not_mem_nil, or_false] at hd
    rcases hd with rfl | rfl | rfl | rfl | rfl | rfl
    · exact ⟨4000, 1, rfl, by omega⟩
    · exact ⟨1, 4000, rfl, by omega⟩
    · exact ⟨3999, 4000, rfl, by omega⟩
    · exact ⟨4000, 3999, rfl, by omega⟩
    · exact ⟨2584, 1597, rfl, by omega⟩
    · exact ⟨4000, (1 + 3 * t).toNat, by rw [Int.toNat_of_nonneg (by omega)]; rfl, by omega, by omega, by omega, by omega⟩
  obtain ⟨p, q, rfl, hp1, hp2, hq1, hq2⟩ := this
  exact common_ok C hg hr hb hp1 hp2 hq1 hq2
theorem body_ok (C : Ks Pg w K mg base k) (hg : A.guards = some []) (hr : Room k (A.deeper (envOfC "law" (defScope s_law) s.heap.objs.size f cdv))) :
    wSs (lawX Pg w K mg base f cdv A outer s H E) ((defBody s_law).drop 1) { nx := fun _ => False, rt := fun d => d = .bool true } (Sl.no :: Sl.bag :: List.replicate 21 Sl.no) := by
  have nd := sc_law.nd
  refine wSs_cons (wS_for (js := [2]) PassesOwn.never (wI_range1 C.mrange (wE_int ⟨4, rfl, by omega, ?_⟩)))
  refine ⟨fun _ δ => NX δ, ⟨_, _, _, _, _, _, _, _, _, _, _, _, _, _, _, _, _, rfl⟩, ?_, fun δ' h => ?_⟩
  · rintro i x δ' hx ⟨s2, s3, s4, s5, s6, s7, s8, s9, s10, s11, s12, s13, s14, s15, s16, s17, s18, rfl⟩
    refine wG_name (i := 2) ?_ nd
    exact wSs.imp (turn_ok C hg hr) (fun _ h => h) (fun _ h => h) (fun _ h => h.elim) (fun _ h => h.elim)
  · exact wSs_one (wS_ret (wE_bl rfl))
end
end YL

namespace YL
open PySem PySem.Spec L2 YV
open PyProof.Rows (subscriptTail envOfC)
section
variable {Pg : Program} {w : World} {K : PySem.W.Frag} {mg : Str → Option Value} {base : Heap}
theorem abs_nn (i : Int) : 0 ≤ (if i < 0 then -i else i) := by split <;> omega
theorem ok_law_bag {f : Addr} {fd : FuncData} {k : Nat} (Fn : Fun K "_law_bag" "_law_bag" s_law_bag f fd) (ma : mg "abs" = none) : FnG Pg w K mg base CX0 (k + 1) f fd ["script"] (spBag K) := by
  have nd := sc_law_bag.nd
  refine fn_G Fn sc_law_bag (fun vs H Q E h => ?_) fun cdv A outer s H vs Q E hg hr h => ?_
  · obtain ⟨a, ns, rfl, _⟩ := h
    rfl
  obtain ⟨a, ns, rfl, hS, hl, q⟩ := h
  refine ⟨_, pss_one (ps_ret (pe_lst (pa_cons pe_int (pa_cons pe_int (pa_cons pe_int (pa_cons (pe_lc rfl nd (pi_list (pe_slice sl_list (pv 0) po_none (po_some pe_int))) (blkOk_by (N := n_law_bag) (sc := defScope s_law_bag) (own := [("cell", 1)]) (by decide +kernel)) (g := gName 1) (fun s H C cl fp => pg_name nd rfl (.inl rfl)) (fun s H C cl fp => pts_nil) (fun s H C cl fp => pe_callB call_abs (by rfl) ma PyProof.Rows.boot_abs (pa_cons (pv 1) pa_nil))) pa_nil)))))), ?_⟩
  refine ⟨.ref a, rfl, 63, rfl, ?_⟩
  refine ⟨a, ns.map V.int, rfl, hS, fun p np => ?_⟩
  refine ⟨p, rfl, ⟨_, SqL.of upd_same⟩, fun c nc => ?_⟩
  have hpc : p ≠ c := fun z => by rw [z, upd_same] at nc; cases nc
  generalize hxs : cutV (ns.map V.int) none (some 63) = xs at nc ⊢
  have hxl : xs.length ≤ 63 := by rw [← hxs]; have := cutV_length (ns.map V.int) none (some 63); rw [List.length_map] at this; omega
  have hxi : ∀ (i : Nat) x, xs[i]? = some x → ∃ n : Int, x = .int n := fun i x hx => by
    have h1 := List.mem_of_getElem? hx
    rw [← hxs] at h1
    unfold cutV at h1
    obtain ⟨n, _, e⟩ := List.mem_map.mp (List.mem_of_mem_drop (List.mem_of_mem_take h1))
    exact ⟨n, e.symm⟩
  have s1 : Same H (upd H p (.lst xs)) := same_upd np
  refine lc_list (xs := xs) (fun i H' => ∃ cells : List Int, H' c = some (.lst (cells.map V.int)) ∧ cells.length = i ∧ (∀ x ∈ cells, 0 ≤ x) ∧ H' p = some (.lst xs) ∧ Same H H') ⟨[], upd_same, rfl, (fun _ h => by cases h), by rw [upd_ne hpc]; exact upd_same, s1.trans (same_upd nc)⟩ (fun i H' hi h => ?_) (fun i x H' hx h => ?_) (fun H' h => ?_)
  · obtain ⟨cells, h1, h2, h3, h4, h5⟩ := h
    exact SqL.of h4
  · obtain ⟨cells, h1, h2, h3, h4, h5⟩ := h
    obtain ⟨n, rfl⟩ := hxi i x hx
    refine ⟨rfl, ?_⟩
    dsimp only [tYes]
    rw [if_pos rfl]
    refine ⟨_, rfl, n, rfl, cells.map V.int, h1, ?_, cells ++ [if n < 0 then -n else n], ?_, ?_, ?_, ?_, ?_⟩
    · rw [List.length_map, h2]
      have := (List.getElem?_eq_some_iff.mp hx).1
      exact Nat.lt_of_lt_of_le (show i < 100000 by omega) (by decide)
    · rw [upd_same, List.map_append]; rfl
    · rw [List.length_append, h2]; rfl
    · intro y hy
      rcases (List.mem_append (a := y)).mp hy with hy | hy
      · exact h3 y hy
      · rw [List.mem_singleton.mp hy]; exact abs_nn n
    · rw [upd_ne hpc]; exact h4
    · intro b o e
      rw [upd_ne (fun z => ?_)]
      · exact h5 b o e
      · subst z
        have := s1 _ _ e
        rw [nc] at this; cases this
  · obtain ⟨cells, h1, h2, h3, h4, h5⟩ := h
    refine ⟨line_of (show 4 ≤ 100000 by omega), fun b nb => ?_⟩
    have hcb : c ≠ b := fun z => by rw [← z, h1] at nb; cases nb
    exact q b c cells _ (h5.trans (same_upd nb)) upd_same (by rw [upd_ne hcb]; exact h1) hcb h3 (by omega)
end
section
variable {Pg : Program} {w : World} {K : PySem.W.Frag} {mg : Str → Option Value} {base : Heap} {k : Nat}
theorem ok_law {f : Addr} {fd : FuncData} (Fn : Fun K "law" "law" s_law f fd) (Cb : CalBag Pg w K mg base k) (C : Ks Pg w K mg base k) : FnG Pg w K mg base CX0 (k + 1) f fd ["script"] (spLaw K) := by
  have nd := sc_law.nd
  refine fn_G Fn sc_law (fun vs H Q E h => ?_) fun cdv A outer s H vs Q E hg hr h => ?_
  · obtain ⟨a, ns, rfl, _⟩ := h
    rfl
  obtain ⟨a, ns, rfl, hS, hl, q⟩ := h
  obtain ⟨g, gd, ps, G, hm, hk, hb⟩ := Cb
  refine ⟨_, sSs.ps.nox, ?_⟩
  refine sSs.of (pss_cons (ps_set (i := 1) nd rfl (by first | exact .inl rfl | exact .inr rfl) (pe_callG G hg hr (by rfl) hm hk hb (E := fun _ _ _ => False) pass0 (pa_cons (pv 0) pa_nil))) sSs.ps) ?_
  refine ⟨.ref a, rfl, a, ns, rfl, hS, hl, fun b c cells H' hs hB hC hcb h0 hl' => ?_⟩
  have R : Rp K ⟨fun x => x = b ∨ x = c, some b, c⟩ H' (Sl.no :: Sl.bag :: List.replicate 21 Sl.no) ((L2.start n_law [V.ref a]).set 1 (some (.ref b))) H' := law_Rp hB hC hcb h0 hl'
  refine (body_ok C hg hr _ H' _ H' R).le (law_end q)
structure Tops (K : PySem.W.Frag) (mg : Str → Option Value) : Prop where
  added : Got K mg "added" s_added ["one", "other"]
  next : Got K mg "next_neighbours" s_next_neighbours ["neighbours", "letter"]
  mid : Got K mg "middle_of" s_middle_of ["neighbours"]
  nbG : Got K mg "neighbours_of" s_neighbours_of ["word"]
  slG : Got K mg "slope_of" s_slope_of ["word"]
  rgG : Got K mg "range_of" s_range_of ["word"]
  runsG : Got K mg "runs_of" s_runs_of ["word"]
  byG : Got K mg "word_by" s_word_by ["runs"]
  steps : Got K mg "steps_to" s_steps_to ["slope"]
  wordG : Got K mg "word_of" s_word_of ["slope"]
  exG : Got K mg "exchanged" s_exchanged ["word"]
  take : Got K mg "_law_take" s_law_take ["bag", "many"]
  some_ : Got K mg "_law_some" s_law_some ["bag", "things"]
  alike : Got K mg "_law_alike" s_law_alike ["found", "due"]
  nbr : Got K mg "_law_neighbours" s_law_neighbours ["word"]
  slo : Got K mg "_law_slope_of" s_law_slope_of ["word"]
  wordL : Got K mg "_law_word_of" s_law_word_of ["slope"]
  word : Got K mg "_law_word" s_law_word ["bag", "most"]
  slope : Got K mg "_law_slope" s_law_slope ["bag", "most"]
  less : Got K mg "_law_less_steep" s_law_less_steep ["one", "other"]
  common : Got K mg "_law_common" s_law_common ["n", "d"]
  short : Got K mg "_law_short_numbers" s_law_short_numbers ["word", "most"]
  runsL : Got K mg "_law_runs" s_law_runs ["word"]
  bag : Got K mg "_law_bag" s_law_bag ["script"]
  mint : mg "int" = none
  mlen : mg "len" = none
  mrepr : mg "repr" = none
  mrange : mg "range" = none
  mabs : mg "abs" = none
  mtuple : mg "tuple" = none
  mmax : mg "max" = none
theorem Tops.ks (T : Tops K mg) : Ks Pg w K mg base 4 := by
  have added : ∀ j, 1 ≤ j → Cal Pg w K mg base "added" j false 2 FAdd := fun j hj => T.added.cal (j := 1) (fun f fd F => ok_added F) hj
  have next : ∀ j, 2 ≤ j → Cal Pg w K mg base "next_neighbours" j false 2 FNextN := fun j hj => T.next.cal (j := 2) (fun f fd F => ok_next_neighbours F (added 1 (by omega))) hj
  have mid : ∀ j, 2 ≤ j → Cal Pg w K mg base "middle_of" j false 1 FMid := fun j hj => T.mid.cal (j := 2) (fun f fd F => ok_middle_of F (added 1 (by omega))) hj
  have nbG : ∀ j, 3 ≤ j → Cal Pg w K mg base "neighbours_of" j false 1 (FOfWord nbD) := fun j hj => T.nbG.cal (j := 3) (fun f fd F => ok_neighbours_of F (next 2 (by omega))) hj
  have slG : ∀ j, 4 ≤ j → Cal Pg w K mg base "slope_of" j false 1 (FOfWord slD) := fun j hj => T.slG.cal (j := 4) (fun f fd F => ok_slope_of F (nbG 3 (by omega)) (mid 3 (by omega))) hj
  have rgG : ∀ j, 4 ≤ j → Cal Pg w K mg base "range_of" j false 1 (FOfWord nbD) := fun j hj => T.rgG.cal (j := 4) (fun f fd F => ok_range_of F (nbG 3 (by omega))) hj
  have runsG : ∀ j, 1 ≤ j → Cal Pg w K mg base "runs_of" j false 1 FRuns := fun j hj => T.runsG.cal (j := 1) (fun f fd F => ok_runs_of F T.mrange T.mlen T.mtuple) hj
  have byG : ∀ j, 1 ≤ j → Cal Pg w K mg base "word_by" j false 1 FWordBy := fun j hj => T.byG.cal (j := 1) (fun f fd F => ok_word_by F) hj
  have steps : ∀ j, 1 ≤ j → Cal Pg w K mg base "steps_to" j false 1 FSteps := fun j hj => T.steps.cal (j := 1) (fun f fd F => ok_steps_to F) hj
  have wordG : ∀ j, 2 ≤ j → Cal Pg w K mg base "word_of" j false 1 FWordW := fun j hj => T.wordG.cal (j := 2) (fun f fd F => ok_word_of F (steps 1 (by omega)) (byG 1 (by omega))) hj
  have exG : ∀ j, 1 ≤ j → Cal Pg w K mg base "exchanged" j false 1 FExch := fun j hj => T.exG.cal (j := 1) (fun f fd F => ok_exchanged F) hj
  have take : ∀ j, 1 ≤ j → Cal Pg w K mg base "_law_take" j true 1 FTake := fun j hj => T.take.cal (j := 1) (fun f fd F => FnG.of (ok_law_take F T.mint)) hj
  have some_ : ∀ j, 2 ≤ j → Cal Pg w K mg base "_law_some" j true 1 FSome := fun j hj => T.some_.cal (j := 2) (fun f fd F => ok_law_some F (take 1 (by omega)) T.mlen) hj
  have alike : ∀ j, 1 ≤ j → Cal Pg w K mg base "_law_alike" j false 2 FAlike := fun j hj => T.alike.cal (j := 1) (fun f fd F => ok_law_alike F T.mrepr) hj
  have nbr : ∀ j, 1 ≤ j → Cal Pg w K mg base "_law_neighbours" j false 1 (FOfWord nbD) := fun j hj => T.nbr.cal (j := 1) (fun f fd F => ok_law_neighbours F) hj
  have slo : ∀ j, 2 ≤ j → Cal Pg w K mg base "_law_slope_of" j false 1 (FOfWord slD) := fun j hj => T.slo.cal (j := 2) (fun f fd F => ok_law_slope_of F (nbr 1 (by omega))) hj
  have wordL : ∀ j, 1 ≤ j → Cal Pg w K mg base "_law_word_of" j false 1 FWordLaw := fun j hj => T.wordL.cal (j := 1) (fun f fd F => ok_law_word_of F) hj
  have word : ∀ j, 3 ≤ j → Cal Pg w K mg base "_law_word" j true 1 FWordB := fun j hj => T.word.cal (j := 3) (fun f fd F => ok_law_word F (take 2 (by omega)) (some_ 2 (by omega)) T.mrange) hj
  have slope : ∀ j, 4 ≤ j → Cal Pg w K mg base "_law_slope" j true 1 FSlopeB := fun j hj => T.slope.cal (j := 4) (fun f fd F => ok_law_slope F (take 3 (by omega)) (word 3 (by omega)) (slo 3 (by omega)) T.mrange) hj
  have less : ∀ j, 1 ≤ j → Cal Pg w K mg base "_law_less_steep" j false 2 FLessB := fun j hj => T.less.cal (j := 1) (fun f fd F => ok_law_less F) hj
  have common : ∀ j, 1 ≤ j → Cal Pg w K mg base "_law_common" j false 2 FGcd := fun j hj => T.common.cal (j := 1) (fun f fd F => ok_law_common F) hj
  have short : ∀ j, 1 ≤ j → Cal Pg w K mg base "_law_short_numbers" j false 2 FShort := fun j hj => T.short.cal (j := 1) (fun f fd F => ok_law_short_numbers F T.mmax) hj
  have runsL : ∀ j, 1 ≤ j → Cal Pg w K mg base "_law_runs" j false 1 FRuns := fun j hj => T.runsL.cal (j := 1) (fun f fd F => ok_law_runs F T.mtuple) hj
  exact { take := take 4 (by omega), some_ := some_ 4 (by omega), alike := alike 4 (by omega), nbr := nbr 4 (by omega), slo := slo 4 (by omega), wordL := wordL 4 (by omega), word := word 4 (by omega), slope := slope 4 (by omega), less := less 4 (by omega), common := common 4 (by omega), short := short 4 (by omega), runsL := runsL 4 (by omega), wordG := wordG 4 (by omega), nbG := nbG 4 (by omega), slG := slG 4 (by omega), rgG := rgG 4 (by omega), runsG := runsG 4 (by omega), byG := byG 4 (by omega), exG := exG 4 (by omega), mrange := T.mrange, mrepr := T.mrepr, mlen := T.mlen, mtuple := T.mtuple }
theorem Tops.bagC (T : Tops K mg) : CalBag Pg w K mg base 4 := T.bag.calB (j := 1) (fun f fd F => ok_law_bag F T.mabs) (by omega)
theorem fin {l : PySem.W.OpenLaw} {h : Heap} {fa f : Addr} {oc : Value} {od an : Option Addr} {osl : Array (Option Value)} {kV doc pm cdv ct : Value} (X : K.In h) (G : h.Ns mainGlobals mg) (hfa : mg "law" = some (.ref fa))
    (a : PySem.W.nsIn K mainGlobals "law" = some (some (.ref f))) (ll : K.lookup f = some ⟨oc, od, .func (PySem.W.fnOf "law" "law" (defArgs s_law) (defBody s_law) (defScope s_law) .none kV doc pm an cdv ct), osl⟩)
    (c : PySem.W.codeIn K cdv "law" = true) (kp : PySem.W.keepIn K (.ref f) = true) (T : Tops K mg) :
    ∃ fd : FuncData, (∀ (s : Shared) (v : Value), BindsTo s fd ⟨[v], []⟩ [("script", v)]) ∧ ∀ base : Heap, K.In base → base.Ns mainGlobals mg → FnG l.prog w K mg base CX0 5 fa fd ["script"] (spLaw K) := by
  have e := hfa.symm.trans (PySem.W.mg_of X G a)
  cases e
  have F := fun_mk (st := s_law) ll c kp
  exact ⟨_, fun s v => .of_eq rfl, fun base _ _ => ok_law F T.bagC T.ks⟩
end
end YL

section
open PySem PySem.W PyProof.Rows
set_option maxHeartbeats 0 in
theorem PySem.Challenge.cw_hownarrow_k20_words_there_and_back_holds : PySem.Challenge.rw_hownarrow_k20_words_there_and_back.Holds := by
  w_on; o_law; k_head; (case hw => w_witness2)
  k_fill
  refine YV.walk_ofG (l := PySem.Challenge.rw_hownarrow_k20_words_there_and_back) (n := 63) (k := 5) (x := "script") (sp := fun w => YV.spLaw _) rfl (by decide) rfl ⟨rfl, by decide, by decide⟩ (fun w h Y => PySem.W.kIn_of Y) ?F (fun _ _ a ns hl _ hS => ⟨a, ns, rfl, hS, hl, fun _ => rfl⟩)
  case F =>
    intro w mg fa h KX G hmg
    refine' YL.fin KX G hmg ?a ?l ?c ?k ⟨?g_added, ?g_next, ?g_mid, ?g_nbG, ?g_slG, ?g_rgG, ?g_runsG, ?g_byG, ?g_steps, ?g_wordG, ?g_exG, ?g_take, ?g_some_, ?g_alike, ?g_nbr, ?g_slo, ?g_wordL, ?g_word, ?g_slope, ?g_less, ?g_common, ?g_short, ?g_runsL, ?g_bag, ?m_int, ?m_len, ?m_repr, ?m_range, ?m_abs, ?m_tuple, ?m_max⟩
    (case a => k_is); (case l => k_is); (case c => k_is); (case k => k_is)
    (case g_added => refine' YV.got KX G (fun _ _ _ _ _ _ us hl => match us, hl with | [_, _], _ => rfl) ?a ?l ?c ?k; (case a => k_is); (case l => k_is); (case c => k_is); (case k => k_is))
    (case g_next => refine' YV.got KX G (fun _ _ _ _ _ _ us hl => match us, hl with | [_, _], _ => rfl) ?a ?l ?c ?k; (case a => k_is); (case l => k_is); (case c => k_is); (case k => k_is))
    (case g_mid => refine' YV.got KX G (fun _ _ _ _ _ _ us hl => match us, hl with | [_], _ => rfl) ?a ?l ?c ?k; (case a => k_is); (case l => k_is); (case c => k_is); (case k => k_is))
    (case g_nbG => refine' YV.got KX G (fun _ _ _ _ _ _ us hl => match us, hl with | [_], _ => rfl) ?a ?l ?c ?k; (case a => k_is); (case l => k_is); (case c => k_is); (case k => k_is))
    (case g_slG => refine' YV.got KX G (fun _ _ _ _ _ _ us hl => match us, hl with | [_], _ => rfl) ?a ?l ?c ?k; (case a => k_is); (case l => k_is); (case c => k_is); (case k => k_is))
    (case g_rgG => refine' YV.got KX G (fun _ _ _ _ _ _ us hl => match us, hl with | [_], _ => rfl) ?a ?l ?c ?k; (case a => k_is); (case l => k_is); (case c => k_is); (case k => k_is))
    (case g_runsG => refine' YV.got KX G (fun _ _ _ _ _ _ us hl => match us, hl with | [_], _ => rfl) ?a ?l ?c ?k; (case a => k_is); (case l => k_is); (case c => k_is); (case k => k_is))
    (case g_byG => refine' YV.got KX G (fun _ _ _ _ _ _ us hl => match us, hl with | [_], _ => rfl) ?a ?l ?c ?k; (case a => k_is); (case l => k_is); (case c => k_is); (case k => k_is))
    (case g_steps => refine' YV.got KX G (fun _ _ _ _ _ _ us hl => match us, hl with | [_], _ => rfl) ?a ?l ?c ?k; (case a => k_is); (case l => k_is); (case c => k_is); (case k => k_is))
    (case g_wordG => refine' YV.got KX G (fun _ _ _ _ _ _ us hl => match us, hl with | [_], _ => rfl) ?a ?l ?c ?k; (case a => k_is); (case l => k_is); (case c => k_is); (case k => k_is))
    (case g_exG => refine' YV.got KX G (fun _ _ _ _ _ _ us hl => match us, hl with | [_], _ => rfl) ?a ?l ?c ?k; (case a => k_is); (case l => k_is); (case c => k_is); (case k => k_is))
    (case g_take => refine' YV.got KX G (fun _ _ _ _ _ _ us hl => match us, hl with | [_, _], _ => rfl) ?a ?l ?c ?k; (case a => k_is); (case l => k_is); (case c => k_is); (case k => k_is))
    (case g_some_ => refine' YV.got KX G (fun _ _ _ _ _ _ us hl => match us, hl with | [_, _], _ => rfl) ?a ?l ?c ?k; (case a => k_is); (case l => k_is); (case c => k_is); (case k => k_is))
    (case g_alike => refine' YV.got KX G (fun _ _ _ _ _ _ us hl => match us, hl with | [_, _], _ => rfl) ?a ?l ?c ?k; (case a => k_is); (case l => k_is); (case c => k_is); (case k => k_is))
    (case g_nbr => refine' YV.got KX G (fun _ _ _ _ _ _ us hl => match us, hl with | [_], _ => rfl) ?a ?l ?c ?k; (case a => k_is); (case l => k_is); (case c => k_is); (case k => k_is))
    (case g_slo => refine' YV.got KX G (fun _ _ _ _ _ _ us hl => match us, hl with | [_], _ => rfl) ?a ?l ?c ?k; (case a => k_is); (case l => k_is); (case c => k_is); (case k => k_is))
    (case g_wordL => refine' YV.got KX G (fun _ _ _ _ _ _ us hl => match us, hl with | [_], _ => rfl) ?a ?l ?c ?k; (case a => k_is); (case l => k_is); (case c => k_is); (case k => k_is))
    (case g_word => refine' YV.got KX G (fun _ _ _ _ _ _ us hl => match us, hl with | [_, _], _ => rfl) ?a ?l ?c ?k; (case a => k_is); (case l => k_is); (case c => k_is); (case k => k_is))
    (case g_slope => refine' YV.got KX G (fun _ _ _ _ _ _ us hl => match us, hl with | [_, _], _ => rfl) ?a ?l ?c ?k; (case a => k_is); (case l => k_is); (case c => k_is); (case k => k_is))
    (case g_less => refine' YV.got KX G (fun _ _ _ _ _ _ us hl => match us, hl with | [_, _], _ => rfl) ?a ?l ?c ?k; (case a => k_is); (case l => k_is); (case c => k_is); (case k => k_is))
    (case g_common => refine' YV.got KX G (fun _ _ _ _ _ _ us hl => match us, hl with | [_, _], _ => rfl) ?a ?l ?c ?k; (case a => k_is); (case l => k_is); (case c => k_is); (case k => k_is))
    (case g_short => refine' YV.got KX G (fun _ _ _ _ _ _ us hl => match us, hl with | [_, _], _ => rfl) ?a ?l ?c ?k; (case a => k_is); (case l => k_is); (case c => k_is); (case k => k_is))
    (case g_runsL => refine' YV.got KX G (fun _ _ _ _ _ _ us hl => match us, hl with | [_], _ => rfl) ?a ?l ?c ?k; (case a => k_is); (case l => k_is); (case c => k_is); (case k => k_is))
    (case g_bag => refine' YV.got KX G (fun _ _ _ _ _ _ us hl => match us, hl with | [_], _ => rfl) ?a ?l ?c ?k; (case a => k_is); (case l => k_is); (case c => k_is); (case k => k_is))
    (case m_int => refine' PySem.W.mg_none_of KX G ?z; (case z => k_is))
    (case m_len => refine' PySem.W.mg_none_of KX G ?z; (case z => k_is))
    (case m_repr => refine' PySem.W.mg_none_of KX G ?z; (case z => k_is))
    (case m_range => refine' PySem.W.mg_none_of KX G ?z; (case z => k_is))
    (case m_abs => refine' PySem.W.mg_none_of KX G ?z; (case z => k_is))
    (case m_tuple => refine' PySem.W.mg_none_of KX G ?z; (case z => k_is))
    (case m_max => refine' PySem.W.mg_none_of KX G ?z; (case z => k_is))
end
