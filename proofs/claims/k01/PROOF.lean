import PyProof.Rows.All
import Wide.All
import OpenK.AllK
import Wide.FinOn
import HandS.ForMost
import HandS.Evl
import HandS.Walk
import HandS.IsInst
import HandS.Zip
import HandS.TupAny
import HandS.Flow
import HandS.Style
import HandS.More
import HandS.Conv
import HandS.StrMore
import HandS.Text
import HandS.Wide
import PySem.Challenge.RW_keyswithin_k01_houses_known
import HandS.Star
import KE.GoesEnum
import HandS.Exc
import HandS.ExcCtx
import HandS.HotCalls
import HandS.Comp
import HandS.Nested
import HandS.Lambda
import PyProof.ExcBaseAll.ValueError
import HandS.RaiseMore
import HandS.SetFor
import HandS.SetKeys
import HandS.TupMul
set_option Elab.async false
set_option linter.all false
set_option maxRecDepth 100000
set_option maxHeartbeats 4000000
namespace Kw
open PySem PySem.Spec PyProof.Rows L2 Evl
/-! ### what stays: the tuples -/
def KeepT (H H' : Hp) : Prop := ∀ b xs, Rd H b (.tup xs) → Rd H' b (.tup xs)
theorem KeepT.refl (H : Hp) : KeepT H H := fun _ _ h => h
theorem KeepT.trans {H H1 H2 : Hp} (a : KeepT H H1) (b : KeepT H1 H2) : KeepT H H2 := fun c o h => b c o (a c o h)
theorem KeepT.ex {H H' : Hp} (e : Ex H H') : KeepT H H' := fun b xs h => ex_rd e h
theorem KeepT.lst {H : Hp} {p : Addr} {xs ys : List V} (h : H p = some (.lst xs)) : KeepT H (upd H p (.lst ys)) := fun b zs r => by
  have nb : b ≠ p := by
    rintro rfl
    rcases r with r | ⟨o, r⟩
    · rw [h] at r; cases r
    · rw [h] at r; cases r
  rcases r with r | ⟨o, r⟩
  · exact .inl (by rw [upd_ne nb]; exact r)
  · exact .inr ⟨o, by rw [upd_ne nb]; exact r⟩
theorem keep_t {K : PySem.W.Frag} {H H' : Hp} {a : Addr} {xs : List V} (e : KeepT H H') (h : SqT K H a xs) : SqT K H' a xs := by
  rcases h with h | h
  · exact Or.inl (e _ _ h)
  · exact Or.inr h
/-! ### readings -/
def EvP (te : TE) (σ : L2.St) (H : Hp) (Φ : V → Hp → Prop) : Prop := ∀ H1, Ex H H1 → ∀ Q : VK, (∀ v H2, Ex H1 H2 → Φ v H2 → Q v H2) → te σ H1 Q
def EvW (wi : TI) (σ : L2.St) (H : Hp) (n : Nat) (Y : Nat → Hp → V → Hp → Prop) : Prop :=
  ∀ H1, Ex H H1 → ∀ R : It → Hp → Prop, (∀ (J : It) (G : Hp → Prop) (H2 : Hp), Ex H1 H2 → Walk J n G Y → (∀ H3, Ex H2 H3 → G H3) → R J H2) → wi σ H1 R
section
variable {K : PySem.W.Frag} {σ : L2.St} {H H' : Hp} {ta tb te tl : TE} {t u : TT} {x y z v : V} {r : R2} {Φ : V → Hp → Prop}
theorem EvP.ev (h : Ev te σ H v) : EvP te σ H (fun x _ => x = v) := fun H1 e Q q => h H1 e Q fun H2 e2 => q v H2 e2 rfl
theorem EvP.to (h : EvP te σ H (fun x _ => x = v)) : Ev te σ H v := fun H1 e Q q => h H1 e Q fun x H2 e2 hx => by
  subst hx
  exact q H2 e2
theorem EvP.mono (e : Ex H H') (h : EvP te σ H Φ) : EvP te σ H' Φ := fun H1 a Q q => h H1 (e.trans a) Q q
theorem EvP.imp {Ψ : V → Hp → Prop} (h : EvP te σ H Φ) (i : ∀ v H1, Ex H H1 → Φ v H1 → Ψ v H1) : EvP te σ H Ψ := fun H1 e Q q => h H1 e Q fun v H2 e2 hv => q v H2 e2 (i v H2 (e.trans e2) hv)
theorem ep_var {i : Nat} (h : σ[i]? = some (some v)) (hv : ∀ H1, Ex H H1 → Φ v H1) : EvP (tVar i) σ H Φ := fun H1 e _ q => ⟨v, h, q v H1 (Ex.refl H1) (hv H1 e)⟩
theorem ew_tup {a : Addr} {xs : List V} (h : Ev tl σ H (.ref a)) (hx : SqT K H a xs) : EvW (iTup K tl) σ H xs.length (YAt xs) := fun H1 e R r => h H1 e _ fun H2 e2 => ⟨a, rfl, ⟨xs, ex_t (e.trans e2) hx⟩, r _ _ H2 e2 walk_tup fun H3 e3 => ex_t ((e.trans e2).trans e3) hx⟩
theorem ew_list {a : Addr} {xs : List V} (h : Ev tl σ H (.ref a)) (hx : SqL K H a xs) : EvW (iList K tl) σ H xs.length (YAt xs) := fun H1 e R r => h H1 e _ fun H2 e2 => ⟨a, rfl, ⟨xs, ex_l (e.trans e2) hx⟩, r _ _ H2 e2 walk_list fun H3 e3 => ex_l ((e.trans e2).trans e3) hx⟩
theorem ew_listN {xs : List V} (h : EvL tl σ H xs) : EvW (iList K tl) σ H xs.length (YAt xs) := fun H1 e R r => h H1 e _ fun a H2 _ e2 hx => ⟨a, rfl, ⟨xs, sq_of hx⟩, r _ _ H2 e2 walk_list fun H3 e3 => sq_of (e3 _ _ hx)⟩
theorem walk_rng0 {n : Nat} : Walk (Itr 0 n) n (fun _ => True) (YFn fun (i : Nat) => .int (i : Int)) := by
  have e : (fun i : Nat => V.int ((0 : Int) + (i : Int))) = fun (i : Nat) => V.int (i : Int) := by
    funext i
    rw [Int.zero_add]
  rw [← e]
  exact walk_range
theorem ew_rng1 {ta : TA} {n : Nat} (h : EvA ta σ H [.int n]) (hn : n ≤ 100000) : EvW (iRng1 ta) σ H n (YFn fun (i : Nat) => .int (i : Int)) := fun H1 e R r => h H1 e _ fun H2 e2 => ⟨n, rfl, by omega, by omega, r _ _ H2 e2 (by rw [Int.toNat_natCast]; exact walk_rng0) fun _ _ => trivial⟩
theorem ew_str {z : Str} (h : Ev te σ H (.str z)) : EvW (iStr te) σ H z.cps.size (fun i H v H' => H' = H ∧ ∃ c, z.cps[i]? = some c ∧ v = .str ⟨#[c]⟩) := fun H1 e R r => h H1 e _ fun H2 e2 => ⟨z, rfl, r _ _ H2 e2 walk_str fun _ _ => trivial⟩
theorem cw_none {D : Addr} {y : V} {ys : List V} (e : Ex H H') (hD : H D = none) : Ex H (upd H' D (.lst ys)) := Ex.mut e hD
/-- a comprehension: which turns give, and what is true of what they give -/
def EvC (te : TE) (σ : L2.St) (H : Hp) (n : Nat) (f : Nat → Bool) (Φ : Nat → V → Hp → Prop) : Prop :=
  ∀ H1, Ex H H1 → ∀ Q : VK, (∀ p ys H2, H1 p = none → Ex H1 H2 → H2 p = some (.lst ys) → Paired (fun i y => Φ i y H2) ((List.range n).filter f) ys → Q (.ref p) H2) → te σ H1 Q
theorem paired_imp {α β : Type} {F G : α → β → Prop} {xs : List α} {ys : List β} (h : Paired F xs ys) (i : ∀ a b, F a b → G a b) : Paired G xs ys := Paired.mapP h i
theorem paired_app {α β : Type} {F : α → β → Prop} : ∀ {xs : List α} {ys : List β} {a : α} {b : β}, Paired F xs ys → F a b → Paired F (xs ++ [a]) (ys ++ [b])
  | _, _, _, _, .nil, h => .cons h .nil
  | _, _, _, _, .cons r t, h => .cons r (paired_app t h)
theorem lc_gen {wi : TI} {g : TG} {vs : List Nat} {n : Nat} {Y : Nat → Hp → V → Hp → Prop} (hi : EvW wi σ H n Y) (hn : n ≤ 100000) (f : Nat → Bool) (Φ : Nat → V → Hp → Prop)
    (st : ∀ i y H H', KeepT H H' → Φ i y H → Φ i y H')
    (turn : ∀ i x H1 H2 (Q : L2.St → Hp → Prop), Ex H H1 → i < n → Y i H1 x H2 → (∀ σ2 H3, Ex H1 H3 → wipe σ2 vs = wipe σ vs → EvT t σ2 H3 (f i) → (f i = true → EvP te σ2 H3 (Φ i)) → Q σ2 H3) → g x (wipe σ vs) H2 Q) :
    EvC (tLc wi g t te vs) σ H n f Φ := by
  intro H0 e Q q
  refine hi H0 e _ fun J G H1 e1 w hG => ?_
  intro D hD
  refine lc_it w (Pv := fun i H' => Ex H1 H' ∧ ∃ ys, H' D = some (.lst ys) ∧ Paired (fun i y => Φ i y H') ((List.range i).filter f) ys) ⟨Ex.new hD, [], upd_same, .nil⟩
    (fun i H' _ p => hG H' p.1) (fun i x H' H2 hi' p y => ?_) (fun H' p => ?_)
  · obtain ⟨p1, ys, p2, p3⟩ := p
    refine turn i x H' H2 _ ((e.trans e1).trans p1) hi' y fun σ2 H3 e3 hw ht he => ⟨hw, ?_⟩
    refine ht H3 (Ex.refl H3) _ fun H4 e4 => ?_
    have hlen : ys.length ≤ i := by
      rw [← Paired.length p3]
      have := List.length_filter_le f (List.range i)
      rw [List.length_range] at this
      exact this
    have eD : H4 D = some (.lst ys) := e4 _ _ (e3 _ _ p2)
    cases hf : f i with
    | false =>
      show Ex H1 H4 ∧ _
      refine ⟨(p1.trans e3).trans e4, ys, eD, ?_⟩
      rw [List.range_succ, List.filter_append, List.filter_cons, if_neg (by rw [hf]; decide), List.filter_nil, List.append_nil]
      exact paired_imp p3 fun a b h => st a b _ _ (KeepT.ex (e3.trans e4)) h
    | true =>
      show te σ2 H4 _
      refine (he hf) H4 e4 _ fun y H5 e5 hy => ?_
      have eD5 : H5 D = some (.lst ys) := e5 _ _ eD
      refine ⟨ys, eD5, sz_lt (by omega), Ex.mut (((p1.trans e3).trans e4).trans e5) hD, ys ++ [y], upd_same, ?_⟩
      rw [List.range_succ, List.filter_append, List.filter_cons, if_pos hf, List.filter_nil]
      exact paired_app (paired_imp p3 fun a b h => st a b _ _ ((KeepT.ex ((e3.trans e4).trans e5)).trans (KeepT.lst eD5)) h) (st _ _ _ _ (KeepT.lst eD5) hy)
  · obtain ⟨p1, ys, p2, p3⟩ := p
    exact q D ys H' (fresh_back e1 hD) (e1.trans p1) p2 p3
theorem paired_map {α β : Type} {v : α → β} : ∀ {xs : List α} {ys : List β}, Paired (fun i y => y = v i) xs ys → ys = xs.map v
  | _, _, .nil => rfl
  | _, _, .cons r t => by rw [r, List.map_cons, paired_map t]
theorem EvC.val {n : Nat} {f : Nat → Bool} {v : Nat → V} (h : EvC te σ H n f (fun i y _ => y = v i)) : EvL te σ H (((List.range n).filter f).map v) := fun H1 e Q q =>
  h H1 e Q fun p ys H2 hp e2 h2 pr => q p H2 hp e2 (by rw [h2, paired_map pr])
theorem el_lc {wi : TI} {g : TG} {vs : List Nat} {n : Nat} {Y : Nat → Hp → V → Hp → Prop} (hi : EvW wi σ H n Y) (hn : n ≤ 100000) (f : Nat → Bool) (v : Nat → V) {xs : List V} (hx : ((List.range n).filter f).map v = xs)
    (turn : ∀ i x H1 H2 (Q : L2.St → Hp → Prop), Ex H H1 → i < n → Y i H1 x H2 → (∀ σ2 H3, Ex H1 H3 → wipe σ2 vs = wipe σ vs → EvT t σ2 H3 (f i) → (f i = true → Ev te σ2 H3 (v i)) → Q σ2 H3) → g x (wipe σ vs) H2 Q) :
    EvL (tLc wi g t te vs) σ H xs := by
  subst hx
  exact EvC.val (lc_gen hi hn f (fun i y _ => y = v i) (fun _ _ _ _ _ h => h) fun i x H1 H2 Q e hi' y k => turn i x H1 H2 Q e hi' y fun σ2 H3 e3 hw ht he => k σ2 H3 e3 hw ht fun hf => EvP.ev (he hf))
end
/-- the built-in names are what they were -/
structure Bu (mg : Str → Option Value) : Prop where
  isi : mg "isinstance" = none
  tup : mg "tuple" = none
  lst : mg "list" = none
  str : mg "str" = none
  len : mg "len" = none
  all : mg "all" = none
  zip : mg "zip" = none
  rng : mg "range" = none
  int : mg "int" = none
  max : mg "max" = none
  min : mg "min" = none
  srt : mg "sorted" = none
  enu : mg "enumerate" = none
  sum : mg "sum" = none
  abs : mg "abs" = none
  rpr : mg "repr" = none
  set : mg "set" = none
  bool : mg "bool" = none
  ver : mg "ValueError" = none
  any : mg "any" = none
section
variable {K : PySem.W.Frag} {σ : L2.St} {H H' : Hp} {ta tb tc te tl : TE} {t u : TT} {x y z v : V} {r r' : R2}
theorem ty_tup {K : PySem.W.Frag} {H : Hp} {a : Addr} {xs : List V} (h : SqT K H a xs) : TyX K H (.ref a) (.type "tuple") := by
  rcases h with (h | ⟨o, h⟩) | ⟨o, its, n, h1, h2, _⟩
  · exact .base (.tup h)
  · exact .fTuple h
  · exact .kTuple h1 h2
def IsT (K : PySem.W.Frag) (xs : List V) : V → Hp → Prop := fun v H => ∃ p, v = .ref p ∧ SqT K H p xs
theorem ep_slT {tl th : TO} {a : Addr} {xs : List V} {lo hi : Option Int} (h : Ev te σ H (.ref a)) (h1 : EvO tl σ H lo) (h2 : EvO th σ H hi) (hs : SqT K H a xs) : EvP (tSl (rSlA K) te tl th) σ H (IsT K (cutV xs lo hi)) := fun H1 e Q q =>
  h H1 e _ fun H2 e2 => h1 H2 (e.trans e2) _ fun H3 e3 => h2 H3 ((e.trans e2).trans e3) _ fun H4 e4 =>
    ⟨a, xs, rfl, ex_t (((e.trans e2).trans e3).trans e4) hs, fun hf => q _ H4 ((e2.trans e3).trans e4) ⟨a, rfl, by
      have : cutV xs lo hi = xs := by
        unfold cutV
        rw [hf.1, hf.2]
        simp
      rw [this]
      exact ex_t (((e.trans e2).trans e3).trans e4) hs⟩, fun hf p hp => q _ _ (((e2.trans e3).trans e4).trans (Ex.new hp)) ⟨p, rfl, st_of upd_same⟩⟩
theorem cut1 (xs : List V) : cutV xs (some 1) none = xs.drop 1 := by
  unfold cutV
  rw [show HT.sIx xs.length 0 (some 1) = min 1 xs.length from HT.sIx_nat xs.length 0 1, HT.sIx_none]
  cases xs with
  | nil => rfl
  | cons x r =>
    rw [show min 1 (x :: r).length = 1 by
      rw [List.length_cons]
      omega]
    show (List.take ((x :: r).length - 1) r) = r
    rw [List.length_cons, Nat.add_sub_cancel]
    exact List.take_length
theorem walk_zipT {a b : Addr} {xs ys : List V} {n : Nat} (hn : n = min xs.length ys.length) : Walk (RZ.ItzT K a b) n (fun H => SqT K H a xs ∧ SqT K H b ys) (YPair (fun i => xs[i]?) (fun i => ys[i]?)) := by
  subst hn
  refine ⟨fun i _ hi q => ?_, fun _ q => ⟨xs, ys, q.1, q.2, by omega⟩, fun i H v H' _ q y => ?_⟩
  · have h1 : i < xs.length := by omega
    have h2 : i < ys.length := by omega
    exact ⟨xs, ys, xs[i], ys[i], q.1, q.2, by simp [h1], by simp [h2]⟩
  · obtain ⟨T, x, z, h1, h2, h3, h4, h5⟩ := y
    exact ⟨T, x, z, h1, h2, h3, h4 xs q.1, h5 ys q.2⟩
theorem ew_zipT {a : Addr} {xs ys : List V} {n : Nat} (hn : n = min xs.length ys.length) (h : Ev ta σ H (.ref a)) (hx : SqT K H a xs) (hb : EvP tb σ H (IsT K ys)) : EvW (RZ.iZipA K (tCons ta (tCons tb tNil))) σ H n (YPair (fun i => xs[i]?) (fun i => ys[i]?)) := fun H1 e R r =>
  h H1 e _ fun H2 e2 => hb H2 (e.trans e2) _ fun v H3 e3 ⟨p, hv, hp⟩ => by
    subst hv
    exact ⟨a, p, xs, ys, rfl, .inr ⟨ex_t ((e.trans e2).trans e3) hx, hp, r _ _ H3 (e2.trans e3) (walk_zipT hn) fun H4 e4 => ⟨ex_t (((e.trans e2).trans e3).trans e4) hx, ex_t e4 hp⟩⟩⟩
theorem ev_all {bs : List Bool} (h : EvL te σ H (bs.map V.bl)) : Ev (tCB (rAll K) (tCons te tNil)) σ H (.bl (bs.all id)) := fun H1 e Q q =>
  h H1 e _ fun p H2 _ e2 hp => ⟨p, bs, rfl, sq_of hp, q H2 e2⟩
/-- a comprehension without a test -/
theorem filter_true {n : Nat} : (List.range n).filter (fun _ => true) = List.range n := List.filter_eq_self.mpr (fun _ _ => rfl)
theorem et_yes {σ : L2.St} {H : Hp} : EvT tYes σ H true := fun H1 _ Q q => q H1 (Ex.refl H1)
/-- a def of the text: where it stands, how it binds -/
structure Df (K : PySem.W.Frag) (mg : Str → Option Value) (x : Str) (st : Stmt) (ps : List Str) (f : Addr) (fd : FuncData) : Prop where
  F : Fun K x x st f fd
  g : mg x = some (.ref f)
  b : Binds K fd ps []
theorem pcall {X : Cx} {k : Nat} {f : Addr} {fd : FuncData} {ps : List Str} {sp : Sp} {x : Str} {st : Stmt} {p pos : Pos} {e : Expr} {es : List Expr} {t : TA} (D : Df X.K X.mg x st ps f fd) (G : FnOk X.prog X.w X.K X.mg X.base CX0 k f fd ps sp) (hr : Room k X.A) (ha : PA X (e :: es) t) (hg : Gl X x := by rfl)
    (h1 : (x == ("__debug__" : Str)) = false := by decide) (h2 : starEach (e :: es) X.env = (false, eval e X.env) :: starEach es X.env := by rfl) (h3 : (backTo pos (starEach es X.env)).any (·.1) = false := by rfl) :
    PE X (.Call (.Name x p) (e :: es) [] pos) (tCall sp [] E0 t) := pe_call G hr hg D.g D.F.kp D.b .nil pass0 ha h1 h2 h3
theorem SpV.of {sp : Sp} {vs : List V} {H : Hp} {z : V} (h : ∀ H1, Ex H H1 → ∀ Q : VK, RetV z H1 Q → ∀ E, sp vs H1 Q E) : SpV sp (vs ++ []) H z := by
  rw [List.append_nil]
  exact fun H1 e Q q E => h H1 e Q q E
theorem ev_chain {k l : Bool} (ha : Ev ta σ H x) (hb : Ev tb σ H y) (hc : Ev tc σ H z) (h1 : RV r x y H (.bl k)) (h2 : RV r' y z H (.bl l)) : Ev (tChain r r' ta tb tc) σ H (.bl (k && l)) := fun H1 e Q q =>
  ha H1 e _ fun H2 e2 => hb H2 (e.trans e2) _ fun H3 e3 => h1 H3 ((e.trans e2).trans e3) _ fun H4 e4 => ⟨k, rfl, by
    cases k with
    | true =>
      show tc σ H4 _
      exact hc H4 (((e.trans e2).trans e3).trans e4) _ fun H5 e5 => h2 H5 ((((e.trans e2).trans e3).trans e4).trans e5) Q fun H6 e6 => q H6 ((((e2.trans e3).trans e4).trans e5).trans e6)
    | false =>
      show Q (.bl false) H4
      exact q H4 ((e2.trans e3).trans e4)⟩
theorem ev_isi {T U : String} {b : Bool} (ha : Ev ta σ H x) (hb : Ev tb σ H (.ty U)) (ht : ∀ H1, Ex H H1 → TyX K H1 x (.type T)) (hk : kitB T U = some b) : Ev (tCB (rIsi K) (tCons ta (tCons tb tNil))) σ H (.bl b) := fun H1 e Q q =>
  ha H1 e _ fun H2 e2 => hb H2 (e.trans e2) _ fun H3 e3 => ⟨x, .ty U, _, _, b, rfl, .ty _, ht H3 ((e.trans e2).trans e3), kit_ty hk, q H3 (e2.trans e3)⟩
theorem rv_le {i j : Int} : RV (rI0 fun i j => .bl (decide (i ≤ j))) (.int i) (.int j) H (.bl (decide (i ≤ j))) := rv_I0
theorem range_map_get {α β : Type} (l : List α) (d : α) (g : α → β) : (List.range l.length).map (fun i => g (l.getD i d)) = l.map g := by
  apply List.ext_getElem
  · simp
  · intro i h1 h2
    simp only [List.getElem_map, List.getElem_range]
    congr 1
    rw [List.getD_eq_getElem?_getD, List.getElem?_eq_getElem (by simpa using h2)]
    rfl
theorem paired_get {α β : Type} {F : α → β → Prop} : ∀ {xs : List α} {ys : List β} {i : Nat} {x : α}, Paired F xs ys → xs[i]? = some x → ∃ y, ys[i]? = some y ∧ F x y
  | _, _, _, _, .nil, e => by simp at e
  | _, _, 0, _, .cons r _, e => by simp at e; subst e; exact ⟨_, rfl, r⟩
  | _, _, i + 1, x, .cons _ t, e => by
    obtain ⟨u, h1, h2⟩ := paired_get (i := i) (x := x) t (by simpa using e)
    exact ⟨u, by simpa using h1, h2⟩
theorem paired_len {α β : Type} {F : α → β → Prop} {xs : List α} {ys : List β} (h : Paired F xs ys) : xs.length = ys.length := Paired.length h
/-- all([f(x) for x in t]) where each is so -/
theorem ev_allT {vs : List Nat} {wi : TI} {n : Nat} {Y : Nat → Hp → V → Hp → Prop} {g : TG} (hi : EvW wi σ H n Y) (hn : n ≤ 100000)
    (turn : ∀ i x H1 H2 (Q : L2.St → Hp → Prop), Ex H H1 → i < n → Y i H1 x H2 → (∀ σ2 H3, Ex H1 H3 → wipe σ2 vs = wipe σ vs → Ev te σ2 H3 (.bl true) → Q σ2 H3) → g x (wipe σ vs) H2 Q) :
    Ev (tCB (rAll K) (tCons (tLc wi g tYes te vs) tNil)) σ H (.bl true) := by
  refine ev_is (ev_all (K := K) (bs := List.replicate n true) ?_) (by rw [List.all_replicate]; simp)
  refine el_lc hi hn (fun _ => true) (fun i => .bl true) (by rw [filter_true, List.map_replicate, List.map_const', List.length_range]) (fun i x H1 H2 Q e hi hy k => ?_)
  exact turn i x H1 H2 Q e hi hy fun σ2 H3 e3 hw he => k σ2 H3 e3 hw et_yes fun _ => he
theorem ev_lenT {p : Addr} {xs : List V} (ha : Ev ta σ H (.ref p)) (h : SqT K H p xs) : Ev (tCB (rLenS K) (tCons ta tNil)) σ H (.int (xs.length : Int)) := fun H1 e Q q =>
  ha H1 e _ fun H2 e2 => ⟨p, xs, rfl, Or.inr (ex_t (e.trans e2) h), q H2 e2⟩
theorem rv_gt {i j : Int} : RV (rI0 fun i j => .bl (decide (j < i))) (.int i) (.int j) H (.bl (decide (j < i))) := rv_I0
theorem at0 {x y : V} : atI [x, y] 0 = some x := atI_nat (j := 0) rfl
theorem at1 {x y : V} : atI [x, y] 1 = some y := atI_nat (j := 1) rfl
theorem yes_do {σ : L2.St} {H : Hp} {A B : Hp → Prop} (h : A H) : tYes σ H (fun b H => if b = true then A H else B H) := iteT (A := A H) (B := B H) h
/-- [y for x in .. for y in t], t a tuple -/
theorem el_lc2 {wi : TI} {g : TG} {vs vs1 : List Nat} {n j : Nat} {Y : Nat → Hp → V → Hp → Prop} (hi : EvW wi σ H n Y) (L : Nat → List V) (hn : ∀ i ≤ n, ((List.range i).flatMap L).length ≤ 100000) {xs : List V} (hx : (List.range n).flatMap L = xs)
    (turn : ∀ i x H1 H2 (Q : L2.St → Hp → Prop), Ex H H1 → i < n → Y i H1 x H2 → (∀ σ2 H3 a, Ex H1 H3 → wipe σ2 vs = wipe σ vs → Ev tl σ2 H3 (.ref a) → SqT K H3 a (L i) → (∀ y, wipe ((wipe σ2 vs1).set j (some y)) vs1 = wipe σ2 vs1 ∧ ((wipe σ2 vs1).set j (some y))[j]? = some (some y)) → Q σ2 H3) → g x (wipe σ vs) H2 Q) :
    EvL (tLc2 wi g tYes (iTup K tl) (gName j) tYes (tVar j) vs vs1) σ H xs := by
  subst hx
  intro H0 e Q q
  refine hi H0 e _ fun J G H1 e1 w hG => ?_
  intro D hD
  refine ⟨fun i m H' => m = n - i ∧ i ≤ n ∧ Ex H1 H' ∧ H' D = some (.lst ((List.range i).flatMap L)), ⟨n, by simp, Nat.zero_le _, Ex.new hD, upd_same⟩, ?_⟩
  rintro i m H' ⟨rfl, hi', p1, p2⟩
  by_cases hlt : i < n
  · refine .inr ⟨w.goes i H' hlt (hG H' p1), fun H'' => Ex H1 H'' ∧ H'' D = some (.lst ((List.range (i + 1)).flatMap L)), fun H'' p' => ⟨n - (i + 1), by omega, rfl, hlt, p'⟩, fun x H2 hy => ?_⟩
    refine turn i x H' H2 _ ((e.trans e1).trans p1) hlt (w.yields i H' x H2 hlt (hG H' p1) hy) fun σ2 H3 a e3 hw htl hL hset => ⟨hw, ?_⟩
    refine yes_do ?_
    refine htl H3 (Ex.refl H3) _ fun H4 e4 => ⟨a, rfl, ⟨_, ex_t e4 hL⟩, ?_⟩
    refine ⟨fun c m H5 => m = (L i).length - c ∧ c ≤ (L i).length ∧ SqT K H5 a (L i) ∧ Ex H1 H5 ∧ H5 D = some (.lst ((List.range i).flatMap L ++ (L i).take c)), ⟨_, rfl, Nat.zero_le _, ex_t e4 hL, (p1.trans e3).trans e4, by rw [List.take_zero, List.append_nil]; exact e4 _ _ (e3 _ _ p2)⟩, ?_⟩
    rintro c m H5 ⟨rfl, hc, g1, g2, g3⟩
    have hsum : (List.range (i + 1)).flatMap L = (List.range i).flatMap L ++ L i := by
      rw [List.range_succ, List.flatMap_append]
      simp
    by_cases hcl : c < (L i).length
    · refine .inr ⟨⟨_, _, g1, List.getElem?_eq_getElem hcl⟩, fun H6 => SqT K H6 a (L i) ∧ Ex H1 H6 ∧ H6 D = some (.lst ((List.range i).flatMap L ++ (L i).take (c + 1))), fun H6 ⟨r1, r2, r3⟩ => ⟨_, by omega, rfl, hcl, r1, r2, r3⟩, fun y H6 ⟨eH, hy2⟩ => ?_⟩
      subst eH
      have hy' : (L i)[c]? = some y := hy2 _ g1
      refine ⟨(hset y).1, ?_⟩
      refine yes_do ?_
      refine ⟨y, (hset y).2, _, g3, ?_, keep_t (KeepT.lst g3) g1, Ex.mut g2 hD, ?_⟩
      · refine sz_lt ?_
        have h1 := hn (i + 1) hlt
        rw [hsum, List.length_append] at h1
        rw [List.length_append, List.length_take]
        omega
      · rw [upd_same, List.append_assoc, List.take_add_one, hy']
        rfl
    · refine .inl ⟨⟨_, g1, by omega⟩, g2, ?_⟩
      rw [g3, hsum, List.take_of_length_le (by omega)]
  · have e' : i = n := by omega
    subst e'
    exact .inl ⟨w.stops H' (hG H' p1), q D H' (fresh_back e1 hD) (e1.trans p1) p2⟩
theorem str_beq (a b : Str) : (a == b) = decide (a = b) := by
  by_cases h : a = b
  · subst h
    simp
  · rw [decide_eq_false h]
    exact beq_eq_false_iff_ne.mpr h
theorem inV_str (c : Str) (hs : List Str) : inV (.str c) (hs.map V.str) = decide (c ∈ hs) := by
  induction hs with
  | nil => rfl
  | cons a r ih =>
    show (eqV (.str a) (.str c) || inV (.str c) (r.map V.str)) = _
    rw [ih]
    show ((a == c) || _) = _
    rw [str_beq]
    by_cases h : a = c
    · subst h
      simp
    · have h' : ¬ c = a := fun z => h z.symm
      simp [h, h']
theorem inV_int (c : Int) (hs : List Int) : inV (.int c) (hs.map V.int) = decide (c ∈ hs) := by
  induction hs with
  | nil => rfl
  | cons a r ih =>
    show (eqV (.int a) (.int c) || inV (.int c) (r.map V.int)) = _
    rw [ih]
    show ((a == c) || _) = _
    by_cases h : a = c
    · subst h
      simp
    · have h' : ¬ c = a := fun z => h z.symm
      simp [h, h']
theorem flat_strs (hs : List Str) : (hs.map V.str).all flatV = true := by
  rw [List.all_map]
  exact List.all_eq_true.mpr fun _ _ => rfl
abbrev vN (i : Nat) : V := .int (i : Int)
theorem flat_nats (hs : List Nat) : (hs.map vN).all flatV = true := by
  rw [List.all_map]
  exact List.all_eq_true.mpr fun _ _ => rfl
theorem inV_nat (c : Nat) (hs : List Nat) : inV (vN c) (hs.map vN) = decide (c ∈ hs) := by
  have e : hs.map vN = (hs.map fun (i : Nat) => (i : Int)).map V.int := by rw [List.map_map]; rfl
  rw [e]
  show inV (.int (c : Int)) _ = _
  rw [inV_int]
  congr 1
  rw [List.mem_map]
  apply propext
  constructor
  · rintro ⟨a, h1, h2⟩
    have : a = c := by omega
    subst this
    exact h1
  · exact fun h => ⟨c, h, rfl⟩
theorem rIx_seq {p : Addr} {xs : List V} {i : Int} (h : SqL K H p xs ∨ SqT K H p xs) (ha : atI xs i = some v) : RV (rIx K) (.ref p) (.int i) H v := fun H1 e Q q =>
  h.elim (fun h => .inl ⟨p, xs, i, v, rfl, rfl, ex_l e h, ha, q H1 (Ex.refl H1)⟩) (fun h => .inr (.inl ⟨p, xs, i, v, rfl, rfl, ex_t e h, ha, q H1 (Ex.refl H1)⟩))
theorem paired_get2 {α β : Type} {F : α → β → Prop} : ∀ {xs : List α} {ys : List β} {i : Nat} {y : β}, Paired F xs ys → ys[i]? = some y → ∃ x, xs[i]? = some x ∧ F x y
  | _, _, _, _, .nil, e => by simp at e
  | _, _, 0, _, .cons r _, e => by simp at e; subst e; exact ⟨_, rfl, r⟩
  | _, _, i + 1, x, .cons _ t, e => by
    obtain ⟨u, h1, h2⟩ := paired_get2 (i := i) (y := x) t (by simpa using e)
    exact ⟨u, by simpa using h1, h2⟩
theorem flatMap_range {α β : Type} (l : List α) (d : α) (g : α → List β) : (List.range l.length).flatMap (fun i => g (l.getD i d)) = l.flatMap g := by
  rw [List.flatMap_def, List.flatMap_def, range_map_get l d g]
theorem flatMap_take {α β : Type} (l : List α) (d : α) (g : α → List β) (i : Nat) (hi : i ≤ l.length) : (List.range i).flatMap (fun i => g (l.getD i d)) = (l.take i).flatMap g := by
  have h := flatMap_range (l.take i) d g
  rw [List.length_take, Nat.min_eq_left hi] at h
  rw [← h]
  rw [List.flatMap_def, List.flatMap_def]
  congr 1
  apply List.map_congr_left
  intro j hj
  have := List.mem_range.mp hj
  congr 1
  rw [List.getD_eq_getElem?_getD, List.getD_eq_getElem?_getD, List.getElem?_take_of_lt this]
theorem map_flatMap' {α β γ : Type} (l : List α) (f : β → γ) (g : α → List β) : l.flatMap (fun i => (g i).map f) = (l.flatMap g).map f := by
  induction l with
  | nil => rfl
  | cons a r ih => rw [List.flatMap_cons, List.flatMap_cons, List.map_append, ih]
def rTupOf (K : PySem.W.Frag) : List V → Hp → VK → Prop := fun xs H Q => ∃ p ys, xs = [.ref p] ∧ ((SqL K H p ys ∧ ∀ l, H l = none → Q (.ref l) (upd H l (.tup ys))) ∨ (SqT K H p ys ∧ Q (.ref p) H))
theorem call_tupOf {X : Cx} : CallR X (.type "tuple") (rTupOf X.K) := call_tuple_of
theorem eu_tupL {p : Addr} {xs : List V} (ha : Ev ta σ H (.ref p)) (h : SqL K H p xs) : EvU (tCB (rTupOf K) (tCons ta tNil)) σ H xs := fun H1 e Q q =>
  ha H1 e _ fun H2 e2 => ⟨p, xs, rfl, .inl ⟨ex_l (e.trans e2) h, fun l hl => q l _ (fresh_back e2 hl) (e2.trans (Ex.new hl)) upd_same⟩⟩
theorem eu_tupN {xs : List V} (ha : EvL ta σ H xs) : EvU (tCB (rTupOf K) (tCons ta tNil)) σ H xs := fun H1 e Q q =>
  ha H1 e _ fun p H2 _ e2 hp => ⟨p, xs, rfl, .inl ⟨sq_of hp, fun l hl => q l _ (fresh_back e2 hl) (e2.trans (Ex.new hl)) upd_same⟩⟩
theorem el_listT {p : Addr} {xs : List V} (ha : Ev ta σ H (.ref p)) (h : SqT K H p xs) : EvL (tCB (rListS K) (tCons ta tNil)) σ H xs := fun H1 e Q q =>
  ha H1 e _ fun H2 e2 => ⟨p, xs, rfl, Or.inr (ex_t (e.trans e2) h), fun l hl => q l _ (fresh_back e2 hl) (e2.trans (Ex.new hl)) upd_same⟩
theorem el_cat {l : Addr} {xs zs : List V} (ha : Ev ta σ H (.ref l)) (hl : H l = some (.lst xs)) (hb : EvL tb σ H zs) (hn : xs.length + zs.length ≤ 100000) : EvL (tOp rCat ta tb) σ H (xs ++ zs) := fun H1 e Q q =>
  ha H1 e _ fun H2 e2 => hb H2 (e.trans e2) _ fun b H3 _ e3 hb' => ⟨l, b, xs, zs, rfl, rfl, e3 _ _ (e2 _ _ (e _ _ hl)), hb', sz_of hn, fun p hp => q p _ (fresh_back (e2.trans e3) hp) ((e2.trans e3).trans (Ex.new hp)) upd_same⟩
theorem el_catN {xs zs : List V} (ha : EvL ta σ H xs) (hb : EvL tb σ H zs) (hn : xs.length + zs.length ≤ 100000) : EvL (tOp rCat ta tb) σ H (xs ++ zs) := fun H1 e Q q =>
  ha H1 e _ fun l H2 _ e2 hl => hb H2 (e.trans e2) _ fun b H3 _ e3 hb' => ⟨l, b, xs, zs, rfl, rfl, e3 _ _ hl, hb', sz_of hn, fun p hp => q p _ (fresh_back (e2.trans e3) hp) ((e2.trans e3).trans (Ex.new hp)) upd_same⟩
theorem et_truL {p : Addr} {xs : List V} (ha : Ev ta σ H (.ref p)) (h : SqL K H p xs) : EvT (fun σ H Q => ta σ H fun x H' => ∃ k, TruV K x H' k ∧ Q k H') σ H (!xs.isEmpty) := fun H1 e Q q =>
  ha H1 e _ fun H2 e2 => ⟨_, .inl ⟨xs, ex_l (e.trans e2) h, rfl⟩, q H2 e2⟩
theorem SpL.of {sp : Sp} {vs : List V} {H : Hp} {xs : List V} (h : ∀ H1, Ex H H1 → ∀ Q : VK, RetL xs H1 Q → ∀ E, sp vs H1 Q E) : SpL sp (vs ++ []) H xs := by
  rw [List.append_nil]
  exact fun H1 e Q q E => h H1 e Q q E
theorem filter_range_map {α β : Type} (l : List α) (d : α) (p : α → Bool) (g : α → β) : ((List.range l.length).filter (fun i => p (l.getD i d))).map (fun i => g (l.getD i d)) = (l.filter p).map g := by
  have e : (List.range l.length).map (fun i => l.getD i d) = l := by
    have := range_map_get l d id
    simpa using this
  conv => rhs; rw [← e, List.filter_map, List.map_map]
  rfl
theorem filter_both {α : Type} (l : List α) (p : α → Bool) : (l.filter p).length + (l.filter fun i => !p i).length = l.length := by
  induction l with
  | nil => rfl
  | cons a r ih =>
    cases h : p a with
    | true =>
      rw [List.filter_cons_of_pos h, List.filter_cons_of_neg (by rw [h]; decide), List.length_cons, List.length_cons]
      omega
    | false =>
      rw [List.filter_cons_of_neg (by rw [h]; decide), List.filter_cons_of_pos (by rw [h]; rfl), List.length_cons, List.length_cons]
      omega
/-- a list of tuples of box numbers -/
def TupsAt (K : PySem.W.Frag) (H : Hp) (ys : List V) (rs : List (List Nat)) : Prop := Paired (fun y r => ∃ a, y = .ref a ∧ SqT K H a (r.map vN)) ys rs
theorem TupsAt.keep {K : PySem.W.Frag} {H H' : Hp} {ys : List V} {rs : List (List Nat)} (e : KeepT H H') (h : TupsAt K H ys rs) : TupsAt K H' ys rs := paired_imp h fun _ _ ⟨a, h1, h2⟩ => ⟨a, h1, keep_t e h2⟩
def YTup (K : PySem.W.Frag) (rs : List (List Nat)) : Nat → Hp → V → Hp → Prop := fun i H x H' => H' = H ∧ ∃ a r, rs[i]? = some r ∧ x = .ref a ∧ SqT K H a (r.map vN)
/-- a new list of tuples of numbers -/
def EvR (K : PySem.W.Frag) (te : TE) (σ : L2.St) (H : Hp) (rs : List (List Nat)) : Prop := ∀ H1, Ex H H1 → ∀ Q : VK, (∀ p ys H2, H1 p = none → Ex H1 H2 → H2 p = some (.lst ys) → TupsAt K H2 ys rs → Q (.ref p) H2) → te σ H1 Q
theorem ew_tups {rs : List (List Nat)} (h : EvR K tl σ H rs) : EvW (iList K tl) σ H rs.length (YTup K rs) := fun H1 e R r => h H1 e _ fun p ys H2 hp e2 h2 hT => by
  refine ⟨p, rfl, ⟨ys, sq_of h2⟩, r _ (fun H => SqL K H p ys ∧ TupsAt K H ys rs) H2 e2 ?_ fun H3 e3 => ⟨sq_of (e3 _ _ h2), hT.keep (KeepT.ex e3)⟩⟩
  have w : Walk (Itl K p) ys.length (fun H => SqL K H p ys) (YAt ys) := walk_list
  rw [show ys.length = rs.length from paired_len hT] at w
  refine w.mono (fun H h => h.1) fun i H x H' hi hg hy => ?_
  obtain ⟨rfl, hx⟩ := hy
  obtain ⟨r, hr, a, rfl, ha⟩ := paired_get hg.2 hx
  exact ⟨rfl, a, r, hr, rfl, ha⟩
theorem flatten_take_le {α : Type} : ∀ (l : List (List α)) (i : Nat), (l.take i).flatten.length ≤ l.flatten.length
  | [], i => by simp
  | a :: r, 0 => by simp
  | a :: r, i + 1 => by
    have := flatten_take_le r i
    rw [List.take_succ_cons, List.flatten_cons, List.flatten_cons, List.length_append, List.length_append]
    omega
/-- a new tuple -/
def RetU (xs : List V) (H : Hp) (Q : VK) : Prop := ∀ p H2, H p = none → Ex H H2 → H2 p = some (.tup xs) → Q (.ref p) H2
def SpU (sp : Sp) (vs : List V) (H : Hp) (xs : List V) : Prop := ∀ H1, Ex H H1 → ∀ Q : VK, (∀ p H2, H1 p = none → Ex H1 H2 → H2 p = some (.tup xs) → Q (.ref p) H2) → ∀ E : XK, sp vs H1 Q E
theorem eu_call {σ : L2.St} {H : Hp} {sp : Sp} {vs xs : List V} {E : XK} {ta : TA} (h : EvA ta σ H vs) (hs : ∀ H1, Ex H H1 → ∀ Q : VK, RetU xs H1 Q → ∀ E, sp vs H1 Q E) : EvU (tCall sp [] E ta) σ H xs := fun H1 e Q q =>
  h H1 e _ fun H2 e2 => by
    rw [List.append_nil]
    exact hs H2 (e.trans e2) Q (fun p H3 hp e3 h3 => q p H3 (fresh_back e2 hp) (e2.trans e3) h3) E
theorem er_call {σ : L2.St} {H : Hp} {sp : Sp} {vs : List V} {rs : List (List Nat)} {E : XK} {ta : TA} (h : EvA ta σ H vs) (hs : ∀ H1, Ex H H1 → ∀ Q : VK, (∀ p ys H2, H1 p = none → Ex H1 H2 → H2 p = some (.lst ys) → TupsAt K H2 ys rs → Q (.ref p) H2) → ∀ E, sp vs H1 Q E) : EvR K (tCall sp [] E ta) σ H rs := fun H1 e Q q =>
  h H1 e _ fun H2 e2 => by
    rw [List.append_nil]
    exact hs H2 (e.trans e2) Q (fun p ys H3 hp e3 h3 hT => q p ys H3 (fresh_back e2 hp) (e2.trans e3) h3 hT) E
theorem rgV_nat (n : Nat) : rgV 0 (n : Int) = (List.range n).map vN := by
  unfold rgV
  rw [Int.sub_zero, Int.toNat_natCast]
  apply List.map_congr_left
  intro i _
  rw [Int.zero_add]
theorem el_listR {n : Nat} (ha : Ev ta σ H (.int n)) (hn : n ≤ 100000) : EvL (tLstRg (tRg1 ta)) σ H ((List.range n).map vN) := fun H1 e Q q =>
  ha H1 e _ fun H2 e2 => ⟨n, rfl, RgOk.of_le (by omega) (by omega) (by omega) (by omega), fun p hp => q p _ (fresh_back e2 hp) (e2.trans (Ex.new hp)) (by rw [rgV_nat]; exact upd_same)⟩
theorem paired_flip {α β γ : Type} {F : β → γ → Prop} {g : α → γ} : ∀ {xs : List α} {ys : List β}, Paired (fun i y => F y (g i)) xs ys → Paired F ys (xs.map g)
  | _, _, .nil => .nil
  | _, _, .cons r t => .cons r (paired_flip t)
theorem q_asgC {te : TE} {σ : L2.St} {H : Hp} {D : Ends} {tz : TS} {i n : Nat} {f : Nat → Bool} {Φ : Nat → V → Hp → Prop} (h : EvC te σ H n f Φ) (k : ∀ p ys H1, H p = none → Ex H H1 → H1 p = some (.lst ys) → Paired (fun i y => Φ i y H1) ((List.range n).filter f) ys → tz D (σ.set i (some (.ref p))) H1) :
    tSeq (tAsg te (gName i)) tz D σ H := h H (Ex.refl H) _ k
end
end Kw
set_option Elab.async false
set_option linter.all false
set_option maxRecDepth 100000
set_option maxHeartbeats 4000000
namespace Kw
open PySem PySem.Spec PyProof.Rows L2 Evl
def topS (i : Nat) : Stmt := PySem.Challenge.pw_keyswithin_k01_houses_known.main.body.getD i (.Pass ⟨0, 0, 0, 0⟩)
end Kw
set_option Elab.async false
set_option linter.all false
set_option maxRecDepth 100000
set_option maxHeartbeats 4000000
namespace Kw
open PySem PySem.Spec PyProof.Rows L2 Evl
section
variable {K : PySem.W.Frag} {σ : L2.St} {H H' : Hp} {ta tb tc te tl : TE} {t u : TT} {x y z v : V} {r r' : R2}
theorem ew_zipL {a b : Addr} {xs ys : List V} {n : Nat} (hn : n = min xs.length ys.length) (h : Ev ta σ H (.ref a)) (hb : Ev tb σ H (.ref b)) (hx : SqL K H a xs) (hy : SqL K H b ys) : EvW (iZip K (tCons ta (tCons tb tNil))) σ H n (YPair (fun i => xs[i]?) (fun i => ys[i]?)) := fun H1 e R r =>
  h H1 e _ fun H2 e2 => hb H2 (e.trans e2) _ fun H3 e3 => ⟨a, b, xs, ys, rfl, ex_l ((e.trans e2).trans e3) hx, ex_l ((e.trans e2).trans e3) hy, r _ _ H3 (e2.trans e3) (walk_zip hn) fun H4 e4 => ⟨ex_l (((e.trans e2).trans e3).trans e4) hx, ex_l (((e.trans e2).trans e3).trans e4) hy⟩⟩
theorem ew_enumL {a : Addr} {xs : List V} (h : Ev ta σ H (.ref a)) (hx : SqL K H a xs) : EvW (iEnum K (tCons ta tNil)) σ H xs.length (YPair (fun i => some (.int (i : Nat))) (fun i => xs[i]?)) := fun H1 e R r =>
  h H1 e _ fun H2 e2 => ⟨a, xs, rfl, ex_l (e.trans e2) hx, r _ _ H2 e2 walk_enum fun H3 e3 => ex_l ((e.trans e2).trans e3) hx⟩
/-- [x, *xs] -/
theorem el_star1 {p : Addr} {xs : List V} (ha : Ev ta σ H x) (hb : Ev tb σ H (.ref p)) (h : SqL K H p xs ∨ SqT K H p xs) (hn : xs.length < 100000) : EvL (tLst (tCons ta (StX.tStar K tb tNil))) σ H (x :: xs) := fun H1 e Q q =>
  ha H1 e _ fun H2 e2 => hb H2 (e.trans e2) _ fun H3 e3 => ⟨p, xs, rfl, h.elim (fun h => .inr (ex_l ((e.trans e2).trans e3) h)) (fun h => .inl (ex_t ((e.trans e2).trans e3) h)), by
    show (x :: (xs ++ [])).length ≤ sizeLine ∧ ∀ p, H3 p = none → Q (.ref p) (upd H3 p (.lst (x :: (xs ++ []))))
    rw [List.append_nil]
    exact ⟨sz_of (by rw [List.length_cons]; omega), fun l hl => q l _ (fresh_back (e2.trans e3) hl) ((e2.trans e3).trans (Ex.new hl)) upd_same⟩⟩
theorem ev_sum {ns : List Int} (ha : EvL ta σ H (ns.map V.int)) : Ev (tCB (rSum K) (tCons ta tNil)) σ H (.int ns.sum) := fun H1 e Q q =>
  ha H1 e _ fun p H2 _ e2 h2 => ⟨p, ns, rfl, sq_of h2, q H2 e2⟩
theorem ev_sumV {p : Addr} {ns : List Int} (ha : Ev ta σ H (.ref p)) (h : SqL K H p (ns.map V.int)) : Ev (tCB (rSum K) (tCons ta tNil)) σ H (.int ns.sum) := fun H1 e Q q =>
  ha H1 e _ fun H2 e2 => ⟨p, ns, rfl, ex_l (e.trans e2) h, q H2 e2⟩
theorem nats_int (ns : List Nat) : ns.map vN = (ns.map fun (i : Nat) => (i : Int)).map V.int := by rw [List.map_map]; rfl
theorem sum_nats (ns : List Nat) : (ns.map fun (i : Nat) => (i : Int)).sum = (ns.sum : Nat) := by
  induction ns with
  | nil => rfl
  | cons a r ih => rw [List.map_cons, List.sum_cons, List.sum_cons, ih, Int.natCast_add]
/-- xs[i] of a new list -/
theorem ev_ixN {xs : List V} {i : Int} (ha : EvL ta σ H xs) (hb : Ev tb σ H (.int i)) (hv : atI xs i = some v) : Ev (tOp (rIxL K) ta tb) σ H v :=
  ev_opL1 ha (fun H1 e1 => hb.mono e1) fun p H1 hp _ => rv_ixL (sq_of hp) hv
theorem ew_rng2 {ta : TA} {a n : Nat} (h : EvA ta σ H [.int a, .int (n + a : Nat)]) (hn : n + a ≤ 100000) : EvW (iRng2 ta) σ H n (YFn fun (i : Nat) => .int ((a + i : Nat) : Int)) := fun H1 e R r => h H1 e _ fun H2 e2 => ⟨a, (n + a : Nat), rfl, ⟨by omega, by omega, by omega, by omega⟩, r _ _ H2 e2 (by
  have e : (fun i : Nat => V.int (((a : Nat) : Int) + (i : Int))) = fun (i : Nat) => V.int ((a + i : Nat) : Int) := by
    funext i
    rw [Int.natCast_add]
  rw [← e, show (((n + a : Nat) : Int) - (a : Int)).toNat = n by omega]
  exact walk_range) fun _ _ => trivial⟩
end
theorem getD_eq {α : Type} {l : List α} {i : Nat} {d x : α} (h : l[i]? = some x) : l.getD i d = x := by
  rw [List.getD_eq_getElem?_getD, h]
  rfl
theorem get_map {α : Type} {l : List α} {f : α → V} {i : Nat} {x : V} (d : α) (h : (l.map f)[i]? = some x) : x = f (l.getD i d) ∧ i < l.length ∧ l[i]? = some (l.getD i d) := by
  rw [List.getElem?_map] at h
  cases e : l[i]? with
  | none => rw [e] at h; cases h
  | some a =>
    rw [e] at h
    have hl : i < l.length := (List.getElem?_eq_some_iff.mp e).1
    rw [getD_eq e]
    exact ⟨(Option.some.inj h).symm, hl, rfl⟩
end Kw
set_option Elab.async false
set_option linter.all false
set_option maxRecDepth 100000
set_option maxHeartbeats 4000000
namespace Kw
open PySem PySem.Spec PyProof.Rows L2 Evl
/-! ### enumerate of a tuple -/
def itO (l : Addr) : Obj := { cls := .type "tuple_iterator", data := .fields #[.ref l, .int 0 0] }
def enO (i : Addr) : Obj := { cls := .type "enumerate", data := .fields #[.none, .bool false, .ref i, rawInt 0, .none, .none] }
open AutoSeq1 (wpAny_loadPart') in
theorem meets_enT (l : Addr) (xs : Array Value) (n : Nat) (dd : Option Addr) (ss : Array (Option Value)) : Meets (Builtin.«enumerate.__new__» ⟨[.type "enumerate", .ref l], []⟩)
    (fun _ R s => s.heap.get? l = some { cls := .type "tuple", dict := dd, data := .seq xs n, slots := ss } ∧ R (.ok (.ret (.ref (s.heap.push (itO l)).objs.size))) { s with heap := (s.heap.push (itO l)).push (enO s.heap.objs.size) }) := by
  refine .of_wp fun prog w A R st hyp => ?_
  obtain ⟨h0, g0, d0, t0, o0⟩ := st
  obtain ⟨ho, hR⟩ := hyp
  have sb := sub_enumerate
  have hT : Heap.IsTuple (Shared.heap ⟨h0, g0, d0, t0, o0⟩) l xs := ⟨_, ho, rfl, n, rfl⟩
  wp_walk using wpAny_loadPart' ho
  refine wpAny_stack_any fun stk => (wpAny_pure ?_)
  split
  · rename_i cc _ _ _ _ _
    cases (cc == Value.type "enumerate") <;> (wp_walk using wpAny_loadPart' ho, wpAny_pyIter_tuple hT) <;> exact ⟨_, rfl, hR⟩
  · wp_walk using wpAny_loadPart' ho, wpAny_pyIter_tuple hT
    exact (⟨_, rfl, hR⟩)
theorem call_enumT {prog : Program} {w : World} {A : Around} {E : Value → Shared → Prop} {s : Shared} {l : Addr} {xs : Array Value} {Q : Value → Shared → Prop} (hT : s.heap.IsTuple l xs)
    (h : ∀ h', IsEnum h' (s.heap.objs.size + 1) s.heap.objs.size 0 .none → h'.IsTupleIter s.heap.objs.size l 0 → (∀ b o, s.heap.get? b = some o → h'.get? b = some o) → Q (.ref (s.heap.objs.size + 1)) { s with heap := h' }) :
    wpAny (model prog w) A (call (.type "enumerate") [.ref l]) Q E s := by
  obtain ⟨⟨c, dd, dt, ss⟩, ho, hc, n, hd⟩ := hT
  cases (show c = .type "tuple" from hc)
  cases (show dt = .seq xs n from hd)
  refine callType_new F.called_enumerate (by decide) (F.typeCall_enumerate_1 _) (F.newCall_enumerate_1 _) (fun ob => F.args_object_init_2 ob _) F.entry_enumerate_new (meets_enT l xs n dd ss) ⟨ho, ?_⟩
  have z1 : (s.heap.push (itO l)).objs.size = s.heap.objs.size + 1 := Heap.size_push ..
  have he : IsEnum ((s.heap.push (itO l)).push (enO s.heap.objs.size)) (s.heap.objs.size + 1) s.heap.objs.size 0 .none := by
    have q := Heap.get?_push_size (s.heap.push (itO l)) (o := enO s.heap.objs.size) rfl
    rw [z1] at q
    exact q
  show _ ∧ _
  rw [z1]
  exact ⟨⟨_, he, rfl⟩, h _ he ⟨_, Heap.get?_push_of_some _ (Heap.get?_push_size _ rfl), rfl, rfl⟩ fun b o x => Heap.get?_push_of_some _ (Heap.get?_push_of_some _ x)⟩
/-- the tuple at a, each item in a new pair with its number -/
def IteT (K : PySem.W.Frag) (a : Addr) : It where
  go := fun i H => ∃ (xs : List V) (x : V), SqT K H a xs ∧ xs[i]? = some x
  yld := fun i H v H' => ∃ T x, v = .ref T ∧ H T = none ∧ H' = upd H T (.tup [.int (i : Nat), x]) ∧ ∀ xs, SqT K H a xs → xs[i]? = some x
  stop := fun i H => ∃ xs : List V, SqT K H a xs ∧ xs.length = i
theorem turn_enT {P : Program} {w : World} {K : PySem.W.Frag} {es : List Expr} {kk : Nat} {tp : Pos} {a e it : Addr} (n1 : e ≠ it) (n2 : a ≠ it) (n3 : e ≠ a) :
    Turn P w K (.Tuple es kk tp) (IteT K a) [e, it] e (fun i h => (∃ old, IsEnum h e it ((i : Nat) : Int) old) ∧ h.IsTupleIter it a i) where
  mem := List.mem_cons_self ..
  obj := fun i h st b hb => by
    obtain ⟨⟨old, he⟩, ⟨o, ho, _, hd⟩⟩ := st
    rcases List.mem_cons.mp hb with rfl | hb
    · exact ⟨_, he, fun v q => nomatch q⟩
    · rw [List.mem_singleton.mp hb]
      exact ⟨o, ho, fun v q => by rw [hd] at q; cases q⟩
  keep := fun i h h' st k => by
    obtain ⟨⟨old, he⟩, hi⟩ := st
    exact ⟨⟨old, k e (by simp) _ he⟩, hi.at fun o q => k it (by simp) o q⟩
  item := by
    intro X hP hw hK hc i pins s σ H E I hf st hg
    cases hP
    cases hw
    cases hK
    obtain ⟨⟨old, he⟩, hit⟩ := st
    obtain ⟨xs, x, hq, hx⟩ := hg
    obtain ⟨us, rv, p, _⟩ := I.tuple hq
    obtain ⟨u, hu, ru⟩ := rv.get hx
    have le1 : e < s.heap.objs.size := Heap.lt_size he
    have le2 : it < s.heap.objs.size := by
      obtain ⟨_, z, _⟩ := hit
      exact Heap.lt_size z
    have hlt : i < us.toArray.size := by
      have := (List.getElem?_eq_some_iff.mp hu).1
      simpa using this
    refine wpAny_pyNext_enum_itemD (Draws.tuple (A := X.A.in1) (I.ok.hd hc) it a n2 us.toArray) he ⟨hit, p⟩ hlt n1 (by simp [n1, n3]) fun y h1 tk hy ho hs hT hz hk => ?_
    have ey : y = u := by
      have : us[i]? = some y := by simpa using hy
      rw [hu] at this
      exact (Option.some.inj this).symm
    subst ey
    refine ⟨_, rfl, wpAny_letOwnedTupleGo_enum (s := { s with heap := h1, toks := tk + 1 }) ho fun h2 he2 sb => ?_⟩
    have hT2 : h2.get? s.heap.objs.size = some { cls := .type "tuple", data := .seq #[.int i tk, y] } := (sb.2 _ (Nat.ne_of_gt le1)).trans hT
    have nw : ObjOk X.prog X.w (upd H s.heap.objs.size (.tup [.int (i : Nat), x])) h2 s.heap.objs.size (.tup [.int (i : Nat), x]) := ⟨by show 2 ≤ sizeLine; decide, [.int i tk, y], .cons ⟨_, rfl⟩ (.cons ru .nil), ⟨_, hT2, rfl, _, rfl⟩⟩
    have I1 : Inv X pins σ (upd H s.heap.objs.size (.tup [.int (i : Nat), x])) { s with heap := h2, toks := tk + 1 } :=
      I.turnedNew (ch := [e, it]) (fun b ob hb q => (sb.2 b (fun z => hb (by rw [z]; simp))).trans (hk b ob (fun z => hb (by rw [z]; simp)) (fun z => hb (by rw [z]; simp)) q)) hf (Nat.le_refl _) nw
    refine ⟨.ref s.heap.objs.size, _, I1, rfl, ⟨_, x, rfl, I.hok.fresh (Nat.le_refl _), rfl, fun zs hz => by rw [I.tuple_inj hz hq]; exact hx⟩, ⟨⟨y, ?_⟩, hs.1.at fun o q => (sb.2 it (Ne.symm n1)).trans q⟩, fun b hb => ?_⟩
    · rw [show ((i + 1 : Nat) : Int) = (i : Int) + 1 by omega]
      exact he2
    · have hb' : b < s.heap.objs.size := by
        rcases List.mem_cons.mp hb with rfl | hb
        · exact le1
        · rw [List.mem_singleton.mp hb]
          exact le2
      rw [upd_ne (Nat.ne_of_lt hb')]
      exact (hf b hb).1
  done := by
    intro X hP hw hK hc i pins s σ H E I hf st hg
    cases hP
    cases hw
    cases hK
    obtain ⟨⟨old, he⟩, hit⟩ := st
    obtain ⟨xs, hq, hx⟩ := hg
    obtain ⟨us, rv, p, _⟩ := I.tuple hq
    have hz : us.toArray.size = i := by
      rw [← hx, rv.length]
      simp
    obtain ⟨f0, f1, f2, f3, f4, f5⟩ := hf it (by simp)
    exact wpAny_pyNext_enum_endD (Draws.tuple (A := X.A.in1) (I.ok.hd hc) it a n2 us.toArray) he ⟨by rw [hz]; exact hit, p⟩ fun h1 eb => ⟨rfl, I.turned (t' := s.toks) (fun b o hb q => eb b o hb q) f0 f1 f3 f4 f5⟩
  self := fun A i s Q E st h => by
    obtain ⟨⟨_, he⟩, _⟩ := st
    exact wpAny_pyIter_enum he h
def iEnT (K : PySem.W.Frag) (ta : TA) : TI := fun σ H R => ta σ H fun vs H1 => ∃ a xs, vs = [.ref a] ∧ SqT K H1 a xs ∧ R (IteT K a) H1
theorem pi_enT {X : Cx} {e : Expr} {ta : TA} {p pos tp : Pos} {es : List Expr} {kk : Nat} (hg : Gl X "enumerate") (hm : X.mg "enumerate" = none) (ha : PA X [e] ta) (hs : starEach [e] X.env = [(false, eval e X.env)] := by rfl) :
    PI X (.Tuple es kk tp) (.Call (.Name "enumerate" p) [e] [] pos) (iEnT X.K ta) := by
  refine ⟨fun pins s σ H R I h => Call_ (ld_blt I hg hm PyProof.Rows.boot_enumerate (PyProof.Rows.callWith_type1 (thn (ha.run pos pins s σ H _ I h) fun us s1 ⟨vs, H1, I1, r1, q1⟩ => ?_) hs rfl))⟩
  obtain ⟨a, xs, rfl, hq, q⟩ := q1
  cases r1 with
  | cons r rr =>
    cases rr
    cases r
    obtain ⟨us, rv, pt, _⟩ := I1.tuple hq
    obtain ⟨oa, hoa, _⟩ := id pt
    have la : a < s1.heap.objs.size := Heap.lt_size hoa
    refine call_enumT pt fun h' he hit hk => wpAny_pyIter_enum he ⟨s1.heap.objs.size + 1, [s1.heap.objs.size + 1, s1.heap.objs.size], _, _, H1, rfl, I1.kept (t' := s1.toks) hk, turn_enT (Nat.succ_ne_self _) (Nat.ne_of_lt la) (Nat.ne_of_gt (Nat.lt_succ_of_lt la)), ⟨⟨.none, he⟩, hit⟩, fun b hb => ?_, q⟩
    have hle : s1.heap.objs.size ≤ b := by
      rcases List.mem_cons.mp hb with rfl | hb
      · exact Nat.le_succ _
      · rw [List.mem_singleton.mp hb]
        exact Nat.le_refl _
    exact I1.fpOk hle (I1.hok.fresh hle)
theorem walk_enT {K : PySem.W.Frag} {a : Addr} {xs : List V} : Walk (IteT K a) xs.length (fun H => SqT K H a xs) (YPair (fun i => some (.int (i : Nat))) (fun i => xs[i]?)) where
  goes := fun i _ hi q => ⟨xs, xs[i], q, List.getElem?_eq_getElem hi⟩
  stops := fun _ q => ⟨xs, q, rfl⟩
  yields := fun i H v H' _ q y => by
    obtain ⟨T, x, h1, h2, h3, h4⟩ := y
    exact ⟨T, _, x, h1, h2, h3, rfl, h4 xs q⟩
end Kw
set_option Elab.async false
set_option linter.all false
set_option maxRecDepth 100000
set_option maxHeartbeats 4000000
namespace Kw
open PySem PySem.Spec PyProof.Rows L2 Evl
/-! ### data compared -/
def dN (ns : List Nat) : List PyData := ns.map fun (i : Nat) => PyData.int (i : Int)
def dR (rs : List (List Nat)) : List PyData := rs.map fun r => PyData.tuple (dN r)
theorem lay_dN : ∀ ns : List Nat, PyData.canLayAll0 (dN ns) = true
  | [] => by simp [dN, PyData.canLayAll0]
  | a :: r => by
    have := lay_dN r
    simp only [dN, List.map_cons, PyData.canLayAll0, PyData.canLay0, Bool.true_and] at this ⊢
    exact this
theorem depth_dN : ∀ ns : List Nat, PyData.depthAll (dN ns) ≤ 1
  | [] => by simp [dN, PyData.depthAll]
  | a :: r => by
    have := depth_dN r
    simp only [dN, List.map_cons, PyData.depthAll, PyData.depth] at this ⊢
    omega
theorem lay_dR : ∀ rs : List (List Nat), PyData.canLayAll0 (dR rs) = true
  | [] => by simp [dR, PyData.canLayAll0]
  | a :: r => by
    have := lay_dR r
    have h2 := lay_dN a
    simp only [dR, List.map_cons, PyData.canLayAll0, PyData.canLay0, Bool.and_eq_true] at this ⊢
    exact ⟨h2, this⟩
theorem depth_dR : ∀ rs : List (List Nat), PyData.depthAll (dR rs) ≤ 2
  | [] => by simp [dR, PyData.depthAll]
  | a :: r => by
    have := depth_dR r
    have h2 := depth_dN a
    simp only [dR, List.map_cons, PyData.depthAll, PyData.depth] at this ⊢
    omega
theorem shaped_lN (ns : List Nat) : SeqAt.shaped (.list (dN ns)) = true := by
  have h1 := depth_dN ns
  refine Bool.and_eq_true_iff.mpr ⟨?_, decide_eq_true ?_⟩
  · rw [PyData.canLay0]
    exact lay_dN ns
  · rw [PyData.depth]
    omega
theorem shaped_tN (ns : List Nat) : SeqAt.shaped (.tuple (dN ns)) = true := by
  have h1 := depth_dN ns
  refine Bool.and_eq_true_iff.mpr ⟨?_, decide_eq_true ?_⟩
  · rw [PyData.canLay0]
    exact lay_dN ns
  · rw [PyData.depth]
    omega
theorem shaped_lR (rs : List (List Nat)) : SeqAt.shaped (.list (dR rs)) = true := by
  have h1 := depth_dR rs
  refine Bool.and_eq_true_iff.mpr ⟨?_, decide_eq_true ?_⟩
  · rw [PyData.canLay0]
    exact lay_dR rs
  · rw [PyData.depth]
    omega
theorem eqv_dN : ∀ a b : List Nat, PyData.eqvAll (dN a) (dN b) = decide (a = b)
  | [], [] => by simp [dN, PyData.eqvAll]
  | [], _ :: _ => by simp [dN, PyData.eqvAll]
  | _ :: _, [] => by simp [dN, PyData.eqvAll]
  | x :: r, y :: t => by
    have ih := eqv_dN r t
    simp only [dN, List.map_cons, PyData.eqvAll, PyData.eqv] at ih ⊢
    rw [ih]
    by_cases h1 : x = y
    · subst h1
      by_cases h2 : r = t
      · subst h2
        simp
      · simp [h2]
    · have : ((x : Int) == (y : Int)) = false := by
        apply beq_eq_false_iff_ne.mpr
        omega
      rw [this]
      simp [h1]
theorem eqv_dR : ∀ a b : List (List Nat), PyData.eqvAll (dR a) (dR b) = decide (a = b)
  | [], [] => by simp [dR, PyData.eqvAll]
  | [], _ :: _ => by simp [dR, PyData.eqvAll]
  | _ :: _, [] => by simp [dR, PyData.eqvAll]
  | x :: r, y :: t => by
    have ih := eqv_dR r t
    have e := eqv_dN x y
    simp only [dR, List.map_cons, PyData.eqvAll, PyData.eqv] at ih ⊢
    rw [ih, e]
    by_cases h1 : x = y
    · subst h1
      by_cases h2 : r = t
      · subst h2
        simp
      · simp [h2]
    · simp [h1]
section
variable {K : PySem.W.Frag} {H H' : Hp} {σ : L2.St} {ta tb : TE}
theorem dp_nats : ∀ ns : List Nat, DpAll K H (ns.map vN) (dN ns)
  | [] => .nil
  | a :: r => .cons (.int _) (dp_nats r)
theorem dp_tups : ∀ {ys : List V} {rs : List (List Nat)}, TupsAt K H ys rs → DpAll K H ys (dR rs)
  | _, _, .nil => .nil
  | _, _, .cons h t => by
    obtain ⟨a, rfl, ha⟩ := h
    exact .cons (.tup ha (dp_nats _)) (dp_tups t)
theorem rv_eqLN {p q : Addr} {a b : List Nat} (h1 : SqL K H p (a.map vN)) (h2 : SqL K H q (b.map vN)) : RV (rEqD K) (.ref p) (.ref q) H (.bl (decide (a = b))) := fun H1 e Q k =>
  ⟨_, _, .lst (ex_l e h1) (dp_nats a), .lst (ex_l e h2) (dp_nats b), shaped_lN a, shaped_lN b, by
    rw [show PyData.eqv (.list (dN a)) (.list (dN b)) = decide (a = b) by rw [PyData.eqv, eqv_dN]]
    exact k H1 (Ex.refl H1)⟩
theorem rv_neLN {p q : Addr} {a b : List Nat} (h1 : SqL K H p (a.map vN)) (h2 : SqL K H q (b.map vN)) : RV (rNeD K) (.ref p) (.ref q) H (.bl (!decide (a = b))) := fun H1 e Q k =>
  ⟨_, _, .lst (ex_l e h1) (dp_nats a), .lst (ex_l e h2) (dp_nats b), shaped_lN a, shaped_lN b, by
    rw [show PyData.eqv (.list (dN a)) (.list (dN b)) = decide (a = b) by rw [PyData.eqv, eqv_dN]]
    exact k H1 (Ex.refl H1)⟩
theorem rv_neTN {p q : Addr} {a b : List Nat} (h1 : SqT K H p (a.map vN)) (h2 : SqT K H q (b.map vN)) : RV (rNeD K) (.ref p) (.ref q) H (.bl (!decide (a = b))) := fun H1 e Q k =>
  ⟨_, _, .tup (ex_t e h1) (dp_nats a), .tup (ex_t e h2) (dp_nats b), shaped_tN a, shaped_tN b, by
    rw [show PyData.eqv (.tuple (dN a)) (.tuple (dN b)) = decide (a = b) by rw [PyData.eqv, eqv_dN]]
    exact k H1 (Ex.refl H1)⟩
theorem rv_eqTN {p q : Addr} {a b : List Nat} (h1 : SqT K H p (a.map vN)) (h2 : SqT K H q (b.map vN)) : RV (rEqD K) (.ref p) (.ref q) H (.bl (decide (a = b))) := fun H1 e Q k =>
  ⟨_, _, .tup (ex_t e h1) (dp_nats a), .tup (ex_t e h2) (dp_nats b), shaped_tN a, shaped_tN b, by
    rw [show PyData.eqv (.tuple (dN a)) (.tuple (dN b)) = decide (a = b) by rw [PyData.eqv, eqv_dN]]
    exact k H1 (Ex.refl H1)⟩
theorem rv_neLR {p q : Addr} {ys zs : List V} {a b : List (List Nat)} (h1 : SqL K H p ys) (t1 : TupsAt K H ys a) (h2 : SqL K H q zs) (t2 : TupsAt K H zs b) : RV (rNeD K) (.ref p) (.ref q) H (.bl (!decide (a = b))) := fun H1 e Q k =>
  ⟨_, _, .lst (ex_l e h1) (dp_tups (t1.keep (KeepT.ex e))), .lst (ex_l e h2) (dp_tups (t2.keep (KeepT.ex e))), shaped_lR a, shaped_lR b, by
    rw [show PyData.eqv (.list (dR a)) (.list (dR b)) = decide (a = b) by rw [PyData.eqv, eqv_dR]]
    exact k H1 (Ex.refl H1)⟩
end
end Kw
set_option Elab.async false
set_option linter.all false
set_option maxRecDepth 100000
set_option maxHeartbeats 4000000
namespace Kw
open PySem PySem.Spec PyProof.Rows L2 Evl
/-! ### data: what stays -/
section
variable {K : PySem.W.Frag} {H H' : Hp}
mutual
theorem dp_ex (e : Ex H H') : ∀ (d : PyData) (v : V), Dp K H v d → Dp K H' v d
  | .none, _, h => by cases h; exact .non
  | .bool b, _, h => by cases h; exact .bl b
  | .int i, _, h => by cases h; exact .int i
  | .str x, _, h => by cases h; exact .str x
  | .list ds, _, h => by
    cases h with
    | lst h a => exact .lst (ex_l e h) (dpA_ex e ds _ a)
  | .tuple ds, _, h => by
    cases h with
    | tup h a => exact .tup (ex_t e h) (dpA_ex e ds _ a)
  | .dict _, _, h => by cases h
theorem dpA_ex (e : Ex H H') : ∀ (ds : List PyData) (vs : List V), DpAll K H vs ds → DpAll K H' vs ds
  | [], _, h => by cases h; exact .nil
  | d :: ds, _, h => by
    cases h with
    | cons a b => exact .cons (dp_ex e d _ a) (dpA_ex e ds _ b)
end
mutual
/-- no list within -/
def Fz : PyData → Bool
  | .none => true
  | .bool _ => true
  | .int _ => true
  | .str _ => true
  | .tuple ds => FzA ds
  | .list _ => false
  | .dict _ => false
def FzA : List PyData → Bool
  | [] => true
  | d :: ds => Fz d && FzA ds
end
mutual
theorem dp_keep (e : KeepT H H') : ∀ (d : PyData) (v : V), Fz d = true → Dp K H v d → Dp K H' v d
  | .none, _, _, h => by cases h; exact .non
  | .bool b, _, _, h => by cases h; exact .bl b
  | .int i, _, _, h => by cases h; exact .int i
  | .str x, _, _, h => by cases h; exact .str x
  | .list ds, _, f, h => by simp [Fz] at f
  | .tuple ds, _, f, h => by
    cases h with
    | tup h a => exact .tup (keep_t e h) (dpA_keep e ds _ (by simpa [Fz] using f) a)
  | .dict _, _, _, h => by cases h
theorem dpA_keep (e : KeepT H H') : ∀ (ds : List PyData) (vs : List V), FzA ds = true → DpAll K H vs ds → DpAll K H' vs ds
  | [], _, _, h => by cases h; exact .nil
  | d :: ds, _, f, h => by
    cases h with
    | cons a b =>
      simp only [FzA, Bool.and_eq_true] at f
      exact .cons (dp_keep e d _ f.1 a) (dpA_keep e ds _ f.2 b)
end
theorem dpA_paired : ∀ {vs : List V} {ds : List PyData}, DpAll K H vs ds → Paired (Dp K H) vs ds
  | _, [], h => by cases h; exact .nil
  | _, d :: ds, h => by
    cases h with
    | cons a b => exact .cons a (dpA_paired b)
theorem dpA_of : ∀ {vs : List V} {ds : List PyData}, Paired (Dp K H) vs ds → DpAll K H vs ds
  | _, _, .nil => .nil
  | _, _, .cons a b => .cons a (dpA_of b)
theorem dpA_len {vs : List V} {ds : List PyData} (h : DpAll K H vs ds) : vs.length = ds.length := paired_len (dpA_paired h)
theorem dpA_get {vs : List V} {ds : List PyData} {i : Nat} {v : V} (h : DpAll K H vs ds) (hv : vs[i]? = some v) : ∃ d, ds[i]? = some d ∧ Dp K H v d := paired_get (dpA_paired h) hv
theorem dpA_get2 {vs : List V} {ds : List PyData} {i : Nat} {d : PyData} (h : DpAll K H vs ds) (hd : ds[i]? = some d) : ∃ v, vs[i]? = some v ∧ Dp K H v d := paired_get2 (dpA_paired h) hd
theorem dpA_strs : ∀ zs : List Str, DpAll K H (zs.map V.str) (zs.map PyData.str)
  | [] => .nil
  | z :: r => .cons (.str z) (dpA_strs r)
theorem dpA_strs_inv : ∀ {vs : List V} {zs : List Str}, DpAll K H vs (zs.map PyData.str) → vs = zs.map V.str
  | _, [], h => by cases h; rfl
  | _, z :: r, h => by
    cases h with
    | cons a b =>
      cases a
      rw [dpA_strs_inv b]
      rfl
theorem dpA_nats : ∀ ns : List Nat, DpAll K H (ns.map vN) (ns.map fun (i : Nat) => PyData.int (i : Int))
  | [] => .nil
  | n :: r => .cons (.int _) (dpA_nats r)
theorem dpA_nats_inv : ∀ {vs : List V} {ns : List Nat}, DpAll K H vs (ns.map fun (i : Nat) => PyData.int (i : Int)) → vs = ns.map vN
  | _, [], h => by cases h; rfl
  | _, z :: r, h => by
    cases h with
    | cons a b =>
      cases a
      rw [dpA_nats_inv b]
      rfl
theorem dp_tup_inv {v : V} {ds : List PyData} (h : Dp K H v (.tuple ds)) : ∃ a xs, v = .ref a ∧ SqT K H a xs ∧ DpAll K H xs ds := by
  cases h with
  | tup h a => exact ⟨_, _, rfl, h, a⟩
theorem dp_lst_inv {v : V} {ds : List PyData} (h : Dp K H v (.list ds)) : ∃ a xs, v = .ref a ∧ SqL K H a xs ∧ DpAll K H xs ds := by
  cases h with
  | lst h a => exact ⟨_, _, rfl, h, a⟩
end
/-! ### its kind -/
def tyOf : PyData → String
  | .none => "NoneType"
  | .bool _ => "bool"
  | .int _ => "int"
  | .str _ => "str"
  | .list _ => "list"
  | .tuple _ => "tuple"
  | .dict _ => "dict"
section
variable {K : PySem.W.Frag} {σ : L2.St} {H H' : Hp} {ta tb tc te tl : TE} {t u : TT} {x y z v : V} {r r' : R2} {d : PyData}
theorem ty_lst {a : Addr} {xs : List V} (h : SqL K H a xs) : TyX K H (.ref a) (.type "list") := by
  rcases h with (h | ⟨o, h⟩) | ⟨o, its, n, h1, h2, _⟩
  · exact .base (.lst h)
  · exact .base (.frz h)
  · exact .kList h1 h2
theorem ty_dp (h : Dp K H v d) : TyX K H v (.type (tyOf d)) := by
  cases h with
  | non => exact .base .non
  | bl b => exact .base (.bl b)
  | int i => exact .base (.int i)
  | str x => exact .base (.str x)
  | lst h a => exact ty_lst h
  | tup h a => exact ty_tup h
theorem ev_isiD {U : String} {b : Bool} (ha : Ev ta σ H v) (hb : Ev tb σ H (.ty U)) (hd : Dp K H v d) (hk : kitB (tyOf d) U = some b) : Ev (tCB (rIsi K) (tCons ta (tCons tb tNil))) σ H (.bl b) := ev_isi ha hb (fun H1 e => ty_dp (dp_ex e _ _ hd)) hk
def isTupD : PyData → Bool
  | .tuple _ => true
  | _ => false
def isStrD : PyData → Bool
  | .str _ => true
  | _ => false
def isLstD : PyData → Bool
  | .list _ => true
  | _ => false
def isIntD : PyData → Bool
  | .int _ => true
  | _ => false
def isBolD : PyData → Bool
  | .bool _ => true
  | _ => false
theorem kit_tup (h : Dp K H v d) : kitB (tyOf d) "tuple" = some (isTupD d) := by
  cases h <;> first | exact (by decide +kernel : kitB "NoneType" "tuple" = some false) | exact (by decide +kernel : kitB "bool" "tuple" = some false) | exact (by decide +kernel : kitB "int" "tuple" = some false) | exact (by decide +kernel : kitB "str" "tuple" = some false) | exact (by decide +kernel : kitB "list" "tuple" = some false) | exact (by decide +kernel : kitB "tuple" "tuple" = some true)
theorem kit_str (h : Dp K H v d) : kitB (tyOf d) "str" = some (isStrD d) := by
  cases h <;> first | exact (by decide +kernel : kitB "NoneType" "str" = some false) | exact (by decide +kernel : kitB "bool" "str" = some false) | exact (by decide +kernel : kitB "int" "str" = some false) | exact (by decide +kernel : kitB "str" "str" = some true) | exact (by decide +kernel : kitB "list" "str" = some false) | exact (by decide +kernel : kitB "tuple" "str" = some false)
theorem kit_int (h : Dp K H v d) : kitB (tyOf d) "int" = some (isIntD d || isBolD d) := by
  cases h <;> first | exact (by decide +kernel : kitB "NoneType" "int" = some false) | exact (by decide +kernel : kitB "bool" "int" = some true) | exact (by decide +kernel : kitB "int" "int" = some true) | exact (by decide +kernel : kitB "str" "int" = some false) | exact (by decide +kernel : kitB "list" "int" = some false) | exact (by decide +kernel : kitB "tuple" "int" = some false)
theorem kit_bol (h : Dp K H v d) : kitB (tyOf d) "bool" = some (isBolD d) := by
  cases h <;> first | exact (by decide +kernel : kitB "NoneType" "bool" = some false) | exact (by decide +kernel : kitB "bool" "bool" = some true) | exact (by decide +kernel : kitB "int" "bool" = some false) | exact (by decide +kernel : kitB "str" "bool" = some false) | exact (by decide +kernel : kitB "list" "bool" = some false) | exact (by decide +kernel : kitB "tuple" "bool" = some false)
theorem kit_lst (h : Dp K H v d) : kitB (tyOf d) "list" = some (isLstD d) := by
  cases h <;> first | exact (by decide +kernel : kitB "NoneType" "list" = some false) | exact (by decide +kernel : kitB "bool" "list" = some false) | exact (by decide +kernel : kitB "int" "list" = some false) | exact (by decide +kernel : kitB "str" "list" = some false) | exact (by decide +kernel : kitB "list" "list" = some true) | exact (by decide +kernel : kitB "tuple" "list" = some false)
end
end Kw
set_option Elab.async false
set_option linter.all false
set_option maxRecDepth 100000
set_option maxHeartbeats 4000000
namespace Kw
open PySem PySem.Spec PyProof.Rows L2 Evl
/-! ### what is left of a text without its letters -/
def low (c : Nat) : Bool := decide (97 ≤ c) && decide (c ≤ 122)
def lowB (z : Str) : Bool := z.cps.toList.all low
theorem str_ext {a b : Str} (h : a.cps.toList = b.cps.toList) : a = b := by
  cases a; cases b
  congr 1
  exact Array.toList_inj.mp h
theorem str_nil (a : Str) : a = ("" : Str) ↔ a.cps.toList = [] := by
  constructor
  · rintro rfl
    rfl
  · intro h
    exact str_ext h
theorem strip_nil (goes : Nat → Bool) (x : Str) : Txt.stripBy goes true true x = ("" : Str) ↔ x.cps.toList.all goes = true := by
  have hx : x.length = x.cps.toList.length := rfl
  generalize hl : x.cps.toList = l at hx
  constructor
  · intro h
    rcases hall : l.all goes with _ | _
    · exfalso
      have htw := List.takeWhile_append_dropWhile (p := goes) (l := l)
      cases hd : l.dropWhile goes with
      | nil =>
        rw [hd, List.append_nil] at htw
        have : l.all goes = true := by
          rw [← htw]
          exact List.all_takeWhile
        rw [this] at hall
        cases hall
      | cons c r =>
        have hc : goes c = false := by
          have := List.head_dropWhile_not goes (l := l) (by rw [hd]; exact List.cons_ne_nil _ _)
          simpa [hd] using this
        have hdrop : l.drop (l.takeWhile goes).length = c :: r := by
          rw [hd] at htw
          have h3 := List.drop_left (l₁ := l.takeWhile goes) (l₂ := c :: r)
          rw [htw] at h3
          exact h3
        have hlen : l.length = (l.takeWhile goes).length + (r.length + 1) := by
          conv => lhs; rw [← htw, hd]
          rw [List.length_append, List.length_cons]
        have hrev : (((c :: r).reverse).takeWhile goes).length ≤ r.length := by
          rw [List.reverse_cons]
          rw [List.takeWhile_append]
          split
          · rw [List.takeWhile_cons_of_neg (by rw [hc]; decide), List.append_nil, List.length_reverse]
            exact Nat.le_refl _
          · have := (List.takeWhile_prefix (p := goes) (l := r.reverse)).length_le
            rw [List.length_reverse] at this
            exact this
        unfold Txt.stripBy at h
        split at h
        · rw [str_nil, hl] at h
          rw [h] at hlen
          simp at hlen
        · unfold PySem.stripped at h
          rw [str_nil] at h
          unfold PySem.Builtin.Str.strSub at h
          have h2 := congrArg List.length h
          simp only [PySem.stripLo, PySem.stripHi, if_true, hl, Array.length_toList, Array.size_extract, List.length_nil, hdrop] at h2
          rw [show x.cps.size = l.length by rw [← hl]; rfl, hx] at h2
          omega
    · rfl
  · intro hall
    have htw : l.takeWhile goes = l := by
      have h2 := List.all_eq_true.mp hall
      clear hall hl hx
      induction l with
      | nil => rfl
      | cons a r ih =>
        rw [List.takeWhile_cons_of_pos (h2 a (List.mem_cons_self ..)), ih fun b hb => h2 b (List.mem_cons_of_mem _ hb)]
    unfold Txt.stripBy
    split
    · next hs =>
      unfold PySem.stripSame PySem.stripLo at hs
      rw [hl, htw] at hs
      simp at hs
      rw [str_nil, hl]
      exact hs.1
    · rw [str_nil]
      unfold PySem.stripped PySem.Builtin.Str.strSub PySem.stripLo
      simp only [if_true, hl, htw]
      apply List.eq_nil_of_length_eq_zero
      rw [Array.length_toList, Array.size_extract]
      unfold PySem.stripHi
      rw [show x.cps.size = l.length by rw [← hl]; rfl]
      omega
theorem goes_low (c : Nat) : (Str.ofString "abcdefghijklmnopqrstuvwxyz").cps.contains c = low c := by
  have e : (Str.ofString "abcdefghijklmnopqrstuvwxyz").cps = ((List.range 26).map (97 + ·)).toArray := by decide +kernel
  rw [e]
  have h : ((List.range 26).map (97 + ·)).toArray.contains c = true ↔ low c = true := by
    rw [Array.contains_iff_mem, List.mem_toArray, List.mem_map]
    unfold low
    rw [Bool.and_eq_true, decide_eq_true_eq, decide_eq_true_eq]
    constructor
    · rintro ⟨i, hi, rfl⟩
      have := List.mem_range.mp hi
      omega
    · rintro ⟨h1, h2⟩
      exact ⟨c - 97, List.mem_range.mpr (by omega), by omega⟩
  cases h1 : ((List.range 26).map (97 + ·)).toArray.contains c <;> cases h2 : low c
  · rfl
  · rw [h.mpr h2] at h1; cases h1
  · rw [h.mp h1] at h2; cases h2
  · rfl
theorem strip_low (x : Str) : decide (V.str (Txt.stripChars x (Str.ofString "abcdefghijklmnopqrstuvwxyz")) = V.str ("" : Str)) = lowB x := by
  have h := strip_nil (Str.ofString "abcdefghijklmnopqrstuvwxyz").cps.contains x
  have e : x.cps.toList.all (Str.ofString "abcdefghijklmnopqrstuvwxyz").cps.contains = lowB x := by
    unfold lowB
    congr 1
    funext c
    exact goes_low c
  rw [e] at h
  cases hb : lowB x with
  | true => exact decide_eq_true (congrArg V.str (h.mpr hb))
  | false =>
    refine decide_eq_false fun z => ?_
    have := h.mp (V.str.inj z)
    rw [this] at hb
    cases hb
theorem joinL_nil : ∀ l : List (List Nat), TL.joinL [] l = l.flatten
  | [] => rfl
  | [p] => by simp [TL.joinL]
  | p :: q :: r => by
    show p ++ ([] ++ TL.joinL [] (q :: r)) = _
    rw [joinL_nil (q :: r)]
    rfl
theorem join_low (zs : List Str) : lowB (Txt.join ("" : Str) zs) = zs.all lowB := by
  unfold lowB
  rw [show (Txt.join ("" : Str) zs).cps.toList = (zs.map fun z => z.cps.toList).flatten from ?_]
  · rw [List.all_flatten, List.all_map]
    rfl
  · rw [TL.join_eq]
    exact (TL.tl_join ("" : Str) zs).trans (joinL_nil _)
end Kw
set_option Elab.async false
set_option linter.all false
set_option maxRecDepth 100000
set_option maxHeartbeats 4000000
namespace Kw
open PySem PySem.Spec PyProof.Rows L2 Evl
abbrev Box := List Str × List Str
abbrev House := List Box × List Str
def BoxAt (K : PySem.W.Frag) (H : Hp) (v : V) (b : Box) : Prop := ∃ a l k : Addr, v = .ref a ∧ SqT K H a [.ref l, .ref k] ∧ SqT K H l (b.1.map V.str) ∧ SqT K H k (b.2.map V.str)
def BoxesT (K : PySem.W.Frag) (H : Hp) (a : Addr) (bs : List Box) : Prop := ∃ vs, SqT K H a vs ∧ Paired (BoxAt K H) vs bs
def HouseAt (K : PySem.W.Frag) (H : Hp) (v : V) (h : House) : Prop := ∃ a b k : Addr, v = .ref a ∧ SqT K H a [.ref b, .ref k] ∧ BoxesT K H b h.1 ∧ SqT K H k (h.2.map V.str)
section
variable {K : PySem.W.Frag} {H H' : Hp}
theorem BoxAt.keep {v : V} {b : Box} (e : KeepT H H') (h : BoxAt K H v b) : BoxAt K H' v b := by
  obtain ⟨a, l, k, h1, h2, h3, h4⟩ := h
  exact ⟨a, l, k, h1, keep_t e h2, keep_t e h3, keep_t e h4⟩
theorem BoxesT.keep {a : Addr} {bs : List Box} (e : KeepT H H') (h : BoxesT K H a bs) : BoxesT K H' a bs := by
  obtain ⟨vs, h1, h2⟩ := h
  exact ⟨vs, keep_t e h1, paired_imp h2 fun _ _ h => h.keep e⟩
theorem HouseAt.keep {v : V} {h : House} (e : KeepT H H') (x : HouseAt K H v h) : HouseAt K H' v h := by
  obtain ⟨a, b, k, h1, h2, h3, h4⟩ := x
  exact ⟨a, b, k, h1, keep_t e h2, h3.keep e, keep_t e h4⟩
end
def Rising (cs : List Str) : Prop := ∀ i x y, cs[i]? = some x → cs[i + 1]? = some y → x.cps.toList < y.cps.toList
def colB (z : Str) : Bool := (decide (1 ≤ z.length) && decide (z.length ≤ 8)) && z.cps.toList.all fun c => decide (97 ≤ c) && decide (c ≤ 122)
def OkCols (cs : List Str) (m : Nat) : Prop := cs.length ≤ m ∧ (∀ c ∈ cs, colB c = true) ∧ Rising cs
def OkBox (b : Box) : Prop := OkCols b.1 3 ∧ OkCols b.2 6
def OkHouse (h : House) : Prop := 1 ≤ h.1.length ∧ h.1.length ≤ 30 ∧ (∀ b ∈ h.1, OkBox b) ∧ OkCols h.2 6
theorem colB_len {z : Str} (h : colB z = true) : z.length ≤ 8 := by
  unfold colB at h
  simp only [Bool.and_eq_true, decide_eq_true_eq] at h
  exact h.1.2
def fitsB (ls hs : List Str) : Bool := ls.all fun c => decide (c ∈ hs)
def bx (bs : List Box) (i : Nat) : Box := bs.getD i ([], [])
def keysIn (bs : List Box) (is : List Nat) : List Str := is.flatMap fun i => (bx bs i).2
def readyOf (bs : List Box) (held : List Str) (closed : List Nat) : List Nat := closed.filter fun i => fitsB (bx bs i).1 held
def less (closed ready : List Nat) : List Nat := closed.filter fun i => !decide (i ∈ ready)
def roundsF (bs : List Box) : Nat → List Str → List Nat → List (List Nat)
  | 0, _, _ => []
  | n + 1, held, closed => let r := readyOf bs held closed; if r = [] then [] else r :: roundsF bs n (held ++ keysIn bs r) (less closed r)
def roundsOf (bs : List Box) (held : List Str) (closed : List Nat) : List (List Nat) := roundsF bs (closed.length + 1) held closed
def shutOf (bs : List Box) (hand : List Str) (broken : List Nat) : List Nat :=
  less (less (List.range bs.length) broken) (roundsOf bs (hand ++ keysIn bs broken) (less (List.range bs.length) broken)).flatten
theorem less_len (c r : List Nat) : (less c r).length ≤ c.length := List.length_filter_le _ _
theorem less_lt {bs : List Box} {held : List Str} {closed : List Nat} (h : readyOf bs held closed ≠ []) : (less closed (readyOf bs held closed)).length < closed.length := by
  obtain ⟨i, hi⟩ := List.exists_mem_of_ne_nil _ h
  have hc : i ∈ closed := (List.mem_filter.mp hi).1
  unfold less
  rcases Nat.lt_or_ge (closed.filter fun i => !decide (i ∈ readyOf bs held closed)).length closed.length with h1 | h1
  · exact h1
  · have e := (List.filter_sublist (p := fun i => !decide (i ∈ readyOf bs held closed)) (l := closed)).eq_of_length_le h1
    rw [← e] at hc
    have := (List.mem_filter.mp hc).2
    rw [decide_eq_true hi] at this
    cases this
theorem roundsF_fuel (bs : List Box) : ∀ (n m : Nat) (held : List Str) (closed : List Nat), closed.length < n → closed.length < m → roundsF bs n held closed = roundsF bs m held closed
  | 0, _, _, _, h, _ => by omega
  | _, 0, _, _, _, h => by omega
  | n + 1, m + 1, held, closed, h1, h2 => by
    show (if readyOf bs held closed = [] then [] else _) = (if readyOf bs held closed = [] then [] else _)
    by_cases h : readyOf bs held closed = []
    · rw [if_pos h, if_pos h]
    · rw [if_neg h, if_neg h]
      have := less_lt h
      rw [roundsF_fuel bs n m _ _ (by omega) (by omega)]
theorem roundsOf_nil {bs : List Box} {held : List Str} {closed : List Nat} (h : readyOf bs held closed = []) : roundsOf bs held closed = [] := by
  unfold roundsOf
  show (if readyOf bs held closed = [] then [] else _) = _
  rw [if_pos h]
theorem roundsOf_cons {bs : List Box} {held : List Str} {closed : List Nat} (h : readyOf bs held closed ≠ []) :
    roundsOf bs held closed = readyOf bs held closed :: roundsOf bs (held ++ keysIn bs (readyOf bs held closed)) (less closed (readyOf bs held closed)) := by
  unfold roundsOf
  show (if readyOf bs held closed = [] then [] else _) = _
  rw [if_neg h]
  have := less_lt h
  rw [roundsF_fuel bs closed.length _ _ _ this (Nat.lt_succ_self _)]
/-- boxes, a list or a tuple of them -/
def BoxesS (K : PySem.W.Frag) (H : Hp) (a : Addr) (bs : List Box) : Prop := ∃ vs, (SqL K H a vs ∨ SqT K H a vs) ∧ Paired (BoxAt K H) vs bs
section
variable {K : PySem.W.Frag} {σ : L2.St} {H H' : Hp} {ta tb te tl : TE} {x y z v : V}
theorem BoxesS.ex {a : Addr} {bs : List Box} (e : Ex H H') (h : BoxesS K H a bs) : BoxesS K H' a bs := by
  obtain ⟨vs, h1, h2⟩ := h
  exact ⟨vs, h1.elim (fun h => .inl (ex_l e h)) (fun h => .inr (ex_t e h)), paired_imp h2 fun _ _ h => h.keep (KeepT.ex e)⟩
theorem BoxesS.of {a : Addr} {bs : List Box} (h : BoxesT K H a bs) : BoxesS K H a bs := by
  obtain ⟨vs, h1, h2⟩ := h
  exact ⟨vs, .inr h1, h2⟩
theorem bx_get {bs : List Box} {i : Nat} (h : i < bs.length) : bs[i]? = some (bx bs i) := by
  unfold bx
  rw [List.getD_eq_getElem?_getD, List.getElem?_eq_getElem h]
  rfl
/-- boxes[i][0], boxes[i][1] -/
theorem box_at {a : Addr} {bs : List Box} {i : Nat} (h : BoxesS K H a bs) (hi : i < bs.length) (ha : Ev ta σ H (.ref a)) (hb : Ev tb σ H (vN i)) :
    ∃ l k : Addr, SqT K H l ((bx bs i).1.map V.str) ∧ SqT K H k ((bx bs i).2.map V.str) ∧ Ev (tOp (rIxT K) (tOp (rIx K) ta tb) (tC (.int 0))) σ H (.ref l) ∧ Ev (tOp (rIxT K) (tOp (rIx K) ta tb) (tC (.int 1))) σ H (.ref k) := by
  obtain ⟨vs, h1, h2⟩ := h
  obtain ⟨v, hv, p, l, k, rfl, hp, hl, hk⟩ := paired_get2 h2 (bx_get hi)
  have e := ev_op ha hb (rIx_seq (K := K) h1 (atI_nat hv))
  exact ⟨l, k, hl, hk, ev_op e ev_c (rv_ixT hp at0), ev_op e ev_c (rv_ixT hp at1)⟩
theorem ev_lenB {a : Addr} {bs : List Box} (ha : Ev ta σ H (.ref a)) (h : BoxesS K H a bs) : Ev (tCB (rLenS K) (tCons ta tNil)) σ H (.int (bs.length : Int)) := by
  obtain ⟨vs, h1, h2⟩ := h
  rw [← paired_len h2]
  exact h1.elim (fun h => ev_len ha h) (fun h => ev_lenT ha h)
end
theorem keysIn_len {bs : List Box} (hb : ∀ b ∈ bs, b.2.length ≤ 6) : ∀ is : List Nat, (keysIn bs is).length ≤ 6 * is.length
  | [] => by simp [keysIn]
  | i :: r => by
    have ih := keysIn_len hb r
    have : (bx bs i).2.length ≤ 6 := by
      unfold bx
      rw [List.getD_eq_getElem?_getD]
      cases e : bs[i]? with
      | none => simp
      | some b => exact hb b (List.mem_of_getElem? e)
    unfold keysIn at ih ⊢
    rw [List.flatMap_cons, List.length_append, List.length_cons]
    omega
theorem ready_less (bs : List Box) (held : List Str) (closed : List Nat) : (readyOf bs held closed).length + (less closed (readyOf bs held closed)).length = closed.length := by
  have e : less closed (readyOf bs held closed) = closed.filter (fun i => !fitsB (bx bs i).1 held) := by
    unfold less
    apply List.filter_congr
    intro i hi
    congr 1
    cases h : fitsB (bx bs i).1 held with
    | true => exact decide_eq_true (List.mem_filter.mpr ⟨hi, h⟩)
    | false =>
      refine decide_eq_false fun z => ?_
      have := (List.mem_filter.mp z).2
      rw [h] at this
      cases this
  rw [e]
  unfold readyOf
  exact filter_both closed fun i => fitsB (bx bs i).1 held
def Few (bs : List Box) : Prop := bs.length ≤ 30 ∧ ∀ b ∈ bs, b.1.length ≤ 3 ∧ b.2.length ≤ 6
theorem Few.bx {bs : List Box} (h : Few bs) (i : Nat) : (bx bs i).1.length ≤ 3 ∧ (bx bs i).2.length ≤ 6 := by
  unfold Kw.bx
  rw [List.getD_eq_getElem?_getD]
  cases e : bs[i]? with
  | none => simp
  | some b => exact h.2 b (List.mem_of_getElem? e)
theorem flatten_rounds (bs : List Box) : ∀ (n : Nat) (held : List Str) (closed : List Nat), (roundsF bs n held closed).flatten.length ≤ closed.length
  | 0, _, _ => Nat.zero_le _
  | n + 1, held, closed => by
    show (if readyOf bs held closed = [] then [] else _).flatten.length ≤ _
    by_cases h : readyOf bs held closed = []
    · rw [if_pos h]
      exact Nat.zero_le _
    · rw [if_neg h, List.flatten_cons, List.length_append]
      have := flatten_rounds bs n (held ++ keysIn bs (readyOf bs held closed)) (less closed (readyOf bs held closed))
      have := ready_less bs held closed
      omega
theorem OkHouse.few {h : House} (o : OkHouse h) : Few h.1 := ⟨o.2.1, fun b hb => ⟨(o.2.2.1 b hb).1.1, (o.2.2.1 b hb).2.1⟩⟩
def withoutL (cs : List Str) (c : Str) : List Str := cs.filter fun x => !decide (x = c)
def fewerBs (bs : List Box) (c : Str) : List Box := bs.map fun b => (b.1, withoutL b.2 c)
def lostOf (h : House) (c : Str) : List Nat := less (shutOf (fewerBs h.1 c) (withoutL h.2 c) []) (shutOf h.1 h.2 [])
theorem withoutL_len (cs : List Str) (c : Str) : (withoutL cs c).length ≤ cs.length := List.length_filter_le _ _
theorem Few.fewer {bs : List Box} (h : Few bs) (c : Str) : Few (fewerBs bs c) := by
  refine ⟨by unfold fewerBs; rw [List.length_map]; exact h.1, fun b hb => ?_⟩
  obtain ⟨b0, h0, rfl⟩ := List.mem_map.mp hb
  have := h.2 b0 h0
  have := withoutL_len b0.2 c
  exact ⟨by show b0.1.length ≤ 3; omega, by show (withoutL b0.2 c).length ≤ 6; omega⟩
theorem shutOf_len (bs : List Box) (hand : List Str) (br : List Nat) : (shutOf bs hand br).length ≤ bs.length := by
  unfold shutOf
  have h1 := less_len (less (List.range bs.length) br) (roundsOf bs (hand ++ keysIn bs br) (less (List.range bs.length) br)).flatten
  have h2 := less_len (List.range bs.length) br
  rw [List.length_range] at h2
  omega
/-- [x for x in t if x not in u] -/
theorem el_lessT {K : PySem.W.Frag} {σ : L2.St} {H : Hp} {tl tu : TE} {a b : Addr} {j : Nat} {vs : List Nat} {xs ys : List Nat} (ha : Ev tl σ H (.ref a)) (hx : SqT K H a (xs.map vN)) (hl : xs.length ≤ 1000) (hy : SqT K H b (ys.map vN))
    (hw : ∀ x, wipe ((wipe σ vs).set j (some x)) vs = wipe σ vs ∧ ((wipe σ vs).set j (some x))[j]? = some (some x) ∧ ∀ H1, Ev tu ((wipe σ vs).set j (some x)) H1 (.ref b)) :
    EvL (tLc (iTup K tl) (gName j) (tTest (tOp (rIn K true) (tVar j) tu)) (tVar j) vs) σ H ((less xs ys).map vN) := by
  refine el_lc (ew_tup ha hx) (by rw [List.length_map]; omega) (fun i => !decide (xs.getD i 0 ∈ ys)) (fun i => vN (xs.getD i 0)) ?_ (fun i x H1 H2 Q e hi hy' k => ?_)
  · rw [List.length_map]
    exact filter_range_map xs 0 (fun i => !decide (i ∈ ys)) vN
  · obtain ⟨rfl, hx'⟩ := hy'
    have hi' : i < xs.length := by rw [List.length_map] at hi; exact hi
    have ei : xs.getD i 0 = xs[i] := by rw [List.getD_eq_getElem?_getD, List.getElem?_eq_getElem hi']; rfl
    have ex : x = vN xs[i] := by
      rw [List.getElem?_map, List.getElem?_eq_getElem hi'] at hx'
      exact (Option.some.inj hx').symm
    subst ex
    obtain ⟨w1, w2, w3⟩ := hw (vN xs[i])
    refine k _ _ (Ex.refl _) w1 ?_ fun _ => ?_
    · rw [ei, ← inV_nat]
      exact et_test (ev_op (ev_var w2) (w3 _) (rv_niT (ex_t e hy) rfl (flat_nats ys)))
    · rw [ei]
      exact ev_var w2
end Kw
set_option Elab.async false
set_option linter.all false
set_option maxRecDepth 100000
set_option maxHeartbeats 4000000
namespace Kw
open PySem PySem.Spec PyProof.Rows L2 Evl
section
variable {K : PySem.W.Frag} {σ : L2.St} {H H' : Hp} {ta tb tc te tl : TE} {t u : TT} {x y z v : V} {r r' : R2} {d e : PyData}
theorem rv_eqDp (h1 : Dp K H x d) (h2 : Dp K H y e) (s1 : SeqAt.shaped d = true) (s2 : SeqAt.shaped e = true) : RV (rEqD K) x y H (.bl (PyData.eqv d e)) := fun H1 e1 Q q => ⟨d, e, dp_ex e1 _ _ h1, dp_ex e1 _ _ h2, s1, s2, q H1 (Ex.refl H1)⟩
theorem rv_neDp (h1 : Dp K H x d) (h2 : Dp K H y e) (s1 : SeqAt.shaped d = true) (s2 : SeqAt.shaped e = true) : RV (rNeD K) x y H (.bl (!PyData.eqv d e)) := fun H1 e1 Q q => ⟨d, e, dp_ex e1 _ _ h1, dp_ex e1 _ _ h2, s1, s2, q H1 (Ex.refl H1)⟩
theorem lay_strs : ∀ cs : List Str, (∀ c ∈ cs, PyData.strOk c = true) → PyData.canLayAll0 (cs.map PyData.str) = true
  | [], _ => by simp [PyData.canLayAll0]
  | a :: r, h => by
    have h1 := lay_strs r fun c hc => h c (List.mem_cons_of_mem _ hc)
    have h2 := h a (List.mem_cons_self ..)
    simp only [List.map_cons, PyData.canLayAll0, PyData.canLay0, h1, h2, Bool.and_true]
theorem depth_strs : ∀ cs : List Str, PyData.depthAll (cs.map PyData.str) ≤ 1
  | [] => by simp [PyData.depthAll]
  | a :: r => by
    have := depth_strs r
    simp only [List.map_cons, PyData.depthAll, PyData.depth]
    omega
theorem shaped_lS {cs : List Str} (h : ∀ c ∈ cs, PyData.strOk c = true) : SeqAt.shaped (.list (cs.map PyData.str)) = true := by
  have := depth_strs cs
  unfold SeqAt.shaped
  rw [Bool.and_eq_true, decide_eq_true_eq]
  exact ⟨by simp only [PyData.canLay0]; exact lay_strs cs h, by simp only [PyData.depth]; omega⟩
theorem shaped_tS {cs : List Str} (h : ∀ c ∈ cs, PyData.strOk c = true) : SeqAt.shaped (.tuple (cs.map PyData.str)) = true := by
  have := depth_strs cs
  unfold SeqAt.shaped
  rw [Bool.and_eq_true, decide_eq_true_eq]
  exact ⟨by simp only [PyData.canLay0]; exact lay_strs cs h, by simp only [PyData.depth]; omega⟩
theorem strOk_low {z : Str} (h : lowB z = true) : PyData.strOk z = true := by
  unfold PyData.strOk
  rw [Array.all_eq_true_iff_forall_mem]
  intro c hc
  have := List.all_eq_true.mp h c (by simpa using hc)
  unfold low at this
  rw [Bool.and_eq_true, decide_eq_true_eq, decide_eq_true_eq] at this
  exact decide_eq_true (by omega)
theorem eqv_nilL (ds : List PyData) : PyData.eqv (.list ds) (.list []) = decide (ds = []) := by
  cases ds <;> simp [PyData.eqv, PyData.eqvAll]
theorem eqv_nilT (ds : List PyData) : PyData.eqv (.tuple ds) (.tuple []) = decide (ds = []) := by
  cases ds <;> simp [PyData.eqv, PyData.eqvAll]
theorem shaped_nilL : SeqAt.shaped (.list []) = true := by decide +kernel
theorem shaped_nilT : SeqAt.shaped (.tuple []) = true := by decide +kernel
/-- a tuple of what is asked, new or old -/
theorem ep_catA {a : Addr} {xs ys : List V} (ha : Ev ta σ H (.ref a)) (hx : SqT K H a xs) (hb : EvU tb σ H ys) (hn : xs.length + ys.length ≤ 100000) : EvP (tOp (rCatA K) ta tb) σ H (IsT K (xs ++ ys)) := fun H1 e Q q =>
  ha H1 e _ fun H2 e2 => hb H2 (e.trans e2) _ fun b H3 nb e3 hb3 => by
    have hx3 := ex_t ((e.trans e2).trans e3) hx
    refine ⟨a, b, xs, ys, rfl, rfl, hx3, st_of hb3, sz_of hn, fun h => ?_, fun h h' => ?_, fun h h' p hp => ?_⟩
    · subst h
      exact q _ H3 (e2.trans e3) ⟨b, rfl, st_of hb3⟩
    · subst h'
      exact q _ H3 (e2.trans e3) ⟨a, rfl, by rw [List.append_nil]; exact hx3⟩
    · exact q _ _ ((e2.trans e3).trans (Ex.new hp)) ⟨p, rfl, st_of upd_same⟩
end
end Kw
set_option Elab.async false
set_option linter.all false
set_option maxRecDepth 100000
/-! several clauses 'except K as n', all with the same name n, in slot j -/
namespace KwX
open PySem PySem.Spec PyProof.Rows L2
abbrev Cl := Value × (Addr → Value → Option Addr → TS)
/-- the ends of a suite behind which slot j is empty again -/
def goneE (j : Nat) (D : Ends) : Ends := ⟨fun τ G => D.nx (τ.set j none) G, D.rt, fun τ G => D.bk (τ.set j none) G, fun τ G => D.ct (τ.set j none) G⟩
def wAsM (K : PySem.W.Frag) (j : Nat) (Wo : WX) (D : Ends) : List Cl → WX
  | [] => Wo
  | (kc, tz) :: more => fun cls d τ G => ∃ yes, PySem.W.exmOne K cls kc = some yes ∧ (yes = true → ∀ e, G e = none → tz e cls d (goneE j D) (τ.set j (some (.ref e))) G) ∧ (yes = false → wAsM K j Wo D more cls d τ G)
inductive HdsAs (X : Cx) (n : Str) : List ExceptHandler → List Cl → Prop
  | nil : HdsAs X n [] []
  | cons {y : Str} {kc : Value} {tz : Addr → Value → Option Addr → TS} {first : Stmt} {rest : List Stmt} {p1 p2 : Pos} {hds : List ExceptHandler} {l : List Cl} (nm : Names X y kc)
      (su : ∀ (e : Addr) (ob : Obj) (cls : Value) (d : Option Addr) (pp : List (Addr × Obj)), L2N.Zn cls d ob → (∃ fs, ob.data = .fields fs) → PSs (X.suite e ((e, ob) :: pp)) (first :: rest) (tz e cls d)) (more : HdsAs X n hds l) :
      HdsAs X n (.ExceptHandler (some (.Name y p1)) (some n) (first :: rest) p2 :: hds) ((kc, tz) :: l)
section
variable {X : Cx} {n : Str} {j : Nat} {body : List Stmt} {h1 : ExceptHandler} {hds : List ExceptHandler} {l : List Cl} {pos : Pos} {tb : WX → TS} {Wo : WX}
theorem ps_try_asM (stk : X.stack = X.env :: X.outer) (frm : X.env.frame = some X.env.locals) (nd : X.N.Nodup) (at_ : X.N[j]? = some n) (loc : X.env.kindOf n = some .local) (tk : L2N.Takes X Wo)
    (hb : ∀ (W : WX) (pp : List (Addr × Obj)) (xe : Value → Shared → Prop), L2N.Takes (X.tr pp xe) W → PassesOwn (model X.prog X.w) X.A X.env xe → PSs (X.tr pp xe) body (tb W))
    (hh : HdsAs X n (h1 :: hds) l) : PS X (.Try body (h1 :: hds) [] [] pos) (fun D σ H => tb (wAsM X.K j Wo D l) D σ H) := by
  constructor
  intro pins s0 σ0 H0 D I want
  have okX := I.ok
  have frs_ : X.A.frames = some (X.env :: X.outer) := okX.frames.trans (congrArg some stk)
  have locN : Loc X.env.scope n := Or.inl loc
  apply wpAny_Try_except
  have run := (hb (wAsM X.K j Wo D l) (X.pn ++ pins) (fun ev sa => wpAny (model X.prog X.w) X.A (noteFrame ev X.env) (fun _ sb => wpAny (model X.prog X.w) X.A (setFlight ev none) (fun _ sc => wpAny (model X.prog X.w) X.A (handleBy ev X.env (h1 :: hds)) (SP X pins D) X.xe sc) X.xe sb) X.xe sa) ?caught PassesOwn.looking).run [] s0 σ0 H0 D (I.toTry _) want
  case caught =>
    intro ev st told
    obtain ⟨e, Bd, sI, pins1, τ, G, cls, d, rfl, Jt, ltB, up0, sky0, freeE, sameO, agree, wish⟩ := told
    have J : Inv X pins τ G sI := Jt.ofTry okX
    have sky1 : Sky Bd (X.env :: X.outer) e (L2N.Zn cls d) X.env.locals st.heap := stk ▸ sky0
    change wpAny (model X.prog X.w) X.A (noteFrame (.ref e) X.env) _ _ _
    refine L2N.Sky.land L2N.Zn.steady frs_ frm sky1 fun hp3 land3 up3 => ?_
    have J3 : Inv X pins τ G { st with heap := hp3 } := J.landed ltB land3.1 (up0.trans up3) sameO agree
    obtain ⟨ob3, fs3, get3, zc3, dat3⟩ := land3.there
    have notIn : e ∉ frs (X.env :: X.outer) := by
      intro hm
      obtain ⟨_, ob', get', nof⟩ := land3.2.2.1.mem hm
      rw [get3] at get'
      cases get'
      exact nof _ dat3
    have neL : e ≠ X.env.locals := by
      intro z
      exact notIn (List.mem_filterMap.mpr ⟨X.env, List.mem_cons_self, by rw [frm, z]⟩)
    have niF : e ∉ X.fs := by
      intro hm
      obtain ⟨en, hen, q⟩ := List.mem_filterMap.mp hm
      exact notIn (List.mem_filterMap.mpr ⟨en, List.mem_cons_of_mem _ hen, q⟩)
    have S3 := J3.suite get3 dat3 freeE neL niF
    have each : ∀ {cs : List ExceptHandler} {m : List Cl}, HdsAs X n cs m → wAsM X.K j Wo D m cls d τ G → wpAny (model X.prog X.w) X.A (handleBy (.ref e) X.env cs) (SP X pins D) X.xe { st with heap := hp3 } := by
      intro cs m hk
      induction hk with
      | nil =>
        intro hw
        apply wpAny_handleBy_nil
        obtain ⟨_, _, _, ob, fs, T, _, _, get, _, dat, first, _⟩ := id land3
        unfold PySem.passOn
        refine wpAny_bind (wpAny_field get dat first ?_)
        rw [if_neg (show ¬ ((Value.ref T == Value.none) = true) by simp)]
        have out : wpAny (model X.prog X.w) X.A (setFlight (.ref e) X.env.frame) (fun _ sd => wpAny (model X.prog X.w) X.A (throw (.ref e) : Sem Flow) (SP X pins D) X.xe sd) X.xe { st with heap := hp3 } := by
          rw [frm]
          refine HandSPX.setFlight_upZ land3 fun hp4 sk4 up4 => wpAny_throw (tk _ _ ⟨e, Bd, sI, pins, τ, G, cls, d, rfl, J, ltB, (up0.trans up3).trans up4, .inr (.inr (by rw [stk]; exact sk4)), freeE, sameO, agree, hw⟩)
        first
          | exact wpAny_bind (wpAny_pure (wpAny_bind out))
          | exact wpAny_bind out
      | @cons y kc tz fst rst p1 p2 hds2 l2 nm su more ih =>
        intro hw
        obtain ⟨yes, hy, hw1, hw0⟩ := hw
        refine wpAny_handleBy_cons (codeAny_handlers_test ?_) (by intro q; cases q)
        have looks : PySem.W.Looks (model X.prog X.w) hp3 (typeOf (.ref e)) cls := fun A Q E sx kx q => wpAny_typeOf_ref (kx _ _ get3) (by rw [zc3.1]; exact q)
        have matches_ := PySem.W.exm_one (M := model X.prog X.w) J3.kIn looks hy
        have named : ∀ {Q : Value → Shared → Prop} {E : Value → Shared → Prop}, Q kc { st with heap := hp3 } → wpAny (model X.prog X.w) (X.A.mark (some (.ref e))) (eval (.Name y p1) X.env) Q E { st with heap := hp3 } := by
          intro Q E q
          obtain ⟨hg, hdbg, hm⟩ := nm
          rcases hm with hm | ⟨hm, hv, hnn⟩
          · exact ld_glob (X := X.suite e ((e, ob3) :: (X.pn ++ pins))) S3 hg hm q hdbg
          · exact ld_blt (X := X.suite e ((e, ob3) :: (X.pn ++ pins))) S3 hg hm hv q hnn hdbg
        refine named (matches_.here ?_)
        cases yes with
        | false =>
          change wpAny _ X.A (handleBy (.ref e) X.env hds2) _ _ _
          exact ih (hw0 rfl)
        | true =>
          refine codeAny_handlers_suite_as ?_
          refine HandSPX.lands_againZ land3 fun hp4 land4 up4 => ?_
          have J4 : Inv X pins τ G { st with heap := hp4 } := J.landed ltB land4.1 ((up0.trans up3).trans up4) sameO agree
          obtain ⟨ob4, fs4, get4, zc4, dat4⟩ := land4.there
          have S4 := J4.suite get4 dat4 freeE neL niF
          refine store_ok (X := X.suite e ((e, ob4) :: (X.pn ++ pins))) (v := .ref e) S4 nd at_ locN rfl (fun s5 S5 => ?_) (.inr loc)
          refine wpAny_mono ((su e ob4 cls d (X.pn ++ pins) zc4 ⟨_, dat4⟩).run [] s5 _ G _ S5 (hw1 rfl e freeE)) (fun fl s6 sp => ?_) (fun _ _ z => False.elim z)
          have done_ : ∀ {τ6 : L2.St} {G6 : Hp} {R : Shared → Prop}, Inv (X.suite e ((e, ob4) :: (X.pn ++ pins))) [] τ6 G6 s6 → (∀ s7, Inv X pins (τ6.set j none) G6 s7 → R s7) →
              wpAny (model X.prog X.w) X.A (do bindName X.env n .none; unbindBehindTheSuite X.env n p2) (fun _ s7 => R s7) X.xe s6 := fun {τ6 G6 R} S6 hR => gone_ok (S6.unsuite okX) nd at_ loc hR
          cases fl with
          | next =>
            obtain ⟨τ6, G6, S6, q6⟩ := sp
            exact done_ S6 fun s7 J7 => ⟨_, _, J7, q6⟩
          | brk =>
            obtain ⟨τ6, G6, S6, q6⟩ := sp
            exact done_ S6 fun s7 J7 => ⟨_, _, J7, q6⟩
          | cont =>
            obtain ⟨τ6, G6, S6, q6⟩ := sp
            exact done_ S6 fun s7 J7 => ⟨_, _, J7, q6⟩
          | ret u =>
            obtain ⟨v6, τ6, G6, S6, r6, q6⟩ := sp
            exact done_ S6 fun s7 J7 => ⟨_, _, _, J7, r6, q6⟩
    exact each hh wish
  refine wpAny_mono run (fun fl s1 sp => ?_) (fun ev s1 he => he)
  cases fl with
  | next =>
    obtain ⟨τ, G, J1, q⟩ := sp
    exact wpAny_execs_nil ⟨τ, G, J1.ofTry okX, q⟩
  | brk =>
    obtain ⟨τ, G, J1, q⟩ := sp
    exact ⟨τ, G, J1.ofTry okX, q⟩
  | cont =>
    obtain ⟨τ, G, J1, q⟩ := sp
    exact ⟨τ, G, J1.ofTry okX, q⟩
  | ret u =>
    obtain ⟨v, τ, G, J1, r, q⟩ := sp
    exact ⟨v, τ, G, J1.ofTry okX, r, q⟩
end
end KwX
set_option Elab.async false
set_option linter.all false
set_option maxRecDepth 100000
set_option maxHeartbeats 2000000
/-! the end of a walk while an exception is handled: lists, tuples, tuples unpacked -/
namespace KwX
open PySem PySem.Spec PyProof.Rows L2 HotX L2H
section
variable {prog : Program} {w : World} {A : Around} {E : Value → Shared → Prop} {s : Shared}
theorem list_end_hot {it l hx : Addr} {i : Nat} {items : Array Value} {Q : Option Value → Shared → Prop} (hot : HotAt A hx s.heap) (dif : hx ≠ it) (hit : s.heap.IsListIter it l i) (hl : s.heap.IsList l items) (out : items[i]? = none)
    (hQ : ∀ h', Heap.ExtBut it s.heap h' → Q none { s with heap := h' }) : wpAny (model prog w) A (pyNext (.ref it)) Q E s := by
  have hit' := hit
  obtain ⟨io, gi, ci, di⟩ := hit'
  obtain ⟨lo, gl, _, nl, dl⟩ := hl
  obtain ⟨hand, ho, hv, gh, dh, ch⟩ := hot
  unfold pyNext
  refine wpAny_bind (wpAny_attempt (wpAny_callSpecial?_slot (name := Str.ofString "__next__") hit.typeIs slot_listiter_next (wpAny_call_entry slot_listiter_next hit.typeIs entry_listiter_next ?_ (args_listiter_next _))))
  change wpAny _ _ (field (.ref it) 0 >>= _) _ _ s
  apply wpAny_bind
  refine wpAny_field gi di (x := .ref l) rfl ?_
  change wpAny _ _ (if (Value.ref l == Value.none) = true then _ else _) _ _ s
  have notNone : ¬ ((Value.ref l == Value.none) = true) := Bool.false_ne_true
  rw [if_neg notNone]
  change wpAny _ _ (field (.ref it) 1 >>= _) _ _ s
  apply wpAny_bind
  refine wpAny_field gi di (x := .int i 0) rfl ?_
  change wpAny _ _ (seqItems? (.ref l) >>= _) _ _ s
  apply wpAny_bind
  refine wpAny_seqItems gl dl ?_
  simp only [Int.toNat_natCast, out]
  refine wpAny_bind (wpAny_rule (wpAny_bind (wpAny_setField gi di (by simp) ?_)))
  change wpAny _ _ (newExc (.type "StopIteration") [] >>= _) _ _ _
  apply wpAny_bind
  simp only [newExc, newTuple]
  apply wpAny_bind
  refine wpAny_newObj_type ?_ (by size_fits)
  refine wpAny_bind (m := firstArgMember _ _) (wpAny_of_eq (a := Value.none) (by first | rfl | (simp only [firstArgMember]; rfl)) ?_)
  refine wpAny_newObj_type ?_ (by size_fits)
  have sb := Heap.SameBut.update s.heap it (Obj.mapFields (·.setIfInBounds 0 .none))
  refine raiseNew_hot ⟨hand, ho, hv, Heap.get?_push_of_some _ (Heap.get?_push_of_some _ ((sb.2 hx dif).trans gh)), dh, ch⟩ ?_ (Heap.get?_push_size _ rfl) rfl (by first | (simp; done) | (simp; omega) | (simp only [Array.size_append]; simp; omega)) ?_
  · exact Nat.ne_of_lt (Heap.lt_size (Heap.get?_push_of_some _ ((sb.2 hx dif).trans gh)))
  refine wpAny_bind (wpAny_isInstance (T := "StopIteration") (b := true) ⟨_, Heap.get?_update_self _ (Heap.get?_push_size _ rfl) rfl, rfl⟩ isSubtype_stop ?_)
  refine wpAny_pure (hQ _ fun b o nb e => ?_)
  have e1 := Heap.get?_push_of_some { cls := .type "tuple", data := .seq #[] } ((sb.2 b nb).trans e)
  rw [Heap.get?_update_other _ _ (Nat.ne_of_gt (Heap.lt_size e1))]
  exact Heap.get?_push_of_some _ e1
theorem tup_end_hot {it l hx : Addr} {i : Nat} {items : Array Value} {Q : Option Value → Shared → Prop} (hot : HotAt A hx s.heap) (dif : hx ≠ it) (hit : IsTupIter s.heap it l i) (hl : IsTup s.heap l items) (out : items[i]? = none)
    (hQ : ∀ h', Heap.ExtBut it s.heap h' → Q none { s with heap := h' }) : wpAny (model prog w) A (pyNext (.ref it)) Q E s := by
  have hit' := hit
  obtain ⟨io, gi, ci, di⟩ := hit'
  obtain ⟨lo, gl, _, nl, dl⟩ := hl
  obtain ⟨hand, ho, hv, gh, dh, ch⟩ := hot
  unfold pyNext
  refine wpAny_bind (wpAny_attempt (wpAny_callSpecial?_slot (name := Str.ofString "__next__") hit.typeIs slot_tupleiter_next (wpAny_call_entry slot_tupleiter_next hit.typeIs entry_tupleiter_next ?_ (args_tupleiter_next _))))
  change wpAny _ _ (field (.ref it) 0 >>= _) _ _ s
  apply wpAny_bind
  refine wpAny_field gi di (x := .ref l) rfl ?_
  change wpAny _ _ (if (Value.ref l == Value.none) = true then _ else _) _ _ s
  have notNone : ¬ ((Value.ref l == Value.none) = true) := Bool.false_ne_true
  rw [if_neg notNone]
  change wpAny _ _ (field (.ref it) 1 >>= _) _ _ s
  apply wpAny_bind
  refine wpAny_field gi di (x := .int i 0) rfl ?_
  change wpAny _ _ (seqItems? (.ref l) >>= _) _ _ s
  apply wpAny_bind
  refine wpAny_seqItems gl dl ?_
  simp only [Int.toNat_natCast, out]
  refine wpAny_bind (wpAny_rule (wpAny_bind (wpAny_setField gi di (by simp) ?_)))
  change wpAny _ _ (newExc (.type "StopIteration") [] >>= _) _ _ _
  apply wpAny_bind
  simp only [newExc, newTuple]
  apply wpAny_bind
  refine wpAny_newObj_type ?_ (by size_fits)
  refine wpAny_bind (m := firstArgMember _ _) (wpAny_of_eq (a := Value.none) (by first | rfl | (simp only [firstArgMember]; rfl)) ?_)
  refine wpAny_newObj_type ?_ (by size_fits)
  have sb := Heap.SameBut.update s.heap it (Obj.mapFields (·.setIfInBounds 0 .none))
  refine raiseNew_hot ⟨hand, ho, hv, Heap.get?_push_of_some _ (Heap.get?_push_of_some _ ((sb.2 hx dif).trans gh)), dh, ch⟩ ?_ (Heap.get?_push_size _ rfl) rfl (by first | (simp; done) | (simp; omega) | (simp only [Array.size_append]; simp; omega)) ?_
  · exact Nat.ne_of_lt (Heap.lt_size (Heap.get?_push_of_some _ ((sb.2 hx dif).trans gh)))
  refine wpAny_bind (wpAny_isInstance (T := "StopIteration") (b := true) ⟨_, Heap.get?_update_self _ (Heap.get?_push_size _ rfl) rfl, rfl⟩ isSubtype_stop ?_)
  refine wpAny_pure (hQ _ fun b o nb e => ?_)
  have e1 := Heap.get?_push_of_some { cls := .type "tuple", data := .seq #[] } ((sb.2 b nb).trans e)
  rw [Heap.get?_update_other _ _ (Nat.ne_of_gt (Heap.lt_size e1))]
  exact Heap.get?_push_of_some _ e1
theorem HotAt.past {hx b : Addr} {h h' : Heap} (k : HotAt A hx h) (n : hx ≠ b) (e : Heap.ExtBut b h h') : HotAt A hx h' := by
  obtain ⟨k1, o, vs, k2, k3, k4⟩ := k
  exact ⟨k1, o, vs, e hx o n k2, k3, k4⟩
theorem HotAt.lt {hx : Addr} {h : Heap} (k : HotAt A hx h) : hx < h.objs.size := by
  obtain ⟨_, _, _, k2, _⟩ := k
  exact Heap.lt_size k2
theorem unpackItems_hot {t hx : Addr} {items : Array Value} {Q : List Value → Shared → Prop} (hot : HotAt A hx s.heap) (ht : IsTup s.heap t items) (hQ : ∀ h', Heap.ExtBut s.heap.objs.size s.heap h' → Q items.toList { s with heap := h' }) :
    wpAny (model prog w) A (unpackItems (.ref t) items.size none) Q E s := by
  have tlt : t ≠ s.heap.objs.size := Nat.ne_of_lt ht.lt
  have xlt : hx ≠ s.heap.objs.size := Nat.ne_of_lt (HotAt.lt hot)
  unfold unpackItems
  apply wpAny_bind
  unfold notIterableAtAll
  apply wpAny_bind
  refine wpAny_specialOf ht.typeIs slot_tuple_iter.lookup ?_
  apply wpAny_pure
  simp only [Bool.false_eq_true, if_false]
  apply wpAny_bind
  refine wpAny_holding (iter_tuple ht ?_)
  apply wpAny_bind
  refine wpAny_holding (draw_tuple tlt items.size 0 _ _ ⟨_, Heap.get?_push_size _ rfl, rfl, rfl⟩ (ht.push _) (by omega) fun hp1 it1 same1 => ?_)
  have whole : List.take items.size (List.drop 0 items.toList) = items.toList := by
    rw [List.drop_zero]
    exact List.take_of_length_le (Nat.le_of_eq (by simp))
  rw [whole, if_neg (by simp)]
  have tup1 : IsTup hp1 t items := (ht.push _).extBut same1.extBut tlt
  have hot0 : HotAt A hx (s.heap.push { cls := .type "tuple_iterator", data := .fields #[.ref t, .int 0 0] }) := by
    obtain ⟨k1, o, vs, k2, k3, k4⟩ := hot
    exact ⟨k1, o, vs, Heap.get?_push_of_some _ k2, k3, k4⟩
  apply wpAny_bind
  refine wpAny_holding (tup_end_hot (HotAt.past hot0 xlt same1.extBut) xlt it1 tup1 (by simp) fun hp2 ext2 => ?_)
  simp only [Option.isSome_none, Bool.false_eq_true, if_false]
  exact wpAny_pure (hQ hp2 fun b o nb e => ext2 b o nb (same1.extBut b o nb (Heap.get?_push_of_some _ e)))
theorem assign_tup_hot {env : Env} {elts : List Expr} {k1} {pos : Pos} {t hx : Addr} {items : Array Value} {Q : Unit → Shared → Prop} (hot : HotAt A hx s.heap) (ht : IsTup s.heap t items) (hn : (assignEach elts env).length = items.size) (hstar : (assignEach elts env).findIdx? (·.1) = none)
    (h : ∀ h', Heap.ExtBut s.heap.objs.size s.heap h' → wpAny (model prog w) A (assignInOrder ((assignEach elts env).map (·.2)) items.toList) Q E { s with heap := h' }) : wpAny (model prog w) A (assign (.Tuple elts k1 pos) env (.ref t)) Q E s := by
  rw [assign_Tuple]
  refine wpAny_bind (wpAny_standAt ?_)
  unfold unpack
  rw [hn, hstar]
  exact wpAny_bind (wpAny_holding (unpackItems_hot hot ht h))
end
section
variable {X : Cx} {tg : Expr}
/-- (a, ..) as a target, while an exception is handled -/
theorem pg_tupH {es : List Expr} {kk : Nat} {pos : Pos} {t : TGs} {n : Nat} (hc : HotC X) (h : PGs X es t) (hn : (assignEach es X.env).length = n := by rfl) (hst : (assignEach es X.env).findIdx? (·.1) = none := by rfl) : PG X (.Tuple es kk pos) (gTup X.K n t) := by
  constructor
  intro pins s σ H v u Q I r want
  obtain ⟨a, xs, rfl, sq, len, more⟩ := want
  cases r
  obtain ⟨x1, hot⟩ := hc.at I
  obtain ⟨its, rv, tup, _⟩ := I.tuple sq
  refine assign_tup_hot hot tup (by simp [hn, ← len, rv.length]) hst fun hp ext => ?_
  have I1 : Inv X pins σ H { s with heap := hp } := I.kept (t' := s.toks) fun b o e => ext b o (Nat.ne_of_lt (Heap.lt_size e)) e
  exact h.run pins _ σ H xs _ Q I1 (by simpa using rv) more
theorem turn_listH {P : Program} {w : World} {K : PySem.W.Frag} (a it : Addr) : TurnH P w K tg (Itl K a) [it] it (fun i h => h.IsListIter it a i) where
  mem := (turn_list (P := P) (w := w) (K := K) (tg := tg) a it).mem
  obj := (turn_list (P := P) (w := w) (K := K) (tg := tg) a it).obj
  keep := (turn_list (P := P) (w := w) (K := K) (tg := tg) a it).keep
  self := (turn_list (P := P) (w := w) (K := K) (tg := tg) a it).self
  item := by
    rintro X rfl rfl rfl hc i pins s σ H E I free at_ ⟨xs, x, sq, hx⟩
    obtain ⟨its, rv, p, _⟩ := I.list sq
    obtain ⟨u, hu, ru⟩ := rv.get hx
    obtain ⟨g0, g1, g2, g3, g4, g5⟩ := free it (List.mem_singleton.mpr rfl)
    refine wpAny_pyNext_list_item at_ p.isList (x := u) (by simpa using hu) fun hp at1 sb => ?_
    have I1 : Inv X pins σ H { s with heap := hp } := I.turned (t' := s.toks) (fun b o nb e => (sb.2 b nb).trans e) g0 g1 g3 g4 g5
    have at2 := at1
    obtain ⟨o, e, c, d⟩ := at2
    exact ⟨u, rfl, go_of (s := { s with heap := hp }) e c d (by decide) ⟨x, H, I1, ru, ⟨rfl, fun ys hy => by rw [I.list_inj hy sq]; exact hx⟩, at1, fun b hb => (free b hb).1⟩⟩
  done := by
    rintro X rfl rfl rfl hc i pins s σ H E I free at_ ⟨xs, sq, hx⟩
    obtain ⟨its, rv, p, _⟩ := I.list sq
    obtain ⟨g0, g1, g2, g3, g4, g5⟩ := free it (List.mem_singleton.mpr rfl)
    have len := rv.length
    obtain ⟨q, hq1, hq2⟩ := hc
    obtain ⟨hd, vs, dv, cv⟩ := hq1
    have hot : HotAt X.A q.1 s.heap := ⟨hd, q.2, vs, (I.pin q (List.mem_append_left _ hq2)).1, dv, cv⟩
    have dif : q.1 ≠ it := g5 q (List.mem_append_left _ hq2)
    exact list_end_hot hot dif at_ p.isList (by simp; omega) fun hp ext => ⟨rfl, I.turned (t' := s.toks) (fun b o nb e => ext b o nb e) g0 g1 g3 g4 g5⟩
end
end KwX
set_option Elab.async false
set_option linter.all false
set_option maxRecDepth 100000
set_option maxHeartbeats 4000000
/-! a list comprehension while an exception is handled -/
namespace KwX
open PySem PySem.Spec PyProof.Rows L2 HotX L2H
/-- the context of the block, which still bears what is pinned -/
abbrev blkH (X : Cx) (s : Shared) (H : Hp) (scope : Scope) (cenv : Env) (fp : List Addr) : Cx := (X.blk s H scope cenv fp).tr X.pn (fun _ _ => False)
section
variable {X : Cx} {tg : Expr}
theorem pi_listH {l : Expr} {tl : TE} (hl : PE X l tl) : PIH X tg l (iList X.K tl) := by
  constructor
  intro pins s σ H R I want
  refine thn (hl.run pins s σ H _ I want) fun v s1 got => ?_
  obtain ⟨x, H1, I1, rel, a, rfl, ⟨xs, sq⟩, more⟩ := got
  cases rel
  obtain ⟨its, rv, p, _⟩ := I1.list sq
  refine wpAny_pyIter_list p.isList ?_
  have I2 := I1.kept (t' := s1.toks) (h' := s1.heap.push { cls := .type "list_iterator", data := .fields #[.ref a, .int 0 0] }) fun b o e => Heap.get?_push_of_some _ e
  exact ⟨s1.heap.objs.size, [s1.heap.objs.size], _, _, H1, rfl, I2, turn_listH a _, ⟨_, Heap.get?_push_size _ rfl, rfl, rfl⟩, fun b hb => by
    cases List.mem_singleton.mp hb
    exact I1.fpOk (Nat.le_refl _) (I1.hok.fresh (Nat.le_refl _)), more⟩
theorem blockH {pins : List (Addr × Obj)} {σ : L2.St} {H : Hp} {s : Shared} {scope : Scope} {own : List (Str × Nat)} {fp : List Addr} (I : Inv X pins σ H s) (ok : BlkOk X.N X.env.scope scope own) (nd : X.N.Nodup) (hfp : ∀ b ∈ fp, FpOk X pins H b ∧ b < s.heap.objs.size) :
    Inv (blkH X s H scope (compEnvC scope (cellsFrom (s.heap.objs.size + 1) scope.names (cloFrom X.env.cells scope.names [])) s.heap.objs.size X.env) fp) [] (wipe σ (own.map (·.2))) H { s with heap := pushCells (s.heap.push { cls := .type "dict", data := .dict #[] }) scope.names } := by
  have J := block_start I ok nd hfp
  refine ⟨J.ok.toTry _ _, J.os, J.bare, J.base, J.loc, J.cell, J.free, J.freeC, fun p hp => ?_, J.hok, J.len⟩
  have hp' : p ∈ X.pn := by
    have : p ∈ X.pn ++ [] := hp
    rw [List.append_nil] at this
    exact this
  obtain ⟨g1, g2, g3, g4, g5⟩ := I.pin p (List.mem_append_left _ hp')
  refine ⟨pushCells_keeps _ _ _ _ (Heap.get?_push_of_some _ g1), g2, Nat.ne_of_lt (Heap.lt_size g1), fun z => ?_, g5⟩
  rcases List.mem_cons.mp (I.stkSub _ z) with e | e
  · exact g3 e
  · exact g4 e
end
end KwX
set_option Elab.async false
set_option linter.all false
set_option maxRecDepth 100000
set_option maxHeartbeats 4000000
namespace KwX
open PySem PySem.Spec PyProof.Rows L2 HotX L2H
section
variable {X : Cx}
/-- [elt for tg in iter if ..] as a value, while an exception is handled -/
theorem pe_lcH {elt tg iter : Expr} {ifs : List Expr} {scope : Scope} {own : List (Str × Nat)} {pos : Pos} {wi : TI} {g : TG} {tt : TT} {te : TE} (hc : HotC X) (nd : X.N.Nodup) (hi : PIH X tg iter wi) (ok : BlkOk X.N X.env.scope scope own)
    (hg : ∀ (s : Shared) (H : Hp) (C : Addr) (cl : List (Str × Addr)) (fp : List Addr), PG (blkH X s H scope (compEnvC scope cl C X.env) fp) tg g) (ht : ∀ (s : Shared) (H : Hp) (C : Addr) (cl : List (Str × Addr)) (fp : List Addr), PTs (blkH X s H scope (compEnvC scope cl C X.env) fp) ifs tt)
    (he : ∀ (s : Shared) (H : Hp) (C : Addr) (cl : List (Str × Addr)) (fp : List Addr), PE (blkH X s H scope (compEnvC scope cl C X.env) fp) elt te) (hs : ∀ x, foldedSetIterable iter X.env x = pure x := by intro _; rfl) :
    PE X (.ListComp elt [⟨tg, iter, ifs, 0⟩] scope pos) (tLc wi g tt te (own.map (·.2))) := by
  constructor
  intro pins s0 σ H0 Q I want
  rw [eval_ListComp]
  have caught : ∀ y ∈ scope.names, y.2 = .free → ∃ c, X.env.cells.lookup y.1 = some c := by
    intro y hy e
    rcases ok.free y hy e with k | k
    · exact I.ok.has _ (.inl k)
    · exact I.ok.has _ (.inr k)
  refine wpAny_comprehension_free (use := none) rfl hs (closure_ok caught) ok.kind (fun y hy e => by rw [ok.uniq y hy, e]) (thn (hi.run pins s0 σ H0 _ I want) fun xv sa ha => thn ha fun itv sb hb => ?_)
  obtain ⟨it, fp, tn, J, Hb, rfl, Ib, T, tn0, free0, goal⟩ := hb
  refine wpAny_newObj_type (newEnv_comp ?_) (by show 0 ≤ sizeLine; decide)
  have newD : Hb sb.heap.objs.size = none := Ib.hok.fresh (Nat.le_refl _)
  obtain ⟨W, ⟨m0, w0⟩, turn⟩ := goal sb.heap.objs.size newD
  generalize eL : sb.heap.objs.size = L at newD w0 turn ⊢
  generalize eC : ({ sb with heap := sb.heap.push { cls := .type "list", data := .seq ([] : List Value).toArray } } : Shared) = sc
  have hpC : sc.heap = sb.heap.push { cls := .type "list", data := .seq ([] : List Value).toArray } := by rw [← eC]
  have Ic : Inv X pins σ (upd Hb L (.lst [])) sc := by
    rw [← eC]
    refine Ib.laid (t' := sb.toks) (fun b o e => Heap.get?_push_of_some _ e) (Nat.le_of_eq eL) ⟨Nat.zero_le _, [], 0, .nil, ?_⟩
    rw [← eL]
    exact Heap.get?_push_size _ rfl
  have small : ∀ b ∈ fp, b < sb.heap.objs.size := by
    intro b hb
    obtain ⟨o, e, _⟩ := T.obj _ _ tn0 b hb
    exact Heap.lt_size e
  have freeC : ∀ b ∈ fp, FpOk X pins (upd Hb L (.lst [])) b ∧ b < sc.heap.objs.size := by
    intro b hb
    have lt := small b hb
    refine ⟨⟨?_, (free0 b hb).2⟩, by rw [hpC, Heap.size_push]; exact Nat.lt_succ_of_lt lt⟩
    rw [upd_ne (by rw [← eL]; exact Nat.ne_of_lt lt)]
    exact (free0 b hb).1
  have tnC : tn 0 sc.heap := T.keep _ _ _ tn0 fun b _ o e => by
    rw [hpC]
    exact Heap.get?_push_of_some _ e
  have Id := blockH Ic ok nd freeC
  have pg := hg sc (upd Hb L (.lst [])) sc.heap.objs.size (cellsFrom (sc.heap.objs.size + 1) scope.names (cloFrom X.env.cells scope.names [])) fp
  have pt := ht sc (upd Hb L (.lst [])) sc.heap.objs.size (cellsFrom (sc.heap.objs.size + 1) scope.names (cloFrom X.env.cells scope.names [])) fp
  have pe := he sc (upd Hb L (.lst [])) sc.heap.objs.size (cellsFrom (sc.heap.objs.size + 1) scope.names (cloFrom X.env.cells scope.names [])) fp
  have none0 : ∀ b ∈ fp, (upd Hb L (.lst [])) b = none := fun b hb => (freeC b hb).1.1
  change codeAny _ _ (.compStart (.ListComp elt [⟨tg, iter, ifs, 0⟩] scope pos) 0 (.ref it) (.ref L) (compEnvC scope (cellsFrom (sc.heap.objs.size + 1) scope.names (cloFrom X.env.cells scope.names [])) sc.heap.objs.size X.env)) (compPost (model X.prog X.w) X.A X.xe none _ (.ref L) sc.heap.objs.size) { sc with heap := pushCells (sc.heap.push { cls := .type "dict", data := .dict #[] }) scope.names }
  generalize eE : compEnvC scope (cellsFrom (sc.heap.objs.size + 1) scope.names (cloFrom X.env.cells scope.names [])) sc.heap.objs.size X.env = ce at Id pg pt pe ⊢
  have locE : ce.locals = sc.heap.objs.size := by
    subst eE
    rfl
  generalize eH : upd Hb L (.lst []) = Hc at Ic Id pg pt pe w0 none0 freeC
  generalize eS : ({ sc with heap := pushCells (sc.heap.push { cls := .type "dict", data := .dict #[] }) scope.names } : Shared) = sd at Id ⊢
  have tnD : tn 0 sd.heap := T.keep _ _ _ tnC fun b _ o e => by
    rw [← eS]
    exact pushCells_keeps _ _ _ _ (Heap.get?_push_of_some _ e)
  have still : ∀ {τ : L2.St} {G : Hp} {sx : Shared}, Inv (blkH X sc Hc scope ce fp) [] τ G sx → (∀ b ∈ fp, G b = none) → ∀ b ∈ fp, FpOk (blkH X sc Hc scope ce fp) [] G b := by
    intro τ G sx Ix hn b hb
    refine ⟨hn b hb, (Ix.ok.exf b hb).1, Ix.ok.exfs b hb, .inl hb, fun x c e => (Ix.ok.exf b hb).2 x c e, fun p hp => ?_⟩
    have hp' : p ∈ X.pn ++ [] := hp
    rw [List.append_nil] at hp'
    exact (freeC b hb).1.2.2.2.2.2 p (List.mem_append_left _ hp')
  have loop : codeAny (model X.prog X.w) X.A (.compLoop (.ListComp elt [⟨tg, iter, ifs, 0⟩] scope pos) 0 (.ref it) (.ref L) ce) (compPost (model X.prog X.w) X.A X.xe none (fun v s1 => EP X pins σ Q v s1) (.ref L) sc.heap.objs.size) sd := by
    refine compLoop_any (fun n sx => ∃ i G, Inv (blkH X sc Hc scope ce fp) [] (wipe σ (own.map (·.2))) G sx ∧ tn i sx.heap ∧ (∀ b ∈ fp, G b = none) ∧ W i n G) ?_ m0 ⟨0, Hc, Id, tnD, none0, w0⟩
    rintro n s5 ⟨i, G5, I5, tn5, n5, w5⟩
    rcases turn i n G5 w5 with ⟨stop, fin⟩ | ⟨go, Nx, hNx, step⟩
    · refine thnF (T.done (blkH X sc Hc scope ce fp) rfl rfl rfl hc i [] s5 _ G5 (fun _ _ => False) I5 (still I5 n5) tn5 stop) fun r s6 got => ?_
      obtain ⟨rfl, I6⟩ := got
      have I7 : Inv X pins σ G5 s6 := Ic.call' (ch := fp) I6.os I6.base I6.hok I6.bare fun b hb => ⟨(freeC b hb).1.2.2.2.1, (freeC b hb).1.2.1, (freeC b hb).1.2.2.2.2.1, (freeC b hb).1.2.2.2.2.2⟩
      have noneC : G5 sc.heap.objs.size = none := by
        have z : G5 ce.locals = none := I6.free
        rw [locE] at z
        exact z
      obtain ⟨m, hn, _⟩ := I6.loc
      have hn' : s6.heap.Ns ce.locals m := hn
      rw [locE] at hn'
      refine ⟨m, hn', fun h'' sb' => ?_⟩
      obtain ⟨f0, f1, f2, f3, f4, f5⟩ := Ic.fpOk (Nat.le_refl _) noneC
      exact ⟨.ref L, G5, I7.turned (t' := s6.toks) (fun b o hb e => (sb'.2 b hb).trans e) f0 f1 f3 f4 f5, rfl, fin⟩
    · refine thnF (T.item (blkH X sc Hc scope ce fp) rfl rfl rfl hc i [] s5 _ G5 (fun _ _ => False) I5 (still I5 n5) tn5 go) fun r s6 got => ?_
      obtain ⟨u, rfl, h6⟩ := got
      refine thnF h6 fun _ s7 got7 => ?_
      obtain ⟨x, G7, I7, r7, y7, tn7, n7⟩ := got7
      have I7' := I7.pinned (still I7 n7) (T.obj _ _ tn7)
      refine thnF (pg.run _ s7 _ G7 x u _ I7' r7 (step x G7 y7)) fun _ s8 got8 => ?_
      obtain ⟨σ8, G8, I8, hw8, q8⟩ := got8
      refine thnF (pt.run _ s8 σ8 G8 _ I8 q8) fun b s9 got9 => ?_
      obtain ⟨G9, I9, q9⟩ := got9
      have over : ∀ {sx : Shared} {G : Hp}, Inv (blkH X sc Hc scope ce fp) ([] ++ pinsAt fp s7.heap) σ8 G sx → Nx G → ∃ m, m < n ∧ ∃ i G, Inv (blkH X sc Hc scope ce fp) [] (wipe σ (own.map (·.2))) G sx ∧ tn i sx.heap ∧ (∀ b ∈ fp, G b = none) ∧ W i m G := by
        intro sx G Ix nx
        obtain ⟨m', hm, w'⟩ := hNx G nx
        have held : ∀ b ∈ fp, ∀ o, s7.heap.get? b = some o → sx.heap.get? b = some o ∧ G b = none := fun b hb o e =>
          have z := Ix.pin (b, o) (List.mem_append_right _ (List.mem_append_right _ (mem_pinsAt hb e)))
          ⟨z.1, z.2.1⟩
        have len8 : (wipe σ (own.map (·.2))).length = σ8.length := by rw [← hw8, wipe_length]
        refine ⟨m', hm, i + 1, G, (Ix.unpinned (pins := [])).weak len8 (fun j v e => ?_), T.keep _ _ _ tn7 fun b hb o e => (held b hb o e).1, fun b hb => ?_, w'⟩
        · rw [← hw8] at e
          exact (wipe_some e).1
        · obtain ⟨o, e, _⟩ := T.obj _ _ tn7 b hb
          exact (held b hb o e).2
      cases b with
      | false =>
        simp only [Bool.false_eq_true, if_false] at q9 ⊢
        exact over I9 q9
      | true =>
        simp only [if_true] at q9 ⊢
        refine thnF (pe.run _ s9 σ8 G9 _ I9 q9) fun z s10 got10 => ?_
        obtain ⟨yv, G10, I10, r10, acc, hD10, hz10, nx⟩ := got10
        exact app_ok (X := blkH X sc Hc scope ce fp) I10 hD10 hz10 r10 fun s11 I11 => over I11 nx
  exact codeAny_compStart_list loop (T.self X.A 0 _ _ _ tnD loop)
end
end KwX
set_option Elab.async false
set_option linter.all false
set_option maxRecDepth 100000
set_option maxHeartbeats 4000000
/-! a lambda with parameters that captures nothing: made, handed on, called by a local name -/
namespace KwX
open PySem PySem.Spec PyProof.Rows L2 LamX NdefX
/-- the object at f is the lambda F (its words but the body), body b -/
def LamO (f : Addr) (F : NF) (b : Expr) : HO := .ext fun h => ∃ (od : Option Addr) (sl : Array (Option Value)) (pm ctv : Value), h.get? f = some (⟨.type "function", od, .func (PySem.W.kla_fn F.name F.qual F.params b F.scope F.cl pm (.ref F.c) ctv), sl⟩ : Obj)
theorem lamO_ne {f : Addr} {F : NF} {b : Expr} (ps : Array Value) : LamO f F b ≠ .tbl ps := fun z => by
  unfold LamO at z
  cases z
theorem lamO_at {P : Program} {w : World} {H : Hp} {h : Heap} {f : Addr} {F : NF} {b : Expr} (hok : HOk P w H h) (e : H f = some (LamO f F b)) :
    ∃ (od : Option Addr) (sl : Array (Option Value)) (pm ctv : Value), h.get? f = some (⟨.type "function", od, .func (PySem.W.kla_fn F.name F.qual F.params b F.scope F.cl pm (.ref F.c) ctv), sl⟩ : Obj) := (hok f _ e).1
section
variable {X : Cx} {pins : List (Addr × Obj)} {σ : L2.St} {H : Hp} {s : Shared}
theorem inv_lam {F : NF} {b : Expr} {o : Obj} {t' : Nat} {pm ctv : Value} (I : Inv X pins σ H s) (ho : o = { cls := .type "function", data := .func (PySem.W.kla_fn F.name F.qual F.params b F.scope F.cl pm (.ref F.c) ctv) }) :
    Inv X pins σ (upd H s.heap.objs.size (LamO s.heap.objs.size F b)) { s with heap := s.heap.push o, toks := t' } := by
  have at_ : (s.heap.push o).get? s.heap.objs.size = some o := Heap.get?_push_size _ (by rw [ho]; rfl)
  have at2 : (s.heap.push o).get? s.heap.objs.size = some { cls := .type "function", data := .func (PySem.W.kla_fn F.name F.qual F.params b F.scope F.cl pm (.ref F.c) ctv) } := by
    rw [at_, ho]
  exact I.laid (a := s.heap.objs.size) (fun c u e => Heap.get?_push_of_some _ e) (Nat.le_refl _) ⟨⟨_, _, pm, ctv, at2⟩, ⟨_, at2⟩, fun h1 h2 ⟨od, sl, p, t, z⟩ stay => ⟨od, sl, p, t, stay _ z⟩⟩
end
/-- lambda ..: body, as a value -/
def tLamV (T : List (Addr × Str)) (mk : Addr → NF) (b : Expr) : TE := fun σ H Q => Tabs T H ∧ ∀ (f c' : Addr) (H1 : Hp), ExtN H H1 → (∀ y, H1 y = none → H y = none) → Tabs T H1 → H f = none → H1 f = some (LamO f (mk c') b) → H1 c' = some (CodeO c' (mk c').qual) → Q (.ref f) H1
section
variable {X : Cx}
theorem pe_lamV {T : List (Addr × Str)} {c P : Addr} {params : Arguments} {body : Expr} {scope : Scope} {pos : Pos} (TB : TabB X.base X.mg c P) (hcode : X.env.code = .ref c) (hm : (P, X.env.qual ++ "<lambda>") ∈ T) (hu : ∀ p ∈ T, p.1 = P → p.2 = X.env.qual ++ "<lambda>")
    (hdef : defaultsOf params X.env = ([], [])) (nofree : ∀ y ∈ scope.names, y.2 ≠ .free) (hcl : ∀ cells, cloFrom cells scope.names [] = []) :
    PE X (.Lambda params body scope pos) (tLamV T (fun c' => ⟨"<lambda>", X.env.qual ++ "<lambda>", params, [], scope, [], c'⟩) body) := by
  constructor
  intro pins s σ H Q I want
  obtain ⟨tabs, k⟩ := want
  obtain ⟨ps, gP, tri, each⟩ := tabs _ hm
  refine PySem.W.kla_eval hdef ?_
  have clo : closureFor scope X.env = pure [] := by
    have := closure_ok (env := X.env) (scope := scope) (fun y hy e => absurd e (nofree y hy))
    rw [hcl] at this
    exact this
  have blt : s.heap.BuiltinsAt X.mg P := TB.bm.keeps I.bk
  have gP' : s.heap.get? P = some { cls := .none, data := .fields ps } := I.hok P _ gP
  cases found : codeAmong pos ps.toList with
  | some cv =>
    obtain ⟨c', rfl, hco⟩ := each pos cv found
    refine PySem.W.kla_makeFunctionHit (mg := X.mg) (c := c) (P := P) (ps := ps) clo I.ok.glob (I.mod.glob.keeps I.bk) hcode (TB.code.keeps I.bk) gP' tri found blt fun ctv hp tk keep _ => ?_
    have I1 : Inv X pins σ H { s with heap := hp, toks := tk } := I.kept keep
    have new1 : H hp.objs.size = none := I1.hok.fresh (Nat.le_refl _)
    have I2 := inv_lam (F := ⟨"<lambda>", X.env.qual ++ "<lambda>", params, [], scope, [], c'⟩) (b := body) (t' := tk) (pm := (X.mg "__name__").getD .none) (ctv := ctv) I1 rfl
    have past : ∀ b o, H b = some o → upd H hp.objs.size (LamO hp.objs.size ⟨"<lambda>", X.env.qual ++ "<lambda>", params, [], scope, [], c'⟩ body) b = some o := fun b o e => (upd_ne (ne_of_none e new1)).trans e
    exact ⟨.ref hp.objs.size, _, I2, rfl, k _ c' _ (ExtN.of past) (fun y e => upd_none e) (tabs.ext past) new1 upd_same (past _ _ hco)⟩
  | none =>
    refine PySem.W.kla_makeFunction (mg := X.mg) (c := c) (P := P) (ps := ps) clo I.ok.glob (I.mod.glob.keeps I.bk) hcode (TB.code.keeps I.bk) gP' tri found TB.gP blt fun c' ctv hp tk ext ge lt rec_ tab => ?_
    obtain ⟨c2, oc, vs, t, e2, hoc, hd, hv⟩ := rec_
    cases e2
    have newC : H c' = none := I.hok.fresh ge
    have I1 := inv_table (t' := tk) (more := #[rawInt pos.line, rawInt pos.col, .ref c']) (h' := hp) I gP (fun b o hb e => ext b o hb e) tab ge ⟨oc, vs, t, hoc, hd, hv⟩
    have past : ExtN H (upd (upd H P (.tbl (ps ++ #[rawInt pos.line, rawInt pos.col, .ref c']))) c' (CodeO c' (X.env.qual ++ "<lambda>"))) := by
      intro b o e n
      rw [upd_ne (ne_of_none e newC), upd_ne (fun z => n ps (Option.some.inj (e.symm.trans (by rw [z]; exact gP))))]
      exact e
    have app : (ps ++ #[rawInt pos.line, rawInt pos.col, .ref c']).toList = ps.toList ++ [rawInt pos.line, rawInt pos.col, .ref c'] := by simp
    have tabs1 : Tabs T (upd (upd H P (.tbl (ps ++ #[rawInt pos.line, rawInt pos.col, .ref c']))) c' (CodeO c' (X.env.qual ++ "<lambda>"))) := by
      intro p hp'
      by_cases same : p.1 = P
      · rw [hu p hp' same, same]
        refine ⟨_, by rw [upd_ne (ne_of_none gP newC), upd_same], by rw [app]; exact PySem.TriplesOk_snoc _ _ _ _ tri, fun p' cv hcv => ?_⟩
        rw [app] at hcv
        rcases among_app _ tri hcv with z | z
        · obtain ⟨c0, e1, e2⟩ := each p' cv z
          exact ⟨c0, e1, past _ _ e2 codeO_ne⟩
        · exact ⟨c', z, upd_same⟩
      · obtain ⟨ps', a1, a2, a3⟩ := tabs p hp'
        refine ⟨ps', by rw [upd_ne (ne_of_none a1 newC), upd_ne same]; exact a1, a2, fun p' cv hcv => ?_⟩
        obtain ⟨c0, e1, e2⟩ := a3 p' cv hcv
        exact ⟨c0, e1, past _ _ e2 codeO_ne⟩
    have newF := I1.hok.fresh (Nat.le_refl _)
    have I2 := inv_lam (F := ⟨"<lambda>", X.env.qual ++ "<lambda>", params, [], scope, [], c'⟩) (b := body) (t' := tk) (pm := (X.mg "__name__").getD .none) (ctv := ctv) I1 rfl
    refine ⟨.ref hp.objs.size, _, I2, rfl, k _ c' _ (fun b o e n => ?_) (fun b e => upd_none (upd_none (upd_none e))) (tabs1.ext fun b o e => ?_) (I.hok.fresh (Nat.le_trans ge (Nat.le_of_lt lt))) upd_same ?_⟩
    · have e1 := past b o e n
      exact (upd_ne (ne_of_none e1 newF)).trans e1
    · exact (upd_ne (ne_of_none e newF)).trans e
    · exact (upd_ne (Nat.ne_of_lt lt)).trans upd_same
end
/-- what a lambda of the words F, body b, promises wherever it lies -/
structure LOk (P : Program) (w : World) (K : PySem.W.Frag) (mg : Str → Option Value) (base : Heap) (CX : CXT) (k : Nat) (F : NF) (b : Expr) (ps : List Str) (sp : Sp) : Prop where
  len : ∀ vs H Q E, sp vs H Q E → vs.length = ps.length
  run : ∀ (f : Addr) (A : Around) (outer : List Env) (s : Shared) (H : Hp) (us : List Value) (vs : List V) (Q : VK) (E : XK), Room k A → Env0 P w K mg base A outer s H → H f = some (LamO f F b) → H F.c = some (CodeO F.c F.qual) → Vals vs us → sp vs H Q E →
    codeAny (model P w) A (.call (.ref f) ⟨us, []⟩) (CR CX outer P w H s Q E) s
section
variable {CX : CXT} {P : Program} {w : World} {K : PySem.W.Frag} {mg : Str → Option Value} {base : Heap} {N ps : List Str} {F : NF} {b : Expr} {k j : Nat} {sp : Sp}
theorem lok_of (S : NScope N ps [] F.scope) (cl0 : F.cl = []) (hb : ∀ (pm ctv : Value) (us : List Value), us.length = ps.length → bindArgs (PySem.W.kla_fn F.name F.qual F.params b F.scope F.cl pm (.ref F.c) ctv) ⟨us, []⟩ = pure (ps.zip us)) (len : ∀ vs H Q E, sp vs H Q E → vs.length = ps.length)
    (body : ∀ (f : Addr) (A : Around) (outer : List Env) (s : Shared) (H : Hp) (vs : List V) (Q : VK) (E : XK), Room k (A.deeper (envF F f s.heap.objs.size)) → sp vs H Q E → ∃ t, PE (ncx CX P w K mg base N F f A outer s H E) b t ∧ t (startF N vs []) H Q) : LOk P w K mg base CX (k + 1) F b ps sp := by
  refine ⟨len, fun f A outer s H us vs Q E hr e0 hf hc r hsp => ?_⟩
  have hl := len _ _ _ _ hsp
  have lim : s.heap.NoLimit := e0.mod.nolimit.keeps fun b o e => (e0.bs b o e).1
  obtain ⟨od, sl, pm, ctv, ho⟩ := lamO_at e0.hok hf
  refine PySem.W.kla_callFunE hr.depth ho rfl S.co S.gen rfl (codeO_at e0.hok hc) ?_
  rw [hb pm ctv us (by rw [← r.length]; exact hl)]
  refine wpAny_pure (wpAny_newFunctionEnv S.nocell (fun ⟨n, _⟩ hy => S.par n (List.of_mem_zip hy).1) (fun hp hns hsb => ⟨lim.fresh _ hsb, ?_⟩) S.kind)
  change codeAny _ _ (.expr b (envF F f s.heap.objs.size)) _ _
  have kp : ∀ b o, s.heap.get? b = some o → hp.get? b = some o := fun b o e => hsb.extBut b o (Nat.ne_of_lt (Heap.lt_size e)) (Heap.get?_push_of_some _ e)
  obtain ⟨t, ht, hq⟩ := body f A outer s H vs Q E (hr.deeper _) hsp
  have C : CellsAt F.cl [] [] s.heap H := by
    rw [cl0]
    exact ⟨rfl, (fun y c e => by cases e), (fun x y c e => by cases e), (fun i y e => by cases e)⟩
  have I : Inv (ncx CX P w K mg base N F f A outer s H E) [] (startF N vs []) H { s with heap := hp, toks := s.toks + (ps.zip us).length } := inv_startN S hr.hd e0 hl r C hns kp
  refine PySem.W.kla_codeExpr (wpAny_mono (ht.run [] _ _ H Q I hq) (fun v s' got => ?_) fun e s' got => got)
  obtain ⟨w', H', J, rv, q⟩ := got
  exact ⟨w', H', J.os, J.bare, J.base, J.hok, rv, q⟩
end
/-- x(e, ..), x a local name that holds a lambda of the words F c', body b -/
def tCallV (mk : Addr → NF) (b : Expr) (i : Nat) (sp : Sp) (E : L2.St → XK) (t : TA) : TE := fun σ H Q => ∃ f c', σ[i]? = some (some (.ref f)) ∧ H f = some (LamO f (mk c') b) ∧ t σ H fun vs H1 => H1 f = some (LamO f (mk c') b) ∧ H1 (mk c').c = some (CodeO (mk c').c (mk c').qual) ∧ sp vs H1 Q (E σ)
section
variable {X : Cx} {CX : CXT} {mk : Addr → NF} {b : Expr} {ps : List Str} {i j k : Nat} {x : Str} {sp : Sp} {E : L2.St → XK} {t : TA} {e : Expr} {es : List Expr} {p pos : Pos}
theorem lamAt_of {pins : List (Addr × Obj)} {σ : L2.St} {H : Hp} {s : Shared} {f : Addr} {F : NF} (I : Inv X pins σ H s) (e : H f = some (LamO f F b)) : PySem.W.FnAt f s.heap := by
  obtain ⟨od, sl, pm, ctv, ho⟩ := lamO_at I.hok e
  exact ⟨_, od, _, sl, ho⟩
theorem pe_callV (L : ∀ c', LOk X.prog X.w X.K X.mg X.base CX k (mk c') b ps sp) (hr : Room j X.A) (hk : k ≤ j) (hx : ∀ σ, PassesAt CX X σ (E σ)) (hN : X.N[i]? = some x) (hv : Vis X.env.scope x) (ha : PA X (e :: es) t)
    (hd : (x == ("__debug__" : Str)) = false := by decide) (hcd : (x == ("__classdict__" : Str)) = false := by decide)
    (he : starEach (e :: es) X.env = (false, eval e X.env) :: starEach es X.env := by rfl) (hpl : (backTo pos (starEach es X.env)).any (·.1) = false := by rfl) :
    PE X (.Call (.Name x p) (e :: es) [] pos) (tCallV mk b i sp E t) := by
  constructor
  intro pins s σ H Q I want
  obtain ⟨f, c', hs, hf, ht⟩ := want
  refine wpAny_Call_Name_kw (thn ((pe_var (pos := p) hN hv hd hcd).run pins s σ H (fun v H1 => v = .ref f ∧ H1 = H) I ⟨.ref f, hs, rfl, rfl⟩) fun u s1 got => ?_)
  obtain ⟨v, H1, I1, r1, ev, eH⟩ := got
  subst ev
  rw [eH] at I1
  obtain rfl : u = Value.ref f := r1
  refine PySem.W.callWith_F (first := []) (lamAt_of I1 hf) (thn (ha.run pos pins s1 σ H _ I1 ht) fun us s2 got2 => ?_) he hpl
  obtain ⟨vs, H2, I2, r, h1, h2, q⟩ := got2
  refine ⟨lamAt_of I2 h1, ?_⟩
  change wpAny _ _ (call (.ref f) us) _ _ _
  refine wpAny_call (codeAny_mono ((L c').run f X.A X.stack s2 H2 us vs Q (E σ) (hr.mono hk) I2.env0 h1 h2 r q) fun res s3 got3 => ?_)
  cases res with
  | error ev => exact hx σ pins H2 s2 ev s3 I2 got3
  | ok fl =>
    cases fl with
    | ret u => exact I2.after got3
    | next => exact False.elim got3
    | brk => exact False.elim got3
    | cont => exact False.elim got3
end
end KwX
set_option Elab.async false
set_option linter.all false
set_option maxRecDepth 100000
set_option maxHeartbeats 4000000
namespace Kw
open PySem PySem.Spec PyProof.Rows L2 Evl KwX NdefX LamX
/-- what an error class of the program, made of a text, must say -/
structure ExcT (K : PySem.W.Frag) (mg : Str → Option Value) (x : Str) (C : Addr) : Prop where
  g : mg x = some (.ref C)
  q : PySem.W.excIn K C [.type "ValueError", .type "Exception", .type "BaseException", .type "object"] "ValueError.__new__" = true
  k : PySem.W.keepIn K (.ref C) = true
  b : PySem.W.subIn K (.ref C) (.type "BaseException") = some true
  t : PySem.W.typeIn K (.ref C) = some (.type "type")
theorem keepN {H H' : Hp} (e : ExtN H H') : KeepT H H' := fun b xs r => by
  rcases r with h | ⟨o, h⟩
  · exact .inl (e b _ h fun ps z => by cases z)
  · exact .inr ⟨o, e b _ h fun ps z => by cases z⟩
theorem ExtN.ex {H H' : Hp} (e : Ex H H') : ExtN H H' := fun b o h _ => e b o h
section
variable {P : Program} {w : World} {K : PySem.W.Frag} {mg : Str → Option Value} {base : Heap}
/-- a def that may raise -/
theorem okN {x qual : Str} {st : Stmt} {f : Addr} {fd : FuncData} {N ps : List Str} {k : Nat} {sp : Sp} (F : Fun K x qual st f fd) (S : FnScope N ps (defScope st)) (len : ∀ vs H Q E, sp vs H Q E → vs.length = ps.length)
    (body : ∀ (cdv : Value) (A : Around) (outer : List Env) (s : Shared) (H : Hp) (vs : List V) (Q : VK) (E : XK), Room k (A.deeper (envOfC qual (defScope st) s.heap.objs.size f cdv)) → sp vs H Q E →
      ∃ t, PSs (cxOf (L2N.CX P w) P w K mg base N qual (defScope st) f cdv A outer s H E) (defBody st) t ∧ t { nx := fun _ H' => Q .non H', rt := Q } (start N vs) H) : FnOk P w K mg base (L2N.CX P w) (k + 1) f fd ps sp := by
  obtain ⟨oc, od, kV, doc, pm, an, cdv, ct, osl, rfl, lk, hcd⟩ := F.ex
  exact fn_of lk hcd S len fun A outer s H vs Q E hr hsp => body cdv A outer s H vs Q E hr hsp
/-- a def that makes lambdas: its code's table is known -/
theorem okT {x : Str} {st : Stmt} {f c : Addr} {N ps : List Str} {k : Nat} {sp : Sp} {kV doc pm ct oc : Value} {an od : Option Addr} {osl : Array (Option Value)} (lk : K.lookup f = some ⟨oc, od, .func (PySem.W.fnOf x x (defArgs st) (defBody st) (defScope st) .none kV doc pm an (.ref c) ct), osl⟩) (hcd : PySem.W.codeIn K (.ref c) x = true)
    (S : FnScope N ps (defScope st)) (len : ∀ vs H Q E, sp vs H Q E → vs.length = ps.length)
    (body : ∀ (A : Around) (outer : List Env) (s : Shared) (H : Hp) (vs : List V) (Q : VK) (E : XK), Room k (A.deeper (envOfC x (defScope st) s.heap.objs.size f (.ref c))) → sp vs H Q E →
      ∃ t, PSs (cxOf CX0 P w K mg base N x (defScope st) f (.ref c) A outer s H E).nox (defBody st) t ∧ t { nx := fun _ H' => Q .non H', rt := Q } (start N vs) H) : FnOk P w K mg base CX0 (k + 1) f (PySem.W.fnOf x x (defArgs st) (defBody st) (defScope st) .none kV doc pm an (.ref c) ct) ps sp :=
  fn_of lk hcd S len fun A outer s H vs Q E hr h => by
    obtain ⟨t, h1, h2⟩ := body A outer s H vs Q E hr h
    exact ⟨t, h1.nox, h2⟩
/-- lambda a, b, c: x(a, b) -/
def spLam2 (spX : Sp) : Sp := fun vs H Q E => ∃ (v y z : V), vs = [v, y, z] ∧ spX [v, y] H Q E
def spLam1 (spX : Sp) : Sp := fun vs H Q E => ∃ (v y z : V), vs = [v, y, z] ∧ spX [v] H Q E
theorem lok_2 {f : Addr} {fd : FuncData} {k : Nat} {F : NF} {x : Str} {st : Stmt} {ps : List Str} {spX : Sp} {pp p1 p2 pos : Pos} (S : NScope ["a", "b", "c"] ["a", "b", "c"] [] F.scope) (cl0 : F.cl = []) (gl : F.scope.names.lookup x = some NameKind.globalImplicit)
    (hb : ∀ (pm ctv : Value) (us : List Value), us.length = 3 → bindArgs (PySem.W.kla_fn F.name F.qual F.params (.Call (.Name x pp) [.Name "a" p1, .Name "b" p2] [] pos) F.scope F.cl pm (.ref F.c) ctv) ⟨us, []⟩ = pure ((["a", "b", "c"] : List Str).zip us))
    (DL : Df K mg x st ps f fd) (GL : FnOk P w K mg base (L2N.CX P w) k f fd ps spX) (hx : (x == ("__debug__" : Str)) = false := by decide) :
    LOk P w K mg base (L2N.CX P w) (k + 1) F (.Call (.Name x pp) [.Name "a" p1, .Name "b" p2] [] pos) ["a", "b", "c"] (spLam2 spX) := by
  refine lok_of S cl0 hb (fun vs H Q E h => ?_) (fun g A outer s H vs Q E hr h => ?_)
  · obtain ⟨v, x, z, rfl, _⟩ := h
    rfl
  · obtain ⟨v, y, z, rfl, h⟩ := h
    refine ⟨tCallS spX (fun σ => WE (fun cls d _ H => E cls d H) σ) (tCons (tVar 0) (tCons (tVar 1) tNil)), pe_callS GL hr gl DL.g DL.F.kp DL.b (fun σ => L2N.passAt (L2N.takes_of rfl rfl rfl rfl) σ) (pa_cons (pe_var (i := 0) rfl (.inl (S.par "a" (by decide +kernel)))) (pa_cons (pe_var (i := 1) rfl (.inl (S.par "b" (by decide +kernel)))) pa_nil)) hx, ?_⟩
    exact ⟨v, rfl, y, rfl, h⟩
theorem lok_1 {f : Addr} {fd : FuncData} {k : Nat} {F : NF} {x : Str} {st : Stmt} {ps : List Str} {spX : Sp} {pp p1 pos : Pos} (S : NScope ["a", "b", "c"] ["a", "b", "c"] [] F.scope) (cl0 : F.cl = []) (gl : F.scope.names.lookup x = some NameKind.globalImplicit)
    (hb : ∀ (pm ctv : Value) (us : List Value), us.length = 3 → bindArgs (PySem.W.kla_fn F.name F.qual F.params (.Call (.Name x pp) [.Name "a" p1] [] pos) F.scope F.cl pm (.ref F.c) ctv) ⟨us, []⟩ = pure ((["a", "b", "c"] : List Str).zip us))
    (DL : Df K mg x st ps f fd) (GL : FnOk P w K mg base (L2N.CX P w) k f fd ps spX) (hx : (x == ("__debug__" : Str)) = false := by decide) :
    LOk P w K mg base (L2N.CX P w) (k + 1) F (.Call (.Name x pp) [.Name "a" p1] [] pos) ["a", "b", "c"] (spLam1 spX) := by
  refine lok_of S cl0 hb (fun vs H Q E h => ?_) (fun g A outer s H vs Q E hr h => ?_)
  · obtain ⟨v, x, z, rfl, _⟩ := h
    rfl
  · obtain ⟨v, y, z, rfl, h⟩ := h
    refine ⟨tCallS spX (fun σ => WE (fun cls d _ H => E cls d H) σ) (tCons (tVar 0) tNil), pe_callS GL hr gl DL.g DL.F.kp DL.b (fun σ => L2N.passAt (L2N.takes_of rfl rfl rfl rfl) σ) (pa_cons (pe_var (i := 0) rfl (.inl (S.par "a" (by decide +kernel)))) pa_nil) hx, ?_⟩
    exact ⟨v, rfl, h⟩
end
/-! ### where the lambdas stand in a text -/
def stBody : Stmt → List Stmt
  | .For _ _ l _ _ => l
  | .If _ l _ _ => l
  | .While _ l _ _ => l
  | _ => []
def stEx : Stmt → Expr
  | .If t _ _ _ => t
  | .Assign _ e _ => e
  | .Return (some e) _ => e
  | .Expr e _ => e
  | _ => .Constant .none 0 ⟨0, 0, 0, 0⟩
def exLeft : Expr → Expr
  | .Compare l _ _ _ => l
  | .Subscript l _ _ => l
  | .UnaryOp _ l _ => l
  | e => e
def exArg (i : Nat) : Expr → Expr
  | .Call _ as _ _ => as.getD i (.Constant .none 0 ⟨0, 0, 0, 0⟩)
  | .BoolOp _ as _ => as.getD i (.Constant .none 0 ⟨0, 0, 0, 0⟩)
  | e => e
def lamPs : Expr → Arguments
  | .Lambda p _ _ _ => p
  | _ => ⟨[], [], none, [], [], none, []⟩
def lamBd : Expr → Expr
  | .Lambda _ b _ _ => b
  | e => e
def lamSc : Expr → Scope → Scope
  | .Lambda _ _ s _, _ => s
  | _, s => s
def mkLam (q : Str) (e : Expr) (s : Scope) (c' : Addr) : NF := ⟨"<lambda>", q ++ ".<locals>." ++ "<lambda>", lamPs e, [], lamSc e s, [], c'⟩
end Kw
set_option Elab.async false
set_option linter.all false
set_option maxRecDepth 100000
set_option maxHeartbeats 4000000
namespace Kw
open PySem PySem.Spec PyProof.Rows L2 Evl KwX NdefX LamX
section
variable {K : PySem.W.Frag} {H H' : Hp}
theorem sqL_n {a : Addr} {xs : List V} (e : ExtN H H') (h : SqL K H a xs) : SqL K H' a xs := by
  rcases h with (h | ⟨o, h⟩) | h
  · exact .inl (.inl (e _ _ h fun ps z => by cases z))
  · exact .inl (.inr ⟨o, e _ _ h fun ps z => by cases z⟩)
  · exact .inr h
mutual
theorem dp_n (e : ExtN H H') : ∀ (d : PyData) (v : V), Dp K H v d → Dp K H' v d
  | .none, _, h => by cases h; exact .non
  | .bool b, _, h => by cases h; exact .bl b
  | .int i, _, h => by cases h; exact .int i
  | .str x, _, h => by cases h; exact .str x
  | .list ds, _, h => by
    cases h with
    | lst h a => exact .lst (sqL_n e h) (dpA_n e ds _ a)
  | .tuple ds, _, h => by
    cases h with
    | tup h a => exact .tup (keep_t (keepN e) h) (dpA_n e ds _ a)
  | .dict _, _, h => by cases h
theorem dpA_n (e : ExtN H H') : ∀ (ds : List PyData) (vs : List V), DpAll K H vs ds → DpAll K H' vs ds
  | [], _, h => by cases h; exact .nil
  | d :: ds, _, h => by
    cases h with
    | cons a b => exact .cons (dp_n e d _ a) (dpA_n e ds _ b)
end
end
/-! ### displays of data -/
def EvD (K : PySem.W.Frag) (te : TE) (σ : L2.St) (H : Hp) (d : PyData) : Prop := EvP te σ H (fun v H' => Dp K H' v d)
def EvDA (K : PySem.W.Frag) (ta : TA) (σ : L2.St) (H : Hp) (ds : List PyData) : Prop := ∀ H1, Ex H H1 → ∀ Q : List V → Hp → Prop, (∀ vs H2, Ex H1 H2 → DpAll K H2 vs ds → Q vs H2) → ta σ H1 Q
section
variable {K : PySem.W.Frag} {σ : L2.St} {H H' : Hp} {ta tb tc te tl : TE} {t u : TT} {x y z v : V} {r r' : R2} {d : PyData} {ds : List PyData} {D : Ends} {g : TG} {tu tz : TS}
theorem ed_of (h : Ev te σ H v) (hd : Dp K H v d) : EvD K te σ H d := fun H1 e Q q => h H1 e Q fun H2 e2 => q v H2 e2 (dp_ex (e.trans e2) _ _ hd)
theorem ed_non : EvD K (tC .non) σ H .none := ed_of ev_c .non
theorem ed_bl {b : Bool} : EvD K (tC (.bl b)) σ H (.bool b) := ed_of ev_c (.bl b)
theorem ed_int {i : Int} : EvD K (tC (.int i)) σ H (.int i) := ed_of ev_c (.int i)
theorem ed_str {s : Str} : EvD K (tC (.str s)) σ H (.str s) := ed_of ev_c (.str s)
theorem ed_neg {i : Int} : EvD K (tUn (rU fun i => .int (-i)) (tC (.int i))) σ H (.int (-i)) := ed_of (ev_un ev_c ru_neg) (.int _)
theorem ed_var {i : Nat} (h : σ[i]? = some (some v)) (hd : Dp K H v d) : EvD K (tVar i) σ H d := ed_of (ev_var h) hd
theorem da_nil : EvDA K tNil σ H [] := fun H1 _ Q q => q [] H1 (Ex.refl H1) .nil
theorem da_cons {ta : TA} (h : EvD K te σ H d) (hr : EvDA K ta σ H ds) : EvDA K (tCons te ta) σ H (d :: ds) := fun H1 e Q q =>
  h H1 e _ fun v H2 e2 hv => hr H2 (e.trans e2) _ fun vs H3 e3 hvs => q (v :: vs) H3 (e2.trans e3) (.cons (dp_ex e3 _ _ hv) hvs)
theorem ed_tup {ta : TA} (h : EvDA K ta σ H ds) (hl : ds.length ≤ 1000) : EvD K (tTup ta) σ H (.tuple ds) := fun H1 e Q q =>
  h H1 e _ fun vs H2 e2 hvs => ⟨sz_of (by rw [dpA_len hvs]; omega), fun p hp => q (.ref p) _ (e2.trans (Ex.new hp)) (.tup (st_of upd_same) (dpA_ex (Ex.new hp) _ _ hvs))⟩
theorem ed_lst {ta : TA} (h : EvDA K ta σ H ds) (hl : ds.length ≤ 1000) : EvD K (tLst ta) σ H (.list ds) := fun H1 e Q q =>
  h H1 e _ fun vs H2 e2 hvs => ⟨sz_of (by rw [dpA_len hvs]; omega), fun p hp => q (.ref p) _ (e2.trans (Ex.new hp)) (.lst (sq_of upd_same) (dpA_ex (Ex.new hp) _ _ hvs))⟩
/-- a for over a displayed tuple -/
theorem for_DT {ta : TA} (h : EvDA K ta σ H ds) (hl : ds.length ≤ 1000) (k : ∀ p vs H1, Ex H H1 → H1 p = some (.tup vs) → DpAll K H1 vs ds → tFor (fun _ H R => R (Itt K p) H) g tu D σ H1) : tFor (iTup K (tTup ta)) g tu D σ H :=
  h H (Ex.refl H) _ fun vs H2 e2 hvs => ⟨sz_of (by rw [dpA_len hvs]; omega), fun p hp => ⟨p, rfl, ⟨vs, st_of upd_same⟩, k p vs _ (e2.trans (Ex.new hp)) upd_same (dpA_ex (Ex.new hp) _ _ hvs)⟩⟩
theorem q_for_DT {ta : TA} (h : EvDA K ta σ H ds) (hl : ds.length ≤ 1000) (k : ∀ p vs H1, Ex H H1 → H1 p = some (.tup vs) → DpAll K H1 vs ds → tFor (fun _ H R => R (Itt K p) H) g tu { D with nx := tz D } σ H1) : tSeq (tFor (iTup K (tTup ta)) g tu) tz D σ H := for_DT h hl k
theorem for_src (h : tl σ H fun v H1 => ∃ a, v = .ref a ∧ (∃ xs, SqL K H1 a xs) ∧ tFor (fun _ H R => R (Itl K a) H) g tu D σ H1) : tFor (iList K tl) g tu D σ H := h
theorem q_for_src (h : tl σ H fun v H1 => ∃ a, v = .ref a ∧ (∃ xs, SqL K H1 a xs) ∧ tFor (fun _ H R => R (Itl K a) H) g tu { D with nx := tz D } σ H1) : tSeq (tFor (iList K tl) g tu) tz D σ H := h
theorem call_src {sp : Sp} {ta : TA} {E : XK} {vs : List V} {Q : VK} (h : EvA ta σ H vs) (k : ∀ H1, Ex H H1 → sp vs H1 Q E) : tCall sp [] E ta σ H Q := h H (Ex.refl H) _ fun H1 e => by
  rw [List.append_nil]
  exact k H1 e
end
end Kw
set_option Elab.async false
set_option linter.all false
set_option maxRecDepth 100000
set_option maxHeartbeats 4000000
namespace Kw
open PySem PySem.Spec PyProof.Rows L2 Evl
section
variable {K : PySem.W.Frag} {σ : L2.St} {H H' : Hp} {ta tb tc te tl : TE} {t u : TT} {x y z v : V} {r r' : R2}
def rReprB : List V → Hp → VK → Prop := fun xs H Q => ∃ b : Bool, xs = [.bl b] ∧ Q (.str (if b then "True" else "False")) H
theorem cr_reprB {X : Cx} : CallR X (.builtin "repr") rReprB := by
  intro pins s σ H vs us Q I r h
  obtain ⟨b, rfl, q⟩ := h
  obtain ⟨u, rfl, ru⟩ := vals1 r
  cases (show u = Value.bool b from ru)
  exact PySem.P.repr_of_bool ⟨.str _, H, I.tok _, ⟨_, rfl⟩, q⟩
theorem ev_reprB {b : Bool} (ha : Ev ta σ H (.bl b)) : Ev (tCB rReprB (tCons ta tNil)) σ H (.str (if b then "True" else "False")) := fun H1 e Q q =>
  ha H1 e _ fun H2 e2 => ⟨b, rfl, q H2 e2⟩
end
end Kw
set_option Elab.async false
set_option linter.all false
set_option maxRecDepth 100000
set_option maxHeartbeats 4000000
namespace Kw
open PySem PySem.Spec PyProof.Rows L2 Evl
abbrev sPair : Stmt := topS 3
theorem scPair : FnScope ["thing"] ["thing"] (defScope sPair) := ⟨rfl, rfl, rfl, by decide +kernel, rfl, by decide +kernel, by decide +kernel⟩
abbrev sCols : Stmt := topS 4
theorem scCols : FnScope ["thing", "most", "before", "part"] ["thing", "most"] (defScope sCols) := ⟨rfl, rfl, rfl, by decide +kernel, rfl, by decide +kernel, by decide +kernel⟩
abbrev sBox : Stmt := topS 9
theorem scBox : FnScope ["thing"] ["thing"] (defScope sBox) := ⟨rfl, rfl, rfl, by decide +kernel, rfl, by decide +kernel, by decide +kernel⟩
abbrev sIsH : Stmt := topS 10
theorem scIsH : FnScope ["thing", "boxes", "hand", "box"] ["thing"] (defScope sIsH) := ⟨rfl, rfl, rfl, by decide +kernel, rfl, by decide +kernel, by decide +kernel⟩
/-! ### what a reading tells of data -/
mutual
/-- no long text within -/
def StB : PyData → Bool
  | .none => true
  | .bool _ => true
  | .int _ => true
  | .str z => decide (z.length ≤ 1000)
  | .tuple ds => StBA ds
  | .list ds => StBA ds
  | .dict _ => false
def StBA : List PyData → Bool
  | [] => true
  | d :: ds => StB d && StBA ds
end
theorem stBA_mem : ∀ {ds : List PyData} {d : PyData}, StBA ds = true → d ∈ ds → StB d = true
  | [], _, _, h => by cases h
  | a :: r, d, h, hm => by
    simp only [StBA, Bool.and_eq_true] at h
    rcases List.mem_cons.mp hm with rfl | hm
    · exact h.1
    · exact stBA_mem h.2 hm
theorem stBA_of : ∀ {ds : List PyData}, (∀ d ∈ ds, StB d = true) → StBA ds = true
  | [], _ => by simp [StBA]
  | a :: r, h => by
    simp only [StBA, Bool.and_eq_true]
    exact ⟨h a (List.mem_cons_self ..), stBA_of fun d hd => h d (List.mem_cons_of_mem _ hd)⟩
def risD : Str → List PyData → Bool
  | _, [] => true
  | b, .str z :: r => (decide (b.cps.toList < z.cps.toList) && decide (z.length ≤ 8)) && risD z r
  | _, _ :: _ => false
def lowD : PyData → Bool
  | .str z => lowB z
  | _ => false
def pairD : PyData → Bool
  | .tuple [_, _] => true
  | _ => false
def colsD (m : Nat) : PyData → Bool
  | .tuple ds => decide (ds.length ≤ m) && (risD "" ds && ds.all lowD)
  | _ => false
def boxD : PyData → Bool
  | .tuple [l, k] => colsD 3 l && colsD 6 k
  | _ => false
def houseD : PyData → Bool
  | .tuple [.tuple bs, h] => (decide (1 ≤ bs.length) && decide (bs.length ≤ 30)) && (bs.all boxD && colsD 6 h)
  | _ => false
section
variable {K : PySem.W.Frag} {σ : L2.St} {H H' : Hp} {ta tb tc te tl : TE} {t u : TT} {x y z v : V} {r r' : R2}
theorem ev_lenStr {z : Str} (ha : Ev ta σ H (.str z)) (hz : z.length ≤ 100000) : Ev (tCB (fun xs H Q => ∃ a, xs = [.str a] ∧ a.length ≤ sizeLine ∧ Q (.int a.length) H) (tCons ta tNil)) σ H (.int (z.length : Int)) := fun H1 e Q q =>
  ha H1 e _ fun H2 e2 => ⟨z, rfl, sz_of hz, q H2 e2⟩
theorem rv_leS {a b : Str} : RV (fun x y H Q => ∃ i j, x = .str i ∧ y = .str j ∧ Q (.bl (!decide (j.cps.toList < i.cps.toList))) H) (.str a) (.str b) H (.bl (!decide (b.cps.toList < a.cps.toList))) := fun H1 _ Q q => ⟨a, b, rfl, rfl, q H1 (Ex.refl H1)⟩
end
section
variable {P : Program} {w : World} {K : PySem.W.Frag} {mg : Str → Option Value} {base : Heap}
def spPair (K : PySem.W.Frag) : Sp := fun vs H Q _ => ∃ (v : V) (d : PyData), vs = [v] ∧ Dp K H v d ∧ RetV (.bl (pairD d)) H Q
theorem pairD_not {d : PyData} (h : isTupD d = false) : pairD d = false := by
  cases d <;> first | rfl | cases h
theorem pairD_tup (ds : List PyData) : pairD (.tuple ds) = decide (ds.length = 2) := by
  match ds with
  | [] => rfl
  | [_] => rfl
  | [_, _] => rfl
  | _ :: _ :: _ :: r => exact (decide_eq_false (by simp)).symm
theorem ok_pair {f  : Addr} {fd  : FuncData} {k : Nat} (F : Fun K "is_pair" "is_pair" sPair f fd) (B : Bu mg) : FnOk P w K mg base CX0 (k + 1) f fd ["thing"] (spPair K) := by
  refine F.ok scPair (fun vs H Q E h => ?_) (fun cdv A outer s H vs Q E hr h => ?_)
  · obtain ⟨v, d, rfl, _⟩ := h
    rfl
  · obtain ⟨v, d, rfl, hd, q⟩ := h
    refine ⟨_, (pss_one (ps_ret (pe_and (pe_callB call_isi (by rfl) B.isi boot_isinstance (pa_cons (pv 0) (pa_cons (pe_bltn (v := .ty "tuple") (by rfl) B.tup boot_tuple rfl) pa_nil))) (pe_one (pe_cmpR op_eq (pe_callB call_len_seq (by rfl) B.len PySem.boot_len (pa_cons (pv 0) pa_nil)) pe_int (nomark _)))))), ?_⟩
    refine s_ret (v := .bl (pairD d)) (ev_is (ev_andV (a := isTupD d) (b := pairD d) (ev_isiD (K := K) (ev_var (v := v) rfl) ev_c hd (kit_tup hd)) fun ht => ?_) ?_) (fun H1 e1 => q H1 e1)
    · cases d <;> first | cases ht | skip
      obtain ⟨a, xs, rfl, hS, hA⟩ := dp_tup_inv hd
      refine ev_is (ev_op (ev_lenT (K := K) (ev_var (v := .ref a) rfl) hS) ev_c (rv_eq rfl)) ?_
      rw [pairD_tup, ← dpA_len hA]
      congr 1
      by_cases h : xs.length = 2
      · rw [decide_eq_true h, decide_eq_true (by rw [h]; rfl)]
      · rw [decide_eq_false h, decide_eq_false (fun z => h (by have := V.int.inj z; omega))]
    · cases ht : isTupD d with
      | true => rfl
      | false => rw [pairD_not ht]; rfl
/-! ### is_colours -/
def spCols (K : PySem.W.Frag) : Sp := fun vs H Q _ => ∃ (v : V) (d : PyData) (m : Nat), vs = [v, .int m] ∧ Dp K H v d ∧ StB d = true ∧ m ≤ 100 ∧ RetV (.bl (colsD m d)) H Q
theorem colsD_not {d : PyData} {m : Nat} (h : isTupD d = false) : colsD m d = false := by
  cases d <;> first | rfl | cases h
theorem strs_of_ris : ∀ {ds : List PyData} {b : Str}, risD b ds = true → ∃ zs : List Str, ds = zs.map PyData.str ∧ ∀ z ∈ zs, z.length ≤ 8
  | [], _, _ => ⟨[], rfl, by simp⟩
  | .str z :: r, b, h => by
    simp only [risD, Bool.and_eq_true, decide_eq_true_eq] at h
    obtain ⟨zs, e, hz⟩ := strs_of_ris h.2
    exact ⟨z :: zs, by rw [e]; rfl, fun y hy => by
      rcases List.mem_cons.mp hy with rfl | hy
      · exact h.1.2
      · exact hz y hy⟩
  | .none :: _, _, h => by simp [risD] at h
  | .bool _ :: _, _, h => by simp [risD] at h
  | .int _ :: _, _, h => by simp [risD] at h
  | .list _ :: _, _, h => by simp [risD] at h
  | .tuple _ :: _, _, h => by simp [risD] at h
  | .dict _ :: _, _, h => by simp [risD] at h
theorem lowD_strs (zs : List Str) : (zs.map PyData.str).all lowD = zs.all lowB := by
  rw [List.all_map]
  rfl
theorem sum_len8 : ∀ {zs : List Str}, (∀ z ∈ zs, z.length ≤ 8) → (zs.map (·.length)).sum ≤ 8 * zs.length
  | [], _ => by simp
  | z :: r, h => by
    have h1 := h z (List.mem_cons_self ..)
    have h2 := sum_len8 fun y hy => h y (List.mem_cons_of_mem _ hy)
    rw [List.map_cons, List.sum_cons, List.length_cons]
    omega
theorem join_len (zs : List Str) : (Txt.join ("" : Str) zs).length = (zs.map (·.length)).sum := by
  show (Txt.join ("" : Str) zs).cps.size = _
  rw [← Array.length_toList, show (Txt.join ("" : Str) zs).cps.toList = (zs.map fun z => z.cps.toList).flatten from by
    rw [TL.join_eq]
    exact (TL.tl_join ("" : Str) zs).trans (joinL_nil _), List.length_flatten, List.map_map]
  rfl
theorem ok_cols {f  : Addr} {fd  : FuncData} {k : Nat} (F : Fun K "is_colours" "is_colours" sCols f fd) (B : Bu mg) {t8 tl : Tok} (m_MOST_LETTERS : mg "MOST_LETTERS" = some (.int 8 t8)) (m_SMALL_LETTERS : mg "SMALL_LETTERS" = some (.str "abcdefghijklmnopqrstuvwxyz" tl)) : FnOk P w K mg base CX0 (k + 1) f fd ["thing", "most"] (spCols K) := by
  refine F.ok scCols (fun vs H Q E h => ?_) (fun cdv A outer s H vs Q E hr h => ?_)
  · obtain ⟨v, d, m, rfl, _⟩ := h
    rfl
  · obtain ⟨v, d, m, rfl, hd, hst, hm, q⟩ := h
    refine ⟨_, (pss_cons (ps_if (PW.pt (pw_or (pt_not (pt_val (pe_callB call_isi (by rfl) B.isi boot_isinstance (pa_cons (pv 0) (pa_cons (pe_bltn (v := .ty "tuple") (by rfl) B.tup boot_tuple rfl) pa_nil))))) (pw_or1 (pt_cmpR op_gt (pe_callB call_len_seq (by rfl) B.len PySem.boot_len (pa_cons (pv 0) pa_nil)) (pv 1) (nomark _))))) (pss_one (ps_ret pe_bl)) pss_nil)
      (pss_cons (ps_set (i := 2) scCols.nd rfl (.inl rfl) pe_str)
      (pss_cons (ps_for PassesOwn.never rfl (pi_tup (pv 0)) (pg_name (i := 3) scCols.nd rfl (.inl rfl))
      (pss_cons (ps_if (PW.pt (pw_or (pt_not (pt_val (pe_callB call_isi (by rfl) B.isi boot_isinstance (pa_cons (pv 3) (pa_cons (pe_bltn (v := .ty "str") (by rfl) B.str boot_str rfl) pa_nil))))) (pw_or (pt_cmpR op_le_str (pv 3) (pv 2) (nomark _)) (pw_or1 (pt_cmpR op_gt (pe_callB call_len_str (by rfl) B.len PySem.boot_len (pa_cons (pv 3) pa_nil)) (pe_glob (v := .int 8) (by rfl) m_MOST_LETTERS ⟨_, rfl⟩) (nomark _)))))) (pss_one (ps_ret pe_bl)) pss_nil)
      (pss_one (ps_set (i := 2) scCols.nd rfl (.inl rfl) (pv 3)))))
      (pss_one (ps_ret (pe_cmpR op_eq (pe_bm PySem.F.plainAttrs_str PySem.F.slot_str_strip PySem.F.type_str_strip mt_stripChars (pe_join pe_str (pv 0)) (pa_cons (pe_glob (v := .str "abcdefghijklmnopqrstuvwxyz") (by rfl) m_SMALL_LETTERS ⟨_, rfl⟩) pa_nil)) pe_str (nomark _))))))), ?_⟩
    cases ht : isTupD d with
    | false =>
      rw [colsD_not ht] at q
      exact q_when (b := true) (et_is (et_or (b := true) (et_not (et_B (ev_isiD (K := K) (ev_var (v := v) rfl) ev_c hd (kit_tup hd)))) fun h => absurd h (by rw [ht]; decide)) (by rw [ht]; rfl)) (fun _ H1 e1 => q H1 e1) (fun hb => absurd hb (by decide))
    | true =>
      cases d <;> first | cases ht | skip
      rename_i ds
      obtain ⟨a, xs, rfl, hS, hA⟩ := dp_tup_inv hd
      have hlen := dpA_len hA
      have hstA : StBA ds = true := by simpa [StB] using hst
      refine q_when (b := !decide (ds.length ≤ m)) (et_is (et_or (et_not (et_B (ev_isiD (K := K) (ev_var (v := .ref a) rfl) ev_c hd (kit_tup hd)))) fun _ => et_test (ev_op (ev_lenT (K := K) (ev_var (v := .ref a) rfl) hS) (ev_var (v := .int m) rfl) rv_gt)) ?_) (fun hb H1 e1 => ?_) (fun hb H1 e1 => ?_)
      · show (!true || decide ((m : Int) < (xs.length : Nat))) = _
        rw [hlen]
        by_cases h : ds.length ≤ m
        · rw [decide_eq_true h, decide_eq_false (by omega)]; rfl
        · rw [decide_eq_false h, decide_eq_true (by omega)]; rfl
      · have e : colsD m (.tuple ds) = false := by
          show (decide (ds.length ≤ m) && _) = false
          rw [Bool.not_eq_true'] at hb
          rw [hb]
          rfl
        rw [e] at q
        exact q H1 e1
      · have hle : ds.length ≤ m := by
          by_cases h : ds.length ≤ m
          · exact h
          · rw [decide_eq_false h] at hb; cases hb
        have e : colsD m (.tuple ds) = (risD "" ds && ds.all lowD) := by
          show (decide (ds.length ≤ m) && _) = _
          rw [decide_eq_true hle]
          rfl
        rw [e] at q
        refine q_asg (v := .str "") ev_c fun H2 e2 => ?_
        refine q_forT (K := K) (a := a) (xs := xs) (ev_var (v := .ref a) rfl) (ex_t (e1.trans e2) hS) (fun i σ' H' => Ex H H' ∧ ∃ b y, σ' = [some (.ref a), some (.int m), some (.str b), y] ∧ risD "" ds = risD b (ds.drop i)) (fun H3 e3 => ⟨(e1.trans e2).trans e3, "", none, rfl, rfl⟩) (fun i σ' H' _ hP => ex_t hP.1 hS) (fun i x σ' H' hx hP => ?_) (fun σ' H' hP => ?_)
        · obtain ⟨eH, b, y, rfl, hris⟩ := hP
          obtain ⟨dx, hdx, hDx⟩ := dpA_get hA hx
          have hdx' : ds.drop i = dx :: ds.drop (i + 1) := (List.getElem?_eq_some_iff.mp hdx).choose_spec ▸ List.drop_eq_getElem_cons _
          have hDx' := dp_ex eH _ _ hDx
          rw [hdx'] at hris
          show tIfS _ _ _ _ [some (.ref a), some (.int m), some (.str b), some x] H'
          cases hs : isStrD dx with
          | false =>
            have hf : risD "" ds = false := by
              rw [hris]
              cases dx <;> first | rfl | cases hs
            rw [hf] at q
            exact s_when (b := true) (et_is (et_or (b := true) (et_not (et_B (ev_isiD (K := K) (ev_var (v := x) rfl) ev_c hDx' (kit_str hDx')))) fun h => absurd h (by rw [hs]; decide)) (by rw [hs]; rfl)) (fun _ H3 e3 => q H3 (eH.trans e3)) (fun hb => absurd hb (by decide))
          | true =>
            cases dx <;> first | cases hs | skip
            rename_i z
            cases hDx
            have hzl : z.length ≤ 1000 := by
              have := stBA_mem hstA (List.mem_of_getElem? hdx)
              simpa [StB] using this
            refine s_when (b := !(decide (b.cps.toList < z.cps.toList) && decide (z.length ≤ 8))) (et_is (et_or (et_not (et_B (ev_isiD (K := K) (ev_var (v := .str z) rfl) ev_c hDx' (kit_str hDx')))) fun _ => et_or (et_test (ev_op (ev_var (v := .str z) rfl) (ev_var (v := .str b) rfl) rv_leS)) fun _ => et_test (ev_op (ev_lenStr (ev_var (v := .str z) rfl) (by omega)) ev_c rv_gt)) ?_) (fun hb H3 e3 => ?_) (fun hb H3 e3 => ?_)
            · show (!true || (!decide (b.cps.toList < z.cps.toList) || decide ((8 : Int) < z.length))) = _
              have a2 : decide ((8 : Int) < z.length) = !decide (z.length ≤ 8) := by
                by_cases h : z.length ≤ 8
                · rw [decide_eq_true h, decide_eq_false (by omega)]; rfl
                · rw [decide_eq_false h, decide_eq_true (by omega)]; rfl
              rw [a2]
              cases decide (b.cps.toList < z.cps.toList) <;> cases decide (z.length ≤ 8) <;> rfl
            · have hf : risD "" ds = false := by
                rw [hris]
                show ((decide (b.cps.toList < z.cps.toList) && decide (z.length ≤ 8)) && _) = false
                rw [Bool.not_eq_true'] at hb
                rw [hb]
                rfl
              rw [hf] at q
              exact q H3 (eH.trans e3)
            · refine s_asg (v := .str z) (ev_var rfl) fun H4 e4 => ⟨(eH.trans e3).trans e4, z, _, rfl, ?_⟩
              rw [hris]
              show ((decide (b.cps.toList < z.cps.toList) && decide (z.length ≤ 8)) && _) = _
              rw [Bool.not_eq_false'] at hb
              rw [hb]
              rfl
        · obtain ⟨eH, b, y, rfl, hris⟩ := hP
          rw [List.drop_eq_nil_of_le (by omega)] at hris
          have hris : risD "" ds = true := hris
          obtain ⟨zs, rfl, hz8⟩ := strs_of_ris hris
          rw [hris, lowD_strs, Bool.true_and, ← join_low, ← strip_low] at q
          have hxs := dpA_strs_inv hA
          subst hxs
          have hsum := sum_len8 hz8
          rw [List.length_map] at hlen hle
          refine ⟨⟨_, rfl⟩, .ref a, rfl, "", a, zs, rfl, rfl, .inr (ex_t eH hS), ?_, rfl, _, _, rfl, rfl, sz_of ?_, rfl, ?_⟩
          · show _ + zs.length * 0 ≤ _
            omega
          · rw [join_len]
            omega
          · exact q H' eH
/-! ### is_box -/
def spBox (K : PySem.W.Frag) : Sp := fun vs H Q _ => ∃ (v : V) (d : PyData), vs = [v] ∧ Dp K H v d ∧ StB d = true ∧ RetV (.bl (boxD d)) H Q
theorem boxD_not {d : PyData} (h : pairD d = false) : boxD d = false := by
  unfold boxD
  split
  · cases h
  · rfl
theorem houseD_not {d : PyData} (h : pairD d = false) : houseD d = false := by
  unfold houseD
  split
  · cases h
  · rfl
theorem pairD_inv {d : PyData} (h : pairD d = true) : ∃ a b, d = .tuple [a, b] := by
  unfold pairD at h
  split at h
  · exact ⟨_, _, rfl⟩
  · cases h
theorem ok_box {f fPair fCols : Addr} {fd fdPair fdCols : FuncData} {k : Nat} (F : Fun K "is_box" "is_box" sBox f fd) (DPair : Df K mg "is_pair" sPair ["thing"] fPair fdPair) (DCols : Df K mg "is_colours" sCols ["thing", "most"] fCols fdCols) (GPair : FnOk P w K mg base CX0 (k + 1) fPair fdPair ["thing"] (spPair K)) (GCols : FnOk P w K mg base CX0 (k + 1) fCols fdCols ["thing", "most"] (spCols K)) {t3 t6 : Tok} (m_MOST_LOCKS : mg "MOST_LOCKS" = some (.int 3 t3)) (m_MOST_KEYS : mg "MOST_KEYS" = some (.int 6 t6)) : FnOk P w K mg base CX0 (k + 2) f fd ["thing"] (spBox K) := by
  refine F.ok scBox (fun vs H Q E h => ?_) (fun cdv A outer s H vs Q E hr h => ?_)
  · obtain ⟨v, d, rfl, _⟩ := h
    rfl
  · obtain ⟨v, d, rfl, hd, hst, q⟩ := h
    refine ⟨_, (pss_one (ps_ret (pe_and (pcall DPair GPair (hr.mono (by omega)) (pa_cons (pv 0) pa_nil)) (pe_and (pcall DCols GCols (hr.mono (by omega)) (pa_cons (pe_ix ix_tup (pv 0) pe_int (fun _ _ => rfl)) (pa_cons (pe_glob (v := .int 3) (by rfl) m_MOST_LOCKS ⟨_, rfl⟩) pa_nil))) (pe_one (pcall DCols GCols (hr.mono (by omega)) (pa_cons (pe_ix ix_tup (pv 0) pe_int (fun _ _ => rfl)) (pa_cons (pe_glob (v := .int 6) (by rfl) m_MOST_KEYS ⟨_, rfl⟩) pa_nil)))))))), ?_⟩
    have t1 : Ev (tCall (spPair K) [] E0 (tCons (tVar 0) tNil)) [some v] H (.bl (pairD d)) := ev_call (ea_cons (ev_var (v := v) rfl) ea_nil) (SpV.of fun H1 e1 Q q E => ⟨v, d, rfl, dp_ex e1 _ _ hd, q⟩)
    cases hp : pairD d with
    | false =>
      rw [boxD_not hp] at q
      rw [hp] at t1
      exact s_ret (v := .bl false) (ev_andV (b := false) t1 fun h => by cases h) (fun H1 e1 => q H1 e1)
    | true =>
      rw [hp] at t1
      obtain ⟨l, k, rfl⟩ := pairD_inv hp
      obtain ⟨a, xs, rfl, hS, hA⟩ := dp_tup_inv hd
      cases hA with
      | cons h1 hA =>
        cases hA with
        | cons h2 hA =>
          cases hA
          simp only [StB, StBA, Bool.and_eq_true] at hst
          refine s_ret (v := .bl (boxD (.tuple [l, k]))) (ev_andV (a := true) (b := colsD 3 l && colsD 6 k) t1 fun _ => ev_andV (ev_call (ea_cons (ev_op (ev_var (v := .ref a) rfl) ev_c (rv_ixT hS at0)) (ea_cons ev_c ea_nil)) (SpV.of fun H1 e1 Q q E => ⟨_, l, 3, rfl, dp_ex e1 _ _ h1, hst.1, by decide, q⟩)) fun _ =>
            ev_call (ea_cons (ev_op (ev_var (v := .ref a) rfl) ev_c (rv_ixT hS at1)) (ea_cons ev_c ea_nil)) (SpV.of fun H1 e1 Q q E => ⟨_, k, 6, rfl, dp_ex e1 _ _ h2, hst.2.1, by decide, q⟩)) (fun H1 e1 => q H1 e1)
/-! ### is_house -/
def spIsH (K : PySem.W.Frag) : Sp := fun vs H Q _ => ∃ (v : V) (d : PyData), vs = [v] ∧ Dp K H v d ∧ StB d = true ∧ RetV (.bl (houseD d)) H Q
theorem ok_isH {f fPair fCols fBox : Addr} {fd fdPair fdCols fdBox : FuncData} {k : Nat} (F : Fun K "is_house" "is_house" sIsH f fd) (DPair : Df K mg "is_pair" sPair ["thing"] fPair fdPair) (DCols : Df K mg "is_colours" sCols ["thing", "most"] fCols fdCols) (DBox : Df K mg "is_box" sBox ["thing"] fBox fdBox) (GPair : FnOk P w K mg base CX0 (k + 1) fPair fdPair ["thing"] (spPair K)) (GCols : FnOk P w K mg base CX0 (k + 1) fCols fdCols ["thing", "most"] (spCols K)) (GBox : FnOk P w K mg base CX0 (k + 2) fBox fdBox ["thing"] (spBox K)) (B : Bu mg) {t30 t6 : Tok} (m_MOST_BOXES : mg "MOST_BOXES" = some (.int 30 t30)) (m_MOST_KEYS : mg "MOST_KEYS" = some (.int 6 t6)) : FnOk P w K mg base CX0 (k + 3) f fd ["thing"] (spIsH K) := by
  refine F.ok scIsH (fun vs H Q E h => ?_) (fun cdv A outer s H vs Q E hr h => ?_)
  · obtain ⟨v, d, rfl, _⟩ := h
    rfl
  · obtain ⟨v, d, rfl, hd, hst, q⟩ := h
    refine ⟨_, (pss_cons (ps_if (pt_not (pt_val (pcall DPair GPair (hr.mono (by omega)) (pa_cons (pv 0) pa_nil)))) (pss_one (ps_ret pe_bl)) pss_nil)
      (pss_cons (ps_asg (pv 0) (pg_tup rfl (pgs_cons (pg_name (i := 1) scIsH.nd rfl (.inl rfl)) (pgs_cons (pg_name (i := 2) scIsH.nd rfl (.inl rfl)) pgs_nil))))
      (pss_cons (ps_if (PW.pt (pw_or (pt_not (pt_val (pe_callB call_isi (by rfl) B.isi boot_isinstance (pa_cons (pv 1) (pa_cons (pe_bltn (v := .ty "tuple") (by rfl) B.tup boot_tuple rfl) pa_nil))))) (pw_or1 (pt_not (pt_chain op_le op_le pe_int (pe_callB call_len_seq (by rfl) B.len PySem.boot_len (pa_cons (pv 1) pa_nil)) (pe_glob (v := .int 30) (by rfl) m_MOST_BOXES ⟨_, rfl⟩)))))) (pss_one (ps_ret pe_bl)) pss_nil)
      (pss_cons (ps_for PassesOwn.never rfl (pi_tup (pv 1)) (pg_name (i := 3) scIsH.nd rfl (.inl rfl))
      (pss_one (ps_if (pt_not (pt_val (pcall DBox GBox (hr.mono (by omega)) (pa_cons (pv 3) pa_nil)))) (pss_one (ps_ret pe_bl)) pss_nil)))
      (pss_one (ps_ret (pcall DCols GCols (hr.mono (by omega)) (pa_cons (pv 2) (pa_cons (pe_glob (v := .int 6) (by rfl) m_MOST_KEYS ⟨_, rfl⟩) pa_nil))))))))), ?_⟩
    have t1 : ∀ {y1 y2 y3}, Ev (tCall (spPair K) [] E0 (tCons (tVar 0) tNil)) [some v, y1, y2, y3] H (.bl (pairD d)) := ev_call (ea_cons (ev_var (v := v) rfl) ea_nil) (SpV.of fun H1 e1 Q q E => ⟨v, d, rfl, dp_ex e1 _ _ hd, q⟩)
    cases hp : pairD d with
    | false =>
      rw [houseD_not hp] at q
      rw [hp] at t1
      exact q_when (b := true) (et_not (et_B t1)) (fun _ H1 e1 => q H1 e1) (fun hb => absurd hb (by decide))
    | true =>
      rw [hp] at t1
      refine q_when (b := false) (et_not (et_B t1)) (fun hb => absurd hb (by decide)) (fun _ H1 e1 => ?_)
      obtain ⟨db, dh, rfl⟩ := pairD_inv hp
      obtain ⟨a, xs, rfl, hS, hA⟩ := dp_tup_inv hd
      cases hA with
      | cons h1 hA =>
        cases hA with
        | cons h2 hA =>
          cases hA
          rename_i vb vh
          simp only [StB, StBA, Bool.and_eq_true] at hst
          refine ⟨.ref a, rfl, a, _, rfl, ex_t e1 hS, rfl, vb, [vh], rfl, vh, [], rfl, rfl, ?_⟩
          show tSeq _ _ _ [some (.ref a), some vb, some vh, none] H1
          have h1' := dp_ex e1 _ _ h1
          cases ht : isTupD db with
          | false =>
            have e : houseD (.tuple [db, dh]) = false := by cases db <;> first | rfl | cases ht
            rw [e] at q
            exact q_when (b := true) (et_is (et_or (b := true) (et_not (et_B (ev_isiD (K := K) (ev_var (v := vb) rfl) ev_c h1' (kit_tup h1')))) fun h => absurd h (by rw [ht]; decide)) (by rw [ht]; rfl)) (fun _ H2 e2 => q H2 (e1.trans e2)) (fun hb => absurd hb (by decide))
          | true =>
            cases db <;> first | cases ht | skip
            rename_i bs
            obtain ⟨ab, ys, rfl, hSb, hAb⟩ := dp_tup_inv h1
            have hlen := dpA_len hAb
            have hstB : StBA bs = true := by simpa [StB] using hst.1
            refine q_when (b := !(decide (1 ≤ bs.length) && decide (bs.length ≤ 30))) (et_is (et_or (et_not (et_B (ev_isiD (K := K) (ev_var (v := .ref ab) rfl) ev_c h1' (kit_tup h1')))) fun _ => et_not (et_test (ev_chain ev_c (ev_lenT (K := K) (ev_var (v := .ref ab) rfl) (ex_t e1 hSb)) ev_c rv_le rv_le))) ?_) (fun hb H2 e2 => ?_) (fun hb H2 e2 => ?_)
            · show (!true || !(decide ((1 : Int) ≤ (ys.length : Nat)) && decide (((ys.length : Nat) : Int) ≤ 30))) = _
              rw [hlen]
              have a1 : decide ((1 : Int) ≤ (bs.length : Nat)) = decide (1 ≤ bs.length) := decide_eq_decide.mpr (by omega)
              have a2 : decide (((bs.length : Nat) : Int) ≤ 30) = decide (bs.length ≤ 30) := decide_eq_decide.mpr (by omega)
              rw [a1, a2]
              rfl
            · have e : houseD (.tuple [.tuple bs, dh]) = false := by
                show ((decide (1 ≤ bs.length) && decide (bs.length ≤ 30)) && _) = false
                rw [Bool.not_eq_true'] at hb
                rw [hb]
                rfl
              rw [e] at q
              exact q H2 (e1.trans e2)
            · have e : houseD (.tuple [.tuple bs, dh]) = (bs.all boxD && colsD 6 dh) := by
                show ((decide (1 ≤ bs.length) && decide (bs.length ≤ 30)) && _) = _
                rw [Bool.not_eq_false'] at hb
                rw [hb]
                rfl
              rw [e] at q
              have eX := e1.trans e2
              refine q_forT (K := K) (a := ab) (xs := ys) (ev_var (v := .ref ab) rfl) (ex_t eX hSb) (fun i σ' H' => Ex H H' ∧ (∃ y, σ' = [some (.ref a), some (.ref ab), some vh, y]) ∧ (bs.take i).all boxD = true) (fun H3 e3 => ⟨eX.trans e3, ⟨none, rfl⟩, rfl⟩) (fun i σ' H' _ hP => ex_t hP.1 hSb) (fun i x σ' H' hx hP => ?_) (fun σ' H' hP => ?_)
              · obtain ⟨eH, ⟨y, rfl⟩, hall⟩ := hP
                obtain ⟨dx, hdx, hDx⟩ := dpA_get hAb hx
                have hDx' := dp_ex eH _ _ hDx
                have hmem := List.mem_of_getElem? hdx
                show tIfS _ _ _ _ [some (.ref a), some (.ref ab), some vh, some x] H'
                refine s_when (b := !boxD dx) (et_not (et_B (ev_call (ea_cons (ev_var (v := x) rfl) ea_nil) (SpV.of fun H3 e3 Q q E => ⟨x, dx, rfl, dp_ex e3 _ _ hDx', stBA_mem hstB hmem, q⟩)))) (fun hb H3 e3 => ?_) (fun hb H3 e3 => ?_)
                · have hf : bs.all boxD = false := by
                    rw [Bool.not_eq_true'] at hb
                    exact List.all_eq_false.mpr ⟨dx, hmem, by rw [hb]; decide⟩
                  rw [hf] at q
                  exact q H3 (eH.trans e3)
                · rw [Bool.not_eq_false'] at hb
                  refine ⟨eH.trans e3, ⟨_, rfl⟩, ?_⟩
                  rw [List.take_add_one, List.all_append, hall, hdx]
                  show (true && (boxD dx && true)) = true
                  rw [hb]
                  rfl
              · obtain ⟨eH, ⟨y, rfl⟩, hall⟩ := hP
                rw [List.take_of_length_le (by omega)] at hall
                rw [hall, Bool.true_and] at q
                exact s_ret (v := .bl (colsD 6 dh)) (ev_call (ea_cons (ev_var (v := vh) rfl) (ea_cons ev_c ea_nil)) (SpV.of fun H3 e3 Q q E => ⟨vh, dh, 6, rfl, dp_ex (eH.trans e3) _ _ h2, hst.2.1, by decide, q⟩)) (fun H3 e3 => q H3 (eH.trans e3))
end
end Kw
set_option Elab.async false
set_option linter.all false
set_option maxRecDepth 100000
set_option maxHeartbeats 4000000
namespace Kw
open PySem PySem.Spec PyProof.Rows L2 Evl
/-! ### houses as data -/
def encC (cs : List Str) : PyData := .tuple (cs.map PyData.str)
def encB (b : Box) : PyData := .tuple [encC b.1, encC b.2]
def encBs (bs : List Box) : PyData := .tuple (bs.map encB)
def encH (h : House) : PyData := .tuple [encBs h.1, encC h.2]
section
variable {K : PySem.W.Frag} {H H' : Hp}
theorem dp_cols {a : Addr} {cs : List Str} (h : SqT K H a (cs.map V.str)) : Dp K H (.ref a) (encC cs) := .tup h (dpA_strs cs)
theorem dp_box {v : V} {b : Box} (h : BoxAt K H v b) : Dp K H v (encB b) := by
  obtain ⟨a, l, k, rfl, h1, h2, h3⟩ := h
  exact .tup h1 (.cons (dp_cols h2) (.cons (dp_cols h3) .nil))
theorem dp_boxesA : ∀ {vs : List V} {bs : List Box}, Paired (BoxAt K H) vs bs → DpAll K H vs (bs.map encB)
  | _, _, .nil => .nil
  | _, _, .cons a r => .cons (dp_box a) (dp_boxesA r)
theorem dp_house {v : V} {h : House} (x : HouseAt K H v h) : Dp K H v (encH h) := by
  obtain ⟨a, b, k, rfl, h1, ⟨vs, h2, h3⟩, h4⟩ := x
  exact .tup h1 (.cons (.tup h2 (dp_boxesA h3)) (.cons (dp_cols h4) .nil))
theorem cols_dp {v : V} {cs : List Str} (h : Dp K H v (encC cs)) : ∃ a, v = .ref a ∧ SqT K H a (cs.map V.str) := by
  obtain ⟨a, xs, rfl, h1, h2⟩ := dp_tup_inv h
  rw [dpA_strs_inv h2] at h1
  exact ⟨a, rfl, h1⟩
theorem box_dp {v : V} {b : Box} (h : Dp K H v (encB b)) : BoxAt K H v b := by
  obtain ⟨a, xs, rfl, h1, h2⟩ := dp_tup_inv h
  cases h2 with
  | cons x h2 =>
    cases h2 with
    | cons y h2 =>
      cases h2
      obtain ⟨l, rfl, hl⟩ := cols_dp x
      obtain ⟨k, rfl, hk⟩ := cols_dp y
      exact ⟨a, l, k, rfl, h1, hl, hk⟩
theorem boxes_dpA : ∀ {vs : List V} {bs : List Box}, DpAll K H vs (bs.map encB) → Paired (BoxAt K H) vs bs
  | _, [], h => by cases h; exact .nil
  | _, b :: r, h => by
    cases h with
    | cons a t => exact .cons (box_dp a) (boxes_dpA t)
theorem house_dp {v : V} {h : House} (x : Dp K H v (encH h)) : HouseAt K H v h := by
  obtain ⟨a, xs, rfl, h1, h2⟩ := dp_tup_inv x
  cases h2 with
  | cons x h2 =>
    cases h2 with
    | cons y h2 =>
      cases h2
      obtain ⟨b, bs, rfl, hb, hbs⟩ := dp_tup_inv x
      obtain ⟨k, rfl, hk⟩ := cols_dp y
      exact ⟨a, b, k, rfl, h1, ⟨bs, hb, boxes_dpA hbs⟩, hk⟩
end
theorem colB_low {z : Str} (h : colB z = true) : lowB z = true ∧ z.length ≤ 8 ∧ 1 ≤ z.length := by
  unfold colB at h
  rw [Bool.and_eq_true, Bool.and_eq_true, decide_eq_true_eq, decide_eq_true_eq] at h
  exact ⟨h.2, h.1.2, h.1.1⟩
theorem ris_strs : ∀ {cs : List Str} {b : Str}, (∀ c ∈ cs, colB c = true) → Rising (b :: cs) → risD b (cs.map PyData.str) = true
  | [], _, _, _ => rfl
  | c :: r, b, hc, hr => by
    show ((decide (b.cps.toList < c.cps.toList) && decide (c.length ≤ 8)) && risD c (r.map PyData.str)) = true
    rw [decide_eq_true (hr 0 b c rfl rfl), decide_eq_true (colB_low (hc c (List.mem_cons_self ..))).2.1, ris_strs (fun d hd => hc d (List.mem_cons_of_mem _ hd)) (fun i x y hx hy => hr (i + 1) x y hx hy)]
    rfl
theorem nil_lt {z : Str} (h : 1 ≤ z.length) : ("" : Str).cps.toList < z.cps.toList := by
  have hz : z.length = z.cps.toList.length := rfl
  cases e : z.cps.toList with
  | nil => rw [hz, e] at h; cases h
  | cons a r => exact List.nil_lt_cons a r
theorem cols_ok {cs : List Str} {m : Nat} (h : OkCols cs m) : colsD m (encC cs) = true := by
  obtain ⟨h1, h2, h3⟩ := h
  show (decide ((cs.map PyData.str).length ≤ m) && (risD "" (cs.map PyData.str) && (cs.map PyData.str).all lowD)) = true
  rw [decide_eq_true (by rw [List.length_map]; exact h1), lowD_strs, List.all_eq_true.mpr fun c hc => (colB_low (h2 c hc)).1, ris_strs h2 ?_]
  · rfl
  · intro i x y hx hy
    cases i with
    | zero =>
      cases cs with
      | nil => cases hy
      | cons c r =>
        cases hx
        cases hy
        exact nil_lt (colB_low (h2 _ (List.mem_cons_self ..))).2.2
    | succ i => exact h3 i x y hx hy
theorem box_ok {b : Box} (h : OkBox b) : boxD (encB b) = true := by
  show (colsD 3 (encC b.1) && colsD 6 (encC b.2)) = true
  rw [cols_ok h.1, cols_ok h.2]
  rfl
theorem house_ok {h : House} (o : OkHouse h) : houseD (encH h) = true := by
  obtain ⟨h1, h2, h3, h4⟩ := o
  show ((decide (1 ≤ (h.1.map encB).length) && decide ((h.1.map encB).length ≤ 30)) && ((h.1.map encB).all boxD && colsD 6 (encC h.2))) = true
  rw [List.length_map, decide_eq_true h1, decide_eq_true h2, cols_ok h4, List.all_map, show h.1.all (boxD ∘ encB) = true from List.all_eq_true.mpr fun b hb => box_ok (h3 b hb)]
  rfl
theorem stB_cols {cs : List Str} {m : Nat} (h : OkCols cs m) : StB (encC cs) = true := by
  show StBA (cs.map PyData.str) = true
  refine stBA_of fun d hd => ?_
  obtain ⟨c, hc, rfl⟩ := List.mem_map.mp hd
  have := (colB_low (h.2.1 c hc)).2.1
  show decide (c.length ≤ 1000) = true
  exact decide_eq_true (by omega)
theorem stB_house {h : House} (o : OkHouse h) : StB (encH h) = true := by
  show (StB (encBs h.1) && (StB (encC h.2) && true)) = true
  rw [stB_cols o.2.2.2, Bool.true_and, Bool.and_true]
  show StBA (h.1.map encB) = true
  refine stBA_of fun d hd => ?_
  obtain ⟨b, hb, rfl⟩ := List.mem_map.mp hd
  show (StB (encC b.1) && (StB (encC b.2) && true)) = true
  rw [stB_cols (o.2.2.1 b hb).1, stB_cols (o.2.2.1 b hb).2]
  rfl
/-! ### what is left -/
theorem less_less (c r s : List Nat) : less (less c r) s = less c (r ++ s) := by
  unfold less
  rw [List.filter_filter]
  apply List.filter_congr
  intro i _
  by_cases h1 : i ∈ r <;> by_cases h2 : i ∈ s <;> simp [h1, h2]
def leftOf (bs : List Box) (held : List Str) (closed : List Nat) : List Nat := less closed (roundsOf bs held closed).flatten
end Kw
set_option Elab.async false
set_option linter.all false
set_option maxRecDepth 100000
set_option maxHeartbeats 4000000
namespace Kw
open PySem PySem.Spec PyProof.Rows L2 Evl
abbrev sCell : Stmt := topS 12
theorem scCell : FnScope ["script", "k"] ["script", "k"] (defScope sCell) := ⟨rfl, rfl, rfl, by decide +kernel, rfl, by decide +kernel, by decide +kernel⟩
abbrev sDraw : Stmt := topS 13
theorem scDraw : FnScope ["cell", "many", "size", "found", "rest", "stirred", "k"] ["cell", "many", "size"] (defScope sDraw) := ⟨rfl, rfl, rfl, by decide +kernel, rfl, by decide +kernel, by decide +kernel⟩
abbrev sBag : Stmt := topS 15
theorem scBag : FnScope ["script", "k"] ["script", "k"] (defScope sBag) := ⟨rfl, rfl, rfl, by decide +kernel, rfl, by decide +kernel, by decide +kernel⟩
abbrev sBags : Stmt := topS 16
theorem scBags : FnScope ["script", "limit", "k"] ["script", "limit"] (defScope sBags) := ⟨rfl, rfl, rfl, by decide +kernel, rfl, by decide +kernel, by decide +kernel⟩
abbrev sTake : Stmt := topS 17
theorem scTake : FnScope ["bag", "many"] ["bag", "many"] (defScope sTake) := ⟨rfl, rfl, rfl, by decide +kernel, rfl, by decide +kernel, by decide +kernel⟩
abbrev BuL (mg : Str → Option Value) : Prop := Bu mg
def DrawsOk (xs : List Int) : Prop := xs.length = 400 ∧ ∀ x ∈ xs, 0 ≤ x ∧ x < 1000
def Bag (H : Hp) (a : Addr) : Prop := ∃ (d : Addr) (n : Int) (xs : List Int), H a = some (.lst [.ref d, .int n]) ∧ H d = some (.lst (xs.map V.int)) ∧ DrawsOk xs
/-- all stays but what lies at a -/
def ExB (a : Addr) (H H' : Hp) : Prop := ∀ b o, b ≠ a → H b = some o → H' b = some o
theorem ExB.refl (a : Addr) (H : Hp) : ExB a H H := fun _ _ _ h => h
theorem ExB.trans {a : Addr} {H H1 H2 : Hp} (x : ExB a H H1) (y : ExB a H1 H2) : ExB a H H2 := fun b o n h => y b o n (x b o n h)
theorem ExB.of {a : Addr} {H H' : Hp} (e : Ex H H') : ExB a H H' := fun b o _ h => e b o h
theorem Bag.ex {H H' : Hp} {a : Addr} (e : Ex H H') (h : Bag H a) : Bag H' a := by
  obtain ⟨d, n, xs, h1, h2, h3⟩ := h
  exact ⟨d, n, xs, e _ _ h1, e _ _ h2, h3⟩
theorem Bag.keepT {H H' : Hp} {a : Addr} (h : Bag H a) (e : ExB a H H') : KeepT H H' := fun b xs r => by
  obtain ⟨d, n, ys, h1, _⟩ := h
  have nb : b ≠ a := by
    rintro rfl
    rcases r with r | ⟨o, r⟩
    · rw [h1] at r; cases r
    · rw [h1] at r; cases r
  rcases r with r | ⟨o, r⟩
  · exact .inl (e _ _ nb r)
  · exact .inr ⟨o, e _ _ nb r⟩
section
variable {P : Program} {w : World} {K : PySem.W.Frag} {mg : Str → Option Value} {base : Heap}
/-! ### _law_cell_at -/
def spCell (K : PySem.W.Frag) : Sp := fun vs H Q _ => ∃ (a : Addr) (ns : List Int) (k : Nat), vs = [.ref a, vN k] ∧ SqL K H a (ns.map V.int) ∧ ∀ c H2, Ex H H2 → Q (.int c) H2
theorem ok_cell {f : Addr} {fd : FuncData} {k : Nat} (F : Fun K "_law_cell_at" "_law_cell_at" sCell f fd) (B : Bu mg) : FnOk P w K mg base CX0 (k + 1) f fd ["script", "k"] (spCell K) := by
  refine F.ok scCell (fun vs H Q E h => ?_) (fun cdv A outer s H vs Q E hr h => ?_)
  · obtain ⟨a, ns, k, rfl, _⟩ := h
    rfl
  · obtain ⟨a, ns, k, rfl, hS, q⟩ := h
    refine ⟨_, pss_cons (ps_if (pt_cmpR op_lt (pv 1) (pe_callB call_len_seq (by rfl) B.len PySem.boot_len (pa_cons (pv 0) pa_nil)) (nomark _)) (pss_one (ps_ret (pe_ix ix_list (pv 0) (pv 1) (fun _ _ => rfl)))) pss_nil) (pss_one (ps_ret pe_int)), ?_⟩
    refine q_when (b := decide ((k : Int) < ((ns.map V.int).length : Nat))) (et_test (ev_op (ev_var (v := vN k) rfl) (ev_len (K := K) (ev_var (v := .ref a) rfl) hS) rv_I0)) (fun hb H1 e1 => ?_) (fun hb H1 e1 => q 0 H1 e1)
    have hk : k < ns.length := by
      have := of_decide_eq_true hb
      rw [List.length_map] at this
      omega
    exact s_ret (ev_op (ev_var (v := .ref a) rfl) (ev_var (v := vN k) rfl) (rv_ixL (v := .int ns[k]) (ex_l e1 hS) (atI_nat (by rw [List.getElem?_map, List.getElem?_eq_getElem hk]; rfl)))) fun H2 e2 => q _ H2 (e1.trans e2)
/-! ### _law_draws -/
def DrawI (H : Hp) (p : Addr) (c : Int) (i : Nat) (σ' : L2.St) (H' : Hp) : Prop := ∃ (rest st : Int) (y : Option V) (xs : List Int), σ' = [some (.int c), some (.int 400), some (.int 1000), some (.ref p), some (.int rest), some (.int st), y] ∧ Ex H H' ∧ H' p = some (.lst (xs.map V.int)) ∧ xs.length = i - 3 ∧ (∀ x ∈ xs, 0 ≤ x ∧ x < 1000) ∧ 0 ≤ st ∧ st < 2305843009213693951
theorem DrawI.grow {H H' : Hp} {p : Addr} {c rest st v : Int} {i : Nat} {y : Option V} {xs : List Int} (np : H p = none) (e : Ex H H') (h2 : 2 < i) (hl : xs.length = i - 3) (hall : ∀ x ∈ xs, 0 ≤ x ∧ x < 1000) (v0 : 0 ≤ v) (v1 : v < 1000) (s0 : 0 ≤ st) (s1 : st < 2305843009213693951) :
    DrawI H p c (i + 1) [some (.int c), some (.int 400), some (.int 1000), some (.ref p), some (.int rest), some (.int st), y] (upd H' p (.lst (xs.map V.int ++ [.int v]))) := by
  refine ⟨rest, st, y, xs ++ [v], rfl, Ex.mut e np, ?_, by rw [List.length_append, List.length_singleton]; omega, fun x hx => ?_, s0, s1⟩
  · rw [upd_same, List.map_append]
    rfl
  · rcases List.mem_append.mp hx with h | h
    · exact hall x h
    · rw [List.mem_singleton.mp h]
      exact ⟨v0, v1⟩
def spDraw (K : PySem.W.Frag) : Sp := fun vs H Q _ => ∃ c : Int, vs = [.int c, .int 400, .int 1000] ∧ ∀ p xs H2, H p = none → Ex H H2 → H2 p = some (.lst (xs.map V.int)) → DrawsOk xs → Q (.ref p) H2
theorem ok_draw {f : Addr} {fd : FuncData} {k : Nat} (F : Fun K "_law_draws" "_law_draws" sDraw f fd) (B : Bu mg) (BL : BuL mg) : FnOk P w K mg base CX0 (k + 1) f fd ["cell", "many", "size"] (spDraw K) := by
  refine F.ok scDraw (fun vs H Q E h => ?_) (fun cdv A outer s H vs Q E hr h => ?_)
  · obtain ⟨c, rfl, _⟩ := h
    rfl
  · obtain ⟨c, rfl, q⟩ := h
    refine ⟨_, pss_cons (ps_set (i := 3) scDraw.nd rfl (.inl rfl) (pe_lst pa_nil))
      (pss_cons (ps_set (i := 4) scDraw.nd rfl (.inl rfl) (pe_op op_mul (pv 0) (pe_callTy call_int1 (by rfl) BL.int PyProof.Rows.boot_int (pa_cons (pe_cmpR op_ge (pv 0) (pe_op op_pow pe_int pe_int) (nomark _)) pa_nil))))
      (pss_cons (ps_set (i := 5) scDraw.nd rfl (.inl rfl) (pe_op op_mod (pv 0) pe_int))
      (pss_cons (ps_for PassesOwn.never rfl (pi_range1 (by rfl) B.rng (pa_cons (pe_op op_add (pv 1) pe_int) pa_nil)) (pg_name (i := 6) scDraw.nd rfl (.inl rfl))
        (pss_cons (ps_set (i := 5) scDraw.nd rfl (.inl rfl) (pe_op op_mod (pe_op op_add (pe_op op_add (pe_op op_add (pe_op op_mul (pv 5) (pv 5)) (pe_op op_mul pe_int (pv 5))) (pv 6)) pe_int) pe_int))
        (pss_one (ps_if (pw_and (pt_cmpR op_gt (pv 6) pe_int (nomark _)) (pw_and1 (pt_cmpR op_gt (pv 4) pe_int (nomark _)))).pt
          (pss_cons (ps_expr (pe_bm PySem.F.plainAttrs_list PySem.F.slot_list_append PySem.F.type_list_append mt_append (pv 3) (pa_cons (pe_op op_mod (pv 4) (pv 2)) pa_nil)))
            (pss_one (ps_set (i := 4) scDraw.nd rfl (.inl rfl) (pe_op op_fdiv (pv 4) (pv 2)))))
          (pss_one (ps_if (pt_cmpR op_gt (pv 6) pe_int (nomark _)) (pss_one (ps_expr (pe_bm PySem.F.plainAttrs_list PySem.F.slot_list_append PySem.F.type_list_append mt_append (pv 3) (pa_cons (pe_op op_mod (pe_op op_fdiv (pv 5) pe_int) (pv 2)) pa_nil)))) pss_nil))))))
      (pss_one (ps_ret (pv 3)))))), ?_⟩
    refine q_asgL (xs := []) (el_lst ea_nil (by decide)) fun p H1 np e1 hp => ?_
    have t10 : ∀ {σ : L2.St} {H : Hp}, Ev (tOp (rI CPow fun i j => .int (i ^ j.toNat)) (tC (.int 10)) (tC (.int 18))) σ H (.int ((10 : Int) ^ (18 : Int).toNat)) := fun {σ H} => ev_op ev_c ev_c (rv_I ⟨by decide, by decide, by decide⟩)
    refine q_asg (v := .int (c * (if decide ((10 : Int) ^ (18 : Int).toNat ≤ c) then 1 else 0))) (ev_op (ev_var (v := .int c) rfl) (ev_cb (ea_cons (ev_op (ev_var (v := .int c) rfl) t10 rv_I0) ea_nil) (z := .int (if decide ((10 : Int) ^ (18 : Int).toNat ≤ c) then 1 else 0)) (fun H2 _ Q q => .inr ⟨_, rfl, q H2 (Ex.refl H2)⟩)) (rv_I (.inr ?_))) fun H2 e2 => ?_
    · split <;> exact ⟨by decide, by decide⟩
    refine q_asg (v := .int (c % 2305843009213693951)) (ev_op (ev_var (v := .int c) rfl) ev_c (rv_I (by decide))) fun H3 e3 => ?_
    refine q_forR1 (n := 403) (ea_cons (ev_op (ev_var (v := .int 400) rfl) ev_c rv_I0) ea_nil) (by decide) (DrawI H p c)
      (fun H4 e4 => ⟨_, _, none, [], rfl, ((e1.trans e2).trans e3).trans e4, ((e2.trans e3).trans e4) _ _ hp, rfl, by simp, Int.emod_nonneg _ (by decide), Int.emod_lt_of_pos _ (by decide)⟩) (fun i σ' H' hi hP => ?_) (fun σ' H' hP => ?_)
    · obtain ⟨rest, st, y, xs, rfl, eH, hp', hlen, hall, s0, s1⟩ := hP
      refine q_asg (v := .int ((st * st + 48271 * st + (i : Int) + 1) % 2305843009213693951)) (ev_op (ev_op (ev_op (ev_op (ev_op (ev_var (v := .int st) rfl) (ev_var (v := .int st) rfl) (rv_I (.inl ⟨by omega, by omega⟩))) (ev_op ev_c (ev_var (v := .int st) rfl) (rv_I (.inl ⟨by decide, by decide⟩))) rv_I0) (ev_var (v := .int (i : Int)) rfl) rv_I0) ev_c rv_I0) ev_c (rv_I (by decide))) fun H5 e5 => ?_
      generalize hst : (st * st + 48271 * st + (i : Int) + 1) % 2305843009213693951 = st2
      have z0 : 0 ≤ st2 := by rw [← hst]; exact Int.emod_nonneg _ (by decide)
      have z1 : st2 < 2305843009213693951 := by rw [← hst]; exact Int.emod_lt_of_pos _ (by decide)
      have hxl : (xs.map V.int).length < 100000 := by
        rw [List.length_map]
        omega
      refine s_if (b := decide ((2 : Int) < (i : Int)) && decide (0 < rest)) (et_and (et_test (ev_op (ev_var (v := .int (i : Int)) rfl) ev_c rv_gt)) fun _ => et_test (ev_op (ev_var (v := .int rest) rfl) ev_c rv_gt)) (fun hb H6 e6 => ?_) (fun hb H6 e6 => ?_)
      · have hb' := Bool.and_eq_true_iff.mp hb
        have h2 : 2 < i := by
          have := of_decide_eq_true hb'.1
          omega
        refine q_app (K := K) (l := p) ((e5.trans e6) _ _ hp') (ev_var (v := .ref p) rfl) (v := .int (rest % 1000)) (ev_op (ev_var (v := .int rest) rfl) (ev_var (v := .int 1000) rfl) (rv_I (by decide))) hxl fun H7 e7 => ?_
        refine s_asg (v := .int (rest / 1000)) (ev_op (ev_var (v := .int rest) rfl) (ev_var (v := .int 1000) rfl) (rv_I ⟨by decide, by decide⟩)) fun H8 e8 => ?_
        have g := DrawI.grow (c := c) (rest := rest / 1000) (y := some (.int (i : Int))) np (((eH.trans e5).trans e6).trans e7) h2 hlen hall (Int.emod_nonneg rest (by decide : (1000 : Int) ≠ 0)) (Int.emod_lt_of_pos rest (by decide : (0 : Int) < 1000)) z0 z1
        obtain ⟨r', s', y', xs', g1, g2, g3, g4⟩ := g
        exact ⟨r', s', y', xs', g1, g2.trans e8, e8 _ _ g3, g4⟩
      · refine s_when (b := decide ((2 : Int) < (i : Int))) (et_test (ev_op (ev_var (v := .int (i : Int)) rfl) ev_c rv_gt)) (fun hb2 H7 e7 => ?_) (fun hb2 H7 e7 => ?_)
        · have h2 : 2 < i := by
            have := of_decide_eq_true hb2
            omega
          refine s_app (K := K) (l := p) (((e5.trans e6).trans e7) _ _ hp') (ev_var (v := .ref p) rfl) (v := .int (st2 / 4096 % 1000)) (ev_op (ev_op (ev_var (v := .int st2) rfl) ev_c (rv_I ⟨by decide, by decide⟩)) (ev_var (v := .int 1000) rfl) (rv_I (by decide))) hxl fun H8 e8 => ?_
          exact DrawI.grow np ((((eH.trans e5).trans e6).trans e7).trans e8) h2 hlen hall (Int.emod_nonneg _ (by decide : (1000 : Int) ≠ 0)) (Int.emod_lt_of_pos _ (by decide : (0 : Int) < 1000)) z0 z1
        · have h2 : ¬ 2 < i := by
            have := of_decide_eq_false hb2
            omega
          exact ⟨rest, st2, _, xs, rfl, (((eH.trans e5).trans e6).trans e7), ((e5.trans e6).trans e7) _ _ hp', by omega, hall, z0, z1⟩
    · obtain ⟨rest, st, y, xs, rfl, eH, hp', hlen, hall, s0, s1⟩ := hP
      exact ⟨.ref p, rfl, q p xs H' np eH hp' ⟨hlen, hall⟩⟩
end
end Kw
set_option Elab.async false
set_option linter.all false
set_option maxRecDepth 100000
set_option maxHeartbeats 4000000
namespace Kw
open PySem PySem.Spec PyProof.Rows L2 Evl
section
variable {P : Program} {w : World} {K : PySem.W.Frag} {mg : Str → Option Value} {base : Heap}
/-! ### _law_bag -/
def spBag (K : PySem.W.Frag) : Sp := fun vs H Q _ => ∃ (a : Addr) (ns : List Int) (k : Nat), vs = [.ref a, vN k] ∧ SqL K H a (ns.map V.int) ∧ ∀ p d xs H2, H p = none → H d = none → Ex H H2 → H2 p = some (.lst [.ref d, .int 0]) → H2 d = some (.lst (xs.map V.int)) → DrawsOk xs → Q (.ref p) H2
theorem ok_bag {f fC fD : Addr} {fd fdC fdD : FuncData} {k : Nat} (F : Fun K "_law_bag" "_law_bag" sBag f fd) (DC : Df K mg "_law_cell_at" sCell ["script", "k"] fC fdC) (DD : Df K mg "_law_draws" sDraw ["cell", "many", "size"] fD fdD)
    (GC : FnOk P w K mg base CX0 (k + 1) fC fdC ["script", "k"] (spCell K)) (GD : FnOk P w K mg base CX0 (k + 1) fD fdD ["cell", "many", "size"] (spDraw K)) : FnOk P w K mg base CX0 (k + 2) f fd ["script", "k"] (spBag K) := by
  refine F.ok scBag (fun vs H Q E h => ?_) (fun cdv A outer s H vs Q E hr h => ?_)
  · obtain ⟨a, ns, k, rfl, _⟩ := h
    rfl
  · obtain ⟨a, ns, k, rfl, hS, q⟩ := h
    refine ⟨_, pss_one (ps_ret (pe_lst (pa_cons (pcall DD GD hr (pa_cons (pcall DC GC hr (pa_cons (pv 0) (pa_cons (pv 1) pa_nil))) (pa_cons pe_int (pa_cons pe_int pa_nil)))) (pa_cons pe_int pa_nil)))), ?_⟩
    refine ⟨.ref a, rfl, vN k, rfl, a, ns, k, rfl, hS, fun c H2 e2 => ?_⟩
    refine ⟨c, rfl, fun p xs H3 np e3 h3 ho => ⟨by show 2 ≤ sizeLine; decide, fun b nb => ?_⟩⟩
    have e4 := Ex.new (o := .lst [.ref p, .int 0]) nb
    exact q b p xs _ (fresh_back (e2.trans e3) nb) (fresh_back e2 np) ((e2.trans e3).trans e4) upd_same (e4 _ _ h3) ho
/-! ### _law_bags -/
def BagsAt (H : Hp) (ys : List V) : Prop := ∀ y ∈ ys, ∃ a, y = .ref a ∧ Bag H a
theorem BagsAt.ex {H H' : Hp} {ys : List V} (e : Ex H H') (h : BagsAt H ys) : BagsAt H' ys := fun y hy => by
  obtain ⟨a, h1, h2⟩ := h y hy
  exact ⟨a, h1, h2.ex e⟩
def spBags (K : PySem.W.Frag) (lim : Nat) : Sp := fun vs H Q _ => ∃ (a : Addr) (ns : List Int), vs = [.ref a, vN lim] ∧ SqL K H a (ns.map V.int) ∧ ns.length ≤ 1000 ∧ ∀ p ys H2, H p = none → Ex H H2 → H2 p = some (.lst ys) → BagsAt H2 ys → (∀ y ∈ ys, y ≠ .ref p) → ys.length ≤ lim → Q (.ref p) H2
/-- the lists made on the way stay apart from the list that is made of them -/
theorem ok_bags {f fB : Addr} {fd fdB : FuncData} {k lim : Nat} (hlim : 1 ≤ lim ∧ lim ≤ 1000) (F : Fun K "_law_bags" "_law_bags" sBags f fd) (B : Bu mg) (BL : BuL mg) (DB : Df K mg "_law_bag" sBag ["script", "k"] fB fdB)
    (GB : FnOk P w K mg base CX0 (k + 2) fB fdB ["script", "k"] (spBag K)) : FnOk P w K mg base CX0 (k + 3) f fd ["script", "limit"] (spBags K lim) := by
  refine F.ok scBags (fun vs H Q E h => ?_) (fun cdv A outer s H vs Q E hr h => ?_)
  · obtain ⟨a, ns, rfl, _⟩ := h
    rfl
  · obtain ⟨a, ns, rfl, hS, hl, q⟩ := h
    refine ⟨_, pss_one (ps_ret (pe_lc (own := [("k", 2)]) (g := gName 2) (tt := tYes) (te := tCall (spBag K) [] E0 (tCons (tVar 0) (tCons (tVar 2) tNil))) rfl scBags.nd
        (pi_range1 (by rfl) B.rng (pa_cons (pe_callB (call_max2 rfl) (by rfl) BL.max PyProof.Rows.boot_max (pa_cons pe_int (pa_cons (pe_callB (call_min2 rfl) (by rfl) BL.min PyProof.Rows.boot_min (pa_cons (pv 1) (pa_cons (pe_callB call_len_seq (by rfl) B.len PySem.boot_len (pa_cons (pv 0) pa_nil)) pa_nil))) pa_nil))) pa_nil))
        (blkOk_by (N := ["script", "limit", "k"]) (sc := defScope sBags) (by decide +kernel)) (fun _ _ _ _ _ => pg_name (i := 2) scBags.nd rfl (.inl rfl)) (fun _ _ _ _ _ => pts_nil) (fun _ _ _ _ _ => pcall DB GB hr (pa_cons (pv 0) (pa_cons (pv 2) pa_nil))))), ?_⟩
    have hn : ∃ n : Nat, n ≤ lim ∧ (if (if ((ns.map V.int).length : Int) < (lim : Int) then ((ns.map V.int).length : Int) else (lim : Int)) > 1 then (if ((ns.map V.int).length : Int) < (lim : Int) then ((ns.map V.int).length : Int) else (lim : Int)) else 1) = (n : Int) := by
      split <;> split
      · exact ⟨(ns.map V.int).length, by omega, rfl⟩
      · exact ⟨1, by omega, rfl⟩
      · exact ⟨lim, by omega, rfl⟩
      · exact ⟨1, by omega, rfl⟩
    obtain ⟨n, hn1, hn2⟩ := hn
    refine ⟨vN lim, rfl, .ref a, rfl, a, _, rfl, .inl hS, (lim : Int), _, rfl, 1, _, rfl, _, rfl, ?_⟩
    rw [hn2]
    refine ⟨by omega, by omega, fun D hD => ?_⟩
    rw [Int.toNat_natCast]
    refine lc_it (walk_rng0 (n := n)) (Pv := fun i H' => Ex H H' ∧ ∃ ys : List V, H' D = some (.lst ys) ∧ ys.length = i ∧ ∀ y ∈ ys, ∃ a d n xs, y = .ref a ∧ a ≠ D ∧ d ≠ D ∧ H' a = some (.lst [.ref d, .int n]) ∧ H' d = some (.lst (xs.map V.int)) ∧ DrawsOk xs) ⟨Ex.new hD, [], upd_same, rfl, by simp⟩
      (fun _ _ _ _ => trivial) (fun i x H' H2 hi p y => ?_) (fun H' p => ?_)
    · obtain ⟨p1, ys, p2, p3, p4⟩ := p
      obtain ⟨rfl, rfl⟩ := y
      refine ⟨rfl, yes_do ?_⟩
      refine ⟨.ref a, rfl, vN i, rfl, a, ns, i, rfl, ex_l p1 hS, fun p d xs H3 np nd e3 h3 h3' ho => ?_⟩
      have hD3 : H3 D = some (.lst ys) := e3 _ _ p2
      have npD : p ≠ D := fun z => by
        rw [z, p2] at np
        cases np
      have ndD : d ≠ D := fun z => by
        rw [z, p2] at nd
        cases nd
      refine ⟨ys, hD3, sz_lt (by omega), Ex.mut (p1.trans e3) hD, ys ++ [.ref p], upd_same, by rw [List.length_append, List.length_singleton, p3], fun y hy => ?_⟩
      rcases List.mem_append.mp hy with h | h
      · obtain ⟨a', d', n', xs', r1, r2, r3, r4, r5, r6⟩ := p4 y h
        exact ⟨a', d', n', xs', r1, r2, r3, by rw [upd_ne r2]; exact e3 _ _ r4, by rw [upd_ne r3]; exact e3 _ _ r5, r6⟩
      · rw [List.mem_singleton.mp h]
        exact ⟨p, d, 0, xs, rfl, npD, ndD, by rw [upd_ne npD]; exact h3, by rw [upd_ne ndD]; exact h3', ho⟩
    · obtain ⟨p1, ys, p2, p3, p4⟩ := p
      refine q D ys H' hD p1 p2 (fun y hy => ?_) (fun y hy z => ?_) (by omega)
      · obtain ⟨a', d', n', xs', r1, r2, r3, r4, r5, r6⟩ := p4 y hy
        exact ⟨a', r1, d', n', xs', r4, r5, r6⟩
      · obtain ⟨a', d', n', xs', r1, r2, r3, r4, r5, r6⟩ := p4 y hy
        rw [r1] at z
        exact r2 (V.ref.inj z)
theorem ExB.back {a : Addr} {H H' : Hp} (e : ExB a H H') (h : Bag H' a) {b : Addr} (hb : H' b = none) : H b = none := by
  obtain ⟨d, n, xs, h1, _⟩ := h
  cases q : H b with
  | none => rfl
  | some o =>
    have nb : b ≠ a := fun z => by
      rw [z, h1] at hb
      cases hb
    rw [e b o nb q] at hb
    cases hb
/-! ### _law_take -/
def spTake (K : PySem.W.Frag) : Sp := fun vs H Q _ => ∃ (a : Addr) (m : Int), vs = [.ref a, .int m] ∧ Bag H a ∧ 0 < m ∧ ∀ r H', 0 ≤ r → r < m → ExB a H H' → Bag H' a → Q (.int r) H'
theorem ok_take {f : Addr} {fd : FuncData} {k : Nat} (F : Fun K "_law_take" "_law_take" sTake f fd) (B : Bu mg) : FnOk P w K mg base CX0 (k + 1) f fd ["bag", "many"] (spTake K) := by
  refine F.ok scTake (fun vs H Q E h => ?_) (fun cdv A outer s H vs Q E hr h => ?_)
  · obtain ⟨a, m, rfl, _⟩ := h
    rfl
  · obtain ⟨a, m, rfl, ⟨d, n, xs, h1, h2, h3⟩, hm, q⟩ := h
    refine ⟨_, pss_cons (ps_asg (pe_op op_add (pe_ix ix_list (pv 0) pe_int (fun _ _ => rfl)) pe_int) (pg_sub (pv 0) pe_int set_list))
      (pss_one (ps_ret (pe_op op_mod (pe_ix ix_list (pe_ix ix_list (pv 0) pe_int (fun _ _ => rfl)) (pe_op op_mod (pe_ix ix_list (pv 0) pe_int (fun _ _ => rfl)) (pe_callB call_len_seq (by rfl) B.len PySem.boot_len (pa_cons (pe_ix ix_list (pv 0) pe_int (fun _ _ => rfl)) pa_nil))) (fun _ _ => rfl)) (pv 1)))), ?_⟩
    have nad : d ≠ a := fun z => by
      rw [z, h1] at h2
      have := HO.lst.inj (Option.some.inj h2)
      have := congrArg List.length this
      rw [List.length_map, h3.1] at this
      simp at this
    refine q_setL (l := a) (xs := [.ref d, .int n]) (j := 1) (v := .int (n + 1)) h1 (ev_op (ev_op (ev_var (v := .ref a) rfl) ev_c (rv_ixL (K := K) (sq_of h1) at1)) ev_c rv_I0) (ev_var rfl) ev_c (by show 1 < 2; decide) fun H1 e1 => ?_
    have g1 : upd H1 a (.lst ([V.ref d, .int n].set 1 (.int (n + 1)))) a = some (.lst [.ref d, .int (n + 1)]) := upd_same
    have g2 : upd H1 a (.lst ([V.ref d, .int n].set 1 (.int (n + 1)))) d = some (.lst (xs.map V.int)) := by
      rw [upd_ne nad]
      exact e1 _ _ h2
    have g3 : ExB a H (upd H1 a (.lst ([V.ref d, .int n].set 1 (.int (n + 1))))) := fun b o nb hb => by
      rw [upd_ne nb]
      exact e1 _ _ hb
    generalize upd H1 a (.lst ([V.ref d, .int n].set 1 (.int (n + 1)))) = G at g1 g2 g3
    have hlen : (xs.map V.int).length = 400 := by rw [List.length_map, h3.1]
    have r0 : 0 ≤ (n + 1) % 400 := Int.emod_nonneg _ (by decide)
    have r1 : (n + 1) % 400 < 400 := Int.emod_lt_of_pos _ (by decide)
    obtain ⟨j, hj⟩ := Int.eq_ofNat_of_zero_le r0
    have hj' : j < xs.length := by
      rw [h3.1]
      omega
    have ed : Ev (tOp (rIxL K) (tVar 0) (tC (.int 0))) [some (.ref a), some (.int m)] G (.ref d) := ev_op (ev_var (v := .ref a) rfl) ev_c (rv_ixL (K := K) (sq_of g1) at0)
    refine s_ret (v := .int (xs[j] % m)) (ev_op (ev_op ed (ev_is (w := .int (j : Int)) (ev_op (ev_op (ev_var (v := .ref a) rfl) ev_c (rv_ixL (K := K) (sq_of g1) at1)) (ev_len (K := K) ed (sq_of g2)) (rv_I ?_)) ?_) (rv_ixL (K := K) (v := .int xs[j]) (sq_of g2) (atI_nat (by rw [List.getElem?_map, List.getElem?_eq_getElem hj']; rfl)))) (ev_var (v := .int m) rfl) (rv_I hm)) fun H2 e2 => ?_
    · rw [hlen]
      decide
    · rw [hlen]
      show V.int ((n + 1) % 400) = _
      rw [hj]
    · exact q _ H2 (Int.emod_nonneg _ (by omega)) (Int.emod_lt_of_pos _ hm) (g3.trans (ExB.of e2)) ⟨d, n + 1, xs, e2 _ _ g1, e2 _ _ g2, h3⟩
end
end Kw
set_option Elab.async false
set_option linter.all false
set_option maxRecDepth 100000
set_option maxHeartbeats 4000000
namespace Kw
open PySem PySem.Spec PyProof.Rows L2 Evl
abbrev sSome : Stmt := topS 19
theorem scSome : FnScope ["bag", "most", "wide", "names", "found", "turn"] ["bag", "most", "wide"] (defScope sSome) := ⟨rfl, rfl, rfl, by decide +kernel, rfl, by decide +kernel, by decide +kernel⟩
abbrev sHouse : Stmt := topS 20
theorem scHouse : FnScope ["bag", "boxes", "locks", "wide", "found", "turn"] ["bag", "boxes", "locks", "wide"] (defScope sHouse) := ⟨rfl, rfl, rfl, by decide +kernel, rfl, by decide +kernel, by decide +kernel⟩
def names12 : List Str := ["amber", "blue", "cyan", "dun", "ebony", "fawn", "gold", "hazel", "ivory", "jade", "khaki", "lime"]
theorem names_col : ∀ c ∈ names12, colB c = true := by decide +kernel
theorem rising_of_sorted : ∀ {ys : List Str}, ys.Nodup → sortedS ys = true → Rising ys := by
  intro ys hn hs i x y hx hy
  have key : ∀ (r : List Str) (p : Str) (i : Nat) (x y : Str), risingS p r = true → (p :: r)[i]? = some x → (p :: r)[i + 1]? = some y → ltCps y.cps.toList x.cps.toList = false := by
    intro r
    induction r with
    | nil =>
      intro p i x y _ _ h
      simp at h
    | cons a r ih =>
      intro p i x y h hx hy
      have h' : (!ltCps a.cps.toList p.cps.toList && risingS a r) = true := h
      rw [Bool.and_eq_true_iff] at h'
      cases i with
      | zero =>
        have e1 : p = x := Option.some.inj hx
        have e2 : a = y := Option.some.inj hy
        rw [← e1, ← e2]
        have := h'.1
        cases q : ltCps a.cps.toList p.cps.toList with
        | false => rfl
        | true =>
          rw [q] at this
          cases this
      | succ i => exact ih a i x y h'.2 hx hy
  cases ys with
  | nil => simp at hx
  | cons p r =>
    have h1 := key r p i x y hs hx hy
    rw [ltCps_eq] at h1
    have h2 := of_decide_eq_false h1
    have h3 : x.cps.toList ≤ y.cps.toList := List.not_lt.mp h2
    have hne : x.cps.toList ≠ y.cps.toList := fun z => by
      have := nd_ix hn (by rw [str_ext z] at hx; exact hx) hy
      omega
    by_cases hlt : x.cps.toList < y.cps.toList
    · exact hlt
    · exact absurd (List.le_antisymm h3 (List.not_lt.mp hlt)) hne
theorem any_key {kvs : List (Key × V)} {k : Key} : (kvs.any fun kv => decide (kv.1 = k)) = true ↔ k ∈ kvs.map (·.1) := by
  rw [List.any_eq_true, List.mem_map]
  constructor
  · rintro ⟨x, h1, h2⟩
    exact ⟨x, h1, of_decide_eq_true h2⟩
  · rintro ⟨x, h1, h2⟩
    exact ⟨x, h1, decide_eq_true h2⟩
theorem putK_in {kvs : List (Key × V)} {k : Key} {v : V} (h : k ∈ kvs.map (·.1)) : (putK kvs k v).map (·.1) = kvs.map (·.1) := by
  unfold putK
  rw [if_pos (any_key.mpr h), List.map_map]
  apply List.map_congr_left
  intro x hx
  show (if x.1 = k then (x.1, v) else x).1 = x.1
  split <;> rfl
theorem putK_out {kvs : List (Key × V)} {k : Key} {v : V} (h : ¬ k ∈ kvs.map (·.1)) : (putK kvs k v).map (·.1) = kvs.map (·.1) ++ [k] := by
  unfold putK
  rw [if_neg (fun z => h (any_key.mp z)), List.map_append]
  rfl
abbrev BuS (mg : Str → Option Value) : Prop := Bu mg
section
variable {P : Program} {w : World} {K : PySem.W.Frag} {mg : Str → Option Value} {base : Heap}
def spSome (K : PySem.W.Frag) : Sp := fun vs H Q _ => ∃ (a : Addr) (m w : Nat), vs = [.ref a, vN m, vN w] ∧ Bag H a ∧ m ≤ 6 ∧ 1 ≤ w ∧ w ≤ 12 ∧ ∀ p cs H', H p = none → ExB a H H' → Bag H' a → H' p = some (.tup (cs.map V.str)) → OkCols cs m → (∀ c ∈ cs, c ∈ names12) → Q (.ref p) H'
theorem ok_some {f fT : Addr} {fd fdT : FuncData} {k : Nat} (F : Fun K "_law_some" "_law_some" sSome f fd) (B : Bu mg) (BS : BuS mg) (DT : Df K mg "_law_take" sTake ["bag", "many"] fT fdT) (GT : FnOk P w K mg base CX0 (k + 1) fT fdT ["bag", "many"] (spTake K)) : FnOk P w K mg base CX0 (k + 2) f fd ["bag", "most", "wide"] (spSome K) := by
  refine F.ok scSome (fun vs H Q E h => ?_) (fun cdv A outer s H vs Q E hr h => ?_)
  · obtain ⟨a, m, w, rfl, _⟩ := h
    rfl
  · obtain ⟨a, m, wd, rfl, hB, hm, hw1, hw2, q⟩ := h
    refine ⟨_, pss_cons (ps_set (i := 3) scSome.nd rfl (.inl rfl) (pe_lst (pa_cons pe_str (pa_cons pe_str (pa_cons pe_str (pa_cons pe_str (pa_cons pe_str (pa_cons pe_str (pa_cons pe_str (pa_cons pe_str (pa_cons pe_str (pa_cons pe_str (pa_cons pe_str (pa_cons pe_str pa_nil))))))))))))))
      (pss_cons (ps_set (i := 4) scSome.nd rfl (.inl rfl) pe_dnewK)
      (pss_cons (ps_for PassesOwn.never rfl (pi_range1 (by rfl) B.rng (pa_cons (pcall DT GT hr (pa_cons (pv 0) (pa_cons (pe_op op_add (pv 1) pe_int) pa_nil))) pa_nil)) (pg_name (i := 5) scSome.nd rfl (.inl rfl))
        (pss_one (ps_dput (hu_of hr) (pv 4) (pe_ix ix_list (pv 3) (pcall DT GT hr (pa_cons (pv 0) (pa_cons (pv 2) pa_nil))) (fun _ _ => rfl)) pe_bl rfl)))
      (pss_one (ps_ret (pe_callTy call_tupOf (by rfl) B.tup boot_tuple (pa_cons (pe_callB (call_sortedD rfl) (by rfl) BS.srt PyProof.Rows.boot_sorted (pa_cons (pv 4) pa_nil)) pa_nil)))))), ?_⟩
    refine q_asgL (xs := names12.map V.str) (el_lst (ea_cons ev_c (ea_cons ev_c (ea_cons ev_c (ea_cons ev_c (ea_cons ev_c (ea_cons ev_c (ea_cons ev_c (ea_cons ev_c (ea_cons ev_c (ea_cons ev_c (ea_cons ev_c (ea_cons ev_c ea_nil)))))))))))) (by show 12 ≤ 100000; decide)) fun l H0 nl e1 hl => fun d nd => ?_
    have nla : l ≠ a := fun z => by
      obtain ⟨da, na, xa, hBa, _⟩ := hB
      rw [z, hBa] at nl
      cases nl
    have e2 := Ex.new (H := H0) (o := .dK []) nd
    have nda : d ≠ a := fun z => by
      obtain ⟨da, na, xa, hBa, _⟩ := hB.ex e1
      rw [z, hBa] at nd
      cases nd
    have nH : H d = none := fresh_back e1 nd
    have ndl : d ≠ l := fun z => by
      rw [z, hl] at nd
      cases nd
    refine ⟨.ref a, rfl, vN m, rfl, (m : Int), 1, rfl, rfl, a, (m : Int) + 1, rfl, hB.ex (e1.trans e2), by omega, fun r H1 r0 r1 x1 b1 => ?_⟩
    refine ⟨r, rfl, by omega, by omega, ?_⟩
    refine for_range (lo := 0) (n := r.toNat) (fun i σ' H' => ∃ (y : Option V) (kvs : List (Key × V)) (ks : List Str), σ' = [some (.ref a), some (vN m), some (vN wd), some (.ref l), some (.ref d), y] ∧ ExB a H H' ∧ Bag H' a ∧ H' l = some (.lst (names12.map V.str)) ∧ H' d = some (.dK kvs) ∧ kvs.map (·.1) = ks.map Sum.inr ∧ ks.Nodup ∧ (∀ c ∈ ks, c ∈ names12) ∧ ks.length ≤ i)
      ⟨none, [], [], rfl, (ExB.of (e1.trans e2)).trans x1, b1, x1 _ _ nla (e2 _ _ hl), x1 _ _ nda upd_same, rfl, List.nodup_nil, by simp, Nat.le_refl _⟩ (fun i σ' H' hi hP => ?_) (fun σ' H' hP => ?_)
    · obtain ⟨y, kvs, ks, rfl, x2, b2, h3, h4, hk, hnd, hin, hlen⟩ := hP
      refine ⟨.ref d, rfl, .ref l, rfl, .ref a, rfl, vN wd, rfl, a, (wd : Int), rfl, b2, by omega, fun r2 H2 s0 s1 x3 b3 => ?_⟩
      obtain ⟨j, hj⟩ := Int.eq_ofNat_of_zero_le s0
      have hj12 : j < names12.length := by
        show j < 12
        omega
      have h3' := x3 _ _ nla h3
      have h4' := x3 _ _ nda h4
      refine ⟨l, names12.map V.str, r2, .str names12[j], rfl, rfl, sq_of h3', by rw [hj]; exact atI_nat (by rw [List.getElem?_map, List.getElem?_eq_getElem hj12]; rfl), d, _, rfl, DPut.k (k := Sum.inr names12[j]) h4' ?_, ?_⟩
      · have := congrArg List.length hk
        rw [List.length_map, List.length_map] at this
        exact sz_lt (by omega)
      · have b4 : Bag (upd H2 d (.dK (putK kvs (Sum.inr names12[j]) (.bl true)))) a := by
          obtain ⟨d', n', xs', g1, g2, g3⟩ := b3
          refine ⟨d', n', xs', by rw [upd_ne (Ne.symm nda)]; exact g1, ?_, g3⟩
          have : d' ≠ d := fun z => by
            rw [z, h4'] at g2
            cases g2
          rw [upd_ne this]
          exact g2
        have x4 : ExB a H (upd H2 d (.dK (putK kvs (Sum.inr names12[j]) (.bl true)))) := fun b o nb hb => by
          have : b ≠ d := ne_of_none hb nH
          rw [upd_ne this]
          exact (x2.trans x3) b o nb hb
        by_cases hmem : names12[j] ∈ ks
        · have hput := putK_in (kvs := kvs) (k := Sum.inr names12[j]) (v := .bl true) (by rw [hk]; exact List.mem_map.mpr ⟨_, hmem, rfl⟩)
          rw [hk] at hput
          exact ⟨some _, _, ks, rfl, x4, b4, by rw [upd_ne (Ne.symm ndl)]; exact h3', upd_same, hput, hnd, hin, by omega⟩
        · have hput := putK_out (kvs := kvs) (k := Sum.inr names12[j]) (v := .bl true) (by
            rw [hk]
            intro z
            obtain ⟨c, h1, h2⟩ := List.mem_map.mp z
            exact hmem (Sum.inr.inj h2 ▸ h1))
          rw [hk] at hput
          refine ⟨some _, _, ks ++ [names12[j]], rfl, x4, b4, by rw [upd_ne (Ne.symm ndl)]; exact h3', upd_same, by rw [hput, List.map_append]; rfl, nd_snoc hnd hmem, fun c hc => ?_, by rw [List.length_append, List.length_singleton]; omega⟩
          rcases List.mem_append.mp hc with h | h
          · exact hin c h
          · rw [List.mem_singleton.mp h]
            exact List.getElem_mem hj12
    · obtain ⟨y, kvs, ks, rfl, x2, b2, h3, h4, hk, hnd, hin, hlen⟩ := hP
      refine ⟨.ref d, rfl, d, kvs, ks, rfl, .inl h4, hk, by omega, fun ys p perm srt np => ⟨p, ys.map V.str, rfl, .inl ⟨sq_of upd_same, fun t nt => ?_⟩⟩⟩
      have e5 := Ex.new (o := .lst (ys.map V.str)) np
      have e6 := Ex.new (H := upd H' p (.lst (ys.map V.str))) (o := .tup (ys.map V.str)) nt
      refine q t ys _ (x2.back b2 (fresh_back e5 nt)) (x2.trans (ExB.of (e5.trans e6))) (b2.ex (e5.trans e6)) upd_same ⟨?_, fun c hc => names_col c (hin c (perm.mem_iff.mp hc)), rising_of_sorted (perm.nodup_iff.mpr hnd) srt⟩ fun c hc => hin c (perm.mem_iff.mp hc)
      rw [perm.length_eq]
      omega
end
end Kw
set_option Elab.async false
set_option linter.all false
set_option maxRecDepth 100000
set_option maxHeartbeats 4000000
namespace Kw
open PySem PySem.Spec PyProof.Rows L2 Evl
/-- [c, ..][_law_take(bag, n)] -/
theorem menu {K : PySem.W.Frag} {σ : L2.St} {H : Hp} {ta : TA} {cs : List Int} {i : Nat} {a : Addr} {n : Int} {Q : VK} (ha : EvA ta σ H (cs.map V.int)) (hn : n = (cs.length : Int)) (hl : 1 ≤ cs.length ∧ cs.length ≤ 1000) (h0 : σ[i]? = some (some (.ref a))) (hB : Bag H a)
    (q : ∀ c H', c ∈ cs → ExB a H H' → Bag H' a → Q (.int c) H') : tOp (rIxL K) (tLst ta) (tCall (spTake K) [] E0 (tCons (tVar i) (tCons (tC (.int n)) tNil))) σ H Q := by
  refine el_lst ha (by rw [List.length_map]; omega) H (Ex.refl H) _ fun l H1 nl e1 hl1 => ?_
  refine ⟨.ref a, h0, a, n, rfl, hB.ex e1, by omega, fun r H2 r0 r1 x2 b2 => ?_⟩
  obtain ⟨j, hj⟩ := Int.eq_ofNat_of_zero_le r0
  have hj' : j < cs.length := by omega
  have nla : l ≠ a := fun z => by
    obtain ⟨da, na, xa, hBa, _⟩ := hB
    rw [z, hBa] at nl
    cases nl
  exact ⟨l, cs.map V.int, r, .int cs[j], rfl, rfl, sq_of (x2 _ _ nla hl1), by rw [hj]; exact atI_nat (by rw [List.getElem?_map, List.getElem?_eq_getElem hj']; rfl), q _ H2 (List.getElem_mem hj') ((ExB.of e1).trans x2) b2⟩
def FromNames (h : House) : Prop := (∀ b ∈ h.1, (∀ c ∈ b.1, c ∈ names12) ∧ ∀ c ∈ b.2, c ∈ names12) ∧ ∀ c ∈ h.2, c ∈ names12
theorem OkCols.mono {cs : List Str} {m n : Nat} (h : OkCols cs m) (hmn : m ≤ n) : OkCols cs n := ⟨Nat.le_trans h.1 hmn, h.2⟩
section
variable {P : Program} {w : World} {K : PySem.W.Frag} {mg : Str → Option Value} {base : Heap}
def spHs (K : PySem.W.Frag) : Sp := fun vs H Q _ => ∃ (a : Addr) (nb nl w : Nat), vs = [.ref a, vN nb, vN nl, vN w] ∧ Bag H a ∧ 1 ≤ nb ∧ nb ≤ 30 ∧ nl ≤ 3 ∧ 1 ≤ w ∧ w ≤ 12 ∧
  ∀ v h H', ExB a H H' → Bag H' a → HouseAt K H' v h → OkHouse h → h.1.length ≤ nb → (∀ b ∈ h.1, b.1.length ≤ nl) → FromNames h → Q v H'
theorem ok_hs {f fT fS : Addr} {fd fdT fdS : FuncData} {k : Nat} (F : Fun K "_law_house" "_law_house" sHouse f fd) (B : Bu mg) (DT : Df K mg "_law_take" sTake ["bag", "many"] fT fdT) (DS : Df K mg "_law_some" sSome ["bag", "most", "wide"] fS fdS)
    (GT : FnOk P w K mg base CX0 (k + 1) fT fdT ["bag", "many"] (spTake K)) (GS : FnOk P w K mg base CX0 (k + 2) fS fdS ["bag", "most", "wide"] (spSome K)) : FnOk P w K mg base CX0 (k + 3) f fd ["bag", "boxes", "locks", "wide"] (spHs K) := by
  refine F.ok scHouse (fun vs H Q E h => ?_) (fun cdv A outer s H vs Q E hr h => ?_)
  · obtain ⟨a, nb, nl, w, rfl, _⟩ := h
    rfl
  · obtain ⟨a, nb, nl, wd, rfl, hB, hb1, hb2, hl3, hw1, hw2, q⟩ := h
    refine ⟨_, pss_cons (ps_set (i := 4) scHouse.nd rfl (.inl rfl) (pe_lst pa_nil))
      (pss_cons (ps_for PassesOwn.never rfl (pi_range1 (by rfl) B.rng (pa_cons (pe_op op_add pe_int (pcall DT GT (hr.mono (by omega)) (pa_cons (pv 0) (pa_cons (pv 1) pa_nil)))) pa_nil)) (pg_name (i := 5) scHouse.nd rfl (.inl rfl))
        (pss_one (ps_expr (pe_bm PySem.F.plainAttrs_list PySem.F.slot_list_append PySem.F.type_list_append mt_append (pv 4) (pa_cons (pe_tup (pa_cons (pcall DS GS hr (pa_cons (pv 0) (pa_cons (pv 2) (pa_cons (pv 3) pa_nil))))
          (pa_cons (pcall DS GS hr (pa_cons (pv 0) (pa_cons (pe_ix ix_list (pe_lst (pa_cons pe_int (pa_cons pe_int (pa_cons pe_int (pa_cons pe_int pa_nil))))) (pcall DT GT (hr.mono (by omega)) (pa_cons (pv 0) (pa_cons pe_int pa_nil))) (fun _ _ => rfl)) (pa_cons (pv 3) pa_nil)))) pa_nil))) pa_nil)))))
      (pss_one (ps_ret (pe_tup (pa_cons (pe_callTy call_tupOf (by rfl) B.tup boot_tuple (pa_cons (pv 4) pa_nil))
        (pa_cons (pcall DS GS hr (pa_cons (pv 0) (pa_cons (pe_ix ix_list (pe_lst (pa_cons pe_int (pa_cons pe_int (pa_cons pe_int (pa_cons pe_int pa_nil))))) (pcall DT GT (hr.mono (by omega)) (pa_cons (pv 0) (pa_cons pe_int pa_nil))) (fun _ _ => rfl)) (pa_cons (pv 3) pa_nil)))) pa_nil)))))), ?_⟩
    refine q_asgL (xs := []) (el_lst ea_nil (by decide)) fun fl H0 nfl e0 hfl => ?_
    have nfa : fl ≠ a := fun z => by
      obtain ⟨da, na, xa, hBa, _⟩ := hB
      rw [z, hBa] at nfl
      cases nfl
    refine ⟨.ref a, rfl, vN nb, rfl, a, (nb : Int), rfl, hB.ex e0, by omega, fun r H1 r0 r1 x1 b1 => ?_⟩
    refine ⟨1, r, rfl, rfl, 1 + r, rfl, by omega, by omega, ?_⟩
    refine for_range (lo := 0) (n := (1 + r).toNat) (fun i σ' H' => ∃ (y : Option V) (ys : List V) (bs : List Box), σ' = [some (.ref a), some (vN nb), some (vN nl), some (vN wd), some (.ref fl), y] ∧ ExB a H H' ∧ Bag H' a ∧ H' fl = some (.lst ys) ∧ Paired (BoxAt K H') ys bs ∧ bs.length = i ∧ ∀ b ∈ bs, OkBox b ∧ b.1.length ≤ nl ∧ (∀ c ∈ b.1, c ∈ names12) ∧ ∀ c ∈ b.2, c ∈ names12)
      ⟨none, [], [], rfl, (ExB.of e0).trans x1, b1, x1 _ _ nfa hfl, .nil, rfl, by simp⟩ (fun i σ' H' hi hP => ?_) (fun σ' H' hP => ?_)
    · obtain ⟨y, ys, bs, rfl, x2, b2, h3, hp, hlen, hall⟩ := hP
      have hyl : ys.length = bs.length := paired_len hp
      refine ⟨.ref fl, rfl, .inl ⟨rfl, _, sq_of h3⟩, .ref a, rfl, vN nl, rfl, vN wd, rfl, a, nl, wd, rfl, b2, by omega, hw1, hw2, fun p1 cs1 H2 np1 x3 b3 h1 oc1 in1 => ?_⟩
      refine ⟨.ref a, rfl, ?_⟩
      refine menu (K := K) (cs := [1, 1, 3, 6]) (ea_cons ev_c (ea_cons ev_c (ea_cons ev_c (ea_cons ev_c ea_nil)))) rfl (by decide) rfl b3 fun c H3 hc x4 b4 => ?_
      have hc6 : ∃ m : Nat, c = (m : Int) ∧ m ≤ 6 := by
        simp only [List.mem_cons, List.mem_singleton, List.not_mem_nil, or_false] at hc
        rcases hc with rfl | rfl | rfl | rfl
        · exact ⟨1, rfl, by decide⟩
        · exact ⟨1, rfl, by decide⟩
        · exact ⟨3, rfl, by decide⟩
        · exact ⟨6, rfl, by decide⟩
      obtain ⟨m, rfl, hm6⟩ := hc6
      refine ⟨vN wd, rfl, a, m, wd, rfl, b4, hm6, hw1, hw2, fun p2 cs2 H4 np2 x5 b5 h2 oc2 in2 => ?_⟩
      refine ⟨by show 2 ≤ sizeLine; decide, fun p3 np3 => ?_⟩
      have e6 := Ex.new (o := .tup [.ref p1, .ref p2]) np3
      have np1a : p1 ≠ a := fun z => by
        obtain ⟨da, na, xa, hBa, _⟩ := b3
        rw [z, hBa] at h1
        cases h1
      have k1 : KeepT H' (upd H4 p3 (.tup [.ref p1, .ref p2])) := (((b2.keepT x3).trans (b3.keepT x4)).trans (b4.keepT x5)).trans (KeepT.ex e6)
      have h1' : upd H4 p3 (.tup [.ref p1, .ref p2]) p1 = some (.tup (cs1.map V.str)) := e6 _ _ (x5 _ _ np1a (x4 _ _ np1a h1))
      have h2' : upd H4 p3 (.tup [.ref p1, .ref p2]) p2 = some (.tup (cs2.map V.str)) := e6 _ _ h2
      have hfl' : upd H4 p3 (.tup [.ref p1, .ref p2]) fl = some (.lst ys) := e6 _ _ (x5 _ _ nfa (x4 _ _ nfa (x3 _ _ nfa h3)))
      have h3' : upd H4 p3 (.tup [.ref p1, .ref p2]) p3 = some (.tup [.ref p1, .ref p2]) := upd_same
      have xA : ExB a H (upd H4 p3 (.tup [.ref p1, .ref p2])) := ((x2.trans x3).trans x4).trans (x5.trans (ExB.of e6))
      have bA : Bag (upd H4 p3 (.tup [.ref p1, .ref p2])) a := b5.ex e6
      generalize upd H4 p3 (.tup [.ref p1, .ref p2]) = G at k1 h1' h2' hfl' h3' xA bA
      refine ⟨fl, ys, .ref p3, rfl, rfl, hfl', sz_lt (by omega), ?_⟩
      refine ⟨some _, ys ++ [.ref p3], bs ++ [(cs1, cs2)], rfl, fun b o nb hb => ?_, ?_, upd_same, ?_, by rw [List.length_append, List.length_singleton, hlen], fun b hb => ?_⟩
      · have : b ≠ fl := ne_of_none hb nfl
        rw [upd_ne this]
        exact xA b o nb hb
      · obtain ⟨d', n', xs', g1, g2, g3⟩ := bA
        refine ⟨d', n', xs', by rw [upd_ne (Ne.symm nfa)]; exact g1, ?_, g3⟩
        have : d' ≠ fl := fun z => by
          rw [z, hfl'] at g2
          have e := congrArg List.length (HO.lst.inj (Option.some.inj g2))
          rw [List.length_map, g3.1] at e
          omega
        rw [upd_ne this]
        exact g2
      · have kk := KeepT.lst (ys := ys ++ [.ref p3]) hfl'
        exact paired_app (paired_imp hp fun _ _ h => h.keep (k1.trans kk)) ⟨p3, p1, p2, rfl, keep_t kk (st_of h3'), keep_t kk (st_of h1'), keep_t kk (st_of h2')⟩
      · rcases List.mem_append.mp hb with h | h
        · exact hall b h
        · rw [List.mem_singleton.mp h]
          exact ⟨⟨oc1.mono hl3, oc2.mono hm6⟩, oc1.1, in1, in2⟩
    · obtain ⟨y, ys, bs, rfl, x2, b2, h3, hp, hlen, hall⟩ := hP
      have hbl : bs.length = (1 + r).toNat := hlen
      refine ⟨.ref fl, rfl, fl, ys, rfl, .inl ⟨sq_of h3, fun t nt => ?_⟩⟩
      have e4 := Ex.new (o := .tup ys) nt
      refine ⟨.ref a, rfl, ?_⟩
      refine menu (K := K) (cs := [0, 0, 1, 6]) (ea_cons ev_c (ea_cons ev_c (ea_cons ev_c (ea_cons ev_c ea_nil)))) rfl (by decide) rfl (b2.ex e4) fun c H3 hc x4 b4 => ?_
      have hc6 : ∃ m : Nat, c = (m : Int) ∧ m ≤ 6 := by
        simp only [List.mem_cons, List.mem_singleton, List.not_mem_nil, or_false] at hc
        rcases hc with rfl | rfl | rfl | rfl
        · exact ⟨0, rfl, by decide⟩
        · exact ⟨0, rfl, by decide⟩
        · exact ⟨1, rfl, by decide⟩
        · exact ⟨6, rfl, by decide⟩
      obtain ⟨m, rfl, hm6⟩ := hc6
      refine ⟨vN wd, rfl, a, m, wd, rfl, b4, hm6, hw1, hw2, fun p2 cs2 H4 np2 x5 b5 h2 oc2 in2 => ?_⟩
      refine ⟨by show 2 ≤ sizeLine; decide, fun p3 np3 => ?_⟩
      have e6 := Ex.new (o := .tup [.ref t, .ref p2]) np3
      have k0 : KeepT H' (upd H4 p3 (.tup [.ref t, .ref p2])) := (((KeepT.ex e4).trans ((b2.ex e4).keepT x4)).trans (b4.keepT x5)).trans (KeepT.ex e6)
      have k1 : KeepT (upd H' t (.tup ys)) (upd H4 p3 (.tup [.ref t, .ref p2])) := (((b2.ex e4).keepT x4).trans (b4.keepT x5)).trans (KeepT.ex e6)
      refine q (.ref p3) (bs, cs2) _ (((x2.trans (ExB.of e4)).trans x4).trans (x5.trans (ExB.of e6))) (b5.ex e6) ⟨p3, t, p2, rfl, st_of upd_same, ⟨ys, keep_t k1 (st_of upd_same), paired_imp hp fun _ _ h => h.keep k0⟩, st_of (e6 _ _ h2)⟩ ⟨?_, ?_, fun b hb => (hall b hb).1, oc2.mono hm6⟩ ?_ (fun b hb => (hall b hb).2.1) ⟨fun b hb => (hall b hb).2.2, in2⟩
      · show 1 ≤ bs.length
        omega
      · show bs.length ≤ 30
        omega
      · show bs.length ≤ nb
        omega
end
end Kw
set_option Elab.async false
set_option linter.all false
set_option maxRecDepth 100000
set_option maxHeartbeats 4000000
namespace Kw
open PySem PySem.Spec PyProof.Rows L2 Evl
theorem Bag.other {H H' : Hp} {a b : Addr} (hb : Bag H b) (ha : Bag H a) (e : ExB a H H') (ha' : Bag H' a) : Bag H' b := by
  by_cases hab : b = a
  · rw [hab]
    exact ha'
  · obtain ⟨d, n, xs, g1, g2, g3⟩ := hb
    obtain ⟨d', n', xs', f1, _⟩ := ha
    have hd : d ≠ a := fun z => by
      rw [z, f1] at g2
      have e := congrArg List.length (HO.lst.inj (Option.some.inj g2))
      rw [List.length_map, g3.1] at e
      cases e
    exact ⟨d, n, xs, e _ _ hab g1, e _ _ hd g2, g3⟩
/-- the loop over the bags of a script -/
theorem bags_for {K : PySem.W.Frag} {lim : Nat} {D : Ends} {body : TS} {σ : L2.St} {H : Hp} {a : Addr} {ns : List Int} (S : L2.St → Prop) (h0 : σ[0]? = some (some (.ref a))) (hS : SqL K H a (ns.map V.int)) (hl : ns.length ≤ 63) (hs : S σ)
    (turn : ∀ b H1 σ' (N : L2.St → Hp → Prop), S σ' → Bag H1 b → (∀ σ'' H'', S σ'' → ExB b H1 H'' → Bag H'' b → N σ'' H'') → body { D with nx := N, ct := N, bk := D.nx } (σ'.set 1 (some (.ref b))) H1)
    (done : ∀ σ' H', S σ' → D.nx σ' H') : tFor (iList K (tCall (spBags K lim) [] E0 (tCons (tVar 0) (tCons (tC (.int lim)) tNil)))) (gName 1) body D σ H := by
  refine ⟨.ref a, h0, a, ns, rfl, hS, by omega, fun p ys H1 np e1 hp hB hne hln => ⟨p, rfl, ⟨ys, sq_of hp⟩, ?_⟩⟩
  refine for_it (walk_list (K := K) (a := p) (xs := ys)) (fun _ σ' H' => S σ' ∧ H' p = some (.lst ys) ∧ BagsAt H' ys) ⟨hs, hp, hB⟩ (fun i σ' H' _ hP => sq_of hP.2.1) (fun i x σ' H2 H3 hi hP hy => ?_) (fun σ' H2 hP => done σ' H2 hP.1)
  obtain ⟨s2, hp2, hB2⟩ := hP
  obtain ⟨rfl, hx⟩ := hy
  have hm := List.mem_of_getElem? hx
  obtain ⟨b, rfl, hb⟩ := hB2 x hm
  have hpb : p ≠ b := fun z => hne _ hm (by rw [z])
  exact turn b _ σ' _ s2 hb fun σ'' H'' hs x2 b2 => ⟨hs, x2 _ _ hpb hp2, (fun y hy => by
    obtain ⟨b', rfl, hb'⟩ := hB2 y hy
    exact ⟨b', rfl, hb'.other hb x2 b2⟩)⟩
def spLaw (K : PySem.W.Frag) : Sp := fun vs H Q _ => ∃ (a : Addr) (ns : List Int), vs = [.ref a] ∧ SqL K H a (ns.map V.int) ∧ ns.length ≤ 63 ∧ ∀ H', Q (.bl true) H'
/-- the slots of a law: the script's, then n others -/
def SlotsN (a : Addr) (n : Nat) (σ : L2.St) : Prop := ∃ ys : List (Option V), ys.length = n ∧ σ = some (.ref a) :: ys
end Kw
set_option Elab.async false
set_option linter.all false
set_option maxRecDepth 100000
set_option maxHeartbeats 4000000
namespace KwS
open PySem PySem.Spec PyProof.Rows L2
/-! ### sets of keys of any kind, by the list of what was put in -/
theorem prd_perm {α β : Type} {F : α → β → Prop} {es es' : List α} (p : es'.Perm es) : ∀ {js : List β}, Paired F es js → ∃ js' : List β, js'.Perm js ∧ Paired F es' js' := by
  induction p with
  | nil => exact fun h => ⟨_, List.Perm.refl _, h⟩
  | cons x _ ih =>
    intro js h
    cases h with
    | cons r t =>
      obtain ⟨j, h1, h2⟩ := ih t
      exact ⟨_ :: j, h1.cons _, .cons r h2⟩
  | swap x y l =>
    intro js h
    cases h with
    | cons r t =>
      cases t with
      | cons r2 t2 => exact ⟨_, List.Perm.swap _ _ _, .cons r2 (.cons r t2)⟩
  | trans _ _ ih1 ih2 =>
    intro js h
    obtain ⟨j1, a1, b1⟩ := ih2 h
    obtain ⟨j2, a2, b2⟩ := ih1 b1
    exact ⟨j2, a2.trans a1, b2⟩
theorem prd_mem {α β : Type} {F : α → β → Prop} {x : α} : ∀ {es : List α} {js : List β}, Paired F es js → x ∈ es → ∃ j ∈ js, F x j
  | _, _, .cons r t, h => by
    rcases List.mem_cons.mp h with rfl | h
    · exact ⟨_, List.mem_cons_self, r⟩
    · obtain ⟨j, h1, h2⟩ := prd_mem t h
      exact ⟨j, List.mem_cons_of_mem _ h1, h2⟩
theorem prd_mem2 {α β : Type} {F : α → β → Prop} {j : β} : ∀ {es : List α} {js : List β}, Paired F es js → j ∈ js → ∃ x ∈ es, F x j
  | _, _, .cons r t, h => by
    rcases List.mem_cons.mp h with rfl | h
    · exact ⟨_, List.mem_cons_self, r⟩
    · obtain ⟨x, h1, h2⟩ := prd_mem2 t h
      exact ⟨x, List.mem_cons_of_mem _ h1, h2⟩
section
variable {P : Program} {w : World} {κ : Type} [DecidableEq κ] (kd : PySem.KeyKind P w κ)
def Ent (e : Int × Value) (k : κ) : Prop := kd.is k e.2 = true ∧ e.1 = kd.hash k ∧ e.2.scannable = true
/-- the set at a: its keys are those of ks -/
def GS (h : Heap) (a : Addr) (ks : List κ) : Prop := ∃ (ob : Obj) (es : Array (Int × Value)) (ep : Nat) (tb : SetTable) (js : List κ), h.get? a = some ob ∧ ob.ExactSet ∧ ob.data = .set es ep tb ∧ Paired (Ent kd) es.toList js ∧ js.Nodup ∧ (∀ k, k ∈ js ↔ k ∈ ks) ∧
  es.size ≤ ks.length ∧ tb.fits es.size = true ∧ Ris tb.place.toList ∧ (w.params.followText "set-order" = true ∨ tb.led = true)
variable {kd}
theorem GS.at {h h' : Heap} {a : Addr} {ks : List κ} (g : GS kd h a ks) (k : ∀ o, h.get? a = some o → h'.get? a = some o) : GS kd h' a ks := by
  obtain ⟨ob, es, ep, tb, js, h1, r⟩ := g
  exact ⟨ob, es, ep, tb, js, k _ h1, r⟩
theorem elems {l : List (Int × Value)} {js : List κ} (p : Paired (Ent kd) l js) : ElemsOf kd l := fun e he => by
  obtain ⟨k, _, h1, h2, h3⟩ := prd_mem p he
  exact ⟨⟨k, h1, h2⟩, h3⟩
section
variable {A : Around} {E : Value → Shared → Prop} {s : Shared} {a : Addr} {ks : List κ}
theorem put_at {h : Heap} {ob : Obj} {es es2 : Array (Int × Value)} {ep : Nat} {tb tb2 : SetTable} (h1 : h.get? a = some ob) (h2 : ob.data = .set es ep tb) : (h.update a (Obj.putSet es2 tb2)).get? a = some { ob with data := .set es2 (ep + 1) tb2 } := by
  have z := putSet_of es2 tb2 h2
  have y := Heap.get?_update_self (Obj.putSet es2 tb2) h1 (by rw [z]; rfl)
  rwa [z] at y
theorem gs_tail {gw : Bool → Sem Unit} (hgw : ∀ (b : Bool) (s1 : Shared) (Q' : Unit → Shared → Prop), Q' () s1 → wpAny (model P w) A (gw b) Q' E s1) {ob : Obj} {es es1 : Array (Int × Value)} {ep : Nat} {tb t2 : SetTable} (h1 : s.heap.get? a = some ob) (hx : ob.ExactSet) (h2 : ob.data = .set es ep tb)
    {js : List κ} (hp : Paired (Ent kd) es1.toList js) (nd : js.Nodup) (hm : ∀ k, k ∈ js ↔ k ∈ ks) (hsz : es1.size ≤ ks.length) (hb : ks.length < scanBound) (hf : t2.fits es1.size = true) (hr : Ris t2.place.toList) (hl : w.params.followText "set-order" = true ∨ t2.led = true) {wd : Bool} {R : Option Bool → Shared → Prop}
    (hR : ∀ h', Heap.SameBut a s.heap h' → GS kd h' a ks → R (some true) { s with heap := h' }) :
    wpAny (model P w) A (do
        storeSet a es1 t2
        if (!wd && t2.tooFull) = true then do
            gw (relayAll t2 es1 (SetTable.grown es1.size)).2.2
            storeSet a (relayAll t2 es1 (SetTable.grown es1.size)).1 (relayAll t2 es1 (SetTable.grown es1.size)).2.1
            pure (some true)
          else pure (some true)) R E s := by
  refine wpAny_bind (wpAny_storeSet_of h1 h2 ?_ (fits_of_scanBound (Nat.lt_of_le_of_lt hsz hb)))
  have i1 := put_at (es2 := es1) (tb2 := t2) h1 h2
  have b1 := Heap.SameBut.update s.heap a (Obj.putSet es1 t2)
  split
  · have q1 := relayAll_perm t2 es1 (SetTable.grown es1.size)
    have q2 := relayAll_fits t2 es1 (SetTable.grown es1.size)
    have q3 := relayAll_ris t2 es1 (SetTable.grown es1.size)
    have q4 := relayAll_led t2 es1 (SetTable.grown es1.size)
    generalize relayAll t2 es1 (SetTable.grown es1.size) = Zs at q1 q2 q3 q4 ⊢
    obtain ⟨es3, t3, gv⟩ := Zs
    dsimp only at q1 q2 q3 q4 ⊢
    have e3 : es3.size = es1.size := by
      have := q1.length_eq
      simpa using this
    obtain ⟨js2, j1, j2⟩ := prd_perm q1 hp
    refine wpAny_bind (hgw _ _ _ (wpAny_bind (wpAny_storeSet_of i1 rfl ?_ (fits_of_scanBound (by rw [e3]; exact Nat.lt_of_le_of_lt hsz hb)))))
    have i2 := put_at (es2 := es3) (tb2 := t3) i1 rfl
    exact wpAny_pure (hR _ (b1.trans (Heap.SameBut.update _ a _)) ⟨_, es3, _, t3, js2, i2, hx, rfl, j2, j1.nodup_iff.mpr nd, fun k => j1.mem_iff.trans (hm k), by rw [e3]; exact hsz, q2, q3, hl.imp id fun z => by rw [q4]; exact z⟩)
  · exact wpAny_pure (hR _ b1 ⟨_, es1, _, t2, js, i1, hx, rfl, hp, nd, hm, hsz, hf, hr, hl⟩)
theorem gs_add {k : κ} {x : Value} (hk : kd.is k x = true) (hx : x.scannable = true) (g : GS kd s.heap a ks) (room : ks.length + 1 < scanBound) {Q : Bool → Shared → Prop}
    (hQ : ∀ b h', Heap.SameBut a s.heap h' → GS kd h' a (ks ++ [k]) → Q b { s with heap := h' }) : wpAny (model P w) A (setAddHashed a x (kd.hash k)) Q E s := by
  obtain ⟨ob, es, ep, tb, js, o1, o2, o3, hp, nd, hm, hsz, hf, hr, hl⟩ := g
  have hel := elems hp
  have hlen : es.size < scanBound := Nat.lt_of_le_of_lt hsz (Nat.lt_of_succ_lt room)
  unfold setAddHashed setAddHashedIn
  refine wpAny_holding (wpAny_bind (wpAny_setState_of o1 o3 hf ?_))
  dsimp only
  rw [byScan_of hx hlen hel]
  simp only [↓reduceIte]
  unfold setAddByScan
  refine wpAny_bind (wpAny_bind (wpAny_rule (wpAny_bind (wpAny_setScan_of hk o1 o3 hf hel ?_))))
  cases hfi : List.findIdx? (fun e => kd.is k e.2) es.toList with
  | some j =>
    dsimp only
    obtain ⟨hj, pj, _⟩ := List.findIdx?_eq_some_iff_getElem.mp hfi
    obtain ⟨k0, hk0, hi0, _⟩ := prd_mem hp (List.getElem_mem hj)
    have ek : k0 = k := kd.inj _ _ _ hi0 pj
    refine wpAny_pure (wpAny_pure (hQ false s.heap (Heap.SameBut.refl a s.heap) ⟨ob, es, ep, tb, js, o1, o2, o3, hp, nd, fun i => ?_, by rw [List.length_append]; omega, hf, hr, hl⟩))
    rw [hm i, List.mem_append, List.mem_singleton]
    exact ⟨Or.inl, fun z => z.elim id fun e => by rw [e, ← ek]; exact (hm k0).mp hk0⟩
  | none =>
    dsimp only
    have hnk : k ∉ js := fun z => by
      obtain ⟨e, he, q, _⟩ := prd_mem2 hp z
      have c := List.findIdx?_eq_none_iff.mp hfi e he
      rw [q] at c
      cases c
    have gw : ∀ (b : Bool) {s1 : Shared} {Q' : Unit → Shared → Prop}, Q' () s1 → wpAny (model P w) A (match b with | true => rule "set.scan.the-table-gave-way" | false => pure ()) Q' E s1 := fun b s1 Q' q => by
      cases b
      · exact wpAny_pure q
      · exact wpAny_rule q
    have q1 := layNew_perm tb es (kd.hash k) x
    have q2 := layNew_fits tb es (kd.hash k) x
    have q3 := layNew_ris tb es (kd.hash k) x hr
    have q4 := layNew_led tb es (kd.hash k) x
    generalize layNew tb es (kd.hash k) x = Zs at q1 q2 q3 q4 ⊢
    obtain ⟨es1, t1, wd, gv⟩ := Zs
    dsimp only at q1 q2 q3 q4 ⊢
    rw [Array.toList_push] at q1
    have q5 : es1.toList.Perm ((kd.hash k, x) :: es.toList) := q1.trans (List.perm_append_singleton _ _)
    obtain ⟨js1, j1, j2⟩ := prd_perm q5 (.cons ⟨hk, rfl, hx⟩ hp : Paired (Ent kd) ((kd.hash k, x) :: es.toList) (k :: js))
    have nd1 : js1.Nodup := j1.nodup_iff.mpr (List.nodup_cons.mpr ⟨hnk, nd⟩)
    have m1 : ∀ i, i ∈ js1 ↔ i ∈ ks ++ [k] := fun i => by
      rw [j1.mem_iff, List.mem_cons, hm i, List.mem_append, List.mem_singleton]
      exact Or.comm
    have sz1 : es1.size ≤ (ks ++ [k]).length := by
      have := q5.length_eq
      simp at this
      rw [List.length_append, List.length_singleton]
      omega
    have rm : (ks ++ [k]).length < scanBound := by
      rw [List.length_append, List.length_singleton]
      exact room
    have led1 : w.params.followText "set-order" = true ∨ t1.led = true := hl.imp id fun z => by rw [q4]; exact z
    refine wpAny_bind (gw _ ?_)
    split
    · refine wpAny_bind ?_
      rw [hashByValue_scannable 8 hx]
      refine wpAny_pure ?_
      refine gs_tail ?_ o1 o2 o3 j2 nd1 m1 sz1 rm ?_ ?_ ?_ ?_
      · intro b s1 Q' q
        exact gw b q
      · split
        · exact q2
        · exact SetTable.fits_plain_off q2
      · split <;> exact q3
      · split <;> exact led1
      · intro h' sb r
        exact wpAny_pure (hQ true h' sb r)
    · refine wpAny_bind (wpAny_pure ?_)
      simp only [↓reduceIte]
      refine gs_tail ?_ o1 o2 o3 j2 nd1 m1 sz1 rm q2 q3 led1 ?_
      · intro b s1 Q' q
        exact gw b q
      · intro h' sb r
        exact wpAny_pure (hQ true h' sb r)
end
end
end KwS
set_option Elab.async false
set_option linter.all false
set_option maxRecDepth 100000
set_option maxHeartbeats 4000000
namespace KwS
open PySem PySem.Spec PyProof.Rows L2
/-- a set just made -/
def fresh0 (w : World) : Obj := { cls := .type "set", dict := none, data := .set #[] 0 (.fresh 0 0 (!w.params.followText "set-order")) }
section
variable {P : Program} {w : World} {κ : Type} [DecidableEq κ] {kd : PySem.KeyKind P w κ} {A : Around} {E : Value → Shared → Prop} {s : Shared}
theorem gs_fresh {h : Heap} {a : Addr} (ho : h.get? a = some (fresh0 w)) : GS kd h a [] := by
  refine ⟨_, #[], 0, _, [], ho, ⟨rfl, rfl, rfl⟩, rfl, .nil, List.nodup_nil, fun _ => Iff.rfl, Nat.le_refl _, rfl, List.Pairwise.nil, ?_⟩
  show _ ∨ (!w.params.followText "set-order") = true
  cases w.params.followText "set-order" with
  | true => exact .inl rfl
  | false => exact .inr rfl
theorem gs_update {I : Addr} {fp wr : List Addr} {G : Array GenState → Array GenState → Prop} {n : Nat} {Pv : Nat → Value → Prop} {St : Nat → Shared → Prop} {R : Result → Shared → Prop} (W : WalksS P w A.in1 I fp wr G n Pv St) (S : Addr) (hS : S ∉ fp) (ks : List κ) (hn : n = ks.length)
    (hb : ks.length + 1 < scanBound) (hval : ∀ i v, Pv i v → ∃ k, ks[i]? = some k ∧ kd.is k v = true ∧ v.scannable = true) : ∀ (m i : Nat) (s : Shared), n - i = m → i ≤ n → St i s → GS kd s.heap S (ks.take i) →
      (∀ s', Moved (S :: wr) G s s' → GS kd s'.heap S ks → R (.ok (.ret .none)) s') → codeAny (model P w) A (.builtin "set.update.loop" ⟨[.ref S, .ref I], []⟩) R s := by
  have nw : S ∉ wr := fun z => hS (W.sub _ z)
  have up : ∀ b ∈ wr, b ∈ S :: wr := fun b z => List.mem_cons_of_mem _ z
  intro m
  induction m with
  | zero =>
    intro i s hm hi st g hR
    have e : i = n := Nat.le_antisymm hi (Nat.sub_eq_zero_iff_le.mp hm)
    subst e
    refine codeAny_builtin F.entry_set_update_loop ?_
    rw [Around.under_plainId F.plain_set_update_loop _]
    refine wpAny_bind (W.done s _ _ st fun s1 mv => wpAny_pure (hR s1 (mv.mono up) ?_))
    rw [List.take_of_length_le (by omega)] at g
    exact g.at fun o q => mv.heap S o nw q
  | succ m ih =>
    intro i s hm hi st g hR
    have lt : i < n := by omega
    refine codeAny_builtin F.entry_set_update_loop ?_
    rw [Around.under_plainId F.plain_set_update_loop _]
    refine wpAny_bind (W.item i s _ _ lt st fun v s1 hP st1 mv => ?_)
    obtain ⟨k, hk, his, hsc⟩ := hval i v hP
    have g1 : GS kd s1.heap S (ks.take i) := g.at fun o q => mv.heap S o nw q
    refine wpAny_bind (wpAny_holding ?_)
    unfold setAdd
    refine wpAny_holding (wpAny_bind (kd.pyHash his ?_))
    refine gs_add (s := { s1 with toks := s1.toks + 1 }) his hsc g1 (by rw [List.length_take]; omega) fun bb h2 sb g2 => ?_
    have g3 : GS kd h2 S (ks.take (i + 1)) := by
      rw [List.take_add_one, hk]
      exact g2
    refine wpAny_pure ⟨plainId_quiet F.plain_set_update_loop _, ih (i + 1) _ (by omega) lt (W.frame _ s1 _ _ st1 (Nat.le_succ _) fun b z o q => ?_) g3 fun s2 mv2 g4 => ?_⟩
    · have nb : b ≠ S := fun y => hS (y ▸ z)
      rw [sb.2 b nb]
      exact q
    · refine hR s2 (Moved.trans W.gtrans ((mv.mono up).then_heap (Nat.le_succ _) fun b o z q => ?_) mv2) g4
      have nb : b ≠ S := fun y => z (y ▸ List.mem_cons_self)
      rw [sb.2 b nb]
      exact q
theorem set_made (a : Value) {Q1 : Value → Shared → Prop} (h : Q1 (.ref s.heap.objs.size) { s with heap := s.heap.push (fresh0 w) }) : codeAny (model P w) A (.call (.builtin "set.__new__") ⟨[.type "set", a], []⟩) (wants Q1 E) s := code_set_led1 a h
set_option maxHeartbeats 8000000 in
/-- set(t), t a tuple -/
theorem call_setT {l : Addr} {its : Array Value} (ks : List κ) {Q : Value → Shared → Prop} (hh : A.handled = none) (hl : s.heap.IsTuple l its) (hz : its.size = ks.length) (hit : ∀ (i : Nat) (v : Value), its[i]? = some v → ∃ k, ks[i]? = some k ∧ kd.is k v = true ∧ v.scannable = true) (hb : ks.length + 1 < scanBound)
    (h : ∀ (h' : Heap) (tk : Nat), GS kd h' s.heap.objs.size ks → (∀ b o, s.heap.get? b = some o → h'.get? b = some o) → Q (.ref s.heap.objs.size) { s with heap := h', toks := tk }) : wpAny (model P w) A (call (.type "set") [.ref l]) Q E s := by
  obtain ⟨c0, tl0, m0⟩ := F.called_set.mro
  have m1 := F.called_set.made
  have m2 := F.called_set.sub
  have m3 := F.called_set.notType
  have m4 := F.called_set.canCreate
  have m5 := F.typeCall_set_1 (.ref l)
  refine wpAny_call (codeAny_of_tree ?_)
  refine wpAny_pure ⟨Code.quiet_builtin _ (by decide +kernel), codeAny_builtin F.entry_type_call ?_⟩
  rw [Around.under_plain (weight_type_call_type "set" [.ref l] []) rfl]
  repeat (any_goals (first | assumption | wp_step))
  refine codeAny_mono (set_made (.ref l) (E := E) (Q1 := fun v s1 => v = .ref s.heap.objs.size ∧ s1 = { s with heap := s.heap.push (fresh0 w) }) ⟨rfl, rfl⟩) fun r s1 hr => ?_
  cases r with
  | error e => exact hr
  | ok fl =>
    cases fl with
    | ret v =>
      obtain ⟨rfl, rfl⟩ := hr
      have hS : (s.heap.push (fresh0 w)).get? s.heap.objs.size = some (fresh0 w) := Heap.get?_push_size _ rfl
      have hT : Shared.TypeIs { s with heap := s.heap.push (fresh0 w) } (.ref s.heap.objs.size) "set" := ⟨_, hS, rfl⟩
      have n1 := F.called_set.init.lookup
      have n2 := F.called_set.init.bind (.ref s.heap.objs.size)
      repeat (any_goals (first | assumption | wp_step))
      refine codeAny_mono (codeAny_call_builtin (R := wants (fun r s2 => r = .none ∧ ∃ h' tk, s2 = { s with heap := h', toks := tk } ∧ GS kd h' s.heap.objs.size ks ∧ (∀ b o, s.heap.get? b = some o → h'.get? b = some o)) E) F.called_set.init.plain F.entry_set_init (check_set_init_1 hT ?_)) fun r2 s2 hr2 => ?_
      · obtain ⟨⟨oc, od, oo, os⟩, hol, hc, nl, hd⟩ := hl
        cases (show oc = .type "tuple" from hc)
        cases (show oo = .seq its nl from hd)
        have hol2 : (s.heap.push (fresh0 w)).get? l = some { cls := .type "tuple", dict := od, data := .seq its nl, slots := os } := Heap.get?_push_of_some _ hol
        have t1 := F.sub_tuple_set
        have t2 := F.sub_tuple_frozenset
        have t3 : (Value.type "tuple" == Value.type "dict") = false := by decide
        have hl1 : (s.heap.push (fresh0 w)).IsTuple l its := ⟨_, hol2, rfl, nl, rfl⟩
        unfold Builtin.«set.__init__» noKeywords Builtin.Frozenset.updateFrom
        generalize hPI : pyIter = PI
        wp_walk
        subst hPI
        refine wpAny_pyIter_tuple hl1 (wpAny_bind (wpAny_runValue ?_))
        have ls : l < s.heap.objs.size := Heap.lt_size hol
        have h3 : A.in1.in1.in1.handled = none := by simp [hh]
        have z1 : (s.heap.push (fresh0 w)).objs.size = s.heap.objs.size + 1 := Heap.size_push ..
        have nI : l ≠ (s.heap.push (fresh0 w)).objs.size := by
          rw [z1]
          exact Nat.ne_of_lt (Nat.lt_succ_of_lt ls)
        have nS : s.heap.objs.size ∉ [(s.heap.push (fresh0 w)).objs.size, l] := by
          rw [z1]
          intro z
          rcases List.mem_cons.mp z with z | z
          · exact Nat.succ_ne_self _ z.symm
          · exact Nat.ne_of_gt ls (List.mem_singleton.mp z)
        refine gs_update ((Walks.tuple h3 _ l nI its).toS) s.heap.objs.size nS ks hz hb hit (its.size - 0) 0 _ rfl (Nat.zero_le _) ⟨⟨_, Heap.get?_push_size _ rfl, rfl, rfl⟩, hl1.push _⟩ (gs_fresh (Heap.get?_push_of_some _ hS)) fun s3 mv g3 => ?_
        obtain ⟨h3', gg, dd, tk, oo⟩ := s3
        have e1 : gg = s.gens := mv.gens
        have e2 : dd = s.drawn := mv.drawn
        have e3 : oo = s.os := mv.os
        subst e1
        subst e2
        subst e3
        refine wpAny_pure ?_
        show wpAny _ _ (ret Value.none) _ _ _
        refine wpAny_pure ⟨rfl, h3', tk, rfl, g3, fun b o e => ?_⟩
        have hb0 : b < s.heap.objs.size := Heap.lt_size e
        refine mv.heap b o (fun z => ?_) (Heap.get?_push_of_some _ (Heap.get?_push_of_some _ e))
        rcases List.mem_cons.mp z with z | z
        · exact Nat.ne_of_lt hb0 z
        · have y := List.mem_singleton.mp z
          rw [z1] at y
          exact Nat.ne_of_lt (Nat.lt_succ_of_lt hb0) y
      · cases r2 with
        | error e => exact hr2
        | ok f2 =>
          cases f2 with
          | ret r =>
            obtain ⟨rfl, h', tk, rfl, g3, hk⟩ := hr2
            repeat (any_goals (first | assumption | wp_step))
            exact h _ _ g3 hk
          | _ => exact hr2.elim
    | _ => exact hr.elim
end
end KwS
set_option Elab.async false
set_option linter.all false
set_option maxRecDepth 100000
set_option maxHeartbeats 4000000
namespace KwS
open PySem PySem.Spec PyProof.Rows L2
/-- the set of the texts zs, at a -/
def TxS (P : Program) (w : World) (a : Addr) (zs : List Str) : HO := .ext fun h => GS (PySem.strKind P w) h a zs
section
variable {X : Cx}
theorem txs_new {P : Program} {w : World} {H : Hp} {h : Heap} {a : Addr} {zs : List Str} (g : GS (PySem.strKind P w) h a zs) : ObjOk P w H h a (TxS P w a zs) := by
  have ⟨o, _, _, _, _, ho, _⟩ := g
  exact ⟨g, ⟨o, ho⟩, fun h1 h2 p k => GS.at p k⟩
def rSetTx (K : PySem.W.Frag) (P : Program) (w : World) : List V → Hp → VK → Prop := fun xs H Q => ∃ (l : Addr) (zs : List Str), xs = [V.ref l] ∧ SqT K H l (zs.map V.str) ∧ zs.length ≤ 50 ∧ ∀ p, H p = none → Q (.ref p) (upd H p (TxS P w p zs))
theorem vals_get {xs : List V} {us : List Value} {i : Nat} {v : Value} (r : Vals xs us) (h : us[i]? = some v) : ∃ x, xs[i]? = some x ∧ RelV x v := by
  have hi := (List.getElem?_eq_some_iff.mp h).1
  have hj : i < xs.length := by
    rw [r.length]
    exact hi
  obtain ⟨u, h1, h2⟩ := r.get (List.getElem?_eq_getElem hj)
  rw [h] at h1
  cases h1
  exact ⟨_, List.getElem?_eq_getElem hj, h2⟩
theorem cr_setTx (hc : X.calm = true) : CallR X (.type "set") (rSetTx X.K X.prog X.w) := by
  intro pins s σ H xs us Q I r h
  obtain ⟨l, zs, rfl, hl, hn, q⟩ := h
  rw [Vals.ref1 r]
  obtain ⟨its, rv, pt, _⟩ := I.tuple hl
  have hlen : its.length = zs.length := by
    rw [← rv.length, List.length_map]
  refine call_setT (kd := PySem.strKind X.prog X.w) zs (I.ok.hd hc) pt (by simpa using hlen) (fun i v hv => ?_) (Nat.lt_of_le_of_lt (Nat.succ_le_succ hn) (by decide)) fun h' tk g hk => ?_
  · have hv' : its[i]? = some v := by simpa using hv
    obtain ⟨x, hx, rx⟩ := vals_get rv hv'
    rw [List.getElem?_map] at hx
    cases ez : zs[i]? with
    | none =>
      rw [ez] at hx
      cases hx
    | some z =>
      rw [ez] at hx
      cases hx
      obtain ⟨t, rfl⟩ := rx
      exact ⟨z, rfl, keyIs_str z t, rfl⟩
  · exact ⟨.ref _, upd H s.heap.objs.size (TxS X.prog X.w s.heap.objs.size zs), I.laid (t' := tk) hk (Nat.le_refl _) (txs_new g), rfl, q _ (I.hok.fresh (Nat.le_refl _))⟩
theorem strs_of : ∀ {vs : List Value} {zs : List Str}, Paired (fun v z => Value.isStrOf z v = true) vs zs → StrsAre vs zs
  | _, _, .nil => .nil
  | _, _, .cons h t => by
    obtain ⟨tk, rfl⟩ := Value.isStrOf_shape h
    exact .cons _ tk (strs_of t)
theorem prd_map {α β γ : Type} {F : β → γ → Prop} {f : α → β} : ∀ {es : List α} {js : List γ}, Paired (fun e j => F (f e) j) es js → Paired F (es.map f) js
  | _, _, .nil => .nil
  | _, _, .cons r t => .cons r (prd_map t)
def rSortTx (P : Program) (w : World) : List V → Hp → VK → Prop := fun vs H Q => ∃ (a : Addr) (zs : List Str), vs = [V.ref a] ∧ H a = some (TxS P w a zs) ∧ zs.length ≤ 50 ∧
  ∀ (ys : List Str) (p : Addr), ys.Nodup → (∀ z, z ∈ ys ↔ z ∈ zs) → sortedS ys = true → H p = none → Q (.ref p) (upd H p (.lst (ys.map V.str)))
theorem cr_sortTx (hc : X.calm = true) : CallR X (.builtin "sorted") (rSortTx X.prog X.w) := by
  intro pins s σ H vs us Q I r h
  obtain ⟨a, zs, rfl, ha, hn, q⟩ := h
  rw [Vals.ref1 r]
  obtain ⟨ob, es, ep, tb, js, o1, o2, o3, hp, nd, hm, hsz, hf, hr, hl⟩ := (I.hok a _ ha).1
  have h50 : es.size ≤ 50 := Nat.le_trans hsz hn
  refine Calls.call_function_entry kind_sorted plain_sorted entry_sorted (args_sorted1 _) ?_
  unfold Builtin.«sorted»
  refine wpAny_bind (m := checkCount "sorted" 1 1 _) (wpAny_pure (wpAny_bind (collect_set (A := X.A.in1) (I.ok.hd hc) ⟨ob, o1, o2.1, o3⟩ hf (Nat.lt_of_le_of_lt h50 (by decide)) hr hl fun s1 out k1 hz g1 os1 pm => ?_)))
  obtain ⟨js1, j1, j2⟩ := prd_perm pm (prd_map (f := Prod.snd) (F := fun v z => Value.isStrOf z v = true) (Paired.mapP hp fun e z x => x.1))
  have hS := strs_of j2
  have hol : out.length ≤ 50 := by
    rw [pm.length_eq, List.length_map, Array.length_toList]
    exact h50
  refine wpAny_bind (wpAny_newList ?_ (Nat.le_trans hol (by decide)))
  have hoL : (s1.heap.push (seqObj "list" out.toArray 0)).get? s1.heap.objs.size = some (seqObj "list" out.toArray 0) := Heap.get?_push_size _ rfl
  refine wpAny_bind (wpAny_holding (wpAny_call_entry slot_list_sort ⟨_, hoL, rfl⟩ entry_list_sort (list_sort_treeK PyProof.Rows.strKind_oneLt hoL hS.keysOf (fun v1 v2 rest e => keyKind_strs (by rw [← e]; exact hS)) (by omega) fun st hp2 hs2 => ⟨_, rfl, ?_⟩) (args_list_sort _)))
  obtain ⟨ys, y1, y2, y3⟩ := sorted_out_str hS hp2 hs2
  obtain ⟨e9, he9⟩ := sortedHeap_at (vs := out) (out := (arrOf st).map (·.2)) hoL
  have hlen : (ys.map V.str).length ≤ sizeLine := by
    rw [List.length_map, y2.length_eq, ← Paired.length j2]
    exact Nat.le_trans hol (by decide)
  have kp : ∀ b o, s.heap.get? b = some o → (sortedHeap (s1.heap.push (seqObj "list" out.toArray 0)) s1.heap.objs.size out ((arrOf st).map (·.2))).get? b = some o := fun b o e => by
    have z := k1 b o e
    have lt := Heap.lt_size z
    rw [sortedHeap_old (Nat.ne_of_lt lt) (by rw [size_push']; exact Nat.lt_succ_of_lt lt)]
    exact Heap.get?_push_of_some _ z
  have hno : H s1.heap.objs.size = none := I.hok.fresh hz
  have hob : ObjOk X.prog X.w (upd H s1.heap.objs.size (.lst (ys.map V.str))) (sortedHeap (s1.heap.push (seqObj "list" out.toArray 0)) s1.heap.objs.size out ((arrOf st).map (·.2))) s1.heap.objs.size (.lst (ys.map V.str)) := ⟨hlen, ((arrOf st).map (·.2)).toList, e9, vals_of_strs y1, by rw [Array.toArray_toList]; exact he9⟩
  generalize hG : sortedHeap (s1.heap.push (seqObj "list" out.toArray 0)) s1.heap.objs.size out ((arrOf st).map (·.2)) = G at kp hob
  have J : Inv X pins σ (upd H s1.heap.objs.size (.lst (ys.map V.str))) { s with heap := G, gens := s1.gens, drawn := s1.drawn, toks := s1.toks } := I.call (ch := []) (Un.laid kp hz hno) (I.hok.laid kp hz hob) (by rw [g1]; exact I.bare) (fun _ z => nomatch z)
  have e1 : ({ s1 with heap := G } : Shared) = { s with heap := G, gens := s1.gens, drawn := s1.drawn, toks := s1.toks } := by
    obtain ⟨a1, a2, a3, a4, a5⟩ := s1
    obtain ⟨b1, b2, b3, b4, b5⟩ := s
    cases (show a5 = b5 from os1)
    rfl
  refine wpAny_pure ⟨_, rfl, ?_⟩
  show EP X pins σ Q _ ({ s1 with heap := G } : Shared)
  rw [e1]
  exact ⟨.ref s1.heap.objs.size, _, J, rfl, q ys _ (y2.nodup_iff.mpr (j1.nodup_iff.mpr nd)) (fun z => (y2.mem_iff.trans j1.mem_iff).trans (hm z)) y3 hno⟩
end
end KwS
set_option Elab.async false
set_option linter.all false
set_option maxRecDepth 100000
set_option maxHeartbeats 4000000
namespace Kw
open PySem PySem.Spec PyProof.Rows L2 Evl HT
section
variable {prog : Program} {w : World} {A : Around} {E : Value → Shared → Prop} {s : Shared}
theorem sliceApplied_rev {sl : Addr} {vl vu vs : Value} {n : Nat} {Q : Int × Int × Nat → Shared → Prop} (hs : s.heap.IsSliceOf sl vl vu vs) (pl : IsPart vl none) (pu : IsPart vu none) (ps : IsPart vs (some (-1)))
    (h : Q ((n : Int) - 1, -1, n) s) : wpAny (model prog w) A (Builtin.Slice.sliceApplied (.ref sl) (pure (n : Int))) Q E s := by
  obtain ⟨os, hos, hcs, hds⟩ := id hs
  unfold Builtin.Slice.sliceApplied Builtin.Slice.sliceFields
  refine wpAny_bind (wpAny_bind (wpAny_field hos hds (x := vl) rfl (wpAny_bind (wpAny_field hos hds (x := vu) rfl (wpAny_bind (wpAny_field hos hds (x := vs) rfl (wpAny_pure ?_)))))))
  refine wpAny_bind (slicePart_ ps ?_)
  show wpAny _ _ (if ((-1 : Int) == 0) = true then _ else _) _ _ s
  rw [if_neg (by decide)]
  refine wpAny_bind (slicePart_ pl (wpAny_bind (slicePart_ pu (wpAny_bind (wpAny_pure ?_)))))
  show wpAny _ _ (pure ((n : Int) - 1, (-1 : Int), Builtin.Slice.slicePlaces ((n : Int) - 1) (-1) (-1))) _ _ s
  have e : Builtin.Slice.slicePlaces ((n : Int) - 1) (-1) (-1) = n := by
    unfold Builtin.Slice.slicePlaces
    rw [if_neg (by decide)]
    by_cases hn : n = 0
    · subst hn
      rfl
    · rw [if_pos (by omega), show (-(-1) : Int) = 1 from rfl, Int.ediv_one]
      omega
  rw [e]
  exact wpAny_pure h
theorem rev_pick (xs : Array Value) : ((List.range xs.size).filterMap fun (m : Nat) => xs[(((xs.size : Int) - 1) + (m : Int) * (-1)).toNat]?).toArray = xs.toList.reverse.toArray := by
  have e : (fun (m : Nat) => xs[(((xs.size : Int) - 1) + (m : Int) * (-1)).toNat]?) = fun m => xs[xs.size - 1 - m]? := by
    funext m
    have : (((xs.size : Int) - 1) + (m : Int) * (-1)).toNat = xs.size - 1 - m := by omega
    rw [this]
  rw [e]
  have h := congrArg (List.filterMap fun (m : Nat) => xs[m]?) (PySem.W.krv_range xs.size)
  rw [List.filterMap_map, List.filterMap_reverse, PySem.W.krv_all] at h
  rw [← h]
  rfl
theorem getItem_tuple_rev {t sl : Addr} {items : Array Value} {vl vu vs : Value} {Q : Value → Shared → Prop} (ht : IsTup s.heap t items) (hs : s.heap.IsSliceOf sl vl vu vs) (pl : IsPart vl none) (pu : IsPart vu none) (ps : IsPart vs (some (-1)))
    (h : Q (.ref s.heap.objs.size) { s with heap := s.heap.push { cls := .type "tuple", data := .seq items.toList.reverse.toArray } })
    (hsz : items.size ≤ sizeLine) : wpAny (model prog w) A (getItem (.ref t) (.ref sl)) Q E s := by
  have htake : sizeOk (.seq items.toList.reverse.toArray) := by
    show items.toList.reverse.toArray.size ≤ sizeLine
    rw [List.size_toArray, List.length_reverse, Array.length_toList]
    exact hsz
  obtain ⟨os, hos, hcs, hds⟩ := id hs
  have hTs : s.TypeIs (.ref sl) "slice" := ⟨os, hos, hcs⟩
  unfold getItem
  try with_reducible refine wpAny_holding ?_
  first | refine wpAny_bind (wpAny_pure ?_) | skip
  refine wpAny_bind (wpAny_sequenceKey ht.typeIs (by decide) ?_)
  refine wpAny_bind (wpAny_callSpecial?_slot (name := Str.ofString "__getitem__") ht.typeIs PyProof.Rows.slot_tuple_getitem
    (wpAny_call_entry PyProof.Rows.slot_tuple_getitem ht.typeIs entry_tuple_getitem ?_ (args_tuple_getitem _ _)))
  show wpAny _ _ (Builtin.Tuple.tupleItemsOf (.ref t) >>= _) _ _ s
  refine wpAny_bind (tupleItemsOf_ ht ?_)
  refine wpAny_bind (wpAny_typeOf hTs ?_)
  rw [if_pos (by decide)]
  refine wpAny_bind (sliceApplied_rev hs pl pu ps ?_)
  have hno : ¬ ((((items.size : Int) - 1) == 0 && (-1 : Int) == 1 && items.size == items.size) = true) := by
    rw [show ((-1 : Int) == 1) = false from rfl, Bool.and_false]
    exact Bool.false_ne_true
  show wpAny _ _ (if (((items.size : Int) - 1) == 0 && (-1 : Int) == 1 && items.size == items.size) = true then _ else _) _ _ s
  rw [if_neg hno, rev_pick]
  first
    | exact wpAny_bind (m := Builtin.Tuple.tupleExact _) (wpAny_newObj_type (wpAny_pure ⟨_, rfl, wpAny_pure h⟩) htake)
    | exact wpAny_bind (m := Builtin.Tuple.tupleExact _) (wpAny_newObj_type (wpAny_bind (wpAny_pure (wpAny_pure ⟨_, rfl, wpAny_pure h⟩))) htake)
    | exact wpAny_bind (wpAny_bind (m := Builtin.Tuple.tupleExact _) (wpAny_newObj_type (wpAny_pure (wpAny_pure ⟨_, rfl, wpAny_pure h⟩)) htake))
    | exact wpAny_bind (wpAny_bind (m := Builtin.Tuple.tupleExact _) (wpAny_newObj_type (wpAny_pure ⟨_, rfl, wpAny_pure h⟩) htake))
end
section
variable {X : Cx}
def tRevT (K : PySem.W.Frag) (te : TE) : TE := fun σ H Q => te σ H fun x H1 => ∃ a xs, x = .ref a ∧ SqT K H1 a xs ∧ ∀ p, H1 p = none → Q (.ref p) (upd H1 p (.tup xs.reverse))
theorem pe_revT {e : Expr} {te : TE} {k : Nat} {p1 p2 p3 pos : Pos} (he : PE X e te) : PE X (.Subscript e (.Slice none none (some (.UnaryOp .USub (.Constant (.int 1) k p1) p2)) p3) pos) (tRevT X.K te) := by
  refine ⟨fun pins s σ H Q I h => ?_⟩
  refine Subscript_ (thn (he.run pins s σ H _ I h) fun v s1 ⟨x, H1, I1, r1, q1⟩ => ?_)
  obtain ⟨a, xs, ex, hx, q⟩ := q1
  subst ex
  cases r1
  have hst : PO X (some (.UnaryOp .USub (.Constant (.int 1) k p1) p2)) (tPart (tUn (rU fun i => .int (-i)) (tC (.int 1)))) := po_some (pe_un un_neg pe_int)
  refine wpAny_Slice (thn (po_none.run pins s1 σ H1 (fun o H2 => o = none ∧ H2 = H1) I1 ⟨rfl, rfl⟩) fun vl s2 ⟨l, H2, I2, pl, el, e2⟩ => ?_)
  subst el e2
  refine thn (po_none.run pins s2 σ H2 (fun o H3 => o = none ∧ H3 = H2) I2 ⟨rfl, rfl⟩) fun vu s3 ⟨u, H3, I3, pu, eu, e3⟩ => ?_
  subst eu e3
  refine thn (hst.run pins s3 σ H3 (fun o H4 => o = some (-1) ∧ H4 = H3) I3 ⟨1, rfl, -1, rfl, rfl, rfl⟩) fun vs s4 ⟨o, H4, I4, ps, eo, e4⟩ => ?_
  subst eo e4
  have I5 : Inv X pins σ H4 { s4 with heap := s4.heap.push { cls := .type "slice", data := .fields #[vl, vu, vs] } } := I4.kept (t' := s4.toks) fun b ob q => Heap.get?_push_of_some _ q
  obtain ⟨its, r, ht, hz⟩ := I5.tuple hx
  have hlen : its.toArray.size = xs.length := by rw [List.size_toArray]; exact r.length.symm
  show wpAny (model X.prog X.w) X.A (subscriptTail e (.Slice none none (some (.UnaryOp .USub (.Constant (.int 1) k p1) p2)) p3) (.ref a) (.ref s4.heap.objs.size)) (EP X pins σ Q) X.xe { s4 with heap := s4.heap.push { cls := .type "slice", data := .fields #[vl, vu, vs] } }
  refine tail_any (ops := [.ref a, .ref s4.heap.objs.size]) ht.typeIs (PyProof.Rows.slot_tuple_getitem.lookup) ?_ (by with_unfolding_all rfl)
  refine getItem_tuple_rev ht (Heap.IsSliceOf.new _ vl vu vs) pl pu ps ?_ (by rw [hlen]; exact hz)
  refine ⟨.ref _, _, I5.laid (t' := s4.toks) (o := .tup xs.reverse) (fun b ob q => Heap.get?_push_of_some _ q) (Nat.le_refl _) ?_, rfl, q _ (I5.hok.fresh (Nat.le_refl _))⟩
  exact ⟨by rw [List.length_reverse]; exact hz, _, r.reverse, IsTup.new _ _⟩
end
section
variable {K : PySem.W.Frag} {σ : L2.St} {H H' : Hp} {te : TE}
theorem ep_revT {a : Addr} {xs : List V} (ha : Ev te σ H (.ref a)) (hx : SqT K H a xs) : EvU (tRevT K te) σ H xs.reverse := fun H1 e Q q =>
  ha H1 e _ fun H2 e2 => ⟨a, xs, rfl, ex_t (e.trans e2) hx, fun p hp => q p _ (fresh_back e2 hp) (e2.trans (Ex.new hp)) upd_same⟩
end
end Kw
set_option Elab.async false
set_option linter.all false
set_option maxRecDepth 100000
set_option maxHeartbeats 4000000
namespace Kw
open PySem PySem.Spec PyProof.Rows L2 Evl
/-! ### data of bounded size -/
inductive Gd (m : Nat) : Nat → PyData → Prop where
  | non (n : Nat) : Gd m n .none
  | bl (n : Nat) (b : Bool) : Gd m n (.bool b)
  | int (n : Nat) (i : Int) : Gd m n (.int i)
  | str (n : Nat) {z : Str} (h : z.length ≤ 1000 ∧ PyData.strOk z = true) : Gd m n (.str z)
  | tup {n : Nat} {ds : List PyData} (hl : ds.length ≤ m) (h : ∀ d ∈ ds, Gd m n d) : Gd m (n + 1) (.tuple ds)
  | lst {n : Nat} {ds : List PyData} (hl : ds.length ≤ m) (h : ∀ d ∈ ds, Gd m n d) : Gd m (n + 1) (.list ds)
theorem Gd.mono {m n : Nat} {d : PyData} (h : Gd m n d) : ∀ {m' n' : Nat}, m ≤ m' → n ≤ n' → Gd m' n' d := by
  induction h with
  | non n => intro m' n' _ _; exact .non _
  | bl n b => intro m' n' _ _; exact .bl _ b
  | int n i => intro m' n' _ _; exact .int _ i
  | str n h => intro m' n' _ _; exact .str _ h
  | tup hl h ih =>
    intro m' n' h1 h2
    match n', h2 with
    | n' + 1, h2 => exact .tup (by omega) fun d hd => ih d hd h1 (by omega)
  | lst hl h ih =>
    intro m' n' h1 h2
    match n', h2 with
    | n' + 1, h2 => exact .lst (by omega) fun d hd => ih d hd h1 (by omega)
theorem Gd.strI {m n : Nat} {z : Str} (h : Gd m n (.str z)) : z.length ≤ 1000 ∧ PyData.strOk z = true := by
  cases h with
  | str n h => exact h
theorem Gd.tupI {m n : Nat} {ds : List PyData} (h : Gd m n (.tuple ds)) : ∃ n', ∀ d ∈ ds, Gd m n' d := by
  cases h with
  | tup hl h => exact ⟨_, h⟩
theorem gA_nil {m n : Nat} : ∀ d ∈ ([] : List PyData), Gd m n d := fun d h => by cases h
theorem gA_cons {m n : Nat} {a : PyData} {r : List PyData} (h : Gd m n a) (hr : ∀ d ∈ r, Gd m n d) : ∀ d ∈ a :: r, Gd m n d := fun d hd => by
  rcases List.mem_cons.mp hd with rfl | hd
  · exact h
  · exact hr d hd
theorem gA_app {m n : Nat} {a r : List PyData} (h : ∀ d ∈ a, Gd m n d) (hr : ∀ d ∈ r, Gd m n d) : ∀ d ∈ a ++ r, Gd m n d := fun d hd => (List.mem_append.mp hd).elim (h d) (hr d)
theorem paired_append {α β : Type} {F : α → β → Prop} : ∀ {xs zs : List α} {ys ws : List β}, Paired F xs ys → Paired F zs ws → Paired F (xs ++ zs) (ys ++ ws)
  | _, _, _, _, .nil, h => h
  | _, _, _, _, .cons a b, h => .cons a (paired_append b h)
/-! ### a part of the heap of one's own -/
structure Gx (G H G2 H2 : Hp) : Prop where
  old : Ex G G2
  into : Ex G2 H2
  dom : ∀ a, G2 a ≠ none → G a ≠ none ∨ H a = none
theorem Gx.refl {G H : Hp} (h : Ex G H) : Gx G H G H := ⟨Ex.refl G, h, fun a ha => .inl ha⟩
theorem Gx.trans {G H G2 H2 G3 H3 : Hp} (e : Ex H H2) (h : Gx G H G2 H2) (h' : Gx G2 H2 G3 H3) : Gx G H G3 H3 := ⟨h.old.trans h'.old, h'.into, fun a ha => (h'.dom a ha).elim (h.dom a) fun z => .inr (fresh_back e z)⟩
theorem Gx.up {G H G2 H2 H3 : Hp} (h : Gx G H G2 H2) (e : Ex H2 H3) : Gx G H G2 H3 := ⟨h.old, h.into.trans e, h.dom⟩
theorem Gx.from {G H H1 G2 H2 : Hp} (e : Ex H H1) (h : Gx G H1 G2 H2) : Gx G H G2 H2 := ⟨h.old, h.into, fun a ha => (h.dom a ha).imp id (fresh_back e)⟩
theorem none_of {G H : Hp} {p : Addr} (e : Ex G H) (h : H p = none) : G p = none := fresh_back e h
theorem ex_upd2 {G H : Hp} {p : Addr} {o : HO} (e : Ex G H) : Ex (upd G p o) (upd H p o) := fun a ob h => by
  by_cases hp : a = p
  · subst hp
    rw [upd_same] at h ⊢
    exact h
  · rw [upd_ne hp] at h ⊢
    exact e _ _ h
theorem Gx.new {G H G2 H2 : Hp} {p : Addr} {o : HO} (e : Ex H H2) (h : Gx G H G2 H2) (hp : H2 p = none) : Gx G H (upd G2 p o) (upd H2 p o) := ⟨h.old.trans (Ex.new (none_of h.into hp)), ex_upd2 h.into, fun a ha => by
  by_cases z : a = p
  · subst z
    exact .inr (fresh_back e hp)
  · rw [upd_ne z] at ha
    exact h.dom a ha⟩
/-- what is no part of it may be changed -/
theorem ex_set {G H : Hp} {p : Addr} {o : HO} (e : Ex G H) (hp : G p = none) : Ex G (upd H p o) := fun a ob h => by
  by_cases z : a = p
  · subst z
    rw [hp] at h
    cases h
  · rw [upd_ne z]
    exact e _ _ h
def EvG (K : PySem.W.Frag) (te : TE) (σ : L2.St) (H : Hp) (d : PyData) : Prop := ∀ H1, Ex H H1 → ∀ G, Ex G H1 → ∀ Q : VK, (∀ v G2 H2, Ex H1 H2 → Gx G H1 G2 H2 → Dp K G2 v d → Q v H2) → te σ H1 Q
def EvGA (K : PySem.W.Frag) (ta : TA) (σ : L2.St) (H : Hp) (ds : List PyData) : Prop := ∀ H1, Ex H H1 → ∀ G, Ex G H1 → ∀ Q : List V → Hp → Prop, (∀ vs G2 H2, Ex H1 H2 → Gx G H1 G2 H2 → DpAll K G2 vs ds → Q vs H2) → ta σ H1 Q
section
variable {K : PySem.W.Frag} {σ : L2.St} {H H' G : Hp} {ta tb tc te tl : TE} {t u : TT} {x y z v : V} {r r' : R2} {d : PyData} {ds es : List PyData} {D : Ends} {g : TG} {tu tz : TS}
theorem eg_of (h : Ev te σ H v) (hd : ∀ G : Hp, Dp K G v d) : EvG K te σ H d := fun H1 e G g Q q => h H1 e Q fun H2 e2 => q v G H2 e2 ((Gx.refl g).up e2) (hd G)
theorem eg_non : EvG K (tC .non) σ H .none := eg_of ev_c fun _ => .non
theorem eg_bl {b : Bool} : EvG K (tC (.bl b)) σ H (.bool b) := eg_of ev_c fun _ => .bl b
theorem eg_int {i : Int} : EvG K (tC (.int i)) σ H (.int i) := eg_of ev_c fun _ => .int i
theorem eg_str {s : Str} : EvG K (tC (.str s)) σ H (.str s) := eg_of ev_c fun _ => .str s
theorem eg_neg {i : Int} : EvG K (tUn (rU fun i => .int (-i)) (tC (.int i))) σ H (.int (-i)) := eg_of (ev_un ev_c ru_neg) fun _ => .int _
theorem eg_pow {i j : Int} (h : CPow i j) : EvG K (tOp (rI CPow fun i j => .int (i ^ j.toNat)) (tC (.int i)) (tC (.int j))) σ H (.int (i ^ j.toNat)) := fun H1 e G g Q q => ⟨i, j, rfl, rfl, h, q _ G H1 (Ex.refl H1) (Gx.refl g) (.int _)⟩
theorem ga_nil : EvGA K tNil σ H [] := fun H1 _ G g Q q => q [] G H1 (Ex.refl H1) (Gx.refl g) .nil
theorem ga_cons {ta : TA} (h : EvG K te σ H d) (hr : EvGA K ta σ H ds) : EvGA K (tCons te ta) σ H (d :: ds) := fun H1 e G g Q q =>
  h H1 e G g _ fun v G2 H2 e2 g2 hv => hr H2 (e.trans e2) G2 g2.into _ fun vs G3 H3 e3 g3 hvs => q (v :: vs) G3 H3 (e2.trans e3) (g2.trans e2 g3) (.cons (dp_ex g3.old _ _ hv) hvs)
theorem eg_tup {ta : TA} (h : EvGA K ta σ H ds) (hl : ds.length ≤ 1000) : EvG K (tTup ta) σ H (.tuple ds) := fun H1 e G g Q q =>
  h H1 e G g _ fun vs G2 H2 e2 g2 hvs => ⟨sz_of (by rw [dpA_len hvs]; omega), fun p hp => q (.ref p) _ _ (e2.trans (Ex.new hp)) (g2.new e2 hp) (.tup (st_of upd_same) (dpA_ex (Ex.new (none_of g2.into hp)) _ _ hvs))⟩
theorem eg_lst {ta : TA} (h : EvGA K ta σ H ds) (hl : ds.length ≤ 1000) : EvG K (tLst ta) σ H (.list ds) := fun H1 e G g Q q =>
  h H1 e G g _ fun vs G2 H2 e2 g2 hvs => ⟨sz_of (by rw [dpA_len hvs]; omega), fun p hp => q (.ref p) _ _ (e2.trans (Ex.new hp)) (g2.new e2 hp) (.lst (sq_of upd_same) (dpA_ex (Ex.new (none_of g2.into hp)) _ _ hvs))⟩
/-- a new list of data -/
def EvGL (K : PySem.W.Frag) (te : TE) (σ : L2.St) (H : Hp) (ds : List PyData) : Prop := ∀ H1, Ex H H1 → ∀ G, Ex G H1 → ∀ Q : VK, (∀ p vs G2 H2, H1 p = none → Ex H1 H2 → Gx G H1 G2 H2 → H2 p = some (.lst vs) → DpAll K G2 vs ds → Q (.ref p) H2) → te σ H1 Q
theorem egl_lst {ta : TA} (h : EvGA K ta σ H ds) (hl : ds.length ≤ 1000) : EvGL K (tLst ta) σ H ds := fun H1 e G g Q q =>
  h H1 e G g _ fun vs G2 H2 e2 g2 hvs => ⟨sz_of (by rw [dpA_len hvs]; omega), fun p hp => q p vs G2 _ (fresh_back e2 hp) (e2.trans (Ex.new hp)) (g2.up (Ex.new hp)) upd_same hvs⟩
/-- xs = ys + [..] of data -/
theorem q_asgGL {i : Nat} (hg : Ex G H) (h : EvGL K te σ H ds) (k : ∀ p vs G2 H1, H p = none → Ex H H1 → Gx G H G2 H1 → H1 p = some (.lst vs) → DpAll K G2 vs ds → tz D (σ.set i (some (.ref p))) H1) : tSeq (tAsg te (gName i)) tz D σ H := h H (Ex.refl H) G hg _ fun p vs G2 H2 np e2 g2 hp hv => k p vs G2 H2 np e2 g2 hp hv
theorem q_catGL {i : Nat} {l : Addr} {xs : List V} (hg : Ex G H) (ha : Ev ta σ H (.ref l)) (hl : H l = some (.lst xs)) (hx : DpAll K G xs ds) (h : EvGL K te σ H es) (hn : ds.length + es.length ≤ 100000)
    (k : ∀ p vs G2 H1, H p = none → Ex H H1 → Gx G H G2 H1 → H1 p = some (.lst vs) → DpAll K G2 vs (ds ++ es) → tz D (σ.set i (some (.ref p))) H1) : tSeq (tAsg (tOp rCat ta te) (gName i)) tz D σ H :=
  ha H (Ex.refl H) _ fun H1 e1 => h H1 e1 G (hg.trans e1) _ fun b zs G2 H2 nb e2 g2 hb hz => ⟨l, b, xs, zs, rfl, rfl, e2 _ _ (e1 _ _ hl), hb, sz_of (by rw [dpA_len hx, dpA_len hz]; exact hn), fun p hp => k p _ G2 _ (fresh_back (e1.trans e2) hp) ((e1.trans e2).trans (Ex.new hp)) (Gx.from e1 (g2.up (Ex.new hp))) upd_same (dpA_of (paired_append (dpA_paired (dpA_ex g2.old _ _ hx)) (dpA_paired hz)))⟩
end
end Kw
set_option Elab.async false
set_option linter.all false
set_option maxRecDepth 100000
set_option maxHeartbeats 4000000
namespace Kw
open PySem PySem.Spec PyProof.Rows L2 Evl
abbrev sOdd : Stmt := topS 18
theorem scOdd : FnScope ["picks", "odd"] ["picks"] (defScope sOdd) := ⟨rfl, rfl, rfl, by decide +kernel, rfl, by decide +kernel, by decide +kernel⟩
def odds1 : List PyData := [.none, .bool true, .bool false, .int (-1), .int 0, .int 1, .int 6, .int 10, .int 30, .int 31, .int ((10 : Int) ^ (18 : Int).toNat), .int ((10 : Int) ^ (30 : Int).toNat), .str "", .str "red", .str "Red", .str "a b", .str "abcdefghi"]
def odds2 : List PyData := [.tuple [], .list [], .tuple [.int 0], .list [.int 0], .tuple [.int 1, .int 0], .tuple [.str "red"]]
def odds3 : List PyData := [.tuple [.tuple [.tuple []], .tuple []], .tuple [.tuple [.tuple [.tuple [], .tuple []]], .tuple []], .list [.tuple [.tuple [.tuple [], .tuple []]], .tuple []], .tuple [.tuple [], .tuple []], .tuple [.int 0, .int 0]]
theorem odds_gd1 : ∀ d ∈ odds1, Gd 20 4 d := by
  unfold odds1
  repeat' (first | exact Gd.non _ | exact Gd.bl _ _ | exact Gd.int _ _ | exact Gd.str _ (by decide +kernel) | exact gA_nil | (refine gA_cons ?_ ?_))
theorem odds_gd2 : ∀ d ∈ odds2, Gd 20 4 d := by
  unfold odds2
  repeat' (first | exact Gd.non _ | exact Gd.bl _ _ | exact Gd.int _ _ | exact Gd.str _ (by decide +kernel) | exact gA_nil | (refine gA_cons ?_ ?_) | (refine Gd.tup (by decide) ?_) | (refine Gd.lst (by decide) ?_))
theorem odds_gd3 : ∀ d ∈ odds3, Gd 20 4 d := by
  unfold odds3
  repeat' (first | exact Gd.non _ | exact Gd.bl _ _ | exact Gd.int _ _ | exact Gd.str _ (by decide +kernel) | exact gA_nil | (refine gA_cons ?_ ?_) | (refine Gd.tup (by decide) ?_) | (refine Gd.lst (by decide) ?_))
theorem odds_gd : ∀ d ∈ odds1 ++ odds2 ++ odds3, Gd 20 4 d := gA_app (gA_app odds_gd1 odds_gd2) odds_gd3
theorem at_mod {α : Type} {xs : List α} (h : xs ≠ []) (i : Int) : ∃ (j : Nat) (x : α), i % (xs.length : Int) = (j : Int) ∧ j < xs.length ∧ xs[j]? = some x ∧ atI xs (j : Int) = some x := by
  have hl : 0 < xs.length := List.length_pos_iff.mpr h
  have h0 := Int.emod_nonneg i (show (xs.length : Int) ≠ 0 by omega)
  have h1 := Int.emod_lt_of_pos i (show (0 : Int) < (xs.length : Int) by omega)
  obtain ⟨j, hj⟩ := Int.eq_ofNat_of_zero_le h0
  rw [hj] at h1
  have hjl : j < xs.length := by omega
  refine ⟨j, xs[j], hj, hjl, List.getElem?_eq_getElem hjl, ?_⟩
  unfold atI ixN
  rw [if_pos (by omega), if_pos (by omega), Int.toNat_natCast]
  exact List.getElem?_eq_getElem hjl
section
variable {P : Program} {w : World} {K : PySem.W.Frag} {mg : Str → Option Value} {base : Heap}
def spOdd (K : PySem.W.Frag) : Sp := fun vs H Q _ => ∃ (p : Addr) (a b : Int) (ns : List Int) (G : Hp), vs = [.ref p] ∧ H p = some (.lst ((a :: b :: ns).map V.int)) ∧ Ex G H ∧ ∀ v d G2 H2, Ex H H2 → Gx G H G2 H2 → Dp K G2 v d → Gd 20 4 d → Q v H2
theorem ok_odd {f  : Addr} {fd  : FuncData} {k : Nat} (F : Fun K "_law_odd" "_law_odd" sOdd f fd) (B : Bu mg) : FnOk P w K mg base CX0 (k + 1) f fd ["picks"] (spOdd K) := by
  refine F.ok scOdd (fun vs H Q E h => ?_) (fun cdv A outer s H vs Q E hr h => ?_)
  · obtain ⟨p, a, b, ns, G, rfl, _⟩ := h
    rfl
  · obtain ⟨p, a, b, ns, G, rfl, hp, hg, q⟩ := h
    refine ⟨_, (pss_cons (ps_set (i := 1) scOdd.nd rfl (.inl rfl) (pe_lst (pa_cons pe_non (pa_cons pe_bl (pa_cons pe_bl (pa_cons (pe_un un_neg pe_int) (pa_cons pe_int (pa_cons pe_int (pa_cons pe_int (pa_cons pe_int (pa_cons pe_int (pa_cons pe_int (pa_cons (pe_op op_pow pe_int pe_int) (pa_cons (pe_op op_pow pe_int pe_int) (pa_cons pe_str (pa_cons pe_str (pa_cons pe_str (pa_cons pe_str (pa_cons pe_str pa_nil)))))))))))))))))))
      (pss_cons (ps_set (i := 1) scOdd.nd rfl (.inl rfl) (pe_op op_cat (pv 1) (pe_lst (pa_cons (pe_tup pa_nil) (pa_cons (pe_lst pa_nil) (pa_cons (pe_tup (pa_cons pe_int pa_nil)) (pa_cons (pe_lst (pa_cons pe_int pa_nil)) (pa_cons (pe_tup (pa_cons pe_int (pa_cons pe_int pa_nil))) (pa_cons (pe_tup (pa_cons pe_str pa_nil)) pa_nil)))))))))
      (pss_cons (ps_set (i := 1) scOdd.nd rfl (.inl rfl) (pe_op op_cat (pv 1) (pe_lst (pa_cons (pe_tup (pa_cons (pe_tup (pa_cons (pe_tup pa_nil) pa_nil)) (pa_cons (pe_tup pa_nil) pa_nil))) (pa_cons (pe_tup (pa_cons (pe_tup (pa_cons (pe_tup (pa_cons (pe_tup pa_nil) (pa_cons (pe_tup pa_nil) pa_nil))) pa_nil)) (pa_cons (pe_tup pa_nil) pa_nil))) (pa_cons (pe_lst (pa_cons (pe_tup (pa_cons (pe_tup (pa_cons (pe_tup pa_nil) (pa_cons (pe_tup pa_nil) pa_nil))) pa_nil)) (pa_cons (pe_tup pa_nil) pa_nil))) (pa_cons (pe_tup (pa_cons (pe_tup pa_nil) (pa_cons (pe_tup pa_nil) pa_nil))) (pa_cons (pe_tup (pa_cons pe_int (pa_cons pe_int pa_nil))) pa_nil))))))))
      (pss_one (ps_ret (pe_ix ix_list (pv 1) (pe_op op_mod (pe_op op_add (pe_ix ix_list (pv 0) pe_int (fun _ _ => rfl)) (pe_op op_mul pe_int (pe_ix ix_list (pv 0) pe_int (fun _ _ => rfl)))) (pe_callB call_len_seq (by rfl) B.len PySem.boot_len (pa_cons (pv 1) pa_nil))) (fun _ _ => rfl))))))), ?_⟩
    refine q_asgGL (K := K) (ds := odds1) hg (egl_lst (ga_cons eg_non (ga_cons eg_bl (ga_cons eg_bl (ga_cons eg_neg (ga_cons eg_int (ga_cons eg_int (ga_cons eg_int (ga_cons eg_int (ga_cons eg_int (ga_cons eg_int (ga_cons (eg_pow ⟨by decide, by decide, by decide⟩) (ga_cons (eg_pow ⟨by decide, by decide, by decide⟩) (ga_cons eg_str (ga_cons eg_str (ga_cons eg_str (ga_cons eg_str (ga_cons eg_str ga_nil))))))))))))))))) (by decide)) fun p1 v1 G1 H1 n1 e1 g1 h1 d1 => ?_
    refine q_catGL (K := K) (σ := [some (.ref p), some (.ref p1)]) (ds := odds1) (es := odds2) g1.into (ev_var rfl) h1 d1 (egl_lst (ga_cons (eg_tup ga_nil (by decide)) (ga_cons (eg_lst ga_nil (by decide)) (ga_cons (eg_tup (ga_cons eg_int ga_nil) (by show 1 ≤ 1000; decide)) (ga_cons (eg_lst (ga_cons eg_int ga_nil) (by show 1 ≤ 1000; decide)) (ga_cons (eg_tup (ga_cons eg_int (ga_cons eg_int ga_nil)) (by show 2 ≤ 1000; decide)) (ga_cons (eg_tup (ga_cons eg_str ga_nil) (by show 1 ≤ 1000; decide)) ga_nil)))))) (by decide)) (by decide) fun p2 v2 G2 H2 n2 e2 g2 h2 d2 => ?_
    have T1 : ∀ H, EvG K (tTup tNil) [some (.ref p), some (.ref p2)] H (.tuple []) := fun H => eg_tup ga_nil (by decide)
    have T2 : ∀ H, EvG K (tTup (tCons (tTup tNil) (tCons (tTup tNil) tNil))) [some (.ref p), some (.ref p2)] H (.tuple [.tuple [], .tuple []]) := fun H => eg_tup (ga_cons (T1 H) (ga_cons (T1 H) ga_nil)) (by show 2 ≤ 1000; decide)
    have T3 : ∀ H, EvG K (tTup (tCons (tTup (tCons (tTup tNil) (tCons (tTup tNil) tNil))) tNil)) [some (.ref p), some (.ref p2)] H (.tuple [.tuple [.tuple [], .tuple []]]) := fun H => eg_tup (ga_cons (T2 H) ga_nil) (by show 1 ≤ 1000; decide)
    refine q_catGL (K := K) (σ := [some (.ref p), some (.ref p2)]) (ds := odds1 ++ odds2) (es := odds3) g2.into (ev_var rfl) h2 d2 (egl_lst (ga_cons (eg_tup (ga_cons (eg_tup (ga_cons (T1 _) ga_nil) (by show 1 ≤ 1000; decide)) (ga_cons (T1 _) ga_nil)) (by show 2 ≤ 1000; decide)) (ga_cons (eg_tup (ga_cons (T3 _) (ga_cons (T1 _) ga_nil)) (by show 2 ≤ 1000; decide)) (ga_cons (eg_lst (ga_cons (T3 _) (ga_cons (T1 _) ga_nil)) (by show 2 ≤ 1000; decide)) (ga_cons (T2 _) (ga_cons (eg_tup (ga_cons eg_int (ga_cons eg_int ga_nil)) (by show 2 ≤ 1000; decide)) ga_nil))))) (by decide)) (by decide) fun p3 v3 G3 H3 n3 e3 g3 h3 d3 => ?_
    have hl3 : v3.length = 28 := by rw [dpA_len d3]; rfl
    have E3 := (e1.trans e2).trans e3
    have hp3 := E3 _ _ hp
    obtain ⟨j, x, hj, hjl, hx, hat⟩ := at_mod (xs := v3) (fun z => by rw [z] at hl3; cases hl3) (a + 7 * b)
    obtain ⟨d, hd, hdx⟩ := dpA_get d3 hx
    refine s_ret (σ := [some (.ref p), some (.ref p3)]) (v := x) (ev_op (ev_var (v := .ref p3) rfl) (ev_op (z := .int (j : Int)) (ev_op (z := .int (a + 7 * b)) (ev_op (z := .int a) (ev_var (v := .ref p) rfl) ev_c (rv_ixL (K := K) (sq_of hp3) (atI_nat (j := 0) rfl))) (ev_op (z := .int (7 * b)) ev_c (ev_op (z := .int b) (ev_var (v := .ref p) rfl) ev_c (rv_ixL (K := K) (sq_of hp3) (atI_nat (j := 1) rfl))) (rv_I (.inl ⟨by decide, by decide⟩))) rv_I0) (ev_len (K := K) (ev_var (v := .ref p3) rfl) (sq_of h3)) (rv_val fun H4 e4 Q q => ⟨a + 7 * b, (v3.length : Int), rfl, rfl, show (0 : Int) < (v3.length : Int) by omega, by show Q (V.int ((a + 7 * b) % (v3.length : Int))) H4; rw [hj]; exact q⟩)) (rv_ixL (K := K) (sq_of h3) hat)) (fun H4 e4 => ?_)
    have g : Gx G H G3 H3 := (g1.trans e1 g2).trans (e1.trans e2) g3
    exact q x d G3 H4 (E3.trans e4) (g.up e4) hdx (odds_gd d (List.mem_of_getElem? hd))
end
end Kw
set_option Elab.async false
set_option linter.all false
set_option maxRecDepth 100000
set_option maxHeartbeats 4000000
namespace Kw
open PySem PySem.Spec PyProof.Rows L2 Evl
abbrev sSpo : Stmt := topS 14
theorem scSpo : FnScope ["thing", "picks", "parts", "at", "turn_by"] ["thing", "picks"] (defScope sSpo) := ⟨rfl, rfl, rfl, by decide +kernel, rfl, by decide +kernel, by decide +kernel⟩
theorem cutTo (xs : List V) (n : Nat) : cutV xs none (some (n : Int)) = xs.take n := by
  unfold cutV
  rw [HT.sIx_nat, HT.sIx_none]
  by_cases h : n ≤ xs.length
  · rw [Nat.min_eq_left h]
    rfl
  · rw [Nat.min_eq_right (by omega), List.take_of_length_le (by show (xs.drop 0).length ≤ _; rw [List.length_drop]; omega), List.take_of_length_le (by omega)]
    rfl
theorem cutFrom (xs : List V) (n : Nat) : cutV xs (some (n : Int)) none = xs.drop n := by
  unfold cutV
  rw [HT.sIx_nat, HT.sIx_none]
  by_cases h : n ≤ xs.length
  · rw [Nat.min_eq_left h, List.take_of_length_le (by rw [List.length_drop]; omega)]
  · rw [Nat.min_eq_right (by omega), List.drop_eq_nil_of_le (Nat.le_refl _), List.drop_eq_nil_of_le (by omega), List.take_nil]
theorem rt_to {te : TE} {D : Ends} {σ : L2.St} {H : Hp} (h : te σ H D.rt) : tRet te D σ H := h
theorem as_to {te : TE} {g : TG} {D : Ends} {σ : L2.St} {H : Hp} (h : te σ H fun x H1 => g x σ H1 D.nx) : tAsg te g D σ H := h
theorem call_L {sp : Sp} {tl : TE} {E : XK} {σ : L2.St} {H : Hp} {Q : VK} {xs : List V} (h : EvL tl σ H xs) (k : ∀ p H1, H p = none → Ex H H1 → H1 p = some (.lst xs) → sp [.ref p] H1 Q E) : tCall sp [] E (tCons tl tNil) σ H Q := h H (Ex.refl H) _ fun p H1 np e1 h1 => k p H1 np e1 h1
theorem call_VL {sp : Sp} {ta tl : TE} {E : XK} {σ : L2.St} {H : Hp} {Q : VK} {v : V} {xs : List V} (ha : Ev ta σ H v) (h : EvL tl σ H xs) (k : ∀ p H1, H p = none → Ex H H1 → H1 p = some (.lst xs) → sp [v, .ref p] H1 Q E) : tCall sp [] E (tCons ta (tCons tl tNil)) σ H Q := ha H (Ex.refl H) _ fun H1 e1 => h H1 e1 _ fun p H2 np e2 h2 => k p H2 (fresh_back e1 np) (e1.trans e2) h2
theorem q_fin {t tz : TS} {D : Ends} {σ : L2.St} {H : Hp} (Φ : L2.St → Hp → Prop) (hz : ∀ σ' H', Φ σ' H' → tz D σ' H') (h : ∀ nx : L2.St → Hp → Prop, (∀ σ' H', Φ σ' H' → nx σ' H') → t { D with nx := nx } σ H) : tSeq t tz D σ H := h (tz D) hz
section
variable {K : PySem.W.Frag} {σ : L2.St} {H H' G : Hp} {ta tb tc te tl : TE} {t u : TT} {x y z v : V} {r r' : R2} {d : PyData} {ds es : List PyData} {D : Ends} {g : TG} {tu tz : TS}
def seqD : PyData → Bool
  | .tuple _ => true
  | .list _ => true
  | _ => false
theorem seqD_eq (d : PyData) : seqD d = (isTupD d || isLstD d) := by cases d <;> rfl
theorem ev_isiTL (ha : Ev ta σ H v) (hd : Dp K H v d) : Ev (tCB (rIsiT K) (tCons ta (tCons (tTup (tCons (tC (.ty "tuple")) (tCons (tC (.ty "list")) tNil))) tNil))) σ H (.bl (seqD d)) := fun H1 e Q q =>
  ha H1 e _ fun H2 e2 => ⟨by show 2 ≤ sizeLine; decide, fun p hp => by
    have e3 := Ex.new (o := .tup [.ty "tuple", .ty "list"]) hp
    refine ⟨v, p, [.ty "tuple", .ty "list"], _, [.type "tuple", .type "list"], seqD d, rfl, upd_same, .cons (.ty _) (.cons (.ty _) .nil), ty_dp (dp_ex ((e.trans e2).trans e3) _ _ hd), ?_, q _ (e2.trans e3)⟩
    refine kitAny_cons (kit_ty (kit_tup hd)) (fun h => kitAny_cons (r := seqD d) (kit_ty (kit_lst hd)) (fun h2 => ?_) fun h2 => ?_) fun h => ?_
    · rw [seqD_eq, h, h2]
      rfl
    · rw [seqD_eq, h2, Bool.or_true]
    · rw [seqD_eq, h, Bool.true_or]⟩
theorem el_listS {p : Addr} {xs : List V} (ha : Ev ta σ H (.ref p)) (h : SqL K H p xs ∨ SqT K H p xs) : EvL (tCB (rListS K) (tCons ta tNil)) σ H xs := fun H1 e Q q =>
  ha H1 e _ fun H2 e2 => ⟨p, xs, rfl, h.imp (ex_l (e.trans e2)) (ex_t (e.trans e2)), fun l hl => q l _ (fresh_back e2 hl) (e2.trans (Ex.new hl)) upd_same⟩
theorem ev_lenS {p : Addr} {xs : List V} (ha : Ev ta σ H (.ref p)) (h : SqL K H p xs ∨ SqT K H p xs) : Ev (tCB (rLenS K) (tCons ta tNil)) σ H (.int (xs.length : Int)) := fun H1 e Q q =>
  ha H1 e _ fun H2 e2 => ⟨p, xs, rfl, h.imp (ex_l (e.trans e2)) (ex_t (e.trans e2)), q H2 e2⟩
theorem dpA_take {vs : List V} (n : Nat) (h : DpAll K G vs ds) : DpAll K G (vs.take n) (ds.take n) := by
  induction n generalizing vs ds with
  | zero => exact .nil
  | succ n ih =>
    match ds, h with
    | [], h => cases h; exact .nil
    | d :: ds, h =>
      cases h with
      | cons a b => exact .cons a (ih b)
theorem dpA_drop {vs : List V} (n : Nat) (h : DpAll K G vs ds) : DpAll K G (vs.drop n) (ds.drop n) := by
  induction n generalizing vs ds with
  | zero => exact h
  | succ n ih =>
    match ds, h with
    | [], h => cases h; exact .nil
    | d :: ds, h =>
      cases h with
      | cons a b => exact ih b
theorem dpA_set {vs : List V} (n : Nat) (h : DpAll K G vs ds) (hv : Dp K G v d) : DpAll K G (vs.set n v) (ds.set n d) := by
  induction n generalizing vs ds with
  | zero =>
    match ds, h with
    | [], h => cases h; exact .nil
    | d :: ds, h =>
      cases h with
      | cons a b => exact .cons hv b
  | succ n ih =>
    match ds, h with
    | [], h => cases h; exact .nil
    | d :: ds, h =>
      cases h with
      | cons a b => exact .cons a (ih b)
theorem dpA_app {vs ws : List V} (h : DpAll K G vs ds) (h' : DpAll K G ws es) : DpAll K G (vs ++ ws) (ds ++ es) := dpA_of (paired_append (dpA_paired h) (dpA_paired h'))
end
theorem gd_seq {m n : Nat} {d : PyData} (h : Gd m n d) (hs : seqD d = true) : ∃ n' ds, n = n' + 1 ∧ ds.length ≤ m ∧ (∀ e ∈ ds, Gd m n' e) ∧ (d = .tuple ds ∨ d = .list ds) := by
  cases h with
  | tup hl h => exact ⟨_, _, rfl, hl, h, .inl rfl⟩
  | lst hl h => exact ⟨_, _, rfl, hl, h, .inr rfl⟩
  | _ => cases hs
def spSpo (K : PySem.W.Frag) (N : Nat) : Sp := fun vs H Q _ => ∃ (v : V) (p : Addr) (a b c : Int) (ns : List Int) (d : PyData) (G : Hp) (m n : Nat), n < N ∧ 20 ≤ m ∧ m ≤ 1000 ∧ vs = [v, .ref p] ∧ H p = some (.lst ((a :: b :: c :: ns).map V.int)) ∧ ns.length ≤ 1000 ∧ Ex G H ∧ Dp K G v d ∧ Gd m n d ∧ ∀ v' d' G2 H2, Ex H H2 → Gx G H G2 H2 → Dp K G2 v' d' → Gd (m + 1) (n + 4) d' → Q v' H2
section
variable {P : Program} {w : World} {K : PySem.W.Frag} {mg : Str → Option Value} {base : Heap}
theorem ok_spo {f fOdd : Addr} {fd fdOdd : FuncData} {k : Nat} (F : Fun K "_law_spoilt" "_law_spoilt" sSpo f fd) (DOdd : Df K mg "_law_odd" sOdd ["picks"] fOdd fdOdd) (GOdd : FnOk P w K mg base CX0 (k + 1) fOdd fdOdd ["picks"] (spOdd K)) (B : Bu mg) (DSpo : Df K mg "_law_spoilt" sSpo ["thing", "picks"] f fd) : ∀ N, FnOk P w K mg base CX0 (k + N + 2) f fd ["thing", "picks"] (spSpo K N) := by
  intro N
  induction N with
  | zero =>
    refine F.ok scSpo (fun vs H Q E h => ?_) (fun cdv A outer s H vs Q E hr h => ?_)
    · obtain ⟨v, p, a, b, c, ns, d, G, m, n, hn, _⟩ := h
      exact absurd hn (Nat.not_lt_zero _)
    · obtain ⟨v, p, a, b, c, ns, d, G, m, n, hn, _⟩ := h
      exact absurd hn (Nat.not_lt_zero _)
  | succ N GSpo =>
  refine F.ok scSpo (fun vs H Q E h => ?_) (fun cdv A outer s H vs Q E hr h => ?_)
  · obtain ⟨v, p, a, b, c, ns, d, G, m, n, _, _, _, rfl, _⟩ := h
    rfl
  · obtain ⟨v, p, a, b, c, ns, d, G, m, n, hn, hm0, hm1, rfl, hp, hl, hg, hd, hG, q⟩ := h
    refine ⟨_, (pss_cons (ps_if (PW.pt (pw_or (pt_not (pt_val (pe_callB call_isiT (by rfl) B.isi boot_isinstance (pa_cons (pv 0) (pa_cons (pe_tup (pa_cons (pe_bltn (v := .ty "tuple") (by rfl) B.tup boot_tuple rfl) (pa_cons (pe_bltn (v := .ty "list") (by rfl) B.lst boot_list rfl) pa_nil))) pa_nil))))) (pw_or (pt_cmpR op_eq (pe_callB call_len_seq (by rfl) B.len PySem.boot_len (pa_cons (pv 0) pa_nil)) pe_int (nomark _)) (pw_or (pt_cmpR op_lt (pe_callB call_len_seq (by rfl) B.len PySem.boot_len (pa_cons (pv 1) pa_nil)) pe_int (nomark _)) (pw_or1 (pt_cmpR op_eq (pe_op op_mod (pe_ix ix_list (pv 1) pe_int (fun _ _ => rfl)) pe_int) pe_int (nomark _))))))) (pss_one (ps_ret (pcall DOdd GOdd (hr.mono (by omega)) (pa_cons (pe_slice sl_list (pv 1) (po_some pe_int) po_none) pa_nil)))) pss_nil)
      (pss_cons (ps_set (i := 2) scSpo.nd rfl (.inl rfl) (pe_callTy call_list_of (by rfl) B.lst boot_list (pa_cons (pv 0) pa_nil)))
      (pss_cons (ps_set (i := 3) scSpo.nd rfl (.inl rfl) (pe_op op_mod (pe_ix ix_list (pv 1) pe_int (fun _ _ => rfl)) (pe_callB call_len_seq (by rfl) B.len PySem.boot_len (pa_cons (pv 2) pa_nil))))
      (pss_cons (ps_set (i := 4) scSpo.nd rfl (.inl rfl) (pe_op op_mod (pe_ix ix_list (pv 1) pe_int (fun _ _ => rfl)) pe_int))
      (pss_cons (ps_if (pt_cmpR op_eq (pv 4) pe_int (nomark _)) (pss_one (ps_set (i := 2) scSpo.nd rfl (.inl rfl) (pe_op op_cat (pe_slice sl_list (pv 2) po_none (po_some (pv 3))) (pe_slice sl_list (pv 2) (po_some (pe_op op_add (pv 3) pe_int)) po_none)))) (pss_one (ps_if (pt_cmpR op_eq (pv 4) pe_int (nomark _)) (pss_one (ps_set (i := 2) scSpo.nd rfl (.inl rfl) (pe_op op_cat (pe_slice sl_list (pv 2) po_none (po_some (pe_op op_add (pv 3) pe_int))) (pe_slice sl_list (pv 2) (po_some (pv 3)) po_none)))) (pss_one (ps_if (pt_cmpR op_eq (pv 4) pe_int (nomark _)) (pss_one (ps_set (i := 2) scSpo.nd rfl (.inl rfl) (pe_op op_cat (pe_slice sl_list (pv 2) (po_some (pv 3)) po_none) (pe_slice sl_list (pv 2) po_none (po_some (pv 3)))))) (pss_one (ps_if (pt_cmpR op_eq (pv 4) pe_int (nomark _)) (pss_one (ps_set (i := 2) scSpo.nd rfl (.inl rfl) (pe_op op_cat (pe_op op_cat (pe_slice sl_list (pv 2) po_none (po_some (pv 3))) (pe_lst (pa_cons (pcall DOdd GOdd (hr.mono (by omega)) (pa_cons (pe_slice sl_list (pv 1) (po_some pe_int) po_none) pa_nil)) pa_nil))) (pe_slice sl_list (pv 2) (po_some (pv 3)) po_none)))) (pss_one (ps_if (pt_cmpR op_gt (pv 4) pe_int (nomark _)) (pss_one (ps_asg (pcall DSpo GSpo (hr.mono (by omega)) (pa_cons (pe_ix ix_list (pv 2) (pv 3) (fun _ _ => rfl)) (pa_cons (pe_slice sl_list (pv 1) (po_some pe_int) po_none) pa_nil))) (pg_sub (pv 2) (pv 3) set_list))) pss_nil)))))))))
      (pss_cons (ps_if (pt_cmpR op_eq (pe_callB call_isi (by rfl) B.isi boot_isinstance (pa_cons (pv 0) (pa_cons (pe_bltn (v := .ty "tuple") (by rfl) B.tup boot_tuple rfl) pa_nil))) (pe_cmpR op_eq (pv 4) pe_int (nomark _)) (nomark _)) (pss_one (ps_ret (pv 2))) pss_nil)
      (pss_one (ps_ret (pe_callTy call_tupOf (by rfl) B.tup boot_tuple (pa_cons (pv 2) pa_nil)))))))))), ?_⟩
    have hdH := dp_ex hg _ _ hd
    cases hs : seqD d with
    | false =>
      refine q_when (b := true) (et_is (et_or (b := true) (et_not (et_B (ev_isiTL (K := K) (ev_var (v := v) rfl) hdH))) fun h => absurd h (by rw [hs]; decide)) (by rw [hs]; rfl)) (fun _ H1 e1 => ?_) (fun hb => absurd hb (by decide))
      refine rt_to (call_L (el_sl (K := K) (ev_var (v := .ref p) rfl) (eo_some ev_c) eo_none (sq_of (e1 _ _ hp))) fun p2 H2 n2 e2 h2 => ?_)
      rw [show (some (1 : Int)) = some ((1 : Nat) : Int) from rfl, cutFrom] at h2
      refine ⟨p2, b, c, ns, G, rfl, h2, hg.trans (e1.trans e2), fun v' d' G2 H3 e3 g3 hd3 hG3 => ?_⟩
      exact q v' d' G2 H3 ((e1.trans e2).trans e3) (Gx.from (e1.trans e2) g3) hd3 (hG3.mono (by omega) (by omega))
    | true =>
      obtain ⟨n', ds, rfl, hdl, hGs, hds⟩ := gd_seq hG hs
      obtain ⟨av, xs, rfl, hS, hA⟩ : ∃ av xs, v = .ref av ∧ (SqL K G av xs ∨ SqT K G av xs) ∧ DpAll K G xs ds := by
        rcases hds with rfl | rfl
        · obtain ⟨a, xs, e, h1, h2⟩ := dp_tup_inv hd
          exact ⟨a, xs, e, .inr h1, h2⟩
        · obtain ⟨a, xs, e, h1, h2⟩ := dp_lst_inv hd
          exact ⟨a, xs, e, .inl h1, h2⟩
      have hSH : ∀ H1, Ex H H1 → (SqL K H1 av xs ∨ SqT K H1 av xs) := fun H1 e1 => hS.imp (ex_l (hg.trans e1)) (ex_t (hg.trans e1))
      have hxl := dpA_len hA
      refine q_when (b := (!seqD d) || (decide (V.int (xs.length : Int) = V.int 0) || (decide (((a :: b :: c :: ns).map V.int).length < (9 : Int)) || decide (V.int (a % 9) = V.int 0)))) (et_or (et_not (et_B (ev_isiTL (K := K) (ev_var (v := .ref av) rfl) hdH))) fun _ => et_or (et_test (ev_op (ev_lenS (K := K) (ev_var (v := .ref av) rfl) (hSH H (Ex.refl H))) ev_c (rv_eq rfl))) fun _ => et_or (et_test (ev_op (ev_len (K := K) (ev_var (v := .ref p) rfl) (sq_of hp)) ev_c rv_I0)) fun _ => et_test (ev_op (ev_op (ev_op (z := .int a) (ev_var (v := .ref p) rfl) ev_c (rv_ixL (K := K) (sq_of hp) (atI_nat (j := 0) rfl))) ev_c (rv_I (by show (0 : Int) < 9; decide))) ev_c (rv_eq rfl))) (fun _ H1 e1 => ?_) (fun hb H1 e1 => ?_)
      · refine rt_to (call_L (el_sl (K := K) (ev_var (v := .ref p) rfl) (eo_some ev_c) eo_none (sq_of (e1 _ _ hp))) fun p2 H2 n2 e2 h2 => ?_)
        rw [show (some (1 : Int)) = some ((1 : Nat) : Int) from rfl, cutFrom] at h2
        refine ⟨p2, b, c, ns, G, rfl, h2, hg.trans (e1.trans e2), fun v' d' G2 H3 e3 g3 hd3 hG3 => ?_⟩
        exact q v' d' G2 H3 ((e1.trans e2).trans e3) (Gx.from (e1.trans e2) g3) hd3 (hG3.mono (by omega) (by omega))
      simp only [Bool.or_eq_false_iff, decide_eq_false_iff_not] at hb
      obtain ⟨_, hx0, hn9, _⟩ := hb
      have hxne : xs ≠ [] := fun z => hx0 (by rw [z]; rfl)
      have hn6 : 6 ≤ ns.length := by
        rw [List.length_map, List.length_cons, List.length_cons, List.length_cons] at hn9
        omega
      obtain ⟨j, x, hj, hjl, hx, hat⟩ := at_mod hxne b
      refine q_asgL (xs := xs) (el_listS (K := K) (ev_var (v := .ref av) rfl) (hSH H1 e1)) fun p2 H2 n2 e2 h2 => ?_
      have hp2 := e2 _ _ (e1 _ _ hp)
      have e12 := e1.trans e2
      refine q_asg (σ := [some (.ref av), some (.ref p), some (.ref p2), none, none]) (v := vN j) (ev_op (ev_op (z := .int b) (ev_var (v := .ref p) rfl) ev_c (rv_ixL (K := K) (sq_of hp2) (atI_nat (j := 1) rfl))) (ev_len (K := K) (ev_var (v := .ref p2) rfl) (sq_of h2)) (rv_val fun H4 e4 Q q => ⟨b, (xs.length : Int), rfl, rfl, by show (0 : Int) < (xs.length : Int); omega, by show Q (V.int (b % (xs.length : Int))) H4; rw [hj]; exact q⟩)) fun H3 e3 => ?_
      have h3 := e3 _ _ h2
      have hp3 := e3 _ _ hp2
      refine q_asg (σ := [some (.ref av), some (.ref p), some (.ref p2), some (vN j), none]) (v := .int (c % 12)) (ev_op (ev_op (z := .int c) (ev_var (v := .ref p) rfl) ev_c (rv_ixL (K := K) (sq_of hp3) (atI_nat (j := 2) rfl))) ev_c (rv_I (by show (0 : Int) < 12; decide))) fun H4 e4 => ?_
      have h4 := e4 _ _ h3
      have hp4 := e4 _ _ hp3
      have E4 := (e12.trans e3).trans e4
      have np2 : H p2 = none := fresh_back e1 n2
      generalize htb : c % 12 = tb
      refine q_fin (σ := [some (.ref av), some (.ref p), some (.ref p2), some (vN j), some (.int tb)]) (fun σ' H' => ∃ p3 vs3 ds3 G3, σ' = [some (.ref av), some (.ref p), some (.ref p3), some (vN j), some (.int tb)] ∧ H p3 = none ∧ Ex H H' ∧ Gx G H G3 H' ∧ G3 p3 = none ∧ H' p3 = some (.lst vs3) ∧ DpAll K G3 vs3 ds3 ∧ ds3.length ≤ m + 1 ∧ ∀ d ∈ ds3, Gd (m + 1) (n' + 4) d) (fun σ' H' hΦ => ?_) (fun nx hnx => ?_)
      · obtain ⟨p3, vs3, ds3, G3, rfl, np3, eH, gx, ng3, hp3', hA3, hl3, hG3⟩ := hΦ
        have hdH' := dp_ex eH _ _ hdH
        refine q_when (b := decide (V.bl (isTupD d) = V.bl (decide (V.int tb = V.int 4)))) (et_test (ev_op (ev_isiD (K := K) (ev_var (v := .ref av) rfl) ev_c hdH' (kit_tup hdH')) (ev_op (ev_var (v := .int tb) rfl) ev_c (rv_eq rfl)) (rv_eq rfl))) (fun _ H5 e5 => ?_) (fun _ H5 e5 => ?_)
        · refine s_ret (v := .ref p3) (ev_var rfl) fun H6 e6 => ?_
          have h6 := (e5.trans e6) _ _ hp3'
          refine q (.ref p3) (.list ds3) (upd G3 p3 (.lst vs3)) H6 (eH.trans (e5.trans e6)) ⟨gx.old.trans (Ex.new ng3), fun a o h => ?_, fun a h => ?_⟩ (.lst (sq_of upd_same) (dpA_ex (Ex.new ng3) _ _ hA3)) (.lst hl3 hG3)
          · by_cases z : a = p3
            · subst z
              rw [upd_same] at h
              rw [h6]
              exact h
            · rw [upd_ne z] at h
              exact (gx.into.trans (e5.trans e6)) _ _ h
          · by_cases z : a = p3
            · subst z
              exact .inr np3
            · rw [upd_ne z] at h
              exact gx.dom a h
        · refine rt_to ⟨.ref p3, rfl, p3, vs3, rfl, .inl ⟨sq_of (e5 _ _ hp3'), fun t nt => ?_⟩⟩
          have gx5 := gx.up e5
          exact q (.ref t) (.tuple ds3) (upd G3 t (.tup vs3)) _ (eH.trans (e5.trans (Ex.new nt))) (gx5.new (eH.trans e5) nt) (.tup (st_of upd_same) (dpA_ex (Ex.new (none_of gx5.into nt)) _ _ hA3)) (.tup hl3 hG3)
      · have hg4 : Ex G H4 := hg.trans E4
        have ngp : ∀ p3, H p3 = none → G p3 = none := fun p3 z => none_of hg z
        have up : ∀ e : PyData, e ∈ ds → Gd (m + 1) (n' + 4) e := fun e he => (hGs e he).mono (by omega) (by omega)
        have hjd : j < ds.length := by omega
        -- a place left out
        refine s_if (b := decide (V.int tb = V.int 0)) (et_test (ev_op (ev_var (v := .int tb) rfl) ev_c (rv_eq rfl))) (fun _ H5 e5 => ?_) (fun _ H5 e5 => ?_)
        · refine s_asgL (xs := cutV xs none (some (j : Int)) ++ cutV xs (some ((j + 1 : Nat) : Int)) none) (el_catN (el_sl (K := K) (ev_var (v := .ref p2) rfl) eo_none (eo_some (ev_var rfl)) (sq_of (e5 _ _ h4))) (el_sl (K := K) (ev_var (v := .ref p2) rfl) (eo_some (ev_op (ev_var (v := vN j) rfl) ev_c (rv_val fun H4 e4 Q q => ⟨(j : Int), 1, rfl, rfl, q⟩))) eo_none (sq_of (e5 _ _ h4))) (by rw [cutTo, cutFrom, List.length_take, List.length_drop]; omega)) fun p3 H6 n6 e6 h6 => ?_
          rw [cutTo, cutFrom] at h6
          exact hnx _ _ ⟨p3, _, ds.take j ++ ds.drop (j + 1), G, rfl, fresh_back (E4.trans e5) n6, E4.trans (e5.trans e6), (Gx.refl hg).up (E4.trans (e5.trans e6)), ngp _ (fresh_back (E4.trans e5) n6), h6, dpA_app (dpA_take j hA) (dpA_drop (j + 1) hA), by rw [List.length_append, List.length_take, List.length_drop]; omega, gA_app (fun e he => up e (List.mem_of_mem_take he)) (fun e he => up e (List.mem_of_mem_drop he))⟩
        have E5 := E4.trans e5
        have h5 := e5 _ _ h4
        have hp5 := e5 _ _ hp4
        -- a place twice
        refine s_if (b := decide (V.int tb = V.int 1)) (et_test (ev_op (ev_var (v := .int tb) rfl) ev_c (rv_eq rfl))) (fun _ H6 e6 => ?_) (fun _ H6 e6 => ?_)
        · refine s_asgL (xs := cutV xs none (some ((j + 1 : Nat) : Int)) ++ cutV xs (some (j : Int)) none) (el_catN (el_sl (K := K) (ev_var (v := .ref p2) rfl) eo_none (eo_some (ev_op (ev_var (v := vN j) rfl) ev_c (rv_val fun H4 e4 Q q => ⟨(j : Int), 1, rfl, rfl, q⟩))) (sq_of (e6 _ _ h5))) (el_sl (K := K) (ev_var (v := .ref p2) rfl) (eo_some (ev_var rfl)) eo_none (sq_of (e6 _ _ h5))) (by rw [cutTo, cutFrom, List.length_take, List.length_drop]; omega)) fun p3 H7 n7 e7 h7 => ?_
          rw [cutTo, cutFrom] at h7
          exact hnx _ _ ⟨p3, _, ds.take (j + 1) ++ ds.drop j, G, rfl, fresh_back (E5.trans e6) n7, E5.trans (e6.trans e7), (Gx.refl hg).up (E5.trans (e6.trans e7)), ngp _ (fresh_back (E5.trans e6) n7), h7, dpA_app (dpA_take (j + 1) hA) (dpA_drop j hA), by rw [List.length_append, List.length_take, List.length_drop]; omega, gA_app (fun e he => up e (List.mem_of_mem_take he)) (fun e he => up e (List.mem_of_mem_drop he))⟩
        have E6 := E5.trans e6
        have h6 := e6 _ _ h5
        have hp6 := e6 _ _ hp5
        -- turned
        refine s_if (b := decide (V.int tb = V.int 2)) (et_test (ev_op (ev_var (v := .int tb) rfl) ev_c (rv_eq rfl))) (fun _ H7 e7 => ?_) (fun _ H7 e7 => ?_)
        · refine s_asgL (xs := cutV xs (some (j : Int)) none ++ cutV xs none (some (j : Int))) (el_catN (el_sl (K := K) (ev_var (v := .ref p2) rfl) (eo_some (ev_var rfl)) eo_none (sq_of (e7 _ _ h6))) (el_sl (K := K) (ev_var (v := .ref p2) rfl) eo_none (eo_some (ev_var rfl)) (sq_of (e7 _ _ h6))) (by rw [cutTo, cutFrom, List.length_take, List.length_drop]; omega)) fun p3 H8 n8 e8 h8 => ?_
          rw [cutTo, cutFrom] at h8
          exact hnx _ _ ⟨p3, _, ds.drop j ++ ds.take j, G, rfl, fresh_back (E6.trans e7) n8, E6.trans (e7.trans e8), (Gx.refl hg).up (E6.trans (e7.trans e8)), ngp _ (fresh_back (E6.trans e7) n8), h8, dpA_app (dpA_drop j hA) (dpA_take j hA), by rw [List.length_append, List.length_take, List.length_drop]; omega, gA_app (fun e he => up e (List.mem_of_mem_drop he)) (fun e he => up e (List.mem_of_mem_take he))⟩
        have E7 := E6.trans e7
        have h7 := e7 _ _ h6
        have hp7 := e7 _ _ hp6
        -- an odd thing put in
        refine s_if (b := decide (V.int tb = V.int 3)) (et_test (ev_op (ev_var (v := .int tb) rfl) ev_c (rv_eq rfl))) (fun _ H8 e8 => ?_) (fun _ H8 e8 => ?_)
        · refine as_to ?_
          refine (el_sl (K := K) (σ := [some (.ref av), some (.ref p), some (.ref p2), some (vN j), some (.int tb)]) (ev_var (v := .ref p2) rfl) eo_none (eo_some (i := (j : Int)) (ev_var rfl)) (sq_of (e8 _ _ h7))) H8 (Ex.refl H8) _ fun l1 H9 n9 e9 h9 => ?_
          rw [cutTo] at h9
          refine call_L (el_sl (K := K) (ev_var (v := .ref p) rfl) (eo_some ev_c) eo_none (sq_of (e9 _ _ (e8 _ _ hp7)))) fun l2 H10 n10 e10 h10 => ?_
          rw [show (some (3 : Int)) = some ((3 : Nat) : Int) from rfl, cutFrom] at h10
          have E10 := E7.trans (e8.trans (e9.trans e10))
          obtain ⟨o1, o2, os, hos⟩ : ∃ o1 o2 os, ns = o1 :: o2 :: os := by
            match ns, hn6 with
            | o1 :: o2 :: os, _ => exact ⟨o1, o2, os, rfl⟩
          subst hos
          refine ⟨l2, o1, o2, os, G, rfl, h10, hg.trans E10, fun v' d' G2 H11 e11 g11 hd11 hG11 => ⟨by show 1 ≤ sizeLine; decide, fun l3 n12 => ?_⟩⟩
          have e12' := Ex.new (o := .lst [v']) n12
          have h9' := e12' _ _ (e11 _ _ (e10 _ _ h9))
          refine ⟨l1, l3, xs.take j, [v'], rfl, rfl, h9', upd_same, sz_of (by rw [List.length_take]; show _ + 1 ≤ _; omega), fun l4 n13 => ?_⟩
          have e13 := Ex.new (o := .lst (xs.take j ++ [v'])) n13
          have E13 := (e8.trans (e9.trans (e10.trans e11))).trans (e12'.trans e13)
          refine (el_sl (K := K) (σ := [some (.ref av), some (.ref p), some (.ref p2), some (vN j), some (.int tb)]) (ev_var (v := .ref p2) rfl) (eo_some (i := (j : Int)) (ev_var rfl)) eo_none (sq_of (E13 _ _ h7))) _ (Ex.refl _) _ fun l5 H14 n14 e14 h14 => ?_
          rw [cutFrom] at h14
          refine ⟨l4, l5, xs.take j ++ [v'], xs.drop j, rfl, rfl, e14 _ _ upd_same, h14, sz_of (by rw [List.length_append, List.length_take, List.length_drop]; show _ + 1 + _ ≤ _; omega), fun l6 n15 => ?_⟩
          have e15 := Ex.new (o := .lst ((xs.take j ++ [v']) ++ xs.drop j)) n15
          have EE : Ex H11 (upd H14 l6 (.lst ((xs.take j ++ [v']) ++ xs.drop j))) := (e12'.trans e13).trans (e14.trans e15)
          have nl6 : H l6 = none := fresh_back (E10.trans (e11.trans ((e12'.trans e13).trans e14))) n15
          have g2 := Gx.from E10 g11
          refine hnx _ _ ⟨l6, _, (ds.take j ++ [d']) ++ ds.drop j, G2, rfl, nl6, E10.trans (e11.trans EE), g2.up EE, none_of g11.into (fresh_back ((e12'.trans e13).trans e14) n15), upd_same, dpA_app (dpA_app (dpA_ex g2.old _ _ (dpA_take j hA)) (.cons hd11 .nil)) (dpA_ex g2.old _ _ (dpA_drop j hA)), ?_, gA_app (gA_app (fun e he => up e (List.mem_of_mem_take he)) (gA_cons (hG11.mono (by omega) (by omega)) gA_nil)) (fun e he => up e (List.mem_of_mem_drop he))⟩
          rw [List.length_append, List.length_append, List.length_take, List.length_drop]
          show _ + 1 + _ ≤ _
          omega
        have E8 := E7.trans e8
        have h8 := e8 _ _ h7
        have hp8 := e8 _ _ hp7
        -- a place spoilt
        refine s_when (b := decide ((4 : Int) < tb)) (et_test (ev_op (ev_var (v := .int tb) rfl) ev_c rv_gt)) (fun _ H9 e9 => ?_) (fun _ H9 e9 => ?_)
        · refine as_to ?_
          refine call_VL (v := x) (ev_op (ev_var (v := .ref p2) rfl) (ev_var (v := vN j) rfl) (rv_ixL (K := K) (sq_of (e9 _ _ h8)) hat)) (el_sl (K := K) (ev_var (v := .ref p) rfl) (eo_some ev_c) eo_none (sq_of (e9 _ _ hp8))) fun l2 H10 n10 e10 h10 => ?_
          rw [show (some (4 : Int)) = some ((4 : Nat) : Int) from rfl, cutFrom] at h10
          have E10 := E8.trans (e9.trans e10)
          obtain ⟨o1, o2, o3, o4, os, hos⟩ : ∃ o1 o2 o3 o4 os, ns = o1 :: o2 :: o3 :: o4 :: os := by
            match ns, hn6 with
            | o1 :: o2 :: o3 :: o4 :: os, _ => exact ⟨o1, o2, o3, o4, os, rfl⟩
          subst hos
          obtain ⟨dx, hdx, hDx⟩ := dpA_get hA hx
          have h10' := (e9.trans e10) _ _ h8
          refine ⟨x, l2, o2, o3, o4, os, dx, G, m, n', by omega, hm0, hm1, rfl, h10, by simp only [List.length_cons] at hl; omega, hg.trans E10, hDx, hGs dx (List.mem_of_getElem? hdx), fun v' d' G2 H11 e11 g11 hd11 hG11 => ?_⟩
          have h11 := e11 _ _ h10'
          have ng2 : G2 p2 = none := by
            by_cases z : G2 p2 = none
            · exact z
            · rcases g11.dom p2 z with z2 | z2
              · exact absurd (ngp _ np2) z2
              · rw [h10'] at z2
                cases z2
          have g2 := Gx.from E10 g11
          refine ⟨.ref p2, rfl, vN j, rfl, p2, xs, (j : Int), j, rfl, rfl, h11, ?_, ?_⟩
          · unfold ixN
            rw [if_pos (by omega), if_pos (by omega), Int.toNat_natCast]
          exact hnx _ _ ⟨p2, xs.set j v', ds.set j d', G2, rfl, np2, ex_set (E10.trans e11) np2, ⟨g2.old, ex_set g2.into ng2, g2.dom⟩, ng2, upd_same, dpA_set j (dpA_ex g2.old _ _ hA) hd11, by rw [List.length_set]; omega, fun e he => (List.mem_or_eq_of_mem_set he).elim (up e) fun z => by rw [z]; exact hG11⟩
        · exact hnx _ _ ⟨p2, xs, ds, G, rfl, np2, E8.trans e9, (Gx.refl hg).up (E8.trans e9), ngp _ np2, e9 _ _ h8, hA, by omega, up⟩
end
end Kw
set_option Elab.async false
set_option linter.all false
set_option maxRecDepth 100000
set_option maxHeartbeats 4000000
namespace Kw
open PySem PySem.Spec PyProof.Rows L2 Evl
abbrev sLIC : Stmt := topS 21
theorem scLIC : FnScope ["thing", "sign"] ["thing"] (defScope sLIC) := ⟨rfl, rfl, rfl, by decide +kernel, rfl, by decide +kernel, by decide +kernel⟩
abbrev sLAC : Stmt := topS 22
theorem scLAC : FnScope ["thing", "most", "one"] ["thing", "most"] (defScope sLAC) := ⟨rfl, rfl, rfl, by decide +kernel, rfl, by decide +kernel, by decide +kernel⟩
abbrev sLIH : Stmt := topS 23
theorem scLIH : FnScope ["thing", "box"] ["thing"] (defScope sLIH) := ⟨rfl, rfl, rfl, by decide +kernel, rfl, by decide +kernel, by decide +kernel⟩
def colD : PyData → Bool
  | .str z => colB z
  | _ => false
theorem lt_nonempty {b z : Str} (h : b.cps.toList < z.cps.toList) : 1 ≤ z.length := by
  show 1 ≤ z.cps.toList.length
  cases e : z.cps.toList with
  | nil => rw [e] at h; exact absurd h (List.not_lt_nil _)
  | cons a r => simp
theorem colB_of {z : Str} (h1 : 1 ≤ z.length) (h2 : z.length ≤ 8) (h3 : lowB z = true) : colB z = true := by
  unfold colB
  rw [decide_eq_true h1, decide_eq_true h2]
  exact h3
theorem ris_col : ∀ {ds : List PyData} {b : Str}, risD b ds = true → ds.all lowD = true → ds.all colD = true
  | [], _, _, _ => rfl
  | .str z :: r, b, h, hl => by
    simp only [risD, Bool.and_eq_true, decide_eq_true_eq] at h
    rw [List.all_cons, Bool.and_eq_true] at hl ⊢
    exact ⟨colB_of (lt_nonempty h.1.1) h.1.2 hl.1, ris_col h.2 hl.2⟩
  | .none :: _, _, h, _ => by simp [risD] at h
  | .bool _ :: _, _, h, _ => by simp [risD] at h
  | .int _ :: _, _, h, _ => by simp [risD] at h
  | .list _ :: _, _, h, _ => by simp [risD] at h
  | .tuple _ :: _, _, h, _ => by simp [risD] at h
  | .dict _ :: _, _, h, _ => by simp [risD] at h
theorem strs_of_col : ∀ {ds : List PyData}, ds.all colD = true → ∃ zs : List Str, ds = zs.map PyData.str ∧ ∀ z ∈ zs, colB z = true
  | [], _ => ⟨[], rfl, by simp⟩
  | .str z :: r, h => by
    rw [List.all_cons, Bool.and_eq_true] at h
    obtain ⟨zs, e, hz⟩ := strs_of_col h.2
    exact ⟨z :: zs, by rw [e]; rfl, fun y hy => by
      rcases List.mem_cons.mp hy with rfl | hy
      · exact h.1
      · exact hz y hy⟩
  | .none :: _, h => by rw [List.all_cons] at h; cases h
  | .bool _ :: _, h => by rw [List.all_cons] at h; cases h
  | .int _ :: _, h => by rw [List.all_cons] at h; cases h
  | .list _ :: _, h => by rw [List.all_cons] at h; cases h
  | .tuple _ :: _, h => by rw [List.all_cons] at h; cases h
  | .dict _ :: _, h => by rw [List.all_cons] at h; cases h
theorem ris_pw : ∀ {zs : List Str} {b : Str}, risD b (zs.map PyData.str) = true → (∀ z ∈ zs, b.cps.toList < z.cps.toList) ∧ zs.Pairwise (fun x y => x.cps.toList < y.cps.toList)
  | [], _, _ => ⟨by simp, List.Pairwise.nil⟩
  | z :: r, b, h => by
    have h' : ((decide (b.cps.toList < z.cps.toList) && decide (z.length ≤ 8)) && risD z (r.map PyData.str)) = true := h
    simp only [Bool.and_eq_true, decide_eq_true_eq] at h'
    obtain ⟨h1, h2⟩ := ris_pw h'.2
    refine ⟨fun y hy => ?_, List.pairwise_cons.mpr ⟨h1, h2⟩⟩
    rcases List.mem_cons.mp hy with rfl | hy
    · exact h'.1.1
    · exact List.lt_trans h'.1.1 (h1 y hy)
theorem ris_rising {zs : List Str} (hc : ∀ z ∈ zs, colB z = true) (hr : Rising zs) : risD "" (zs.map PyData.str) = true := by
  refine ris_strs hc fun i x y hx hy => ?_
  cases i with
  | zero =>
    cases zs with
    | nil => cases hy
    | cons a r =>
      cases hx
      cases hy
      exact nil_lt (colB_low (hc _ (List.mem_cons_self ..))).2.2
  | succ i => exact hr i x y hx hy
/-- a row of texts is its own sorted set just when it rises -/
theorem sorted_set {zs ys : List Str} (hc : ∀ z ∈ zs, colB z = true) (nd : ys.Nodup) (hm : ∀ z, z ∈ ys ↔ z ∈ zs) (hs : sortedS ys = true) : decide (zs = ys) = risD "" (zs.map PyData.str) := by
  have hcy : ∀ z ∈ ys, colB z = true := fun z hz => hc z ((hm z).mp hz)
  have hy := ris_rising hcy (rising_of_sorted nd hs)
  by_cases h : zs = ys
  · rw [decide_eq_true h, h, hy]
  · rw [decide_eq_false h]
    cases hr : risD "" (zs.map PyData.str) with
    | false => rfl
    | true =>
      refine absurd ?_ h
      have h1 := (ris_pw hr).2
      have h2 := (ris_pw hy).2
      have n1 : zs.Nodup := h1.imp fun {a b} hab z => by rw [z] at hab; exact List.lt_irrefl _ hab
      have p : zs.Perm ys := (List.perm_ext_iff_of_nodup n1 nd).mpr fun z => (hm z).symm
      exact p.eq_of_pairwise (fun a b _ _ x y => absurd (List.lt_trans x y) (List.lt_irrefl _)) h1 h2
theorem eqv_strs : ∀ zs ys : List Str, PyData.eqvAll (zs.map PyData.str) (ys.map PyData.str) = decide (zs = ys)
  | [], [] => by simp [PyData.eqvAll]
  | [], y :: ys => by simp [PyData.eqvAll]
  | z :: zs, [] => by simp [PyData.eqvAll]
  | z :: zs, y :: ys => by
    rw [List.map_cons, List.map_cons, PyData.eqvAll, PyData.eqv, eqv_strs zs ys]
    by_cases h1 : z = y
    · subst h1
      by_cases h2 : zs = ys
      · simp [h2]
      · simp [h2]
    · simp [h1]
theorem eqv_strL (zs ys : List Str) : PyData.eqv (.list (zs.map PyData.str)) (.list (ys.map PyData.str)) = decide (zs = ys) := by
  rw [PyData.eqv, eqv_strs]
theorem low_mem (c : Nat) : decide (c ∈ ("abcdefghijklmnopqrstuvwxyz" : Str).cps.toList) = low c := by
  have e : ("abcdefghijklmnopqrstuvwxyz" : Str).cps.toList = (List.range 26).map (97 + ·) := by decide +kernel
  rw [e]
  unfold low
  by_cases h : 97 ≤ c ∧ c ≤ 122
  · rw [decide_eq_true h.1, decide_eq_true h.2, decide_eq_true (List.mem_map.mpr ⟨c - 97, List.mem_range.mpr (by omega), by omega⟩)]
    rfl
  · rw [decide_eq_false (fun z => by
      obtain ⟨i, hi, rfl⟩ := List.mem_map.mp z
      have := List.mem_range.mp hi
      omega)]
    by_cases h1 : 97 ≤ c
    · rw [decide_eq_true h1, decide_eq_false (fun z => h ⟨h1, z⟩)]
      rfl
    · rw [decide_eq_false h1]
      rfl
end Kw
set_option Elab.async false
set_option linter.all false
set_option maxRecDepth 100000
set_option maxHeartbeats 4000000
namespace Kw
open PySem PySem.Spec PyProof.Rows L2 Evl
def rNiSg : R2 := fun x y H Q => ∃ (c : Nat) (z : Str), x = .str ⟨#[c]⟩ ∧ y = .str z ∧ Q (.bl (!decide (c ∈ z.cps.toList))) H
theorem filter_range_str (z : Str) : (((List.range z.cps.size).filter fun i => !low (z.cps.toList.getD i 0)).map fun i => V.str ⟨#[z.cps.toList.getD i 0]⟩) = ((z.cps.toList.filter fun c => !low c).map fun c => V.str ⟨#[c]⟩) := by
  have := filter_range_map z.cps.toList 0 (fun c => !low c) (fun c => V.str ⟨#[c]⟩)
  rw [Array.length_toList] at this
  exact this
section
variable {P : Program} {w : World} {K : PySem.W.Frag} {mg : Str → Option Value} {base : Heap}
def spLIC (K : PySem.W.Frag) : Sp := fun vs H Q _ => ∃ (v : V) (d : PyData), vs = [v] ∧ Dp K H v d ∧ (∃ m n, Gd m n d) ∧ RetV (.bl (colD d)) H Q
theorem colD_not {d : PyData} (h : isStrD d = false) : colD d = false := by
  cases d <;> first | rfl | cases h
theorem ok_LIC {f  : Addr} {fd  : FuncData} {k : Nat} (F : Fun K "_law_is_colour" "_law_is_colour" sLIC f fd) (B : Bu mg) : FnOk P w K mg base CX0 (k + 1) f fd ["thing"] (spLIC K) := by
  refine F.ok scLIC (fun vs H Q E h => ?_) (fun cdv A outer s H vs Q E hr h => ?_)
  · obtain ⟨v, d, rfl, _⟩ := h
    rfl
  · obtain ⟨v, d, rfl, hd, hst, q⟩ := h
    have hu64 := hr.units
    refine ⟨_, (pss_cons (ps_if (PW.pt (pw_or (pt_not (pt_val (pe_callB call_isi (by rfl) B.isi boot_isinstance (pa_cons (pv 0) (pa_cons (pe_bltn (v := .ty "str") (by rfl) B.str boot_str rfl) pa_nil))))) (pw_or1 (pt_not (pt_chain op_le op_le pe_int (pe_callB call_len_str (by rfl) B.len PySem.boot_len (pa_cons (pv 0) pa_nil)) pe_int))))) (pss_one (ps_ret pe_bl)) pss_nil)
      (pss_one (ps_ret (pe_cmpR (op_eqD hu64) (pe_lc (own := [("sign", 1)]) (g := (gName 1)) (tt := (tTest (tOp rNiSg (tVar 1) (tC (.str "abcdefghijklmnopqrstuvwxyz"))))) (te := (tVar 1)) rfl scLIC.nd (pi_str (pv 0)) (blkOk_by (N := ["thing", "sign"]) (sc := defScope sLIC) (by decide +kernel)) (fun _ _ _ _ _ => (pg_name (i := 1) scLIC.nd rfl (.inl rfl))) (fun _ _ _ _ _ => (pts_one (pt_cmpR op_notIn_sign (pv 1) pe_str (by rfl)))) (fun _ _ _ _ _ => (pv 1))) (pe_lst pa_nil) (nomark _))))), ?_⟩
    cases hs : isStrD d with
    | false =>
      rw [colD_not hs] at q
      exact q_when (b := true) (et_is (et_or (b := true) (et_not (et_B (ev_isiD (K := K) (ev_var (v := v) rfl) ev_c hd (kit_str hd)))) fun h => absurd h (by rw [hs]; decide)) (by rw [hs]; rfl)) (fun _ H1 e1 => q H1 e1) (fun hb => absurd hb (by decide))
    | true =>
      cases d <;> first | cases hs | skip
      rename_i z
      have hdv := hd
      cases hd
      obtain ⟨m, n, hG⟩ := hst
      obtain ⟨hzl, hok⟩ := hG.strI
      refine q_when (b := !(decide (1 ≤ z.length) && decide (z.length ≤ 8))) (et_is (et_or (et_not (et_B (ev_isiD (K := K) (ev_var (v := .str z) rfl) ev_c hdv (kit_str hdv)))) fun _ => et_not (et_test (ev_chain ev_c (ev_lenStr (ev_var (v := .str z) rfl) (by omega)) ev_c rv_le rv_le))) ?_) (fun hb H1 e1 => ?_) (fun hb H1 e1 => ?_)
      · show (!true || !(decide ((1 : Int) ≤ (z.length : Nat)) && decide (((z.length : Nat) : Int) ≤ 8))) = _
        rw [show decide ((1 : Int) ≤ (z.length : Nat)) = decide (1 ≤ z.length) from by
          by_cases h : 1 ≤ z.length
          · rw [decide_eq_true h, decide_eq_true (by omega)]
          · rw [decide_eq_false h, decide_eq_false (by omega)], show decide (((z.length : Nat) : Int) ≤ 8) = decide (z.length ≤ 8) from by
          by_cases h : z.length ≤ 8
          · rw [decide_eq_true h, decide_eq_true (by omega)]
          · rw [decide_eq_false h, decide_eq_false (by omega)]]
        rfl
      · have e : colD (.str z) = false := by
          show ((decide (1 ≤ z.length) && decide (z.length ≤ 8)) && _) = false
          rw [Bool.not_eq_true'] at hb
          rw [hb]
          rfl
        rw [e] at q
        exact q H1 e1
      · have hsz : z.cps.size ≤ 8 := by
          rw [Bool.not_eq_false', Bool.and_eq_true] at hb
          exact of_decide_eq_true hb.2
        have e : colD (.str z) = decide ((z.cps.toList.filter fun c => !low c) = []) := by
          show ((decide (1 ≤ z.length) && decide (z.length ≤ 8)) && z.cps.toList.all low) = _
          rw [Bool.not_eq_false'] at hb
          rw [hb, Bool.true_and]
          cases ha : z.cps.toList.all low with
          | true =>
            rw [decide_eq_true (List.filter_eq_nil_iff.mpr fun c hc => by rw [List.all_eq_true.mp ha c hc]; decide)]
          | false =>
            obtain ⟨c, hc, hcl⟩ := List.all_eq_false.mp ha
            rw [decide_eq_false (fun z => List.filter_eq_nil_iff.mp z c hc (by cases hcl' : low c with | true => exact absurd hcl' hcl | false => rfl))]
        rw [e] at q
        refine s_ret (v := .bl (decide ((z.cps.toList.filter fun c => !low c) = []))) (ev_opLL (xs := ((z.cps.toList.filter fun c => !low c).map fun c => V.str ⟨#[c]⟩)) (ys := []) (el_lc (n := z.cps.size) (Y := fun i H v H' => H' = H ∧ ∃ c, z.cps[i]? = some c ∧ v = .str ⟨#[c]⟩) (fun H2 e2 R r => ⟨.str z, rfl, z, rfl, r _ _ H2 (Ex.refl H2) walk_str fun _ _ => trivial⟩) (by omega) (fun i => !low (z.cps.toList.getD i 0)) (fun i => V.str ⟨#[z.cps.toList.getD i 0]⟩) (filter_range_str z) (fun i x H2 H3 Q e2 hi hy k => ?_)) (el_lst ea_nil (by decide)) fun p1 p2 G hp1 hp2 eG => ?_) (fun H2 e2 => q H2 (e1.trans e2))
        · obtain ⟨rfl, c, hc, rfl⟩ := hy
          have hcd : z.cps.toList.getD i 0 = c := getD_eq (by rw [Array.getElem?_toList]; exact hc)
          rw [hcd] at k
          refine k _ _ (Ex.refl _) rfl ?_ fun _ => ev_var rfl
          rw [← low_mem]
          exact et_test (ev_op (ev_var rfl) ev_c (rv_val fun H4 e4 Q q => ⟨c, _, rfl, rfl, q⟩))
        · have g := rv_eqDp (K := K) (H := G) (d := .list ((z.cps.toList.filter fun c => !low c).map fun c => PyData.str ⟨#[c]⟩)) (e := .list []) (.lst (sq_of hp1) (by
            have := dpA_strs (K := K) (H := G) ((z.cps.toList.filter fun c => !low c).map fun c => (⟨#[c]⟩ : Str))
            rw [List.map_map, List.map_map] at this
            exact this)) (.lst (sq_of hp2) .nil) ?_ shaped_nilL
          · rw [eqv_nilL] at g
            have e2 : decide (((z.cps.toList.filter fun c => !low c).map fun c => PyData.str ⟨#[c]⟩) = []) = decide ((z.cps.toList.filter fun c => !low c) = []) := by
              cases (z.cps.toList.filter fun c => !low c) with
              | nil => rfl
              | cons a r => rfl
            rw [e2] at g
            exact g
          · have := shaped_lS (cs := (z.cps.toList.filter fun c => !low c).map fun c => (⟨#[c]⟩ : Str)) (fun s hs => by
              obtain ⟨c, hc, rfl⟩ := List.mem_map.mp hs
              have hcz := (List.mem_filter.mp hc).1
              unfold PyData.strOk at hok ⊢
              rw [Array.all_eq_true_iff_forall_mem] at hok ⊢
              intro x hx
              have hx' : x = c := by simpa using hx
              rw [hx']
              exact hok c (by simpa using hcz))
            rw [List.map_map] at this
            exact this
end
end Kw
set_option Elab.async false
set_option linter.all false
set_option maxRecDepth 100000
set_option maxHeartbeats 4000000
namespace Kw
open PySem PySem.Spec PyProof.Rows L2 Evl
theorem dec_len (a b : Nat) : decide ((b : Int) < ((a : Nat) : Int)) = !decide (a ≤ b) := by
  by_cases h : a ≤ b
  · rw [decide_eq_true h, decide_eq_false (by omega)]; rfl
  · rw [decide_eq_false h, decide_eq_true (by omega)]; rfl
theorem dec_le (a b : Nat) : decide ((a : Int) ≤ ((b : Nat) : Int)) = decide (a ≤ b) := by
  by_cases h : a ≤ b
  · rw [decide_eq_true h, decide_eq_true (by omega)]
  · rw [decide_eq_false h, decide_eq_false (by omega)]
theorem dec_two (n : Nat) : decide (V.int ((n : Nat) : Int) = V.int 2) = decide (n = 2) := by
  by_cases h : n = 2
  · rw [decide_eq_true h, decide_eq_true (by rw [h]; rfl)]
  · rw [decide_eq_false h, decide_eq_false (fun z => h (by have := V.int.inj z; omega))]
section
variable {P : Program} {w : World} {K : PySem.W.Frag} {mg : Str → Option Value} {base : Heap}
def spLAC (K : PySem.W.Frag) : Sp := fun vs H Q _ => ∃ (v : V) (d : PyData) (m : Nat), vs = [v, .int m] ∧ Dp K H v d ∧ (∃ m n, Gd m n d) ∧ m ≤ 20 ∧ RetV (.bl (colsD m d)) H Q
theorem ok_LAC {f fLIC : Addr} {fd fdLIC : FuncData} {k : Nat} (F : Fun K "_law_are_colours" "_law_are_colours" sLAC f fd) (DLIC : Df K mg "_law_is_colour" sLIC ["thing"] fLIC fdLIC) (GLIC : FnOk P w K mg base CX0 (k + 1) fLIC fdLIC ["thing"] (spLIC K)) (B : Bu mg) : FnOk P w K mg base CX0 (k + 2) f fd ["thing", "most"] (spLAC K) := by
  refine F.ok scLAC (fun vs H Q E h => ?_) (fun cdv A outer s H vs Q E hr h => ?_)
  · obtain ⟨v, d, m, rfl, _⟩ := h
    rfl
  · obtain ⟨v, d, m, rfl, hd, hG, hm, q⟩ := h
    have hu64 := hr.units
    refine ⟨_, (pss_cons (ps_if (PW.pt (pw_or (pt_not (pt_val (pe_callB call_isi (by rfl) B.isi boot_isinstance (pa_cons (pv 0) (pa_cons (pe_bltn (v := .ty "tuple") (by rfl) B.tup boot_tuple rfl) pa_nil))))) (pw_or (pt_cmpR op_gt (pe_callB call_len_seq (by rfl) B.len PySem.boot_len (pa_cons (pv 0) pa_nil)) (pv 1) (nomark _)) (pw_or1 (pt_not (pt_val (pe_callB (cr_all rfl) (by rfl) B.all boot_all (pa_cons (pe_lc (own := [("one", 2)]) (g := (gName 2)) (tt := tYes) (te := (tCall (spLIC K) [] E0 (tCons (tVar 2) tNil))) rfl scLAC.nd (pi_tup (pv 0)) (blkOk_by (N := ["thing", "most", "one"]) (sc := defScope sLAC) (by decide +kernel)) (fun _ _ _ _ _ => (pg_name (i := 2) scLAC.nd rfl (.inl rfl))) (fun _ _ _ _ _ => pts_nil) (fun _ _ _ _ _ => (pcall DLIC GLIC (hr.mono (by omega)) (pa_cons (pv 2) pa_nil)))) pa_nil)))))))) (pss_one (ps_ret pe_bl)) pss_nil)
      (pss_one (ps_ret (pe_cmpR (op_eqD hu64) (pe_callTy call_list_of (by rfl) B.lst boot_list (pa_cons (pv 0) pa_nil)) (pe_callB (KwS.cr_sortTx rfl) (by rfl) B.srt PyProof.Rows.boot_sorted (pa_cons (pe_callTy (KwS.cr_setTx rfl) (by rfl) B.set PyProof.Rows.boot_set (pa_cons (pv 0) pa_nil)) pa_nil)) (nomark _))))), ?_⟩
    cases ht : isTupD d with
    | false =>
      rw [colsD_not ht] at q
      exact q_when (b := true) (et_is (et_or (b := true) (et_not (et_B (ev_isiD (K := K) (ev_var (v := v) rfl) ev_c hd (kit_tup hd)))) fun h => absurd h (by rw [ht]; decide)) (by rw [ht]; rfl)) (fun _ H1 e1 => q H1 e1) (fun hb => absurd hb (by decide))
    | true =>
      cases d <;> first | cases ht | skip
      rename_i ds
      obtain ⟨m', n, hG⟩ := hG
      obtain ⟨n', hGs⟩ := hG.tupI
      obtain ⟨a, xs, rfl, hS, hA⟩ := dp_tup_inv hd
      have hlen := dpA_len hA
      have hcols : colsD m (.tuple ds) = (decide (ds.length ≤ m) && (risD "" ds && ds.all lowD)) := rfl
      refine q_when (b := !true || (!decide (ds.length ≤ m) || !(ds.all colD))) (et_or (et_is (et_not (et_B (ev_isiD (K := K) (ev_var (v := .ref a) rfl) ev_c hd (kit_tup hd)))) rfl) fun _ => et_or (et_is (et_test (ev_op (ev_lenT (K := K) (ev_var (v := .ref a) rfl) hS) (ev_var (v := .int m) rfl) rv_gt)) (by rw [hlen, dec_len])) fun hle => et_not (et_B (ev_is (ev_all (K := K) (bs := ds.map colD) (el_lc (ew_tup (ev_var (v := .ref a) rfl) hS) (by rw [Bool.not_eq_false', decide_eq_true_eq] at hle; omega) (fun _ => true) (fun i => V.bl (colD (ds.getD i .none))) ?_ (fun i x H2 H3 Q e2 hi hy k => ?_))) (by rw [List.all_map]; rfl)))) (fun hb H1 e1 => ?_) (fun hb H1 e1 => ?_)
      · have := filter_range_map ds .none (fun _ => true) (fun d => V.bl (colD d))
        rw [hlen, this, List.filter_eq_self.mpr (fun _ _ => rfl), List.map_map]
        rfl
      · obtain ⟨rfl, hx⟩ := hy
        obtain ⟨dx, hdx, hDx⟩ := dpA_get hA hx
        rw [getD_eq hdx] at k
        exact k _ _ (Ex.refl _) rfl et_yes fun _ => ev_call (ea_cons (ev_var (v := x) rfl) ea_nil) (SpV.of fun H4 e4 Q q E => ⟨x, dx, rfl, dp_ex (e2.trans e4) _ _ hDx, ⟨m', n', hGs dx (List.mem_of_getElem? hdx)⟩, q⟩)
      · have hf : colsD m (.tuple ds) = false := by
          rw [hcols]
          cases h1 : decide (ds.length ≤ m) with
          | false => rfl
          | true =>
            rw [h1] at hb
            cases h2 : risD "" ds with
            | false => rfl
            | true =>
              cases h3 : ds.all lowD with
              | false => rfl
              | true =>
                rw [ris_col h2 h3] at hb
                cases hb
        rw [hf] at q
        exact q H1 e1
      · simp only [Bool.or_eq_false_iff, Bool.not_eq_false'] at hb
        obtain ⟨_, h1, h2⟩ := hb
        obtain ⟨zs, rfl, hz⟩ := strs_of_col h2
        have hxs := dpA_strs_inv hA
        subst hxs
        have hl := of_decide_eq_true h1
        rw [List.length_map] at hl
        have hq : colsD m (.tuple (zs.map PyData.str)) = risD "" (zs.map PyData.str) := by
          rw [hcols, h1, lowD_strs, List.all_eq_true.mpr fun c hc => (colB_low (hz c hc)).1, Bool.and_true]
          rfl
        rw [hq] at q
        have key : Ev (tOp (rEqD K) (tCB (rListS K) (tCons (tVar 0) tNil)) (tCB (KwS.rSortTx P w) (tCons (tCB (KwS.rSetTx K P w) (tCons (tVar 0) tNil)) tNil))) [some (.ref a), some (.int m), none] H1 (.bl (risD "" (zs.map PyData.str))) := by
          intro H2 e2 Q q
          refine el_listT (K := K) (H := H2) (σ := [some (.ref a), some (.int m), none]) (ev_var (v := .ref a) rfl) (ex_t (e1.trans e2) hS) H2 (Ex.refl H2) _ fun p H3 np e3 hp => ?_
          refine ⟨.ref a, rfl, a, zs, rfl, ex_t ((e1.trans e2).trans e3) hS, by omega, fun sa hs => ⟨sa, zs, rfl, upd_same, by omega, fun ys l nd hmm hst hl2 => ?_⟩⟩
          have e4 := Ex.new (o := KwS.TxS P w sa zs) hs
          have e5 := Ex.new (o := .lst (ys.map V.str)) hl2
          have hcy : ∀ z ∈ ys, colB z = true := fun z h => hz z ((hmm z).mp h)
          refine ⟨.list (zs.map PyData.str), .list (ys.map PyData.str), .lst (sq_of ((e4.trans e5) _ _ hp)) (dpA_strs _), .lst (sq_of upd_same) (dpA_strs _), shaped_lS fun c hc => strOk_low (colB_low (hz c hc)).1, shaped_lS fun c hc => strOk_low (colB_low (hcy c hc)).1, ?_⟩
          rw [eqv_strL, sorted_set hz nd hmm hst]
          exact q _ (e3.trans (e4.trans e5))
        exact s_ret key fun H2 e2 => q H2 (e1.trans e2)
end
end Kw
set_option Elab.async false
set_option linter.all false
set_option maxRecDepth 100000
set_option maxHeartbeats 4000000
namespace Kw
open PySem PySem.Spec PyProof.Rows L2 Evl
section
variable {P : Program} {w : World} {K : PySem.W.Frag} {mg : Str → Option Value} {base : Heap}
/-! ### _law_is_house -/
def spLIH (K : PySem.W.Frag) : Sp := fun vs H Q _ => ∃ (v : V) (d : PyData), vs = [v] ∧ Dp K H v d ∧ (∃ m n, Gd m n d) ∧ RetV (.bl (houseD d)) H Q
theorem dpA_two {H : Hp} {xs : List V} {d0 d1 : PyData} (h : DpAll K H xs [d0, d1]) : ∃ v0 v1, xs = [v0, v1] ∧ Dp K H v0 d0 ∧ Dp K H v1 d1 := by
  cases h with
  | cons a h =>
    cases h with
    | cons b h =>
      cases h
      exact ⟨_, _, rfl, a, b⟩
theorem houseD_tup {ds : List PyData} (h : decide (ds.length = 2) = false) : houseD (.tuple ds) = false := houseD_not (by rw [pairD_tup]; exact h)
theorem boxD_tup {ds : List PyData} (h : decide (ds.length = 2) = false) : boxD (.tuple ds) = false := boxD_not (by rw [pairD_tup]; exact h)
theorem ok_LIH {f fLAC : Addr} {fd fdLAC : FuncData} {k : Nat} (F : Fun K "_law_is_house" "_law_is_house" sLIH f fd) (DLAC : Df K mg "_law_are_colours" sLAC ["thing", "most"] fLAC fdLAC) (GLAC : FnOk P w K mg base CX0 (k + 2) fLAC fdLAC ["thing", "most"] (spLAC K)) (B : Bu mg) : FnOk P w K mg base CX0 (k + 3) f fd ["thing"] (spLIH K) := by
  refine F.ok scLIH (fun vs H Q E h => ?_) (fun cdv A outer s H vs Q E hr h => ?_)
  · obtain ⟨v, d, rfl, _⟩ := h
    rfl
  · obtain ⟨v, d, rfl, hd, hG, q⟩ := h
    refine ⟨_, (pss_cons (ps_if (PW.pt (pw_or (pt_not (pt_val (pe_callB call_isi (by rfl) B.isi boot_isinstance (pa_cons (pv 0) (pa_cons (pe_bltn (v := .ty "tuple") (by rfl) B.tup boot_tuple rfl) pa_nil))))) (pw_or (pt_cmpR op_ne (pe_callB call_len_seq (by rfl) B.len PySem.boot_len (pa_cons (pv 0) pa_nil)) pe_int (nomark _)) (pw_or1 (pt_not (pt_val (pe_callB call_isi (by rfl) B.isi boot_isinstance (pa_cons (pe_ix ix_tup (pv 0) pe_int (fun _ _ => rfl)) (pa_cons (pe_bltn (v := .ty "tuple") (by rfl) B.tup boot_tuple rfl) pa_nil))))))))) (pss_one (ps_ret pe_bl)) pss_nil)
      (pss_cons (ps_if (PW.pt (pw_or (pt_not (pt_chain op_le op_le pe_int (pe_callB call_len_seq (by rfl) B.len PySem.boot_len (pa_cons (pe_ix ix_tup (pv 0) pe_int (fun _ _ => rfl)) pa_nil)) pe_int)) (pw_or1 (pt_not (pt_val (pcall DLAC GLAC (hr.mono (by omega)) (pa_cons (pe_ix ix_tup (pv 0) pe_int (fun _ _ => rfl)) (pa_cons pe_int pa_nil)))))))) (pss_one (ps_ret pe_bl)) pss_nil)
      (pss_cons (ps_for PassesOwn.never rfl (pi_tup (pe_ix ix_tup (pv 0) pe_int (fun _ _ => rfl))) (pg_name (i := 1) scLIH.nd rfl (.inl rfl))
      (pss_cons (ps_if (PW.pt (pw_or (pt_not (pt_val (pe_callB call_isi (by rfl) B.isi boot_isinstance (pa_cons (pv 1) (pa_cons (pe_bltn (v := .ty "tuple") (by rfl) B.tup boot_tuple rfl) pa_nil))))) (pw_or1 (pt_cmpR op_ne (pe_callB call_len_seq (by rfl) B.len PySem.boot_len (pa_cons (pv 1) pa_nil)) pe_int (nomark _))))) (pss_one (ps_ret pe_bl)) pss_nil)
      (pss_one (ps_if (PW.pt (pw_or (pt_not (pt_val (pcall DLAC GLAC (hr.mono (by omega)) (pa_cons (pe_ix ix_tup (pv 1) pe_int (fun _ _ => rfl)) (pa_cons pe_int pa_nil))))) (pw_or1 (pt_not (pt_val (pcall DLAC GLAC (hr.mono (by omega)) (pa_cons (pe_ix ix_tup (pv 1) pe_int (fun _ _ => rfl)) (pa_cons pe_int pa_nil)))))))) (pss_one (ps_ret pe_bl)) pss_nil))))
      (pss_one (ps_ret pe_bl))))), ?_⟩
    cases ht : isTupD d with
    | false =>
      rw [houseD_not (pairD_not ht)] at q
      exact q_when (b := true) (et_is (et_or (b := true) (et_not (et_B (ev_isiD (K := K) (ev_var (v := v) rfl) ev_c hd (kit_tup hd)))) fun h => absurd h (by rw [ht]; decide)) (by rw [ht]; rfl)) (fun _ H1 e1 => q H1 e1) (fun hb => absurd hb (by decide))
    | true =>
      cases d <;> first | cases ht | skip
      rename_i ds
      obtain ⟨m', n, hG⟩ := hG
      obtain ⟨n', hGs⟩ := hG.tupI
      obtain ⟨a, xs, rfl, hS, hA⟩ := dp_tup_inv hd
      have hlen := dpA_len hA
      have t1 : EvT (tNot (tB (tCB (rIsi K) (tCons (tVar 0) (tCons (tC (.ty "tuple")) tNil))))) [some (.ref a), none] H false := et_is (et_not (et_B (ev_isiD (K := K) (ev_var (v := .ref a) rfl) ev_c hd (kit_tup hd)))) rfl
      have t2 : EvT (tTest (tOp rNe (tCB (rLenS K) (tCons (tVar 0) tNil)) (tC (.int 2)))) [some (.ref a), none] H (!decide (ds.length = 2)) := et_is (et_test (ev_op (ev_lenT (K := K) (ev_var (v := .ref a) rfl) hS) ev_c (rv_ne rfl))) (by rw [hlen, dec_two])
      cases h2 : decide (ds.length = 2) with
      | false =>
        rw [houseD_tup h2] at q
        rw [h2] at t2
        exact q_when (b := true) (et_is (et_or t1 fun _ => et_or (b := true) t2 fun h => by cases h) rfl) (fun _ H1 e1 => q H1 e1) (fun hb => absurd hb (by decide))
      | true =>
        rw [h2] at t2
        obtain ⟨d0, d1, rfl⟩ : ∃ d0 d1, ds = [d0, d1] := by
          match ds, of_decide_eq_true h2 with
          | [d0, d1], _ => exact ⟨d0, d1, rfl⟩
        obtain ⟨v0, v1, rfl, g0, g1⟩ := dpA_two hA
        have i0 : ∀ H1, Ex H H1 → Ev (tOp (rIxT K) (tVar 0) (tC (.int 0))) [some (.ref a), none] H1 v0 := fun H1 e1 => ev_op (ev_var (v := .ref a) rfl) ev_c (rv_ixT (ex_t e1 hS) at0)
        have t3 : EvT (tNot (tB (tCB (rIsi K) (tCons (tOp (rIxT K) (tVar 0) (tC (.int 0))) (tCons (tC (.ty "tuple")) tNil))))) [some (.ref a), none] H (!isTupD d0) := et_not (et_B (ev_isiD (K := K) (i0 H (Ex.refl H)) ev_c g0 (kit_tup g0)))
        cases h3 : isTupD d0 with
        | false =>
          have hf : houseD (.tuple [d0, d1]) = false := by
            cases d0 <;> first | rfl | cases h3
          rw [hf] at q
          rw [h3] at t3
          exact q_when (b := true) (et_is (et_or t1 fun _ => et_or t2 fun _ => t3) rfl) (fun _ H1 e1 => q H1 e1) (fun hb => absurd hb (by decide))
        | true =>
          rw [h3] at t3
          refine q_when (b := false) (et_is (et_or t1 fun _ => et_or t2 fun _ => t3) rfl) (fun hb => absurd hb (by decide)) (fun _ H1 e1 => ?_)
          cases d0 <;> first | cases h3 | skip
          rename_i bs
          obtain ⟨ab, ys, rfl, hSb, hAb⟩ := dp_tup_inv g0
          have hlb := dpA_len hAb
          obtain ⟨nb, hGb⟩ := (hGs _ (List.mem_cons_self ..)).tupI
          have hG1 := hGs d1 (List.mem_cons_of_mem _ (List.mem_cons_self ..))
          have hh : houseD (.tuple [.tuple bs, d1]) = ((decide (1 ≤ bs.length) && decide (bs.length ≤ 30)) && (bs.all boxD && colsD 6 d1)) := rfl
          refine q_when (b := !(decide (1 ≤ bs.length) && decide (bs.length ≤ 30)) || !colsD 6 d1) (et_or (et_is (et_not (et_test (ev_chain ev_c (ev_lenT (K := K) (i0 H1 e1) (ex_t e1 hSb)) ev_c rv_le rv_le))) ?_) fun _ => et_not (et_B (ev_call (ea_cons (ev_op (ev_var (v := .ref a) rfl) ev_c (rv_ixT (K := K) (ex_t e1 hS) at1)) (ea_cons ev_c ea_nil)) (SpV.of fun H4 e4 Q q E => ⟨v1, d1, 6, rfl, dp_ex (e1.trans e4) _ _ g1, ⟨m', n', hG1⟩, by decide, q⟩)))) (fun hb H2 e2 => ?_) (fun hb H2 e2 => ?_)
          · rw [hlb]
            show (!(decide (((1 : Nat) : Int) ≤ ((bs.length : Nat) : Int)) && decide (((bs.length : Nat) : Int) ≤ ((30 : Nat) : Int)))) = _
            rw [dec_le, dec_le]
          · have hf : houseD (.tuple [.tuple bs, d1]) = false := by
              rw [hh]
              cases h4 : (decide (1 ≤ bs.length) && decide (bs.length ≤ 30)) with
              | false => rfl
              | true =>
                rw [h4] at hb
                have hb' : colsD 6 d1 = false := by simpa using hb
                rw [hb', Bool.and_false]
                rfl
            rw [hf] at q
            exact q H2 (e1.trans e2)
          · simp only [Bool.or_eq_false_iff, Bool.not_eq_false'] at hb
            rw [hh, hb.1, hb.2, Bool.true_and, Bool.and_true] at q
            have e12 := e1.trans e2
            refine q_forT (K := K) (a := ab) (xs := ys) (i0 H2 e12) (ex_t e12 hSb) (fun i σ' H' => Ex H H' ∧ (∃ y, σ' = [some (.ref a), y]) ∧ (bs.take i).all boxD = true) (fun H3 e3 => ⟨e12.trans e3, ⟨none, rfl⟩, rfl⟩) (fun i σ' H' _ hP => ex_t hP.1 hSb) (fun i x σ' H' hx hP => ?_) (fun σ' H' hP => ?_)
            · obtain ⟨eH, ⟨y, rfl⟩, hall⟩ := hP
              obtain ⟨dx, hdx, hDx0⟩ := dpA_get hAb hx
              have hDx := dp_ex eH _ _ hDx0
              have hmem := List.mem_of_getElem? hdx
              have hGx := hGb dx hmem
              have bad : boxD dx = false → ∀ H3, Ex H' H3 → Q (.bl false) H3 := fun hf H3 e3 => by
                have : bs.all boxD = false := List.all_eq_false.mpr ⟨dx, hmem, by rw [hf]; decide⟩
                rw [this] at q
                exact q H3 (eH.trans e3)
              have u1 : EvT (tNot (tB (tCB (rIsi K) (tCons (tVar 1) (tCons (tC (.ty "tuple")) tNil))))) [some (.ref a), some x] H' (!isTupD dx) := et_not (et_B (ev_isiD (K := K) (ev_var (v := x) rfl) ev_c hDx (kit_tup hDx)))
              cases k1 : isTupD dx with
              | false =>
                rw [k1] at u1
                exact q_when (σ := [some (.ref a), some x]) (b := true) (et_is (et_or (b := true) u1 fun h => by cases h) rfl) (fun _ H3 e3 => bad (boxD_not (pairD_not k1)) H3 e3) (fun hb => absurd hb (by decide))
              | true =>
                cases dx <;> first | cases k1 | skip
                rename_i es
                obtain ⟨ax, us, rfl, hSx, hAx⟩ := dp_tup_inv hDx
                have hlx := dpA_len hAx
                have u2 : EvT (tTest (tOp rNe (tCB (rLenS K) (tCons (tVar 1) tNil)) (tC (.int 2)))) [some (.ref a), some (.ref ax)] H' (!decide (es.length = 2)) := et_is (et_test (ev_op (ev_lenT (K := K) (ev_var (v := .ref ax) rfl) hSx) ev_c (rv_ne rfl))) (by rw [hlx, dec_two])
                cases k2 : decide (es.length = 2) with
                | false =>
                  rw [k2] at u2
                  exact q_when (σ := [some (.ref a), some (.ref ax)]) (b := true) (et_is (et_or u1 fun _ => u2) rfl) (fun _ H3 e3 => bad (boxD_tup k2) H3 e3) (fun hb => absurd hb (by decide))
                | true =>
                  rw [k2] at u2
                  refine q_when (σ := [some (.ref a), some (.ref ax)]) (b := false) (et_is (et_or u1 fun _ => u2) rfl) (fun hb => absurd hb (by decide)) (fun _ H3 e3 => ?_)
                  obtain ⟨l, kk, rfl⟩ : ∃ d0 d1, es = [d0, d1] := by
                    match es, of_decide_eq_true k2 with
                    | [d0, d1], _ => exact ⟨d0, d1, rfl⟩
                  obtain ⟨nx, hGl⟩ := hGx.tupI
                  obtain ⟨w0, w1, rfl, c0, c1⟩ := dpA_two hAx
                  have hbx : boxD (.tuple [l, kk]) = (colsD 3 l && colsD 6 kk) := rfl
                  refine s_when (b := !colsD 3 l || !colsD 6 kk) (et_or (et_not (et_B (ev_call (ea_cons (ev_op (ev_var (v := .ref ax) rfl) ev_c (rv_ixT (K := K) (ex_t e3 hSx) at0)) (ea_cons ev_c ea_nil)) (SpV.of fun H4 e4 Q q E => ⟨w0, l, 3, rfl, dp_ex (e3.trans e4) _ _ c0, ⟨m', nx, hGl l (List.mem_cons_self ..)⟩, by decide, q⟩)))) fun _ => et_not (et_B (ev_call (ea_cons (ev_op (ev_var (v := .ref ax) rfl) ev_c (rv_ixT (K := K) (ex_t e3 hSx) at1)) (ea_cons ev_c ea_nil)) (SpV.of fun H4 e4 Q q E => ⟨w1, kk, 6, rfl, dp_ex (e3.trans e4) _ _ c1, ⟨m', nx, hGl kk (List.mem_cons_of_mem _ (List.mem_cons_self ..))⟩, by decide, q⟩)))) (fun hb H4 e4 => ?_) (fun hb H4 e4 => ?_)
                  · refine bad ?_ H4 (e3.trans e4)
                    rw [hbx]
                    cases p1 : colsD 3 l <;> cases p2 : colsD 6 kk <;> rw [p1, p2] at hb <;> first | rfl | cases hb
                  · refine ⟨eH.trans (e3.trans e4), ⟨_, rfl⟩, ?_⟩
                    rw [List.take_add_one, List.all_append, hall, hdx]
                    show (true && (boxD (.tuple [l, kk]) && true)) = true
                    rw [hbx]
                    cases p1 : colsD 3 l <;> cases p2 : colsD 6 kk <;> rw [p1, p2] at hb <;> first | rfl | cases hb
            · obtain ⟨eH, ⟨y, rfl⟩, hall⟩ := hP
              rw [List.take_of_length_le (by omega)] at hall
              rw [hall] at q
              exact s_ret (v := .bl true) ev_c (fun H3 e3 => q H3 (eH.trans e3))
end
end Kw
set_option Elab.async false
set_option linter.all false
set_option maxRecDepth 100000
set_option maxHeartbeats 4000000
namespace Kw
open PySem PySem.Spec PyProof.Rows L2 Evl
/-! ### some data of bounded size -/
def EvX (K : PySem.W.Frag) (te : TE) (σ : L2.St) (H : Hp) (n : Nat) : Prop := ∀ H1, Ex H H1 → ∀ Q : VK, (∀ v d H2, Ex H1 H2 → Dp K H2 v d → Gd 100 n d → Q v H2) → te σ H1 Q
def EvXA (K : PySem.W.Frag) (ta : TA) (σ : L2.St) (H : Hp) (n l : Nat) : Prop := ∀ H1, Ex H H1 → ∀ Q : List V → Hp → Prop, (∀ vs ds H2, Ex H1 H2 → DpAll K H2 vs ds → ds.length = l → (∀ d ∈ ds, Gd 100 n d) → Q vs H2) → ta σ H1 Q
section
variable {K : PySem.W.Frag} {σ : L2.St} {H H' G : Hp} {ta tb tc te tl : TE} {x y z v : V} {d : PyData} {ds es : List PyData} {D : Ends} {g : TG} {tu tz : TS} {n l : Nat}
theorem xx_of (h : Ev te σ H v) (hd : Dp K H v d) (hg : Gd 100 n d) : EvX K te σ H n := fun H1 e Q q => h H1 e _ fun H2 e2 => q v d H2 e2 (dp_ex (e.trans e2) _ _ hd) hg
theorem xx_var {i : Nat} (h : σ[i]? = some (some v)) (hd : Dp K H v d) (hg : Gd 100 n d) : EvX K (tVar i) σ H n := xx_of (ev_var h) hd hg
theorem xx_non : EvX K (tC .non) σ H n := xx_of ev_c .non (.non _)
theorem xx_int {i : Int} : EvX K (tC (.int i)) σ H n := xx_of ev_c (.int i) (.int _ i)
theorem xx_str {z : Str} (h : z.length ≤ 1000 ∧ PyData.strOk z = true) : EvX K (tC (.str z)) σ H n := xx_of ev_c (.str z) (.str _ h)
theorem EvX.mono {n' : Nat} (h : EvX K te σ H n) (hn : n ≤ n') : EvX K te σ H n' := fun H1 e Q q => h H1 e Q fun v d H2 e2 hd hg => q v d H2 e2 hd (hg.mono (Nat.le_refl _) hn)
theorem EvX.later (h : EvX K te σ H n) (e : Ex H H') : EvX K te σ H' n := fun H1 e1 => h H1 (e.trans e1)
theorem xa_nil : EvXA K tNil σ H n 0 := fun H1 _ Q q => q [] [] H1 (Ex.refl H1) .nil rfl gA_nil
theorem xa_cons {ta : TA} (h : EvX K te σ H n) (hr : EvXA K ta σ H n l) : EvXA K (tCons te ta) σ H n (l + 1) := fun H1 e Q q =>
  h H1 e _ fun v d H2 e2 hv hg => hr H2 (e.trans e2) _ fun vs ds H3 e3 hvs hl hgs => q (v :: vs) (d :: ds) H3 (e2.trans e3) (.cons (dp_ex e3 _ _ hv) hvs) (by rw [List.length_cons, hl]) (gA_cons hg hgs)
theorem xx_tup {ta : TA} (h : EvXA K ta σ H n l) (hl : l ≤ 100) : EvX K (tTup ta) σ H (n + 1) := fun H1 e Q q =>
  h H1 e _ fun vs ds H2 e2 hvs hl2 hgs => ⟨sz_of (by rw [dpA_len hvs]; omega), fun p hp => q (.ref p) (.tuple ds) _ (e2.trans (Ex.new hp)) (.tup (st_of upd_same) (dpA_ex (Ex.new hp) _ _ hvs)) (.tup (by omega) hgs)⟩
theorem xx_lst {ta : TA} (h : EvXA K ta σ H n l) (hl : l ≤ 100) : EvX K (tLst ta) σ H (n + 1) := fun H1 e Q q =>
  h H1 e _ fun vs ds H2 e2 hvs hl2 hgs => ⟨sz_of (by rw [dpA_len hvs]; omega), fun p hp => q (.ref p) (.list ds) _ (e2.trans (Ex.new hp)) (.lst (sq_of upd_same) (dpA_ex (Ex.new hp) _ _ hvs)) (.lst (by omega) hgs)⟩
/-- list(t) of a tuple of data -/
theorem xx_listT {a : Addr} {xs : List V} (ha : Ev te σ H (.ref a)) (hs : SqT K H a xs) (hd : DpAll K H xs ds) (hl : ds.length ≤ 100) (hg : ∀ d ∈ ds, Gd 100 n d) : EvX K (tCB (rListS K) (tCons te tNil)) σ H (n + 1) := fun H1 e Q q =>
  el_listT (K := K) ha hs H1 e _ fun p H2 _ e2 hp => q (.ref p) (.list ds) H2 e2 (.lst (sq_of hp) (dpA_ex (e.trans e2) _ _ hd)) (.lst hl hg)
/-- a tuple of what is asked -/
theorem xx_isT {xs : List V} (h : EvP te σ H (IsT K xs)) (hd : DpAll K H xs ds) (hl : ds.length ≤ 100) (hg : ∀ d ∈ ds, Gd 100 n d) : EvX K te σ H (n + 1) := fun H1 e Q q =>
  h H1 e Q fun v H2 e2 ⟨p, hv, hs⟩ => q v (.tuple ds) H2 e2 (by rw [hv]; exact .tup hs (dpA_ex (e.trans e2) _ _ hd)) (.tup hl hg)
/-- a tuple of such data, new or old -/
def EvXT (K : PySem.W.Frag) (te : TE) (σ : L2.St) (H : Hp) (n l : Nat) : Prop := ∀ H1, Ex H H1 → ∀ Q : VK, (∀ p vs ds H2, Ex H1 H2 → SqT K H2 p vs → DpAll K H2 vs ds → ds.length ≤ l → (∀ d ∈ ds, Gd 100 n d) → Q (.ref p) H2) → te σ H1 Q
theorem xx_T (h : EvXT K te σ H n l) (hl : l ≤ 100) : EvX K te σ H (n + 1) := fun H1 e Q q => h H1 e Q fun p vs ds H2 e2 hs hd hl2 hg => q (.ref p) (.tuple ds) H2 e2 (.tup hs hd) (.tup (by omega) hg)
theorem xt_isT {xs : List V} (h : EvP te σ H (IsT K xs)) (hd : DpAll K H xs ds) (hl : ds.length ≤ l) (hg : ∀ d ∈ ds, Gd 100 n d) : EvXT K te σ H n l := fun H1 e Q q =>
  h H1 e Q fun v H2 e2 ⟨p, hv, hs⟩ => by rw [hv]; exact q p xs ds H2 e2 hs (dpA_ex (e.trans e2) _ _ hd) hl hg
theorem xt_tup {ta : TA} (h : EvXA K ta σ H n l) (hl : l ≤ 100) : EvXT K (tTup ta) σ H n l := fun H1 e Q q =>
  h H1 e _ fun vs ds H2 e2 hvs hl2 hgs => ⟨sz_of (by rw [dpA_len hvs]; omega), fun p hp => q p vs ds _ (e2.trans (Ex.new hp)) (st_of upd_same) (dpA_ex (Ex.new hp) _ _ hvs) (by omega) hgs⟩
theorem xt_cat {m : Nat} (ha : EvXT K ta σ H n l) (hb : EvXT K tb σ H n m) (hn : l + m ≤ 1000) : EvXT K (tOp (rCatA K) ta tb) σ H n (l + m) := fun H1 e Q q =>
  ha H1 e _ fun a xs ds H2 e2 hs hd hl hg => hb H2 (e.trans e2) _ fun b ys es H3 e3 hs3 hd3 hl3 hg3 => by
    have hs' := ex_t e3 hs
    have hd' := dpA_ex e3 _ _ hd
    have l1 := dpA_len hd
    have l2 := dpA_len hd3
    refine ⟨a, b, xs, ys, rfl, rfl, hs', hs3, sz_of (by omega), fun h => ?_, fun h h' => ?_, fun h h' p hp => ?_⟩
    · exact q b ys es H3 (e2.trans e3) hs3 hd3 (by omega) hg3
    · exact q a xs ds H3 (e2.trans e3) hs' hd' (by omega) hg
    · exact q p _ (ds ++ es) _ ((e2.trans e3).trans (Ex.new hp)) (st_of upd_same) (dpA_ex (Ex.new hp) _ _ (dpA_of (paired_append (dpA_paired hd') (dpA_paired hd3)))) (by rw [List.length_append]; omega) (gA_app hg hg3)
theorem rep_one {α : Type} (k : Nat) (x : α) : (List.replicate k [x]).flatten = List.replicate k x := by
  induction k with
  | zero => rfl
  | succ k ih => rw [List.replicate_succ, List.flatten_cons, ih]; rfl
theorem dpA_rep (k : Nat) (h : Dp K H v d) : DpAll K H (List.replicate k v) (List.replicate k d) := by
  induction k with
  | zero => exact .nil
  | succ k ih => exact .cons h ih
/-- (x,) * k -/
theorem xt_rep {k : Nat} (h : EvX K te σ H n) (h2 : 2 ≤ k) (h3 : k ≤ 100) : EvXT K (tOp (rRepT K) (tTup (tCons te tNil)) (tC (.int (k : Int)))) σ H n k := fun H1 e Q q =>
  h H1 e _ fun v d H2 e2 hd hg => ⟨by show 1 ≤ sizeLine; decide, fun p hp => ⟨p, (k : Int), [v], rfl, rfl, st_of upd_same, by simp, by omega, by omega, by show 1 ≤ 1000; decide, fun t nt => by
    rw [Int.toNat_natCast, rep_one]
    have e3 := (Ex.new (o := .tup [v]) hp).trans (Ex.new (o := .tup (List.replicate k v)) nt)
    exact q t _ (List.replicate k d) _ (e2.trans e3) (st_of upd_same) (dpA_ex e3 _ _ (dpA_rep k hd)) (by rw [List.length_replicate]; exact Nat.le_refl _) fun d' hd' => by rw [(List.mem_replicate.mp hd').2]; exact hg⟩⟩
/-- a new list of such data -/
def EvXL (K : PySem.W.Frag) (te : TE) (σ : L2.St) (H : Hp) (n l : Nat) : Prop := ∀ H1, Ex H H1 → ∀ Q : VK, (∀ p vs ds H2, H1 p = none → Ex H1 H2 → H2 p = some (.lst vs) → DpAll K H2 vs ds → ds.length = l → (∀ d ∈ ds, Gd 100 n d) → Q (.ref p) H2) → te σ H1 Q
theorem xl_lst {ta : TA} (h : EvXA K ta σ H n l) (hl : l ≤ 1000) : EvXL K (tLst ta) σ H n l := fun H1 e Q q =>
  h H1 e _ fun vs ds H2 e2 hvs hl2 hgs => ⟨sz_of (by rw [dpA_len hvs]; omega), fun p hp => q p vs ds _ (fresh_back e2 hp) (e2.trans (Ex.new hp)) upd_same (dpA_ex (Ex.new hp) _ _ hvs) hl2 hgs⟩
theorem xl_cat {p : Addr} {xs : List V} {m : Nat} (ha : Ev ta σ H (.ref p)) (hp : H p = some (.lst xs)) (hd : DpAll K H xs ds) (hm : ds.length = m) (hg : ∀ d ∈ ds, Gd 100 n d) (hb : EvXL K tb σ H n l) (hn : m + l ≤ 1000) : EvXL K (tOp rCat ta tb) σ H n (m + l) := fun H1 e Q q =>
  ha H1 e _ fun H2 e2 => hb H2 (e.trans e2) _ fun b zs es H3 nb e3 hb3 hz hl hgz => ⟨p, b, xs, zs, rfl, rfl, (e.trans (e2.trans e3)) _ _ hp, hb3, sz_of (by rw [dpA_len hd, dpA_len hz]; omega), fun t nt => q t _ (ds ++ es) _ (fresh_back (e2.trans e3) nt) ((e2.trans e3).trans (Ex.new nt)) upd_same (dpA_ex (Ex.new nt) _ _ (dpA_of (paired_append (dpA_paired (dpA_ex (e.trans (e2.trans e3)) _ _ hd)) (dpA_paired hz)))) (by rw [List.length_append, hm, hl]) (gA_app hg hgz)⟩
theorem q_asgXL {i : Nat} (h : EvXL K te σ H n l) (k : ∀ p vs ds H1, H p = none → Ex H H1 → H1 p = some (.lst vs) → DpAll K H1 vs ds → ds.length = l → (∀ d ∈ ds, Gd 100 n d) → tz D (σ.set i (some (.ref p))) H1) : tSeq (tAsg te (gName i)) tz D σ H := h H (Ex.refl H) _ fun p vs ds H2 np e2 hp hv hl hg => k p vs ds H2 np e2 hp hv hl hg
end
end Kw
set_option Elab.async false
set_option linter.all false
set_option maxRecDepth 100000
set_option maxHeartbeats 4000000
namespace Kw
open PySem PySem.Spec PyProof.Rows L2 Evl
theorem gd_stB {m n : Nat} {d : PyData} (h : Gd m n d) : StB d = true := by
  induction h with
  | non n => rfl
  | bl n b => rfl
  | int n i => rfl
  | str n h => show decide _ = true; exact decide_eq_true h.1
  | tup hl h ih => show StBA _ = true; exact stBA_of ih
  | lst hl h ih => show StBA _ = true; exact stBA_of ih
theorem gd_cols {cs : List Str} {m n : Nat} (h : OkCols cs m) (hm : m ≤ 100) : Gd 100 (n + 1) (encC cs) := by
  refine .tup (by rw [List.length_map]; have := h.1; omega) fun d hd => ?_
  obtain ⟨c, hc, rfl⟩ := List.mem_map.mp hd
  have := colB_low (h.2.1 c hc)
  exact .str _ ⟨by omega, strOk_low this.1⟩
theorem gd_box {b : Box} {n : Nat} (h : OkBox b) : Gd 100 (n + 2) (encB b) := .tup (by show 2 ≤ 100; decide) (gA_cons (gd_cols h.1 (by decide)) (gA_cons (gd_cols h.2 (by decide)) gA_nil))
theorem gd_house {h : House} {n : Nat} (o : OkHouse h) : Gd 100 (n + 4) (encH h) := by
  refine .tup (by show 2 ≤ 100; decide) (gA_cons (.tup (by rw [List.length_map]; have := o.2.1; omega) fun d hd => ?_) (gA_cons (gd_cols (n := n + 2) o.2.2.2 (by decide)) gA_nil))
  · obtain ⟨b, hb, rfl⟩ := List.mem_map.mp hd
    exact gd_box (o.2.2.1 b hb)
end Kw
set_option Elab.async false
set_option linter.all false
set_option maxRecDepth 100000
set_option maxHeartbeats 4000000
namespace Kw
open PySem PySem.Spec PyProof.Rows L2 Evl
abbrev sLaw : Stmt := topS 24
theorem scLaw : FnScope ["script", "bag", "house", "once", "boxes", "hand", "things", "six", "box", "rows", "some", "thing"] ["script"] (defScope sLaw) := ⟨rfl, rfl, rfl, by decide +kernel, rfl, by decide +kernel, by decide +kernel⟩
theorem gdm_cols {M : Nat} {cs : List Str} {m n : Nat} (h : OkCols cs m) (hm : m ≤ M) : Gd M (n + 1) (encC cs) := by
  refine .tup (by rw [List.length_map]; have := h.1; omega) fun d hd => ?_
  obtain ⟨c, hc, rfl⟩ := List.mem_map.mp hd
  have := colB_low (h.2.1 c hc)
  exact .str _ ⟨by omega, strOk_low this.1⟩
theorem gdm_box {M : Nat} (hM : 30 ≤ M) {b : Box} {n : Nat} (h : OkBox b) : Gd M (n + 2) (encB b) := .tup (by show 2 ≤ M; omega) (gA_cons (gdm_cols h.1 (by omega)) (gA_cons (gdm_cols h.2 (by omega)) gA_nil))
theorem gdm_boxes {M : Nat} (hM : 30 ≤ M) {h : House} {n : Nat} (o : OkHouse h) : Gd M (n + 3) (encBs h.1) := .tup (by rw [List.length_map]; have := o.2.1; omega) fun d hd => by
  obtain ⟨b, hb, rfl⟩ := List.mem_map.mp hd
  exact gdm_box hM (o.2.2.1 b hb)
theorem gdm_house {M : Nat} (hM : 30 ≤ M) {h : House} {n : Nat} (o : OkHouse h) : Gd M (n + 4) (encH h) := .tup (by show 2 ≤ M; omega) (gA_cons (gdm_boxes hM o) (gA_cons (gdm_cols (n := n + 2) o.2.2.2 (by omega)) gA_nil))
theorem drop3 {xs : List Int} (h : xs.length = 400) (k : Nat) (hk : k < 300) : ∃ (a b c : Int) (ns : List Int), xs.drop k = a :: b :: c :: ns ∧ ns.length ≤ 1000 := by
  have hl : (xs.drop k).length = 400 - k := by rw [List.length_drop, h]
  generalize xs.drop k = ys at hl
  match ys, hl with
  | [], hl => exact absurd hl (by show ¬ 0 = 400 - k; omega)
  | [_], hl => exact absurd hl (by show ¬ 1 = 400 - k; omega)
  | [_, _], hl => exact absurd hl (by show ¬ 2 = 400 - k; omega)
  | a :: b :: c :: ns, hl => exact ⟨a, b, c, ns, rfl, by simp only [List.length_cons] at hl; omega⟩
section
variable {K : PySem.W.Frag} {σ : L2.St} {H H' G : Hp} {ta tb tc te tl : TE} {x y z v : V} {d : PyData} {ds es : List PyData} {D : Ends} {g : TG} {tu tz : TS} {n l : Nat}
theorem el_picks {b d : Addr} {n m : Int} {xs : List Int} (h1 : σ[1]? = some (some (.ref b))) (hb : H b = some (.lst [.ref d, .int n])) (hd : H d = some (.lst (xs.map V.int))) (hx : xs.length = 400) (hm : 0 < m ∧ m ≤ 300) :
    ∃ (a b' c : Int) (ns : List Int), ns.length ≤ 1000 ∧ EvL (tSl (rSlL K) (tOp (rIxL K) (tVar 1) (tC (.int 0))) (tPart (tOp (rI (fun _ j => 0 < j) fun i j => .int (i % j)) (tOp (rIxL K) (tVar 1) (tC (.int 1))) (tC (.int m)))) tNoPart) σ H ((a :: b' :: c :: ns).map V.int) := by
  have g0 := Int.emod_nonneg n (show m ≠ 0 by omega)
  have g1 := Int.emod_lt_of_pos n hm.1
  obtain ⟨k, hk⟩ := Int.eq_ofNat_of_zero_le g0
  obtain ⟨a, b', c, ns, e, hl⟩ := drop3 hx k (by omega)
  refine ⟨a, b', c, ns, hl, ?_⟩
  have := el_sl (K := K) (σ := σ) (H := H) (lo := some (k : Int)) (hi := none) (ev_op (ev_var h1) ev_c (rv_ixL (K := K) (sq_of hb) at0)) (eo_some (ev_op (ev_op (z := .int n) (ev_var h1) ev_c (rv_ixL (K := K) (sq_of hb) at1)) (ev_c (v := .int m)) (rv_val (r := rI (fun _ j => 0 < j) fun i j => .int (i % j)) fun H4 e4 Q q => ⟨n, m, rfl, rfl, hm.1, by show Q (V.int (n % m)) H4; rw [hk]; exact q⟩))) eo_none (sq_of hd)
  rw [cutFrom, ← List.map_drop, e] at this
  exact this
theorem el_picksA {b d : Addr} {n m c0 : Int} {xs : List Int} (h1 : σ[1]? = some (some (.ref b))) (hb : H b = some (.lst [.ref d, .int n])) (hd : H d = some (.lst (xs.map V.int))) (hx : xs.length = 400) (hm : 0 < m ∧ 0 ≤ c0 ∧ m + c0 ≤ 300) :
    ∃ (a b' c : Int) (ns : List Int), ns.length ≤ 1000 ∧ EvL (tSl (rSlL K) (tOp (rIxL K) (tVar 1) (tC (.int 0))) (tPart (tOp (rI0 fun i j => .int (i + j)) (tOp (rI (fun _ j => 0 < j) fun i j => .int (i % j)) (tOp (rIxL K) (tVar 1) (tC (.int 1))) (tC (.int m))) (tC (.int c0)))) tNoPart) σ H ((a :: b' :: c :: ns).map V.int) := by
  have g0 := Int.emod_nonneg n (show m ≠ 0 by omega)
  have g1 := Int.emod_lt_of_pos n hm.1
  obtain ⟨k, hk⟩ := Int.eq_ofNat_of_zero_le (show 0 ≤ n % m + c0 by omega)
  obtain ⟨a, b', c, ns, e, hl⟩ := drop3 hx k (by omega)
  refine ⟨a, b', c, ns, hl, ?_⟩
  have := el_sl (K := K) (σ := σ) (H := H) (lo := some (k : Int)) (hi := none) (ev_op (ev_var h1) ev_c (rv_ixL (K := K) (sq_of hb) at0)) (eo_some (ev_op (ev_op (z := .int (n % m)) (ev_op (z := .int n) (ev_var h1) ev_c (rv_ixL (K := K) (sq_of hb) at1)) (ev_c (v := .int m)) (rv_val (r := rI (fun _ j => 0 < j) fun i j => .int (i % j)) fun H4 e4 Q q => ⟨n, m, rfl, rfl, hm.1, q⟩)) (ev_c (v := .int c0)) (rv_val (r := rI0 fun i j => .int (i + j)) fun H4 e4 Q q => ⟨n % m, c0, rfl, rfl, by show Q (V.int (n % m + c0)) H4; rw [hk]; exact q⟩))) eo_none (sq_of hd)
  rw [cutFrom, ← List.map_drop, e] at this
  exact this
theorem call_spo {Q : VK} {m n : Nat} {a b c : Int} {ns : List Int} (ha : Ev ta σ H v) (hd : Dp K H v d) (hg : Gd m n d) (hn : n < 9) (hm : 20 ≤ m ∧ m ≤ 1000) (hl : EvL tl σ H ((a :: b :: c :: ns).map V.int)) (hns : ns.length ≤ 1000)
    (q : ∀ v' d' H2, Ex H H2 → Dp K H2 v' d' → Gd (m + 1) (n + 4) d' → Q v' H2) : tCall (spSpo K 9) [] E0 (tCons ta (tCons tl tNil)) σ H Q :=
  call_VL ha hl fun p H1 np e1 h1 => ⟨v, p, a, b, c, ns, d, H1, m, n, hn, hm.1, hm.2, rfl, h1, hns, Ex.refl H1, dp_ex e1 _ _ hd, hg, fun v' d' G2 H2 e2 g2 hd2 hg2 => q v' d' H2 (e1.trans e2) (dp_ex g2.into _ _ hd2) hg2⟩
theorem q_asgSpo {i m n : Nat} {a b c : Int} {ns : List Int} (ha : Ev ta σ H v) (hd : Dp K H v d) (hg : Gd m n d) (hn : n < 9) (hm : 20 ≤ m ∧ m ≤ 1000) (hl : EvL tl σ H ((a :: b :: c :: ns).map V.int)) (hns : ns.length ≤ 1000)
    (q : ∀ v' d' H2, Ex H H2 → Dp K H2 v' d' → Gd (m + 1) (n + 4) d' → tz D (σ.set i (some v')) H2) : tSeq (tAsg (tCall (spSpo K 9) [] E0 (tCons ta (tCons tl tNil))) (gName i)) tz D σ H := call_spo ha hd hg hn hm hl hns q
theorem xx_spo {m k : Nat} {a b c : Int} {ns : List Int} (ha : Ev ta σ H v) (hd : Dp K H v d) (hg : Gd m n d) (hn : n < 9) (hm : 20 ≤ m ∧ m < 100) (hl : EvL tl σ H ((a :: b :: c :: ns).map V.int)) (hns : ns.length ≤ 1000) (hk : n + 4 ≤ k) : EvX K (tCall (spSpo K 9) [] E0 (tCons ta (tCons tl tNil))) σ H k := fun H1 e Q q =>
  call_spo (ha.mono e) (dp_ex e _ _ hd) hg hn ⟨hm.1, by omega⟩ (hl.mono e) hns fun v' d' H2 e2 hd2 hg2 => q v' d' H2 e2 hd2 (hg2.mono (by omega) hk)
theorem xx_odd {a b c : Int} {ns : List Int} (hl : EvL tl σ H ((a :: b :: c :: ns).map V.int)) (hk : 4 ≤ n) : EvX K (tCall (spOdd K) [] E0 (tCons tl tNil)) σ H n := fun H1 e Q q =>
  call_L (hl.mono e) fun p H2 np e2 h2 => ⟨p, a, b, c :: ns, H2, rfl, h2, Ex.refl H2, fun v d G2 H3 e3 g3 hd hg => q v d H3 (e2.trans e3) (dp_ex g3.into _ _ hd) (hg.mono (by decide) hk)⟩
theorem xt_var {p : Addr} {xs : List V} (ha : Ev te σ H (.ref p)) (hs : SqT K H p xs) (hd : DpAll K H xs ds) (hl : ds.length ≤ l) (hg : ∀ d ∈ ds, Gd 100 n d) : EvXT K te σ H n l := fun H1 e Q q =>
  ha H1 e Q fun H2 e2 => q p xs ds H2 e2 (ex_t (e.trans e2) hs) (dpA_ex (e.trans e2) _ _ hd) hl hg
theorem xt_new {xs : List V} (h : EvU te σ H xs) (hd : DpAll K H xs ds) (hl : ds.length ≤ l) (hg : ∀ d ∈ ds, Gd 100 n d) : EvXT K te σ H n l := fun H1 e Q q =>
  h H1 e Q fun p H2 _ e2 hp => q p xs ds H2 e2 (st_of hp) (dpA_ex (e.trans e2) _ _ hd) hl hg
theorem s_asgXL {i : Nat} (h : EvXL K te σ H n l) (k : ∀ p vs ds H1, H p = none → Ex H H1 → H1 p = some (.lst vs) → DpAll K H1 vs ds → ds.length = l → (∀ d ∈ ds, Gd 100 n d) → D.nx (σ.set i (some (.ref p))) H1) : tAsg te (gName i) D σ H := h H (Ex.refl H) _ fun p vs ds H2 np e2 hp hv hl hg => k p vs ds H2 np e2 hp hv hl hg
theorem q_tup2X {i j : Nat} {xs : List V} (h1 : EvU ta σ H xs) (h2 : ∀ H1, Ex H H1 → EvXT K tb σ H1 n l)
    (k : ∀ p6 pb vs ds H2, Ex H H2 → H2 p6 = some (.tup xs) → SqT K H2 pb vs → DpAll K H2 vs ds → ds.length ≤ l → (∀ d ∈ ds, Gd 100 n d) → tz D ((σ.set i (some (.ref p6))).set j (some (.ref pb))) H2) :
    tSeq (tAsg (tTup (tCons ta (tCons tb tNil))) (gTup K 2 (gCons (gName i) (gCons (gName j) gNil)))) tz D σ H :=
  h1 H (Ex.refl H) _ fun p6 H1 n1 e1 h1' => h2 H1 e1 H1 (Ex.refl H1) _ fun pb vs ds H2 e2 hs hd hl hg => ⟨by show 2 ≤ sizeLine; decide, fun p np => ⟨p, _, rfl, st_of upd_same, rfl, .ref p6, [.ref pb], rfl, .ref pb, [], rfl, rfl, k p6 pb vs ds _ ((e1.trans e2).trans (Ex.new np)) (Ex.new np _ _ (e2 _ _ h1')) (ex_t (Ex.new np) hs) (dpA_ex (Ex.new np) _ _ hd) hl hg⟩⟩
theorem xt_mono {l' : Nat} (h : EvXT K te σ H n l) (hl : l ≤ l') : EvXT K te σ H n l' := fun H1 e Q q => h H1 e Q fun p vs ds H2 e2 hs hd hl2 hg => q p vs ds H2 e2 hs hd (by omega) hg
end
def six6 : List Str := ["a", "b", "c", "d", "e", "f"]
theorem gd_six {n : Nat} : ∀ d ∈ six6.map PyData.str, Gd 100 n d := by
  unfold six6
  simp only [List.map_cons, List.map_nil]
  repeat' (first | exact Gd.str _ (by decide +kernel) | exact gA_nil | (refine gA_cons ?_ ?_))
theorem gd_rev {n : Nat} : ∀ d ∈ six6.reverse.map PyData.str, Gd 100 n d := fun d hd => gd_six d (by
  obtain ⟨c, hc, rfl⟩ := List.mem_map.mp hd
  exact List.mem_map.mpr ⟨c, List.mem_reverse.mp hc, rfl⟩)
section
variable {P : Program} {w : World} {K : PySem.W.Frag} {mg : Str → Option Value} {base : Heap}
theorem ok_law {f fBags fHouse fSpo fOdd fIsH fLIH : Addr} {fd fdBags fdHouse fdSpo fdOdd fdIsH fdLIH : FuncData} {k : Nat} (F : Fun K "law" "law" sLaw f fd) (DBags : Df K mg "_law_bags" sBags ["script", "limit"] fBags fdBags) (DHouse : Df K mg "_law_house" sHouse ["bag", "boxes", "locks", "wide"] fHouse fdHouse) (DSpo : Df K mg "_law_spoilt" sSpo ["thing", "picks"] fSpo fdSpo) (DOdd : Df K mg "_law_odd" sOdd ["picks"] fOdd fdOdd) (DIsH : Df K mg "is_house" sIsH ["thing"] fIsH fdIsH) (DLIH : Df K mg "_law_is_house" sLIH ["thing"] fLIH fdLIH) (GBags : FnOk P w K mg base CX0 (k + 3) fBags fdBags ["script", "limit"] (spBags K 10)) (GHouse : FnOk P w K mg base CX0 (k + 3) fHouse fdHouse ["bag", "boxes", "locks", "wide"] (spHs K)) (GSpo : FnOk P w K mg base CX0 (k + 11) fSpo fdSpo ["thing", "picks"] (spSpo K 9)) (GOdd : FnOk P w K mg base CX0 (k + 1) fOdd fdOdd ["picks"] (spOdd K)) (GIsH : FnOk P w K mg base CX0 (k + 3) fIsH fdIsH ["thing"] (spIsH K)) (GLIH : FnOk P w K mg base CX0 (k + 3) fLIH fdLIH ["thing"] (spLIH K)) (B : Bu mg) : FnOk P w K mg base CX0 (k + 12) f fd ["script"] (spLaw K) := by
  refine F.ok scLaw (fun vs H Q E h => ?_) (fun cdv A outer s H vs Q E hr h => ?_)
  · obtain ⟨a, ns, rfl, _⟩ := h
    rfl
  · obtain ⟨a, ns, rfl, hS, hl, q⟩ := h
    refine ⟨_, (pss_cons (ps_for PassesOwn.never rfl (pi_list (pcall DBags GBags (hr.mono (by omega)) (pa_cons (pv 0) (pa_cons pe_int pa_nil)))) (pg_name (i := 1) scLaw.nd rfl (.inl rfl))
      (pss_cons (ps_set (i := 2) scLaw.nd rfl (.inl rfl) (pcall DHouse GHouse (hr.mono (by omega)) (pa_cons (pv 1) (pa_cons pe_int (pa_cons pe_int (pa_cons pe_int pa_nil))))))
      (pss_cons (ps_set (i := 3) scLaw.nd rfl (.inl rfl) (pcall DSpo GSpo (hr.mono (by omega)) (pa_cons (pv 2) (pa_cons (pe_slice sl_list (pe_ix ix_list (pv 1) pe_int (fun _ _ => rfl)) (po_some (pe_op op_mod (pe_ix ix_list (pv 1) pe_int (fun _ _ => rfl)) pe_int)) po_none) pa_nil))))
      (pss_cons (ps_asg (pv 2) (pg_tup rfl (pgs_cons (pg_name (i := 4) scLaw.nd rfl (.inl rfl)) (pgs_cons (pg_name (i := 5) scLaw.nd rfl (.inl rfl)) pgs_nil))))
      (pss_cons (ps_set (i := 6) scLaw.nd rfl (.inl rfl) (pe_lst (pa_cons (pv 2) (pa_cons (pv 3) (pa_cons (pcall DSpo GSpo (hr.mono (by omega)) (pa_cons (pv 3) (pa_cons (pe_slice sl_list (pe_ix ix_list (pv 1) pe_int (fun _ _ => rfl)) (po_some (pe_op op_add (pe_op op_mod (pe_ix ix_list (pv 1) pe_int (fun _ _ => rfl)) pe_int) pe_int)) po_none) pa_nil))) pa_nil)))))
      (pss_cons (ps_set (i := 6) scLaw.nd rfl (.inl rfl) (pe_op op_cat (pv 6) (pe_lst (pa_cons (pe_callTy call_list_of (by rfl) B.lst boot_list (pa_cons (pv 2) pa_nil)) (pa_cons (pe_tup (pa_cons (pe_callTy call_list_of (by rfl) B.lst boot_list (pa_cons (pv 4) pa_nil)) (pa_cons (pv 5) pa_nil))) (pa_cons (pv 4) pa_nil))))))
      (pss_cons (ps_asg (pe_tup (pa_cons (pe_tup (pa_cons pe_str (pa_cons pe_str (pa_cons pe_str (pa_cons pe_str (pa_cons pe_str (pa_cons pe_str pa_nil))))))) (pa_cons (pe_tup (pa_cons (pe_tup pa_nil) (pa_cons (pe_tup pa_nil) pa_nil))) pa_nil))) (pg_tup rfl (pgs_cons (pg_name (i := 7) scLaw.nd rfl (.inl rfl)) (pgs_cons (pg_name (i := 8) scLaw.nd rfl (.inl rfl)) pgs_nil))))
      (pss_cons (ps_set (i := 9) scLaw.nd rfl (.inl rfl) (pe_lst (pa_cons (pv 7) (pa_cons (pe_op op_catA (pv 7) (pe_tup (pa_cons pe_str pa_nil))) (pa_cons (pe_revT (pv 7)) (pa_cons (pe_callTy call_list_of (by rfl) B.lst boot_list (pa_cons (pv 7) pa_nil)) (pa_cons (pe_tup (pa_cons pe_str (pa_cons pe_str pa_nil))) (pa_cons (pe_tup (pa_cons pe_str pa_nil)) (pa_cons (pe_tup (pa_cons pe_str pa_nil)) (pa_cons (pe_tup (pa_cons pe_non pa_nil)) (pa_cons (pe_tup (pa_cons pe_str pa_nil)) pa_nil)))))))))))
      (pss_cons (ps_for PassesOwn.never rfl (pi_list (pe_op op_cat (pv 9) (pe_lst (pa_cons (pe_tup (pa_cons pe_str pa_nil)) pa_nil)))) (pg_name (i := 10) scLaw.nd rfl (.inl rfl))
      (pss_cons (ps_set (i := 6) scLaw.nd rfl (.inl rfl) (pe_op op_cat (pv 6) (pe_lst (pa_cons (pe_tup (pa_cons (pv 4) (pa_cons (pv 10) pa_nil))) (pa_cons (pe_tup (pa_cons (pe_op op_catA (pe_slice sl_tupA (pv 4) (po_some pe_int) po_none) (pe_tup (pa_cons (pe_tup (pa_cons (pv 10) (pa_cons (pe_tup pa_nil) pa_nil))) pa_nil))) (pa_cons (pv 5) pa_nil))) pa_nil)))))
      (pss_one (ps_set (i := 6) scLaw.nd rfl (.inl rfl) (pe_op op_cat (pv 6) (pe_lst (pa_cons (pe_tup (pa_cons (pe_op op_catA (pe_slice sl_tupA (pv 4) (po_some pe_int) po_none) (pe_tup (pa_cons (pe_tup (pa_cons (pe_tup pa_nil) (pa_cons (pv 10) pa_nil))) pa_nil))) (pa_cons (pv 5) pa_nil))) pa_nil)))))))
      (pss_cons (ps_set (i := 6) scLaw.nd rfl (.inl rfl) (pe_op op_cat (pv 6) (pe_lst (pa_cons (pe_tup (pa_cons (pe_op op_repT (pe_tup (pa_cons (pe_slice sl_tupA (pv 7) po_none (po_some pe_int)) pa_nil)) pe_int) (pa_cons (pv 5) pa_nil))) (pa_cons (pe_tup (pa_cons (pe_tup (pa_cons (pe_tup (pa_cons (pe_slice sl_tupA (pv 7) po_none (po_some pe_int)) (pa_cons (pv 7) pa_nil))) pa_nil)) (pa_cons (pv 5) pa_nil))) pa_nil)))))
      (pss_cons (ps_set (i := 6) scLaw.nd rfl (.inl rfl) (pe_op op_cat (pv 6) (pe_lst (pa_cons (pe_tup (pa_cons (pe_tup (pa_cons (pe_tup (pa_cons (pe_slice sl_tupA (pv 7) po_none (po_some pe_int)) (pa_cons (pv 7) pa_nil))) pa_nil)) (pa_cons (pv 5) pa_nil))) (pa_cons (pe_tup (pa_cons (pe_tup pa_nil) (pa_cons (pv 5) pa_nil))) pa_nil)))))
      (pss_cons (ps_set (i := 6) scLaw.nd rfl (.inl rfl) (pe_op op_cat (pv 6) (pe_lst (pa_cons (pe_tup (pa_cons (pe_op op_repT (pe_tup (pa_cons (pv 8) pa_nil)) pe_int) (pa_cons (pe_tup pa_nil) pa_nil))) (pa_cons (pe_tup (pa_cons (pe_op op_repT (pe_tup (pa_cons (pv 8) pa_nil)) pe_int) (pa_cons (pe_tup pa_nil) pa_nil))) (pa_cons (pe_tup (pa_cons (pe_tup (pa_cons (pv 8) (pa_cons (pe_tup (pa_cons (pe_tup pa_nil) pa_nil)) pa_nil))) (pa_cons (pe_tup pa_nil) pa_nil))) pa_nil))))))
      (pss_cons (ps_set (i := 6) scLaw.nd rfl (.inl rfl) (pe_op op_cat (pv 6) (pe_lst (pa_cons (pe_tup (pa_cons (pe_tup (pa_cons (pe_callTy call_list_of (by rfl) B.lst boot_list (pa_cons (pv 8) pa_nil)) pa_nil)) (pa_cons (pe_tup pa_nil) pa_nil))) (pa_cons (pe_tup (pa_cons (pv 4) pa_nil)) (pa_cons (pe_tup (pa_cons (pv 4) (pa_cons (pv 5) (pa_cons pe_int pa_nil)))) pa_nil))))))
      (pss_one (ps_for PassesOwn.never rfl (pi_list (pe_op op_cat (pv 6) (pe_lst (pa_cons (pcall DOdd GOdd (hr.mono (by omega)) (pa_cons (pe_slice sl_list (pe_ix ix_list (pv 1) pe_int (fun _ _ => rfl)) (po_some (pe_op op_mod (pe_ix ix_list (pv 1) pe_int (fun _ _ => rfl)) pe_int)) po_none) pa_nil)) (pa_cons (pcall DOdd GOdd (hr.mono (by omega)) (pa_cons (pe_slice sl_list (pe_ix ix_list (pv 1) pe_int (fun _ _ => rfl)) (po_some (pe_op op_add (pe_op op_mod (pe_ix ix_list (pv 1) pe_int (fun _ _ => rfl)) pe_int) pe_int)) po_none) pa_nil)) pa_nil))))) (pg_name (i := 11) scLaw.nd rfl (.inl rfl))
      (pss_one (ps_if (pt_cmpR op_ne (pe_callB cr_reprB (by rfl) B.rpr (by decide +kernel) (pa_cons (pcall DIsH GIsH (hr.mono (by omega)) (pa_cons (pv 11) pa_nil)) pa_nil)) (pe_callB cr_reprB (by rfl) B.rpr (by decide +kernel) (pa_cons (pcall DLIH GLIH (hr.mono (by omega)) (pa_cons (pv 11) pa_nil)) pa_nil)) (nomark _)) (pss_one (ps_ret pe_bl)) pss_nil)))))))))))))))))
      (pss_one (ps_ret pe_bl))), ?_⟩
    refine bags_for (lim := 10) (SlotsN a 11) rfl hS hl ⟨_, rfl, rfl⟩ (fun b H1 σ' N hσ hb nx => ?_) (fun σ' H1 hσ => q H1)
    obtain ⟨ys, hys, rfl⟩ := hσ
    refine match ys, hys with | [y1, y2, y3, y4, y5, y6, y7, y8, y9, y10, y11], _ => ?_
    refine ⟨.ref b, rfl, b, 30, 3, 12, rfl, hb, by decide, by decide, by decide, by decide, by decide, fun v h H2 x2 b2 hA ho hl1 hl2 _ => ?_⟩
    have b2' := b2
    obtain ⟨dd, nn, xs, hbb, hdd, hxs⟩ := b2'
    have dH := dp_house hA
    obtain ⟨av, ab, ak, rfl, hav, ⟨vsb, hvsb, hpr⟩, hak⟩ := hA
    have dA : DpAll K H2 vsb (h.1.map encB) := dp_boxesA hpr
    have dB : Dp K H2 (.ref ab) (encBs h.1) := .tup hvsb dA
    have dK : Dp K H2 (.ref ak) (encC h.2) := dp_cols hak
    have gH : Gd 40 4 (encH h) := gdm_house (n := 0) (by decide) ho
    have gB : Gd 100 3 (encBs h.1) := gdm_boxes (n := 0) (by decide) ho
    have gA : ∀ d ∈ h.1.map encB, Gd 100 2 d := fun d hd => by
      obtain ⟨b, hb, rfl⟩ := List.mem_map.mp hd
      exact gdm_box (n := 0) (by decide) (ho.2.2.1 b hb)
    have gK : Gd 100 1 (encC h.2) := gdm_cols (n := 0) ho.2.2.2 (by decide)
    have lA : (h.1.map encB).length ≤ 30 := by rw [List.length_map]; exact ho.2.1
    -- once
    obtain ⟨p1, p2, p3, ps, hps, hpk⟩ := el_picks (K := K) (σ := [some (.ref a), some (.ref b), some (.ref av), y3, y4, y5, y6, y7, y8, y9, y10, y11]) (m := 200) rfl hbb hdd hxs.1 (by decide)
    refine q_asgSpo (K := K) (σ := [some (.ref a), some (.ref b), some (.ref av), y3, y4, y5, y6, y7, y8, y9, y10, y11]) (ev_var (v := .ref av) rfl) dH gH (by decide) (by decide) hpk hps fun vo do1 H3 e3 dO gO => ?_
    -- boxes, hand
    refine ⟨.ref av, rfl, av, _, rfl, ex_t e3 hav, rfl, .ref ab, [.ref ak], rfl, .ref ak, [], rfl, rfl, ?_⟩
    obtain ⟨p1, p2, p3, ps, hps, hpk⟩ := el_picksA (K := K) (σ := [some (.ref a), some (.ref b), some (.ref av), some vo, some (.ref ab), some (.ref ak), y6, y7, y8, y9, y10, y11]) (m := 170) (c0 := 10) rfl (e3 _ _ hbb) (e3 _ _ hdd) hxs.1 (by decide)
    refine q_asgXL (K := K) (σ := [some (.ref a), some (.ref b), some (.ref av), some vo, some (.ref ab), some (.ref ak), y6, y7, y8, y9, y10, y11]) (n := 20) (l := 3)
      (xl_lst (xa_cons (xx_var (v := .ref av) rfl (dp_ex e3 _ _ dH) (gH.mono (by decide) (by decide))) (xa_cons (xx_var (v := vo) rfl dO (gO.mono (by decide) (by decide))) (xa_cons (xx_spo (ev_var (v := vo) rfl) dO gO (by decide) (by decide) hpk hps (by decide)) xa_nil))) (by decide)) fun t1 v1 d1 H4 n4 e4 h4 a4 l4 g4 => ?_
    have E4 := e3.trans e4
    refine q_asgXL (K := K) (σ := [some (.ref a), some (.ref b), some (.ref av), some vo, some (.ref ab), some (.ref ak), some (.ref t1), y7, y8, y9, y10, y11]) (n := 20) (l := 3 + 3)
      (xl_cat (ev_var (v := .ref t1) rfl) h4 a4 l4 g4 (xl_lst (xa_cons (xx_listT (ev_var (v := .ref av) rfl) (ex_t E4 hav) (.cons (dp_ex E4 _ _ dB) (.cons (dp_ex E4 _ _ dK) .nil)) (by show 2 ≤ 100; decide) (gA_cons (gB.mono (by decide) (by decide)) (gA_cons (gK.mono (by decide) (by decide)) gA_nil)))
        (xa_cons (xx_tup (xa_cons (xx_listT (ev_var (v := .ref ab) rfl) (ex_t E4 hvsb) (dpA_ex E4 _ _ dA) (by omega) fun d hd => (gA d hd).mono (by decide) (by decide)) (xa_cons (xx_var (v := .ref ak) rfl (dp_ex E4 _ _ dK) (gK.mono (by decide) (by decide))) xa_nil)) (by decide))
        (xa_cons (xx_var (v := .ref ab) rfl (dp_ex E4 _ _ dB) (gB.mono (by decide) (by decide))) xa_nil))) (by decide)) (by decide)) fun t2 v2 d2 H5 n5 e5 h5 a5 l5 g5 => ?_
    have E5 := E4.trans e5
    -- six, box
    refine q_tup2X (K := K) (σ := [some (.ref a), some (.ref b), some (.ref av), some vo, some (.ref ab), some (.ref ak), some (.ref t2), y7, y8, y9, y10, y11]) (xs := six6.map V.str) (n := 1) (l := 2) (eu_tup (ea_cons ev_c (ea_cons ev_c (ea_cons ev_c (ea_cons ev_c (ea_cons ev_c (ea_cons ev_c ea_nil)))))) (by decide)) (fun H1 e1 => xt_tup (xa_cons (xx_tup (n := 0) xa_nil (by decide)) (xa_cons (xx_tup (n := 0) xa_nil (by decide)) xa_nil)) (by decide)) fun ps6 pb vb db H7 e57 h6 hsb hdb hlb hgb => ?_
    have E7 := E5.trans e57
    have s6 : SqT K H7 ps6 (six6.map V.str) := st_of h6
    have dS : ∀ H', DpAll K H' (six6.map V.str) (six6.map PyData.str) := fun H' => dpA_strs six6
    have gS : ∀ n, Gd 100 (n + 1) (.tuple (six6.map PyData.str)) := fun n => .tup (by decide) gd_six
    have dS6 : Dp K H7 (.ref ps6) (.tuple (six6.map PyData.str)) := .tup s6 (dS H7)
    have l6 : (six6.map PyData.str).length ≤ 6 := by decide
    -- rows
    refine q_asgXL (K := K) (σ := [some (.ref a), some (.ref b), some (.ref av), some vo, some (.ref ab), some (.ref ak), some (.ref t2), some (.ref ps6), some (.ref pb), y9, y10, y11]) (n := 10) (l := 9)
      (xl_lst (xa_cons (xx_var (v := .ref ps6) rfl dS6 (gS 9)) (xa_cons (xx_T (xt_cat (l := 6) (m := 1) (xt_var (ev_var (v := .ref ps6) rfl) s6 (dS _) l6 gd_six) (xt_tup (xa_cons (xx_str (by decide +kernel)) xa_nil) (by decide)) (by decide)) (by decide))
        (xa_cons (xx_T (l := 6) (xt_new (ds := six6.reverse.map PyData.str) (ep_revT (ev_var (v := .ref ps6) rfl) s6) (by rw [← List.map_reverse]; exact dpA_strs _) (by decide) gd_rev) (by decide))
        (xa_cons (xx_listT (ev_var (v := .ref ps6) rfl) s6 (dS _) (by decide) gd_six)
        (xa_cons (xx_tup (xa_cons (xx_str (by decide +kernel)) (xa_cons (xx_str (by decide +kernel)) xa_nil)) (by decide))
        (xa_cons (xx_tup (xa_cons (xx_str (by decide +kernel)) xa_nil) (by decide))
        (xa_cons (xx_tup (xa_cons (xx_str (by decide +kernel)) xa_nil) (by decide))
        (xa_cons (xx_tup (xa_cons xx_non xa_nil) (by decide))
        (xa_cons (xx_tup (xa_cons (xx_str (by decide +kernel)) xa_nil) (by decide)) xa_nil))))))))) (by decide)) fun t3 v3 d3 H8 n8 e8 h8 a8 l8 g8 => ?_
    have E8 := E7.trans e8
    -- for some in rows + ..
    refine q_for_src (K := K) (σ := [some (.ref a), some (.ref b), some (.ref av), some vo, some (.ref ab), some (.ref ak), some (.ref t2), some (.ref ps6), some (.ref pb), some (.ref t3), y10, y11]) ?_
    refine (xl_cat (K := K) (σ := [some (.ref a), some (.ref b), some (.ref av), some vo, some (.ref ab), some (.ref ak), some (.ref t2), some (.ref ps6), some (.ref pb), some (.ref t3), y10, y11]) (l := 1) (ev_var (v := .ref t3) rfl) h8 a8 l8 g8 (xl_lst (xa_cons (xx_tup (xa_cons (xx_str (by decide +kernel)) xa_nil) (by decide)) xa_nil) (by decide)) (by decide)) H8 (Ex.refl H8) _ fun t4 v4 d4 H9 n9 e9 h9 a9 l9 g9 => ⟨t4, rfl, ⟨v4, sq_of h9⟩, ?_⟩
    have E9 := E8.trans e9
    have hv4 : v4.length = 10 := by rw [dpA_len a9, l9]
    refine for_it (walk_list (K := K) (a := t4) (xs := v4)) (fun i σ' H' => Ex H9 H' ∧ ∃ y10 pt vt dt, σ' = [some (.ref a), some (.ref b), some (.ref av), some vo, some (.ref ab), some (.ref ak), some (.ref pt), some (.ref ps6), some (.ref pb), some (.ref t3), y10, y11] ∧ H' pt = some (.lst vt) ∧ DpAll K H' vt dt ∧ dt.length = 6 + 3 * i ∧ ∀ d ∈ dt, Gd 100 20 d)
      ⟨Ex.refl H9, y10, t2, v2, d2, rfl, e9 _ _ (e8 _ _ (e57 _ _ h5)), dpA_ex ((e57.trans e8).trans e9) _ _ a5, l5, g5⟩ (fun i σ' H' _ hP => sq_of (hP.1 _ _ h9)) (fun i x σ' Ha Hb hi hP hy => ?_) (fun σ' Ha hP => ?_)
    · obtain ⟨eA, y10, pt, vt, dt, rfl, hpt, hdt, hlt, hgt⟩ := hP
      obtain ⟨rfl, hx⟩ := hy
      obtain ⟨dx, hdx, hDx0⟩ := dpA_get a9 hx
      have hDx := dp_ex eA _ _ hDx0
      have hGx := g9 dx (List.mem_of_getElem? hdx)
      have EA := E9.trans eA
      refine q_asgXL (K := K) (σ := [some (.ref a), some (.ref b), some (.ref av), some vo, some (.ref ab), some (.ref ak), some (.ref pt), some (.ref ps6), some (.ref pb), some (.ref t3), some x, y11]) (n := 20) (l := 6 + 3 * i + 2)
        (xl_cat (ev_var (v := .ref pt) rfl) hpt hdt hlt hgt (xl_lst (xa_cons (xx_tup (xa_cons (xx_var (v := .ref ab) rfl (dp_ex EA _ _ dB) (gB.mono (by decide) (by decide))) (xa_cons (xx_var (v := x) rfl hDx (hGx.mono (by decide) (by decide))) xa_nil)) (by decide))
          (xa_cons (xx_tup (xa_cons (xx_T (xt_cat (l := 30) (m := 1) (xt_isT (ds := (h.1.map encB).drop 1) (ep_slT (ev_var (v := .ref ab) rfl) (eo_some ev_c) eo_none (ex_t EA hvsb)) (by rw [cut1]; exact dpA_drop 1 (dpA_ex EA _ _ dA)) (by rw [List.length_drop]; omega) fun d hd => (gA d (List.mem_of_mem_drop hd)).mono (by decide) (by decide))
            (xt_tup (xa_cons (xx_tup (xa_cons (xx_var (v := x) rfl hDx (hGx.mono (by decide) (by decide))) (xa_cons (xx_tup xa_nil (by decide)) xa_nil)) (by decide)) xa_nil) (by decide)) (by decide)) (by decide))
            (xa_cons (xx_var (v := .ref ak) rfl (dp_ex EA _ _ dK) (gK.mono (by decide) (by decide))) xa_nil)) (by decide)) xa_nil)) (by decide)) (by omega)) fun t5 v5 d5 Hc nc ec hc ac lc gc => ?_
      have EC := EA.trans ec
      refine s_asgXL (K := K) (σ := [some (.ref a), some (.ref b), some (.ref av), some vo, some (.ref ab), some (.ref ak), some (.ref t5), some (.ref ps6), some (.ref pb), some (.ref t3), some x, y11]) (n := 20) (l := 6 + 3 * i + 2 + 1)
        (xl_cat (ev_var (v := .ref t5) rfl) hc ac lc gc (xl_lst 
          (xa_cons (xx_tup (xa_cons (xx_T (xt_cat (l := 30) (m := 1) (xt_isT (ds := (h.1.map encB).drop 1) (ep_slT (ev_var (v := .ref ab) rfl) (eo_some ev_c) eo_none (ex_t EC hvsb)) (by rw [cut1]; exact dpA_drop 1 (dpA_ex EC _ _ dA)) (by rw [List.length_drop]; omega) fun d hd => (gA d (List.mem_of_mem_drop hd)).mono (by decide) (by decide))
            (xt_tup (xa_cons (xx_tup (xa_cons (xx_tup xa_nil (by decide)) (xa_cons (xx_var (v := x) rfl (dp_ex ec _ _ hDx) (hGx.mono (by decide) (by decide))) xa_nil)) (by decide)) xa_nil) (by decide)) (by decide)) (by decide))
            (xa_cons (xx_var (v := .ref ak) rfl (dp_ex EC _ _ dK) (gK.mono (by decide) (by decide))) xa_nil)) (by decide)) xa_nil) (by decide)) (by omega)) fun t6 v6 d6 Hd nd ed hd ad ld gd => ?_
      exact ⟨eA.trans (ec.trans ed), some x, t6, v6, d6, rfl, hd, ad, by omega, gd⟩
    obtain ⟨eA, y10, pt, vt, dt, rfl, hpt, hdt, hlt, hgt⟩ := hP
    have hlt : dt.length = 36 := by rw [hlt, hv4]
    have EA := E9.trans eA
    have e7A := e8.trans (e9.trans eA)
    have X3 : ∀ (H' : Hp) (σ : L2.St) (m : Nat), m ≤ 6 → σ[7]? = some (some (.ref ps6)) → Ex H7 H' → EvX K (tSl (rSlA K) (tVar 7) tNoPart (tPart (tC (.int (m : Int))))) σ H' 10 := fun H' σ m hm hσ e => xx_isT (n := 9) (ds := (six6.map PyData.str).take m) (ep_slT (ev_var hσ) eo_none (eo_some ev_c) (ex_t e s6)) (by rw [cutTo]; exact dpA_take m (dS _)) (by rw [List.length_take]; omega) fun d hd => gd_six d (List.mem_of_mem_take hd)
    -- the written ones
    refine q_asgXL (K := K) (σ := [some (.ref a), some (.ref b), some (.ref av), some vo, some (.ref ab), some (.ref ak), some (.ref pt), some (.ref ps6), some (.ref pb), some (.ref t3), y10, y11]) (n := 20) (l := 36 + 2)
      (xl_cat (ev_var (v := .ref pt) rfl) hpt hdt hlt hgt (xl_lst (xa_cons (xx_tup (xa_cons (xx_T (xt_rep (k := 2) ((X3 _ _ 3 (by decide) rfl e7A).mono (by decide)) (by decide) (by decide)) (by decide)) (xa_cons (xx_var (v := .ref ak) rfl (dp_ex EA _ _ dK) (gK.mono (by decide) (by decide))) xa_nil)) (by decide))
        (xa_cons (xx_tup (xa_cons (xx_tup (xa_cons (xx_tup (xa_cons ((X3 _ _ 3 (by decide) rfl e7A).mono (by decide)) (xa_cons (xx_var (v := .ref ps6) rfl (dp_ex e7A _ _ dS6) ((gS 9).mono (by decide) (by decide))) xa_nil)) (by decide)) xa_nil) (by decide)) (xa_cons (xx_var (v := .ref ak) rfl (dp_ex EA _ _ dK) (gK.mono (by decide) (by decide))) xa_nil)) (by decide)) xa_nil)) (by decide)) (by decide)) fun t7 v7 d7 Hb nb eb hb1 ab1 lb gb => ?_
    have EB := EA.trans eb
    have e7B := e7A.trans eb
    refine q_asgXL (K := K) (σ := [some (.ref a), some (.ref b), some (.ref av), some vo, some (.ref ab), some (.ref ak), some (.ref t7), some (.ref ps6), some (.ref pb), some (.ref t3), y10, y11]) (n := 20) (l := 36 + 2 + 2)
      (xl_cat (ev_var (v := .ref t7) rfl) hb1 ab1 lb gb (xl_lst (xa_cons (xx_tup (xa_cons (xx_tup (xa_cons (xx_tup (xa_cons ((X3 _ _ 4 (by decide) rfl e7B).mono (by decide)) (xa_cons (xx_var (v := .ref ps6) rfl (dp_ex e7B _ _ dS6) ((gS 9).mono (by decide) (by decide))) xa_nil)) (by decide)) xa_nil) (by decide)) (xa_cons (xx_var (v := .ref ak) rfl (dp_ex EB _ _ dK) (gK.mono (by decide) (by decide))) xa_nil)) (by decide))
        (xa_cons (xx_tup (xa_cons (xx_tup xa_nil (by decide)) (xa_cons (xx_var (v := .ref ak) rfl (dp_ex EB _ _ dK) (gK.mono (by decide) (by decide))) xa_nil)) (by decide)) xa_nil)) (by decide)) (by decide)) fun t8 v8 d8 Hc nc ec hc ac lc gc => ?_
    have EC := EB.trans ec
    have e7C := e7B.trans ec
    have dBx : ∀ H', Ex H7 H' → Dp K H' (.ref pb) (.tuple db) := fun H' e => .tup (ex_t e hsb) (dpA_ex e _ _ hdb)
    have gBx : Gd 100 2 (.tuple db) := .tup (by omega) hgb
    refine q_asgXL (K := K) (σ := [some (.ref a), some (.ref b), some (.ref av), some vo, some (.ref ab), some (.ref ak), some (.ref t8), some (.ref ps6), some (.ref pb), some (.ref t3), y10, y11]) (n := 20) (l := 36 + 2 + 2 + 3)
      (xl_cat (ev_var (v := .ref t8) rfl) hc ac lc gc (xl_lst (xa_cons (xx_tup (xa_cons (xx_T (xt_rep (k := 30) (xx_var (v := .ref pb) rfl (dBx _ e7C) (gBx.mono (by decide) (by decide))) (by decide) (by decide)) (by decide)) (xa_cons (xx_tup xa_nil (by decide)) xa_nil)) (by decide))
        (xa_cons (xx_tup (xa_cons (xx_T (xt_rep (k := 31) (xx_var (v := .ref pb) rfl (dBx _ e7C) (gBx.mono (by decide) (by decide))) (by decide) (by decide)) (by decide)) (xa_cons (xx_tup xa_nil (by decide)) xa_nil)) (by decide))
        (xa_cons (xx_tup (xa_cons (xx_tup (xa_cons (xx_var (v := .ref pb) rfl (dBx _ e7C) (gBx.mono (by decide) (by decide))) (xa_cons (xx_tup (xa_cons (xx_tup xa_nil (by decide)) xa_nil) (by decide)) xa_nil)) (by decide)) (xa_cons (xx_tup xa_nil (by decide)) xa_nil)) (by decide)) xa_nil))) (by decide)) (by decide)) fun t9 v9 d9 Hd nd ed hd ad ld gd => ?_
    have ED := EC.trans ed
    have e7D := e7C.trans ed
    refine q_asgXL (K := K) (σ := [some (.ref a), some (.ref b), some (.ref av), some vo, some (.ref ab), some (.ref ak), some (.ref t9), some (.ref ps6), some (.ref pb), some (.ref t3), y10, y11]) (n := 20) (l := 36 + 2 + 2 + 3 + 3)
      (xl_cat (ev_var (v := .ref t9) rfl) hd ad ld gd (xl_lst (xa_cons (xx_tup (xa_cons (xx_tup (xa_cons (xx_listT (ev_var (v := .ref pb) rfl) (ex_t e7D hsb) (dpA_ex e7D _ _ hdb) (by omega) fun d hd => (hgb d hd).mono (by decide) (by decide)) xa_nil) (by decide)) (xa_cons (xx_tup xa_nil (by decide)) xa_nil)) (by decide))
        (xa_cons (xx_tup (xa_cons (xx_var (v := .ref ab) rfl (dp_ex ED _ _ dB) (gB.mono (by decide) (by decide))) xa_nil) (by decide))
        (xa_cons (xx_tup (xa_cons (xx_var (v := .ref ab) rfl (dp_ex ED _ _ dB) (gB.mono (by decide) (by decide))) (xa_cons (xx_var (v := .ref ak) rfl (dp_ex ED _ _ dK) (gK.mono (by decide) (by decide))) (xa_cons xx_int xa_nil))) (by decide)) xa_nil))) (by decide)) (by decide)) fun t10 v10 d10 He ne ee he ae le ge => ?_
    have EE := ED.trans ee
    obtain ⟨o1, o2, o3, os, hos, hok⟩ := el_picks (K := K) (H := He) (σ := [some (.ref a), some (.ref b), some (.ref av), some vo, some (.ref ab), some (.ref ak), some (.ref t10), some (.ref ps6), some (.ref pb), some (.ref t3), y10, y11]) (m := 300) rfl (EE _ _ hbb) (EE _ _ hdd) hxs.1 (by decide)
    obtain ⟨o4, o5, o6, os', hos', hok'⟩ := el_picksA (K := K) (H := He) (σ := [some (.ref a), some (.ref b), some (.ref av), some vo, some (.ref ab), some (.ref ak), some (.ref t10), some (.ref ps6), some (.ref pb), some (.ref t3), y10, y11]) (m := 250) (c0 := 40) rfl (EE _ _ hbb) (EE _ _ hdd) hxs.1 (by decide)
    refine for_src (K := K) (σ := [some (.ref a), some (.ref b), some (.ref av), some vo, some (.ref ab), some (.ref ak), some (.ref t10), some (.ref ps6), some (.ref pb), some (.ref t3), y10, y11]) ?_
    refine (xl_cat (K := K) (σ := [some (.ref a), some (.ref b), some (.ref av), some vo, some (.ref ab), some (.ref ak), some (.ref t10), some (.ref ps6), some (.ref pb), some (.ref t3), y10, y11]) (l := 2) (ev_var (v := .ref t10) rfl) he ae le ge (xl_lst (xa_cons (xx_odd hok (by decide)) (xa_cons (xx_odd hok' (by decide)) xa_nil)) (by decide)) (by decide)) He (Ex.refl He) _ fun t11 v11 d11 Hf nf ef hf af lf gf => ⟨t11, rfl, ⟨v11, sq_of hf⟩, ?_⟩
    have EF := EE.trans ef
    refine for_it (walk_list (K := K) (a := t11) (xs := v11)) (fun i σ' H' => Ex Hf H' ∧ ∃ y11, σ' = [some (.ref a), some (.ref b), some (.ref av), some vo, some (.ref ab), some (.ref ak), some (.ref t10), some (.ref ps6), some (.ref pb), some (.ref t3), y10, y11])
      ⟨Ex.refl Hf, y11, rfl⟩ (fun i σ' H' _ hP => sq_of (hP.1 _ _ hf)) (fun i x σ' Ha Hb hi hP hy => ?_) (fun σ' Ha hP => ?_)
    · obtain ⟨eA, y11, rfl⟩ := hP
      obtain ⟨rfl, hx⟩ := hy
      obtain ⟨dx, hdx, hDx0⟩ := dpA_get af hx
      have hDx := dp_ex eA _ _ hDx0
      have hGx := gf dx (List.mem_of_getElem? hdx)
      refine s_when (σ := [some (.ref a), some (.ref b), some (.ref av), some vo, some (.ref ab), some (.ref ak), some (.ref t10), some (.ref ps6), some (.ref pb), some (.ref t3), y10, some x]) (b := false) (et_is (et_test (ev_op (ev_reprB (b := houseD dx) (ev_call (z := .bl (houseD dx)) (ea_cons (ev_var (v := x) rfl) ea_nil) (SpV.of fun H9 e9 Q q E => ⟨x, dx, rfl, dp_ex e9 _ _ hDx, gd_stB hGx, q⟩))) (ev_reprB (b := houseD dx) (ev_call (z := .bl (houseD dx)) (ea_cons (ev_var (v := x) rfl) ea_nil) (SpV.of fun H9 e9 Q q E => ⟨x, dx, rfl, dp_ex e9 _ _ hDx, ⟨_, _, hGx⟩, q⟩))) (rv_ne rfl))) (by rw [decide_eq_true rfl]; rfl)) (fun hb => absurd hb (by decide)) (fun _ Hg eg => ⟨eA.trans eg, _, rfl⟩)
    · obtain ⟨eA, y11, rfl⟩ := hP
      exact nx _ _ ⟨_, rfl, rfl⟩ (x2.trans (ExB.of (EF.trans eA))) (b2.ex (EF.trans eA))
end
end Kw
set_option Elab.async false
set_option linter.all false
set_option maxRecDepth 100000
namespace Kw
open PySem PySem.Spec PyProof.Rows L2
set_option maxHeartbeats 4000000 in
theorem all_mk {l : PySem.W.OpenLaw} {w : World} {K : PySem.W.Frag} {h : Heap} {mg : Str → Option Value} {fa f1 f2 f3 f4 f5 f6 f7 f8 f9 f10 f11 f12 f13 f14 f15 f16 f17 : Addr} (X : K.In h) (G : h.Ns mainGlobals mg) (hfa : mg "law" = some (.ref fa))
    {od1 an1 od2 an2 od3 an3 od4 an4 od5 an5 od6 an6 od7 an7 od8 an8 od9 an9 od10 an10 od11 an11 od12 an12 od13 an13 od14 an14 od15 an15 od16 an16 od17 an17 : Option Addr} {sl1 sl2 sl3 sl4 sl5 sl6 sl7 sl8 sl9 sl10 sl11 sl12 sl13 sl14 sl15 sl16 sl17 : Array (Option Value)} {oc1 kV1 dc1 pm1 cd1 ct1 oc2 kV2 dc2 pm2 cd2 ct2 oc3 kV3 dc3 pm3 cd3 ct3 oc4 kV4 dc4 pm4 cd4 ct4 oc5 kV5 dc5 pm5 cd5 ct5 oc6 kV6 dc6 pm6 cd6 ct6 oc7 kV7 dc7 pm7 cd7 ct7 oc8 kV8 dc8 pm8 cd8 ct8 oc9 kV9 dc9 pm9 cd9 ct9 oc10 kV10 dc10 pm10 cd10 ct10 oc11 kV11 dc11 pm11 cd11 ct11 oc12 kV12 dc12 pm12 cd12 ct12 oc13 kV13 dc13 pm13 cd13 ct13 oc14 kV14 dc14 pm14 cd14 ct14 oc15 kV15 dc15 pm15 cd15 ct15 oc16 kV16 dc16 pm16 cd16 ct16 oc17 kV17 dc17 pm17 cd17 ct17 : Value} {t_MOST_LETTERS t_SMALL_LETTERS t_MOST_BOXES t_MOST_LOCKS t_MOST_KEYS : Tok}
    (a1 : PySem.W.nsIn K mainGlobals "_law_cell_at" = some (some (.ref f1))) (l1 : K.lookup f1 = some ⟨oc1, od1, .func (PySem.W.fnOf "_law_cell_at" "_law_cell_at" (defArgs sCell) (defBody sCell) (defScope sCell) .none kV1 dc1 pm1 an1 cd1 ct1), sl1⟩) (c1 : PySem.W.codeIn K cd1 "_law_cell_at" = true) (k1 : PySem.W.keepIn K (.ref f1) = true)
    (a2 : PySem.W.nsIn K mainGlobals "_law_draws" = some (some (.ref f2))) (l2 : K.lookup f2 = some ⟨oc2, od2, .func (PySem.W.fnOf "_law_draws" "_law_draws" (defArgs sDraw) (defBody sDraw) (defScope sDraw) .none kV2 dc2 pm2 an2 cd2 ct2), sl2⟩) (c2 : PySem.W.codeIn K cd2 "_law_draws" = true) (k2 : PySem.W.keepIn K (.ref f2) = true)
    (a3 : PySem.W.nsIn K mainGlobals "_law_bag" = some (some (.ref f3))) (l3 : K.lookup f3 = some ⟨oc3, od3, .func (PySem.W.fnOf "_law_bag" "_law_bag" (defArgs sBag) (defBody sBag) (defScope sBag) .none kV3 dc3 pm3 an3 cd3 ct3), sl3⟩) (c3 : PySem.W.codeIn K cd3 "_law_bag" = true) (k3 : PySem.W.keepIn K (.ref f3) = true)
    (a4 : PySem.W.nsIn K mainGlobals "_law_bags" = some (some (.ref f4))) (l4 : K.lookup f4 = some ⟨oc4, od4, .func (PySem.W.fnOf "_law_bags" "_law_bags" (defArgs sBags) (defBody sBags) (defScope sBags) .none kV4 dc4 pm4 an4 cd4 ct4), sl4⟩) (c4 : PySem.W.codeIn K cd4 "_law_bags" = true) (k4 : PySem.W.keepIn K (.ref f4) = true)
    (a5 : PySem.W.nsIn K mainGlobals "_law_take" = some (some (.ref f5))) (l5 : K.lookup f5 = some ⟨oc5, od5, .func (PySem.W.fnOf "_law_take" "_law_take" (defArgs sTake) (defBody sTake) (defScope sTake) .none kV5 dc5 pm5 an5 cd5 ct5), sl5⟩) (c5 : PySem.W.codeIn K cd5 "_law_take" = true) (k5 : PySem.W.keepIn K (.ref f5) = true)
    (a6 : PySem.W.nsIn K mainGlobals "_law_some" = some (some (.ref f6))) (l6 : K.lookup f6 = some ⟨oc6, od6, .func (PySem.W.fnOf "_law_some" "_law_some" (defArgs sSome) (defBody sSome) (defScope sSome) .none kV6 dc6 pm6 an6 cd6 ct6), sl6⟩) (c6 : PySem.W.codeIn K cd6 "_law_some" = true) (k6 : PySem.W.keepIn K (.ref f6) = true)
    (a7 : PySem.W.nsIn K mainGlobals "_law_house" = some (some (.ref f7))) (l7 : K.lookup f7 = some ⟨oc7, od7, .func (PySem.W.fnOf "_law_house" "_law_house" (defArgs sHouse) (defBody sHouse) (defScope sHouse) .none kV7 dc7 pm7 an7 cd7 ct7), sl7⟩) (c7 : PySem.W.codeIn K cd7 "_law_house" = true) (k7 : PySem.W.keepIn K (.ref f7) = true)
    (a8 : PySem.W.nsIn K mainGlobals "_law_odd" = some (some (.ref f8))) (l8 : K.lookup f8 = some ⟨oc8, od8, .func (PySem.W.fnOf "_law_odd" "_law_odd" (defArgs sOdd) (defBody sOdd) (defScope sOdd) .none kV8 dc8 pm8 an8 cd8 ct8), sl8⟩) (c8 : PySem.W.codeIn K cd8 "_law_odd" = true) (k8 : PySem.W.keepIn K (.ref f8) = true)
    (a9 : PySem.W.nsIn K mainGlobals "_law_spoilt" = some (some (.ref f9))) (l9 : K.lookup f9 = some ⟨oc9, od9, .func (PySem.W.fnOf "_law_spoilt" "_law_spoilt" (defArgs sSpo) (defBody sSpo) (defScope sSpo) .none kV9 dc9 pm9 an9 cd9 ct9), sl9⟩) (c9 : PySem.W.codeIn K cd9 "_law_spoilt" = true) (k9 : PySem.W.keepIn K (.ref f9) = true)
    (a10 : PySem.W.nsIn K mainGlobals "is_pair" = some (some (.ref f10))) (l10 : K.lookup f10 = some ⟨oc10, od10, .func (PySem.W.fnOf "is_pair" "is_pair" (defArgs sPair) (defBody sPair) (defScope sPair) .none kV10 dc10 pm10 an10 cd10 ct10), sl10⟩) (c10 : PySem.W.codeIn K cd10 "is_pair" = true) (k10 : PySem.W.keepIn K (.ref f10) = true)
    (a11 : PySem.W.nsIn K mainGlobals "is_colours" = some (some (.ref f11))) (l11 : K.lookup f11 = some ⟨oc11, od11, .func (PySem.W.fnOf "is_colours" "is_colours" (defArgs sCols) (defBody sCols) (defScope sCols) .none kV11 dc11 pm11 an11 cd11 ct11), sl11⟩) (c11 : PySem.W.codeIn K cd11 "is_colours" = true) (k11 : PySem.W.keepIn K (.ref f11) = true)
    (a12 : PySem.W.nsIn K mainGlobals "is_box" = some (some (.ref f12))) (l12 : K.lookup f12 = some ⟨oc12, od12, .func (PySem.W.fnOf "is_box" "is_box" (defArgs sBox) (defBody sBox) (defScope sBox) .none kV12 dc12 pm12 an12 cd12 ct12), sl12⟩) (c12 : PySem.W.codeIn K cd12 "is_box" = true) (k12 : PySem.W.keepIn K (.ref f12) = true)
    (a13 : PySem.W.nsIn K mainGlobals "is_house" = some (some (.ref f13))) (l13 : K.lookup f13 = some ⟨oc13, od13, .func (PySem.W.fnOf "is_house" "is_house" (defArgs sIsH) (defBody sIsH) (defScope sIsH) .none kV13 dc13 pm13 an13 cd13 ct13), sl13⟩) (c13 : PySem.W.codeIn K cd13 "is_house" = true) (k13 : PySem.W.keepIn K (.ref f13) = true)
    (a14 : PySem.W.nsIn K mainGlobals "_law_is_colour" = some (some (.ref f14))) (l14 : K.lookup f14 = some ⟨oc14, od14, .func (PySem.W.fnOf "_law_is_colour" "_law_is_colour" (defArgs sLIC) (defBody sLIC) (defScope sLIC) .none kV14 dc14 pm14 an14 cd14 ct14), sl14⟩) (c14 : PySem.W.codeIn K cd14 "_law_is_colour" = true) (k14 : PySem.W.keepIn K (.ref f14) = true)
    (a15 : PySem.W.nsIn K mainGlobals "_law_are_colours" = some (some (.ref f15))) (l15 : K.lookup f15 = some ⟨oc15, od15, .func (PySem.W.fnOf "_law_are_colours" "_law_are_colours" (defArgs sLAC) (defBody sLAC) (defScope sLAC) .none kV15 dc15 pm15 an15 cd15 ct15), sl15⟩) (c15 : PySem.W.codeIn K cd15 "_law_are_colours" = true) (k15 : PySem.W.keepIn K (.ref f15) = true)
    (a16 : PySem.W.nsIn K mainGlobals "_law_is_house" = some (some (.ref f16))) (l16 : K.lookup f16 = some ⟨oc16, od16, .func (PySem.W.fnOf "_law_is_house" "_law_is_house" (defArgs sLIH) (defBody sLIH) (defScope sLIH) .none kV16 dc16 pm16 an16 cd16 ct16), sl16⟩) (c16 : PySem.W.codeIn K cd16 "_law_is_house" = true) (k16 : PySem.W.keepIn K (.ref f16) = true)
    (a17 : PySem.W.nsIn K mainGlobals "law" = some (some (.ref f17))) (l17 : K.lookup f17 = some ⟨oc17, od17, .func (PySem.W.fnOf "law" "law" (defArgs sLaw) (defBody sLaw) (defScope sLaw) .none kV17 dc17 pm17 an17 cd17 ct17), sl17⟩) (c17 : PySem.W.codeIn K cd17 "law" = true) (k17 : PySem.W.keepIn K (.ref f17) = true)
    (z_isi : PySem.W.nsIn K mainGlobals "isinstance" = some none)    (z_tup : PySem.W.nsIn K mainGlobals "tuple" = some none)    (z_lst : PySem.W.nsIn K mainGlobals "list" = some none)    (z_str : PySem.W.nsIn K mainGlobals "str" = some none)    (z_len : PySem.W.nsIn K mainGlobals "len" = some none)    (z_all : PySem.W.nsIn K mainGlobals "all" = some none)    (z_zip : PySem.W.nsIn K mainGlobals "zip" = some none)    (z_rng : PySem.W.nsIn K mainGlobals "range" = some none)    (z_int : PySem.W.nsIn K mainGlobals "int" = some none)    (z_max : PySem.W.nsIn K mainGlobals "max" = some none)    (z_min : PySem.W.nsIn K mainGlobals "min" = some none)    (z_srt : PySem.W.nsIn K mainGlobals "sorted" = some none)    (z_enu : PySem.W.nsIn K mainGlobals "enumerate" = some none)    (z_sum : PySem.W.nsIn K mainGlobals "sum" = some none)    (z_abs : PySem.W.nsIn K mainGlobals "abs" = some none)    (z_rpr : PySem.W.nsIn K mainGlobals "repr" = some none)    (z_set : PySem.W.nsIn K mainGlobals "set" = some none)    (z_bool : PySem.W.nsIn K mainGlobals "bool" = some none)    (z_ver : PySem.W.nsIn K mainGlobals "ValueError" = some none)    (z_any : PySem.W.nsIn K mainGlobals "any" = some none)
    (m_MOST_LETTERS : PySem.W.nsIn K mainGlobals "MOST_LETTERS" = some (some (.int 8 t_MOST_LETTERS))) (m_SMALL_LETTERS : PySem.W.nsIn K mainGlobals "SMALL_LETTERS" = some (some (.str "abcdefghijklmnopqrstuvwxyz" t_SMALL_LETTERS))) (m_MOST_BOXES : PySem.W.nsIn K mainGlobals "MOST_BOXES" = some (some (.int 30 t_MOST_BOXES))) (m_MOST_LOCKS : PySem.W.nsIn K mainGlobals "MOST_LOCKS" = some (some (.int 3 t_MOST_LOCKS))) (m_MOST_KEYS : PySem.W.nsIn K mainGlobals "MOST_KEYS" = some (some (.int 6 t_MOST_KEYS))) :
    ∃ fd : FuncData, (∀ (s : Shared) (v : Value), BindsTo s fd ⟨[v], []⟩ [("script", v)]) ∧ ∀ base : Heap, K.In base → base.Ns mainGlobals mg → FnOk l.prog w K mg base CX0 20 fa fd ["script"] (spLaw K) := by
  have e := hfa.symm.trans (PySem.W.mg_of X G a17)
  cases e
  have F1 := fun_mk (st := sCell) l1 c1 k1
  have D1 : Df K mg "_law_cell_at" sCell ["script", "k"] f1 _ := ⟨F1, PySem.W.mg_of X G a1, F1.binds fun _ _ _ _ _ _ us hl => match us, hl with | [_, _], _ => rfl⟩
  have F2 := fun_mk (st := sDraw) l2 c2 k2
  have D2 : Df K mg "_law_draws" sDraw ["cell", "many", "size"] f2 _ := ⟨F2, PySem.W.mg_of X G a2, F2.binds fun _ _ _ _ _ _ us hl => match us, hl with | [_, _, _], _ => rfl⟩
  have F3 := fun_mk (st := sBag) l3 c3 k3
  have D3 : Df K mg "_law_bag" sBag ["script", "k"] f3 _ := ⟨F3, PySem.W.mg_of X G a3, F3.binds fun _ _ _ _ _ _ us hl => match us, hl with | [_, _], _ => rfl⟩
  have F4 := fun_mk (st := sBags) l4 c4 k4
  have D4 : Df K mg "_law_bags" sBags ["script", "limit"] f4 _ := ⟨F4, PySem.W.mg_of X G a4, F4.binds fun _ _ _ _ _ _ us hl => match us, hl with | [_, _], _ => rfl⟩
  have F5 := fun_mk (st := sTake) l5 c5 k5
  have D5 : Df K mg "_law_take" sTake ["bag", "many"] f5 _ := ⟨F5, PySem.W.mg_of X G a5, F5.binds fun _ _ _ _ _ _ us hl => match us, hl with | [_, _], _ => rfl⟩
  have F6 := fun_mk (st := sSome) l6 c6 k6
  have D6 : Df K mg "_law_some" sSome ["bag", "most", "wide"] f6 _ := ⟨F6, PySem.W.mg_of X G a6, F6.binds fun _ _ _ _ _ _ us hl => match us, hl with | [_, _, _], _ => rfl⟩
  have F7 := fun_mk (st := sHouse) l7 c7 k7
  have D7 : Df K mg "_law_house" sHouse ["bag", "boxes", "locks", "wide"] f7 _ := ⟨F7, PySem.W.mg_of X G a7, F7.binds fun _ _ _ _ _ _ us hl => match us, hl with | [_, _, _, _], _ => rfl⟩
  have F8 := fun_mk (st := sOdd) l8 c8 k8
  have D8 : Df K mg "_law_odd" sOdd ["picks"] f8 _ := ⟨F8, PySem.W.mg_of X G a8, F8.binds fun _ _ _ _ _ _ us hl => match us, hl with | [_], _ => rfl⟩
  have F9 := fun_mk (st := sSpo) l9 c9 k9
  have D9 : Df K mg "_law_spoilt" sSpo ["thing", "picks"] f9 _ := ⟨F9, PySem.W.mg_of X G a9, F9.binds fun _ _ _ _ _ _ us hl => match us, hl with | [_, _], _ => rfl⟩
  have F10 := fun_mk (st := sPair) l10 c10 k10
  have D10 : Df K mg "is_pair" sPair ["thing"] f10 _ := ⟨F10, PySem.W.mg_of X G a10, F10.binds fun _ _ _ _ _ _ us hl => match us, hl with | [_], _ => rfl⟩
  have F11 := fun_mk (st := sCols) l11 c11 k11
  have D11 : Df K mg "is_colours" sCols ["thing", "most"] f11 _ := ⟨F11, PySem.W.mg_of X G a11, F11.binds fun _ _ _ _ _ _ us hl => match us, hl with | [_, _], _ => rfl⟩
  have F12 := fun_mk (st := sBox) l12 c12 k12
  have D12 : Df K mg "is_box" sBox ["thing"] f12 _ := ⟨F12, PySem.W.mg_of X G a12, F12.binds fun _ _ _ _ _ _ us hl => match us, hl with | [_], _ => rfl⟩
  have F13 := fun_mk (st := sIsH) l13 c13 k13
  have D13 : Df K mg "is_house" sIsH ["thing"] f13 _ := ⟨F13, PySem.W.mg_of X G a13, F13.binds fun _ _ _ _ _ _ us hl => match us, hl with | [_], _ => rfl⟩
  have F14 := fun_mk (st := sLIC) l14 c14 k14
  have D14 : Df K mg "_law_is_colour" sLIC ["thing"] f14 _ := ⟨F14, PySem.W.mg_of X G a14, F14.binds fun _ _ _ _ _ _ us hl => match us, hl with | [_], _ => rfl⟩
  have F15 := fun_mk (st := sLAC) l15 c15 k15
  have D15 : Df K mg "_law_are_colours" sLAC ["thing", "most"] f15 _ := ⟨F15, PySem.W.mg_of X G a15, F15.binds fun _ _ _ _ _ _ us hl => match us, hl with | [_, _], _ => rfl⟩
  have F16 := fun_mk (st := sLIH) l16 c16 k16
  have D16 : Df K mg "_law_is_house" sLIH ["thing"] f16 _ := ⟨F16, PySem.W.mg_of X G a16, F16.binds fun _ _ _ _ _ _ us hl => match us, hl with | [_], _ => rfl⟩
  have F17 := fun_mk (st := sLaw) l17 c17 k17
  have B : Bu mg := ⟨PySem.W.mg_none_of X G z_isi, PySem.W.mg_none_of X G z_tup, PySem.W.mg_none_of X G z_lst, PySem.W.mg_none_of X G z_str, PySem.W.mg_none_of X G z_len, PySem.W.mg_none_of X G z_all, PySem.W.mg_none_of X G z_zip, PySem.W.mg_none_of X G z_rng, PySem.W.mg_none_of X G z_int, PySem.W.mg_none_of X G z_max, PySem.W.mg_none_of X G z_min, PySem.W.mg_none_of X G z_srt, PySem.W.mg_none_of X G z_enu, PySem.W.mg_none_of X G z_sum, PySem.W.mg_none_of X G z_abs, PySem.W.mg_none_of X G z_rpr, PySem.W.mg_none_of X G z_set, PySem.W.mg_none_of X G z_bool, PySem.W.mg_none_of X G z_ver, PySem.W.mg_none_of X G z_any⟩
  have n_MOST_LETTERS := PySem.W.mg_of X G m_MOST_LETTERS
  have n_SMALL_LETTERS := PySem.W.mg_of X G m_SMALL_LETTERS
  have n_MOST_BOXES := PySem.W.mg_of X G m_MOST_BOXES
  have n_MOST_LOCKS := PySem.W.mg_of X G m_MOST_LOCKS
  have n_MOST_KEYS := PySem.W.mg_of X G m_MOST_KEYS
  refine ⟨PySem.W.fnOf "law" "law" (defArgs sLaw) (defBody sLaw) (defScope sLaw) .none kV17 dc17 pm17 an17 cd17 ct17, fun s v => .of_eq rfl, fun base _ _ => ?_⟩
  have g1 : ∀ k : Nat, FnOk l.prog w K mg base CX0 (k + 1) f1 _ ["script", "k"] (spCell K) := fun k => ok_cell F1   B
  have g2 : ∀ k : Nat, FnOk l.prog w K mg base CX0 (k + 1) f2 _ ["cell", "many", "size"] (spDraw K) := fun k => ok_draw F2   B B
  have g3 : ∀ k : Nat, FnOk l.prog w K mg base CX0 (k + 2) f3 _ ["script", "k"] (spBag K) := fun k => ok_bag F3 D1 D2 (g1 k) (g2 k) 
  have g4 : ∀ k : Nat, FnOk l.prog w K mg base CX0 (k + 3) f4 _ ["script", "limit"] (spBags K 10) := fun k => ok_bags (by decide) F4 B B D3 (g3 k)
  have g5 : ∀ k : Nat, FnOk l.prog w K mg base CX0 (k + 1) f5 _ ["bag", "many"] (spTake K) := fun k => ok_take F5   B
  have g6 : ∀ k : Nat, FnOk l.prog w K mg base CX0 (k + 2) f6 _ ["bag", "most", "wide"] (spSome K) := fun k => ok_some F6 B B D5 (g5 k)
  have g7 : ∀ k : Nat, FnOk l.prog w K mg base CX0 (k + 3) f7 _ ["bag", "boxes", "locks", "wide"] (spHs K) := fun k => ok_hs F7 B D5 D6 (g5 k) (g6 k)
  have g8 : ∀ k : Nat, FnOk l.prog w K mg base CX0 (k + 1) f8 _ ["picks"] (spOdd K) := fun k => ok_odd F8   B
  have g9 : ∀ k : Nat, FnOk l.prog w K mg base CX0 (k + 11) f9 _ ["thing", "picks"] (spSpo K 9) := fun k => ok_spo F9 D8 (g8 k) B D9 9
  have g10 : ∀ k : Nat, FnOk l.prog w K mg base CX0 (k + 1) f10 _ ["thing"] (spPair K) := fun k => ok_pair F10   B
  have g11 : ∀ k : Nat, FnOk l.prog w K mg base CX0 (k + 1) f11 _ ["thing", "most"] (spCols K) := fun k => ok_cols F11   B n_MOST_LETTERS n_SMALL_LETTERS
  have g12 : ∀ k : Nat, FnOk l.prog w K mg base CX0 (k + 2) f12 _ ["thing"] (spBox K) := fun k => ok_box F12 D10 D11 (g10 k) (g11 k) n_MOST_LOCKS n_MOST_KEYS
  have g13 : ∀ k : Nat, FnOk l.prog w K mg base CX0 (k + 3) f13 _ ["thing"] (spIsH K) := fun k => ok_isH F13 D10 D11 D12 (g10 k) (g11 k) (g12 k) B n_MOST_BOXES n_MOST_KEYS
  have g14 : ∀ k : Nat, FnOk l.prog w K mg base CX0 (k + 1) f14 _ ["thing"] (spLIC K) := fun k => ok_LIC F14   B
  have g15 : ∀ k : Nat, FnOk l.prog w K mg base CX0 (k + 2) f15 _ ["thing", "most"] (spLAC K) := fun k => ok_LAC F15 D14 (g14 k) B
  have g16 : ∀ k : Nat, FnOk l.prog w K mg base CX0 (k + 3) f16 _ ["thing"] (spLIH K) := fun k => ok_LIH F16 D15 (g15 k) B
  exact ok_law (k := 8) F17 D4 D7 D9 D8 D13 D16 (g4 8) (g7 8) (g9 8) (g8 8) (g13 8) (g16 8) B
end Kw
open PySem PySem.W PyProof.Rows
set_option maxHeartbeats 0 in
theorem PySem.Challenge.cw_keyswithin_k01_houses_known_holds : PySem.Challenge.rw_keyswithin_k01_houses_known.Holds := by
  w_on; o_law; k_head; (case hw => w_witness2)
  k_fill
  refine L2.walk_of (l := PySem.Challenge.rw_keyswithin_k01_houses_known) (n := 63) (k := 20) (x := "script") (CX := fun _ => L2.CX0) (sp := fun w => Kw.spLaw _) rfl (by decide) rfl ⟨rfl, by decide, by decide⟩ (fun w h Y => PySem.W.kIn_of Y) ?F (fun _ _ a ns hl _ hS => ⟨a, ns, rfl, hS, hl, fun _ => rfl⟩) (fun _ _ _ _ _ h => h)
  case F =>
    intro w mg fa h KX G hmg
    refine' Kw.all_mk KX G hmg ?a1 ?l1 ?c1 ?k1 ?a2 ?l2 ?c2 ?k2 ?a3 ?l3 ?c3 ?k3 ?a4 ?l4 ?c4 ?k4 ?a5 ?l5 ?c5 ?k5 ?a6 ?l6 ?c6 ?k6 ?a7 ?l7 ?c7 ?k7 ?a8 ?l8 ?c8 ?k8 ?a9 ?l9 ?c9 ?k9 ?a10 ?l10 ?c10 ?k10 ?a11 ?l11 ?c11 ?k11 ?a12 ?l12 ?c12 ?k12 ?a13 ?l13 ?c13 ?k13 ?a14 ?l14 ?c14 ?k14 ?a15 ?l15 ?c15 ?k15 ?a16 ?l16 ?c16 ?k16 ?a17 ?l17 ?c17 ?k17 ?z_isi ?z_tup ?z_lst ?z_str ?z_len ?z_all ?z_zip ?z_rng ?z_int ?z_max ?z_min ?z_srt ?z_enu ?z_sum ?z_abs ?z_rpr ?z_set ?z_bool ?z_ver ?z_any ?m_MOST_LETTERS ?m_SMALL_LETTERS ?m_MOST_BOXES ?m_MOST_LOCKS ?m_MOST_KEYS
    (case a1 => k_is)
    (case l1 => k_is)
    (case c1 => k_is)
    (case k1 => k_is)
    (case a2 => k_is)
    (case l2 => k_is)
    (case c2 => k_is)
    (case k2 => k_is)
    (case a3 => k_is)
    (case l3 => k_is)
    (case c3 => k_is)
    (case k3 => k_is)
    (case a4 => k_is)
    (case l4 => k_is)
    (case c4 => k_is)
    (case k4 => k_is)
    (case a5 => k_is)
    (case l5 => k_is)
    (case c5 => k_is)
    (case k5 => k_is)
    (case a6 => k_is)
    (case l6 => k_is)
    (case c6 => k_is)
    (case k6 => k_is)
    (case a7 => k_is)
    (case l7 => k_is)
    (case c7 => k_is)
    (case k7 => k_is)
    (case a8 => k_is)
    (case l8 => k_is)
    (case c8 => k_is)
    (case k8 => k_is)
    (case a9 => k_is)
    (case l9 => k_is)
    (case c9 => k_is)
    (case k9 => k_is)
    (case a10 => k_is)
    (case l10 => k_is)
    (case c10 => k_is)
    (case k10 => k_is)
    (case a11 => k_is)
    (case l11 => k_is)
    (case c11 => k_is)
    (case k11 => k_is)
    (case a12 => k_is)
    (case l12 => k_is)
    (case c12 => k_is)
    (case k12 => k_is)
    (case a13 => k_is)
    (case l13 => k_is)
    (case c13 => k_is)
    (case k13 => k_is)
    (case a14 => k_is)
    (case l14 => k_is)
    (case c14 => k_is)
    (case k14 => k_is)
    (case a15 => k_is)
    (case l15 => k_is)
    (case c15 => k_is)
    (case k15 => k_is)
    (case a16 => k_is)
    (case l16 => k_is)
    (case c16 => k_is)
    (case k16 => k_is)
    (case a17 => k_is)
    (case l17 => k_is)
    (case c17 => k_is)
    (case k17 => k_is)
    (case z_isi => k_is)
    (case z_tup => k_is)
    (case z_lst => k_is)
    (case z_str => k_is)
    (case z_len => k_is)
    (case z_all => k_is)
    (case z_zip => k_is)
    (case z_rng => k_is)
    (case z_int => k_is)
    (case z_max => k_is)
    (case z_min => k_is)
    (case z_srt => k_is)
    (case z_enu => k_is)
    (case z_sum => k_is)
    (case z_abs => k_is)
    (case z_rpr => k_is)
    (case z_set => k_is)
    (case z_bool => k_is)
    (case z_ver => k_is)
    (case z_any => k_is)
    (case m_MOST_LETTERS => k_is)
    (case m_SMALL_LETTERS => k_is)
    (case m_MOST_BOXES => k_is)
    (case m_MOST_LOCKS => k_is)
    (case m_MOST_KEYS => k_is)
