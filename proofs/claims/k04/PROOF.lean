import PyProof.Rows.All
import Wide.All
import OpenK.AllK
import Wide.FinOn
import HandS.ForMost
import HandS.Evl
import HandS.Walk
import HandS.IsInst
import HandS.Zip
import HandS.TupAny
import HandS.Flow
import HandS.Style
import HandS.More
import HandS.Conv
import HandS.StrMore
import HandS.Text
import HandS.Wide
import PySem.Challenge.RW_keyswithin_k04_lots_judged_and_broken_on
import HandS.Star
import KE.GoesEnum
import HandS.RaiseMore
import HandS.SortRule
import HandS.List
import HandS.Exc
import HandS.ExcCtx
import HandS.HotCalls
import HandS.Comp
import HandS.Nested
import HandS.Lambda
import PyProof.ExcBaseAll.ValueError
import HandS.ExcIs
import HandS.EndTab
set_option Elab.async false
set_option linter.all false
set_option maxRecDepth 100000
set_option maxHeartbeats 4000000
namespace Kw
open PySem PySem.Spec PyProof.Rows L2 Evl
/-! ### what stays: the tuples -/
def KeepT (H H' : Hp) : Prop := ∀ b xs, Rd H b (.tup xs) → Rd H' b (.tup xs)
theorem KeepT.refl (H : Hp) : KeepT H H := fun _ _ h => h
theorem KeepT.trans {H H1 H2 : Hp} (a : KeepT H H1) (b : KeepT H1 H2) : KeepT H H2 := fun c o h => b c o (a c o h)
theorem KeepT.ex {H H' : Hp} (e : Ex H H') : KeepT H H' := fun b xs h => ex_rd e h
theorem KeepT.lst {H : Hp} {p : Addr} {xs ys : List V} (h : H p = some (.lst xs)) : KeepT H (upd H p (.lst ys)) := fun b zs r => by
  have nb : b ≠ p := by
    rintro rfl
    rcases r with r | ⟨o, r⟩
    · rw [h] at r; cases r
    · rw [h] at r; cases r
  rcases r with r | ⟨o, r⟩
  · exact .inl (by rw [upd_ne nb]; exact r)
  · exact .inr ⟨o, by rw [upd_ne nb]; exact r⟩
theorem keep_t {K : PySem.W.Frag} {H H' : Hp} {a : Addr} {xs : List V} (e : KeepT H H') (h : SqT K H a xs) : SqT K H' a xs := by
  rcases h with h | h
  · exact Or.inl (e _ _ h)
  · exact Or.inr h
/-! ### readings -/
def EvP (te : TE) (σ : L2.St) (H : Hp) (Φ : V → Hp → Prop) : Prop := ∀ H1, Ex H H1 → ∀ Q : VK, (∀ v H2, Ex H1 H2 → Φ v H2 → Q v H2) → te σ H1 Q
def EvW (wi : TI) (σ : L2.St) (H : Hp) (n : Nat) (Y : Nat → Hp → V → Hp → Prop) : Prop :=
  ∀ H1, Ex H H1 → ∀ R : It → Hp → Prop, (∀ (J : It) (G : Hp → Prop) (H2 : Hp), Ex H1 H2 → Walk J n G Y → (∀ H3, Ex H2 H3 → G H3) → R J H2) → wi σ H1 R
section
variable {K : PySem.W.Frag} {σ : L2.St} {H H' : Hp} {ta tb te tl : TE} {t u : TT} {x y z v : V} {r : R2} {Φ : V → Hp → Prop}
theorem EvP.ev (h : Ev te σ H v) : EvP te σ H (fun x _ => x = v) := fun H1 e Q q => h H1 e Q fun H2 e2 => q v H2 e2 rfl
theorem EvP.to (h : EvP te σ H (fun x _ => x = v)) : Ev te σ H v := fun H1 e Q q => h H1 e Q fun x H2 e2 hx => by
  subst hx
  exact q H2 e2
theorem EvP.mono (e : Ex H H') (h : EvP te σ H Φ) : EvP te σ H' Φ := fun H1 a Q q => h H1 (e.trans a) Q q
theorem EvP.imp {Ψ : V → Hp → Prop} (h : EvP te σ H Φ) (i : ∀ v H1, Ex H H1 → Φ v H1 → Ψ v H1) : EvP te σ H Ψ := fun H1 e Q q => h H1 e Q fun v H2 e2 hv => q v H2 e2 (i v H2 (e.trans e2) hv)
theorem ep_var {i : Nat} (h : σ[i]? = some (some v)) (hv : ∀ H1, Ex H H1 → Φ v H1) : EvP (tVar i) σ H Φ := fun H1 e _ q => ⟨v, h, q v H1 (Ex.refl H1) (hv H1 e)⟩
theorem ew_tup {a : Addr} {xs : List V} (h : Ev tl σ H (.ref a)) (hx : SqT K H a xs) : EvW (iTup K tl) σ H xs.length (YAt xs) := fun H1 e R r => h H1 e _ fun H2 e2 => ⟨a, rfl, ⟨xs, ex_t (e.trans e2) hx⟩, r _ _ H2 e2 walk_tup fun H3 e3 => ex_t ((e.trans e2).trans e3) hx⟩
theorem ew_list {a : Addr} {xs : List V} (h : Ev tl σ H (.ref a)) (hx : SqL K H a xs) : EvW (iList K tl) σ H xs.length (YAt xs) := fun H1 e R r => h H1 e _ fun H2 e2 => ⟨a, rfl, ⟨xs, ex_l (e.trans e2) hx⟩, r _ _ H2 e2 walk_list fun H3 e3 => ex_l ((e.trans e2).trans e3) hx⟩
theorem ew_listN {xs : List V} (h : EvL tl σ H xs) : EvW (iList K tl) σ H xs.length (YAt xs) := fun H1 e R r => h H1 e _ fun a H2 _ e2 hx => ⟨a, rfl, ⟨xs, sq_of hx⟩, r _ _ H2 e2 walk_list fun H3 e3 => sq_of (e3 _ _ hx)⟩
theorem walk_rng0 {n : Nat} : Walk (Itr 0 n) n (fun _ => True) (YFn fun (i : Nat) => .int (i : Int)) := by
  have e : (fun i : Nat => V.int ((0 : Int) + (i : Int))) = fun (i : Nat) => V.int (i : Int) := by
    funext i
    rw [Int.zero_add]
  rw [← e]
  exact walk_range
theorem ew_rng1 {ta : TA} {n : Nat} (h : EvA ta σ H [.int n]) (hn : n ≤ 100000) : EvW (iRng1 ta) σ H n (YFn fun (i : Nat) => .int (i : Int)) := fun H1 e R r => h H1 e _ fun H2 e2 => ⟨n, rfl, by omega, by omega, r _ _ H2 e2 (by rw [Int.toNat_natCast]; exact walk_rng0) fun _ _ => trivial⟩
theorem ew_str {z : Str} (h : Ev te σ H (.str z)) : EvW (iStr te) σ H z.cps.size (fun i H v H' => H' = H ∧ ∃ c, z.cps[i]? = some c ∧ v = .str ⟨#[c]⟩) := fun H1 e R r => h H1 e _ fun H2 e2 => ⟨z, rfl, r _ _ H2 e2 walk_str fun _ _ => trivial⟩
theorem cw_none {D : Addr} {y : V} {ys : List V} (e : Ex H H') (hD : H D = none) : Ex H (upd H' D (.lst ys)) := Ex.mut e hD
/-- a comprehension: which turns give, and what is true of what they give -/
def EvC (te : TE) (σ : L2.St) (H : Hp) (n : Nat) (f : Nat → Bool) (Φ : Nat → V → Hp → Prop) : Prop :=
  ∀ H1, Ex H H1 → ∀ Q : VK, (∀ p ys H2, H1 p = none → Ex H1 H2 → H2 p = some (.lst ys) → Paired (fun i y => Φ i y H2) ((List.range n).filter f) ys → Q (.ref p) H2) → te σ H1 Q
theorem paired_imp {α β : Type} {F G : α → β → Prop} {xs : List α} {ys : List β} (h : Paired F xs ys) (i : ∀ a b, F a b → G a b) : Paired G xs ys := Paired.mapP h i
theorem paired_app {α β : Type} {F : α → β → Prop} : ∀ {xs : List α} {ys : List β} {a : α} {b : β}, Paired F xs ys → F a b → Paired F (xs ++ [a]) (ys ++ [b])
  | _, _, _, _, .nil, h => .cons h .nil
  | _, _, _, _, .cons r t, h => .cons r (paired_app t h)
theorem lc_gen {wi : TI} {g : TG} {vs : List Nat} {n : Nat} {Y : Nat → Hp → V → Hp → Prop} (hi : EvW wi σ H n Y) (hn : n ≤ 100000) (f : Nat → Bool) (Φ : Nat → V → Hp → Prop)
    (st : ∀ i y H H', KeepT H H' → Φ i y H → Φ i y H')
    (turn : ∀ i x H1 H2 (Q : L2.St → Hp → Prop), Ex H H1 → i < n → Y i H1 x H2 → (∀ σ2 H3, Ex H1 H3 → wipe σ2 vs = wipe σ vs → EvT t σ2 H3 (f i) → (f i = true → EvP te σ2 H3 (Φ i)) → Q σ2 H3) → g x (wipe σ vs) H2 Q) :
    EvC (tLc wi g t te vs) σ H n f Φ := by
  intro H0 e Q q
  refine hi H0 e _ fun J G H1 e1 w hG => ?_
  intro D hD
  refine lc_it w (Pv := fun i H' => Ex H1 H' ∧ ∃ ys, H' D = some (.lst ys) ∧ Paired (fun i y => Φ i y H') ((List.range i).filter f) ys) ⟨Ex.new hD, [], upd_same, .nil⟩
    (fun i H' _ p => hG H' p.1) (fun i x H' H2 hi' p y => ?_) (fun H' p => ?_)
  · obtain ⟨p1, ys, p2, p3⟩ := p
    refine turn i x H' H2 _ ((e.trans e1).trans p1) hi' y fun σ2 H3 e3 hw ht he => ⟨hw, ?_⟩
    refine ht H3 (Ex.refl H3) _ fun H4 e4 => ?_
    have hlen : ys.length ≤ i := by
      rw [← Paired.length p3]
      have := List.length_filter_le f (List.range i)
      rw [List.length_range] at this
      exact this
    have eD : H4 D = some (.lst ys) := e4 _ _ (e3 _ _ p2)
    cases hf : f i with
    | false =>
      show Ex H1 H4 ∧ _
      refine ⟨(p1.trans e3).trans e4, ys, eD, ?_⟩
      rw [List.range_succ, List.filter_append, List.filter_cons, if_neg (by rw [hf]; decide), List.filter_nil, List.append_nil]
      exact paired_imp p3 fun a b h => st a b _ _ (KeepT.ex (e3.trans e4)) h
    | true =>
      show te σ2 H4 _
      refine (he hf) H4 e4 _ fun y H5 e5 hy => ?_
      have eD5 : H5 D = some (.lst ys) := e5 _ _ eD
      refine ⟨ys, eD5, sz_lt (by omega), Ex.mut (((p1.trans e3).trans e4).trans e5) hD, ys ++ [y], upd_same, ?_⟩
      rw [List.range_succ, List.filter_append, List.filter_cons, if_pos hf, List.filter_nil]
      exact paired_app (paired_imp p3 fun a b h => st a b _ _ ((KeepT.ex ((e3.trans e4).trans e5)).trans (KeepT.lst eD5)) h) (st _ _ _ _ (KeepT.lst eD5) hy)
  · obtain ⟨p1, ys, p2, p3⟩ := p
    exact q D ys H' (fresh_back e1 hD) (e1.trans p1) p2 p3
theorem paired_map {α β : Type} {v : α → β} : ∀ {xs : List α} {ys : List β}, Paired (fun i y => y = v i) xs ys → ys = xs.map v
  | _, _, .nil => rfl
  | _, _, .cons r t => by rw [r, List.map_cons, paired_map t]
theorem EvC.val {n : Nat} {f : Nat → Bool} {v : Nat → V} (h : EvC te σ H n f (fun i y _ => y = v i)) : EvL te σ H (((List.range n).filter f).map v) := fun H1 e Q q =>
  h H1 e Q fun p ys H2 hp e2 h2 pr => q p H2 hp e2 (by rw [h2, paired_map pr])
theorem el_lc {wi : TI} {g : TG} {vs : List Nat} {n : Nat} {Y : Nat → Hp → V → Hp → Prop} (hi : EvW wi σ H n Y) (hn : n ≤ 100000) (f : Nat → Bool) (v : Nat → V) {xs : List V} (hx : ((List.range n).filter f).map v = xs)
    (turn : ∀ i x H1 H2 (Q : L2.St → Hp → Prop), Ex H H1 → i < n → Y i H1 x H2 → (∀ σ2 H3, Ex H1 H3 → wipe σ2 vs = wipe σ vs → EvT t σ2 H3 (f i) → (f i = true → Ev te σ2 H3 (v i)) → Q σ2 H3) → g x (wipe σ vs) H2 Q) :
    EvL (tLc wi g t te vs) σ H xs := by
  subst hx
  exact EvC.val (lc_gen hi hn f (fun i y _ => y = v i) (fun _ _ _ _ _ h => h) fun i x H1 H2 Q e hi' y k => turn i x H1 H2 Q e hi' y fun σ2 H3 e3 hw ht he => k σ2 H3 e3 hw ht fun hf => EvP.ev (he hf))
end
/-- the built-in names are what they were -/
structure Bu (mg : Str → Option Value) : Prop where
  isi : mg "isinstance" = none
  tup : mg "tuple" = none
  lst : mg "list" = none
  str : mg "str" = none
  len : mg "len" = none
  all : mg "all" = none
  zip : mg "zip" = none
  rng : mg "range" = none
  int : mg "int" = none
  max : mg "max" = none
  min : mg "min" = none
  srt : mg "sorted" = none
  enu : mg "enumerate" = none
  sum : mg "sum" = none
  abs : mg "abs" = none
  rpr : mg "repr" = none
  set : mg "set" = none
  bool : mg "bool" = none
  ver : mg "ValueError" = none
  any : mg "any" = none
section
variable {K : PySem.W.Frag} {σ : L2.St} {H H' : Hp} {ta tb tc te tl : TE} {t u : TT} {x y z v : V} {r r' : R2}
theorem ty_tup {K : PySem.W.Frag} {H : Hp} {a : Addr} {xs : List V} (h : SqT K H a xs) : TyX K H (.ref a) (.type "tuple") := by
  rcases h with (h | ⟨o, h⟩) | ⟨o, its, n, h1, h2, _⟩
  · exact .base (.tup h)
  · exact .fTuple h
  · exact .kTuple h1 h2
def IsT (K : PySem.W.Frag) (xs : List V) : V → Hp → Prop := fun v H => ∃ p, v = .ref p ∧ SqT K H p xs
theorem ep_slT {tl th : TO} {a : Addr} {xs : List V} {lo hi : Option Int} (h : Ev te σ H (.ref a)) (h1 : EvO tl σ H lo) (h2 : EvO th σ H hi) (hs : SqT K H a xs) : EvP (tSl (rSlA K) te tl th) σ H (IsT K (cutV xs lo hi)) := fun H1 e Q q =>
  h H1 e _ fun H2 e2 => h1 H2 (e.trans e2) _ fun H3 e3 => h2 H3 ((e.trans e2).trans e3) _ fun H4 e4 =>
    ⟨a, xs, rfl, ex_t (((e.trans e2).trans e3).trans e4) hs, fun hf => q _ H4 ((e2.trans e3).trans e4) ⟨a, rfl, by
      have : cutV xs lo hi = xs := by
        unfold cutV
        rw [hf.1, hf.2]
        simp
      rw [this]
      exact ex_t (((e.trans e2).trans e3).trans e4) hs⟩, fun hf p hp => q _ _ (((e2.trans e3).trans e4).trans (Ex.new hp)) ⟨p, rfl, st_of upd_same⟩⟩
theorem cut1 (xs : List V) : cutV xs (some 1) none = xs.drop 1 := by
  unfold cutV
  rw [show HT.sIx xs.length 0 (some 1) = min 1 xs.length from HT.sIx_nat xs.length 0 1, HT.sIx_none]
  cases xs with
  | nil => rfl
  | cons x r =>
    rw [show min 1 (x :: r).length = 1 by
      rw [List.length_cons]
      omega]
    show (List.take ((x :: r).length - 1) r) = r
    rw [List.length_cons, Nat.add_sub_cancel]
    exact List.take_length
theorem walk_zipT {a b : Addr} {xs ys : List V} {n : Nat} (hn : n = min xs.length ys.length) : Walk (RZ.ItzT K a b) n (fun H => SqT K H a xs ∧ SqT K H b ys) (YPair (fun i => xs[i]?) (fun i => ys[i]?)) := by
  subst hn
  refine ⟨fun i _ hi q => ?_, fun _ q => ⟨xs, ys, q.1, q.2, by omega⟩, fun i H v H' _ q y => ?_⟩
  · have h1 : i < xs.length := by omega
    have h2 : i < ys.length := by omega
    exact ⟨xs, ys, xs[i], ys[i], q.1, q.2, by simp [h1], by simp [h2]⟩
  · obtain ⟨T, x, z, h1, h2, h3, h4, h5⟩ := y
    exact ⟨T, x, z, h1, h2, h3, h4 xs q.1, h5 ys q.2⟩
theorem ew_zipT {a : Addr} {xs ys : List V} {n : Nat} (hn : n = min xs.length ys.length) (h : Ev ta σ H (.ref a)) (hx : SqT K H a xs) (hb : EvP tb σ H (IsT K ys)) : EvW (RZ.iZipA K (tCons ta (tCons tb tNil))) σ H n (YPair (fun i => xs[i]?) (fun i => ys[i]?)) := fun H1 e R r =>
  h H1 e _ fun H2 e2 => hb H2 (e.trans e2) _ fun v H3 e3 ⟨p, hv, hp⟩ => by
    subst hv
    exact ⟨a, p, xs, ys, rfl, .inr ⟨ex_t ((e.trans e2).trans e3) hx, hp, r _ _ H3 (e2.trans e3) (walk_zipT hn) fun H4 e4 => ⟨ex_t (((e.trans e2).trans e3).trans e4) hx, ex_t e4 hp⟩⟩⟩
theorem ev_all {bs : List Bool} (h : EvL te σ H (bs.map V.bl)) : Ev (tCB (rAll K) (tCons te tNil)) σ H (.bl (bs.all id)) := fun H1 e Q q =>
  h H1 e _ fun p H2 _ e2 hp => ⟨p, bs, rfl, sq_of hp, q H2 e2⟩
/-- a comprehension without a test -/
theorem filter_true {n : Nat} : (List.range n).filter (fun _ => true) = List.range n := List.filter_eq_self.mpr (fun _ _ => rfl)
theorem et_yes {σ : L2.St} {H : Hp} : EvT tYes σ H true := fun H1 _ Q q => q H1 (Ex.refl H1)
/-- a def of the text: where it stands, how it binds -/
structure Df (K : PySem.W.Frag) (mg : Str → Option Value) (x : Str) (st : Stmt) (ps : List Str) (f : Addr) (fd : FuncData) : Prop where
  F : Fun K x x st f fd
  g : mg x = some (.ref f)
  b : Binds K fd ps []
theorem pcall {X : Cx} {k : Nat} {f : Addr} {fd : FuncData} {ps : List Str} {sp : Sp} {x : Str} {st : Stmt} {p pos : Pos} {e : Expr} {es : List Expr} {t : TA} (D : Df X.K X.mg x st ps f fd) (G : FnOk X.prog X.w X.K X.mg X.base CX0 k f fd ps sp) (hr : Room k X.A) (ha : PA X (e :: es) t) (hg : Gl X x := by rfl)
    (h1 : (x == ("__debug__" : Str)) = false := by decide) (h2 : starEach (e :: es) X.env = (false, eval e X.env) :: starEach es X.env := by rfl) (h3 : (backTo pos (starEach es X.env)).any (·.1) = false := by rfl) :
    PE X (.Call (.Name x p) (e :: es) [] pos) (tCall sp [] E0 t) := pe_call G hr hg D.g D.F.kp D.b .nil pass0 ha h1 h2 h3
theorem SpV.of {sp : Sp} {vs : List V} {H : Hp} {z : V} (h : ∀ H1, Ex H H1 → ∀ Q : VK, RetV z H1 Q → ∀ E, sp vs H1 Q E) : SpV sp (vs ++ []) H z := by
  rw [List.append_nil]
  exact fun H1 e Q q E => h H1 e Q q E
theorem ev_chain {k l : Bool} (ha : Ev ta σ H x) (hb : Ev tb σ H y) (hc : Ev tc σ H z) (h1 : RV r x y H (.bl k)) (h2 : RV r' y z H (.bl l)) : Ev (tChain r r' ta tb tc) σ H (.bl (k && l)) := fun H1 e Q q =>
  ha H1 e _ fun H2 e2 => hb H2 (e.trans e2) _ fun H3 e3 => h1 H3 ((e.trans e2).trans e3) _ fun H4 e4 => ⟨k, rfl, by
    cases k with
    | true =>
      show tc σ H4 _
      exact hc H4 (((e.trans e2).trans e3).trans e4) _ fun H5 e5 => h2 H5 ((((e.trans e2).trans e3).trans e4).trans e5) Q fun H6 e6 => q H6 ((((e2.trans e3).trans e4).trans e5).trans e6)
    | false =>
      show Q (.bl false) H4
      exact q H4 ((e2.trans e3).trans e4)⟩
theorem ev_isi {T U : String} {b : Bool} (ha : Ev ta σ H x) (hb : Ev tb σ H (.ty U)) (ht : ∀ H1, Ex H H1 → TyX K H1 x (.type T)) (hk : kitB T U = some b) : Ev (tCB (rIsi K) (tCons ta (tCons tb tNil))) σ H (.bl b) := fun H1 e Q q =>
  ha H1 e _ fun H2 e2 => hb H2 (e.trans e2) _ fun H3 e3 => ⟨x, .ty U, _, _, b, rfl, .ty _, ht H3 ((e.trans e2).trans e3), kit_ty hk, q H3 (e2.trans e3)⟩
theorem rv_le {i j : Int} : RV (rI0 fun i j => .bl (decide (i ≤ j))) (.int i) (.int j) H (.bl (decide (i ≤ j))) := rv_I0
theorem range_map_get {α β : Type} (l : List α) (d : α) (g : α → β) : (List.range l.length).map (fun i => g (l.getD i d)) = l.map g := by
  apply List.ext_getElem
  · simp
  · intro i h1 h2
    simp only [List.getElem_map, List.getElem_range]
    congr 1
    rw [List.getD_eq_getElem?_getD, List.getElem?_eq_getElem (by simpa using h2)]
    rfl
theorem paired_get {α β : Type} {F : α → β → Prop} : ∀ {xs : List α} {ys : List β} {i : Nat} {x : α}, Paired F xs ys → xs[i]? = some x → ∃ y, ys[i]? = some y ∧ F x y
  | _, _, _, _, .nil, e => by simp at e
  | _, _, 0, _, .cons r _, e => by simp at e; subst e; exact ⟨_, rfl, r⟩
  | _, _, i + 1, x, .cons _ t, e => by
    obtain ⟨u, h1, h2⟩ := paired_get (i := i) (x := x) t (by simpa using e)
    exact ⟨u, by simpa using h1, h2⟩
theorem paired_len {α β : Type} {F : α → β → Prop} {xs : List α} {ys : List β} (h : Paired F xs ys) : xs.length = ys.length := Paired.length h
/-- all([f(x) for x in t]) where each is so -/
theorem ev_allT {vs : List Nat} {wi : TI} {n : Nat} {Y : Nat → Hp → V → Hp → Prop} {g : TG} (hi : EvW wi σ H n Y) (hn : n ≤ 100000)
    (turn : ∀ i x H1 H2 (Q : L2.St → Hp → Prop), Ex H H1 → i < n → Y i H1 x H2 → (∀ σ2 H3, Ex H1 H3 → wipe σ2 vs = wipe σ vs → Ev te σ2 H3 (.bl true) → Q σ2 H3) → g x (wipe σ vs) H2 Q) :
    Ev (tCB (rAll K) (tCons (tLc wi g tYes te vs) tNil)) σ H (.bl true) := by
  refine ev_is (ev_all (K := K) (bs := List.replicate n true) ?_) (by rw [List.all_replicate]; simp)
  refine el_lc hi hn (fun _ => true) (fun i => .bl true) (by rw [filter_true, List.map_replicate, List.map_const', List.length_range]) (fun i x H1 H2 Q e hi hy k => ?_)
  exact turn i x H1 H2 Q e hi hy fun σ2 H3 e3 hw he => k σ2 H3 e3 hw et_yes fun _ => he
theorem ev_lenT {p : Addr} {xs : List V} (ha : Ev ta σ H (.ref p)) (h : SqT K H p xs) : Ev (tCB (rLenS K) (tCons ta tNil)) σ H (.int (xs.length : Int)) := fun H1 e Q q =>
  ha H1 e _ fun H2 e2 => ⟨p, xs, rfl, Or.inr (ex_t (e.trans e2) h), q H2 e2⟩
theorem rv_gt {i j : Int} : RV (rI0 fun i j => .bl (decide (j < i))) (.int i) (.int j) H (.bl (decide (j < i))) := rv_I0
theorem at0 {x y : V} : atI [x, y] 0 = some x := atI_nat (j := 0) rfl
theorem at1 {x y : V} : atI [x, y] 1 = some y := atI_nat (j := 1) rfl
theorem yes_do {σ : L2.St} {H : Hp} {A B : Hp → Prop} (h : A H) : tYes σ H (fun b H => if b = true then A H else B H) := iteT (A := A H) (B := B H) h
/-- [y for x in .. for y in t], t a tuple -/
theorem el_lc2 {wi : TI} {g : TG} {vs vs1 : List Nat} {n j : Nat} {Y : Nat → Hp → V → Hp → Prop} (hi : EvW wi σ H n Y) (L : Nat → List V) (hn : ∀ i ≤ n, ((List.range i).flatMap L).length ≤ 100000) {xs : List V} (hx : (List.range n).flatMap L = xs)
    (turn : ∀ i x H1 H2 (Q : L2.St → Hp → Prop), Ex H H1 → i < n → Y i H1 x H2 → (∀ σ2 H3 a, Ex H1 H3 → wipe σ2 vs = wipe σ vs → Ev tl σ2 H3 (.ref a) → SqT K H3 a (L i) → (∀ y, wipe ((wipe σ2 vs1).set j (some y)) vs1 = wipe σ2 vs1 ∧ ((wipe σ2 vs1).set j (some y))[j]? = some (some y)) → Q σ2 H3) → g x (wipe σ vs) H2 Q) :
    EvL (tLc2 wi g tYes (iTup K tl) (gName j) tYes (tVar j) vs vs1) σ H xs := by
  subst hx
  intro H0 e Q q
  refine hi H0 e _ fun J G H1 e1 w hG => ?_
  intro D hD
  refine ⟨fun i m H' => m = n - i ∧ i ≤ n ∧ Ex H1 H' ∧ H' D = some (.lst ((List.range i).flatMap L)), ⟨n, by simp, Nat.zero_le _, Ex.new hD, upd_same⟩, ?_⟩
  rintro i m H' ⟨rfl, hi', p1, p2⟩
  by_cases hlt : i < n
  · refine .inr ⟨w.goes i H' hlt (hG H' p1), fun H'' => Ex H1 H'' ∧ H'' D = some (.lst ((List.range (i + 1)).flatMap L)), fun H'' p' => ⟨n - (i + 1), by omega, rfl, hlt, p'⟩, fun x H2 hy => ?_⟩
    refine turn i x H' H2 _ ((e.trans e1).trans p1) hlt (w.yields i H' x H2 hlt (hG H' p1) hy) fun σ2 H3 a e3 hw htl hL hset => ⟨hw, ?_⟩
    refine yes_do ?_
    refine htl H3 (Ex.refl H3) _ fun H4 e4 => ⟨a, rfl, ⟨_, ex_t e4 hL⟩, ?_⟩
    refine ⟨fun c m H5 => m = (L i).length - c ∧ c ≤ (L i).length ∧ SqT K H5 a (L i) ∧ Ex H1 H5 ∧ H5 D = some (.lst ((List.range i).flatMap L ++ (L i).take c)), ⟨_, rfl, Nat.zero_le _, ex_t e4 hL, (p1.trans e3).trans e4, by rw [List.take_zero, List.append_nil]; exact e4 _ _ (e3 _ _ p2)⟩, ?_⟩
    rintro c m H5 ⟨rfl, hc, g1, g2, g3⟩
    have hsum : (List.range (i + 1)).flatMap L = (List.range i).flatMap L ++ L i := by
      rw [List.range_succ, List.flatMap_append]
      simp
    by_cases hcl : c < (L i).length
    · refine .inr ⟨⟨_, _, g1, List.getElem?_eq_getElem hcl⟩, fun H6 => SqT K H6 a (L i) ∧ Ex H1 H6 ∧ H6 D = some (.lst ((List.range i).flatMap L ++ (L i).take (c + 1))), fun H6 ⟨r1, r2, r3⟩ => ⟨_, by omega, rfl, hcl, r1, r2, r3⟩, fun y H6 ⟨eH, hy2⟩ => ?_⟩
      subst eH
      have hy' : (L i)[c]? = some y := hy2 _ g1
      refine ⟨(hset y).1, ?_⟩
      refine yes_do ?_
      refine ⟨y, (hset y).2, _, g3, ?_, keep_t (KeepT.lst g3) g1, Ex.mut g2 hD, ?_⟩
      · refine sz_lt ?_
        have h1 := hn (i + 1) hlt
        rw [hsum, List.length_append] at h1
        rw [List.length_append, List.length_take]
        omega
      · rw [upd_same, List.append_assoc, List.take_add_one, hy']
        rfl
    · refine .inl ⟨⟨_, g1, by omega⟩, g2, ?_⟩
      rw [g3, hsum, List.take_of_length_le (by omega)]
  · have e' : i = n := by omega
    subst e'
    exact .inl ⟨w.stops H' (hG H' p1), q D H' (fresh_back e1 hD) (e1.trans p1) p2⟩
theorem str_beq (a b : Str) : (a == b) = decide (a = b) := by
  by_cases h : a = b
  · subst h
    simp
  · rw [decide_eq_false h]
    exact beq_eq_false_iff_ne.mpr h
theorem inV_str (c : Str) (hs : List Str) : inV (.str c) (hs.map V.str) = decide (c ∈ hs) := by
  induction hs with
  | nil => rfl
  | cons a r ih =>
    show (eqV (.str a) (.str c) || inV (.str c) (r.map V.str)) = _
    rw [ih]
    show ((a == c) || _) = _
    rw [str_beq]
    by_cases h : a = c
    · subst h
      simp
    · have h' : ¬ c = a := fun z => h z.symm
      simp [h, h']
theorem inV_int (c : Int) (hs : List Int) : inV (.int c) (hs.map V.int) = decide (c ∈ hs) := by
  induction hs with
  | nil => rfl
  | cons a r ih =>
    show (eqV (.int a) (.int c) || inV (.int c) (r.map V.int)) = _
    rw [ih]
    show ((a == c) || _) = _
    by_cases h : a = c
    · subst h
      simp
    · have h' : ¬ c = a := fun z => h z.symm
      simp [h, h']
theorem flat_strs (hs : List Str) : (hs.map V.str).all flatV = true := by
  rw [List.all_map]
  exact List.all_eq_true.mpr fun _ _ => rfl
abbrev vN (i : Nat) : V := .int (i : Int)
theorem flat_nats (hs : List Nat) : (hs.map vN).all flatV = true := by
  rw [List.all_map]
  exact List.all_eq_true.mpr fun _ _ => rfl
theorem inV_nat (c : Nat) (hs : List Nat) : inV (vN c) (hs.map vN) = decide (c ∈ hs) := by
  have e : hs.map vN = (hs.map fun (i : Nat) => (i : Int)).map V.int := by rw [List.map_map]; rfl
  rw [e]
  show inV (.int (c : Int)) _ = _
  rw [inV_int]
  congr 1
  rw [List.mem_map]
  apply propext
  constructor
  · rintro ⟨a, h1, h2⟩
    have : a = c := by omega
    subst this
    exact h1
  · exact fun h => ⟨c, h, rfl⟩
theorem rIx_seq {p : Addr} {xs : List V} {i : Int} (h : SqL K H p xs ∨ SqT K H p xs) (ha : atI xs i = some v) : RV (rIx K) (.ref p) (.int i) H v := fun H1 e Q q =>
  h.elim (fun h => .inl ⟨p, xs, i, v, rfl, rfl, ex_l e h, ha, q H1 (Ex.refl H1)⟩) (fun h => .inr (.inl ⟨p, xs, i, v, rfl, rfl, ex_t e h, ha, q H1 (Ex.refl H1)⟩))
theorem paired_get2 {α β : Type} {F : α → β → Prop} : ∀ {xs : List α} {ys : List β} {i : Nat} {y : β}, Paired F xs ys → ys[i]? = some y → ∃ x, xs[i]? = some x ∧ F x y
  | _, _, _, _, .nil, e => by simp at e
  | _, _, 0, _, .cons r _, e => by simp at e; subst e; exact ⟨_, rfl, r⟩
  | _, _, i + 1, x, .cons _ t, e => by
    obtain ⟨u, h1, h2⟩ := paired_get2 (i := i) (y := x) t (by simpa using e)
    exact ⟨u, by simpa using h1, h2⟩
theorem flatMap_range {α β : Type} (l : List α) (d : α) (g : α → List β) : (List.range l.length).flatMap (fun i => g (l.getD i d)) = l.flatMap g := by
  rw [List.flatMap_def, List.flatMap_def, range_map_get l d g]
theorem flatMap_take {α β : Type} (l : List α) (d : α) (g : α → List β) (i : Nat) (hi : i ≤ l.length) : (List.range i).flatMap (fun i => g (l.getD i d)) = (l.take i).flatMap g := by
  have h := flatMap_range (l.take i) d g
  rw [List.length_take, Nat.min_eq_left hi] at h
  rw [← h]
  rw [List.flatMap_def, List.flatMap_def]
  congr 1
  apply List.map_congr_left
  intro j hj
  have := List.mem_range.mp hj
  congr 1
  rw [List.getD_eq_getElem?_getD, List.getD_eq_getElem?_getD, List.getElem?_take_of_lt this]
theorem map_flatMap' {α β γ : Type} (l : List α) (f : β → γ) (g : α → List β) : l.flatMap (fun i => (g i).map f) = (l.flatMap g).map f := by
  induction l with
  | nil => rfl
  | cons a r ih => rw [List.flatMap_cons, List.flatMap_cons, List.map_append, ih]
def rTupOf (K : PySem.W.Frag) : List V → Hp → VK → Prop := fun xs H Q => ∃ p ys, xs = [.ref p] ∧ ((SqL K H p ys ∧ ∀ l, H l = none → Q (.ref l) (upd H l (.tup ys))) ∨ (SqT K H p ys ∧ Q (.ref p) H))
theorem call_tupOf {X : Cx} : CallR X (.type "tuple") (rTupOf X.K) := call_tuple_of
theorem eu_tupL {p : Addr} {xs : List V} (ha : Ev ta σ H (.ref p)) (h : SqL K H p xs) : EvU (tCB (rTupOf K) (tCons ta tNil)) σ H xs := fun H1 e Q q =>
  ha H1 e _ fun H2 e2 => ⟨p, xs, rfl, .inl ⟨ex_l (e.trans e2) h, fun l hl => q l _ (fresh_back e2 hl) (e2.trans (Ex.new hl)) upd_same⟩⟩
theorem eu_tupN {xs : List V} (ha : EvL ta σ H xs) : EvU (tCB (rTupOf K) (tCons ta tNil)) σ H xs := fun H1 e Q q =>
  ha H1 e _ fun p H2 _ e2 hp => ⟨p, xs, rfl, .inl ⟨sq_of hp, fun l hl => q l _ (fresh_back e2 hl) (e2.trans (Ex.new hl)) upd_same⟩⟩
theorem el_listT {p : Addr} {xs : List V} (ha : Ev ta σ H (.ref p)) (h : SqT K H p xs) : EvL (tCB (rListS K) (tCons ta tNil)) σ H xs := fun H1 e Q q =>
  ha H1 e _ fun H2 e2 => ⟨p, xs, rfl, Or.inr (ex_t (e.trans e2) h), fun l hl => q l _ (fresh_back e2 hl) (e2.trans (Ex.new hl)) upd_same⟩
theorem el_cat {l : Addr} {xs zs : List V} (ha : Ev ta σ H (.ref l)) (hl : H l = some (.lst xs)) (hb : EvL tb σ H zs) (hn : xs.length + zs.length ≤ 100000) : EvL (tOp rCat ta tb) σ H (xs ++ zs) := fun H1 e Q q =>
  ha H1 e _ fun H2 e2 => hb H2 (e.trans e2) _ fun b H3 _ e3 hb' => ⟨l, b, xs, zs, rfl, rfl, e3 _ _ (e2 _ _ (e _ _ hl)), hb', sz_of hn, fun p hp => q p _ (fresh_back (e2.trans e3) hp) ((e2.trans e3).trans (Ex.new hp)) upd_same⟩
theorem el_catN {xs zs : List V} (ha : EvL ta σ H xs) (hb : EvL tb σ H zs) (hn : xs.length + zs.length ≤ 100000) : EvL (tOp rCat ta tb) σ H (xs ++ zs) := fun H1 e Q q =>
  ha H1 e _ fun l H2 _ e2 hl => hb H2 (e.trans e2) _ fun b H3 _ e3 hb' => ⟨l, b, xs, zs, rfl, rfl, e3 _ _ hl, hb', sz_of hn, fun p hp => q p _ (fresh_back (e2.trans e3) hp) ((e2.trans e3).trans (Ex.new hp)) upd_same⟩
theorem et_truL {p : Addr} {xs : List V} (ha : Ev ta σ H (.ref p)) (h : SqL K H p xs) : EvT (fun σ H Q => ta σ H fun x H' => ∃ k, TruV K x H' k ∧ Q k H') σ H (!xs.isEmpty) := fun H1 e Q q =>
  ha H1 e _ fun H2 e2 => ⟨_, .inl ⟨xs, ex_l (e.trans e2) h, rfl⟩, q H2 e2⟩
theorem SpL.of {sp : Sp} {vs : List V} {H : Hp} {xs : List V} (h : ∀ H1, Ex H H1 → ∀ Q : VK, RetL xs H1 Q → ∀ E, sp vs H1 Q E) : SpL sp (vs ++ []) H xs := by
  rw [List.append_nil]
  exact fun H1 e Q q E => h H1 e Q q E
theorem filter_range_map {α β : Type} (l : List α) (d : α) (p : α → Bool) (g : α → β) : ((List.range l.length).filter (fun i => p (l.getD i d))).map (fun i => g (l.getD i d)) = (l.filter p).map g := by
  have e : (List.range l.length).map (fun i => l.getD i d) = l := by
    have := range_map_get l d id
    simpa using this
  conv => rhs; rw [← e, List.filter_map, List.map_map]
  rfl
theorem filter_both {α : Type} (l : List α) (p : α → Bool) : (l.filter p).length + (l.filter fun i => !p i).length = l.length := by
  induction l with
  | nil => rfl
  | cons a r ih =>
    cases h : p a with
    | true =>
      rw [List.filter_cons_of_pos h, List.filter_cons_of_neg (by rw [h]; decide), List.length_cons, List.length_cons]
      omega
    | false =>
      rw [List.filter_cons_of_neg (by rw [h]; decide), List.filter_cons_of_pos (by rw [h]; rfl), List.length_cons, List.length_cons]
      omega
/-- a list of tuples of box numbers -/
def TupsAt (K : PySem.W.Frag) (H : Hp) (ys : List V) (rs : List (List Nat)) : Prop := Paired (fun y r => ∃ a, y = .ref a ∧ SqT K H a (r.map vN)) ys rs
theorem TupsAt.keep {K : PySem.W.Frag} {H H' : Hp} {ys : List V} {rs : List (List Nat)} (e : KeepT H H') (h : TupsAt K H ys rs) : TupsAt K H' ys rs := paired_imp h fun _ _ ⟨a, h1, h2⟩ => ⟨a, h1, keep_t e h2⟩
def YTup (K : PySem.W.Frag) (rs : List (List Nat)) : Nat → Hp → V → Hp → Prop := fun i H x H' => H' = H ∧ ∃ a r, rs[i]? = some r ∧ x = .ref a ∧ SqT K H a (r.map vN)
/-- a new list of tuples of numbers -/
def EvR (K : PySem.W.Frag) (te : TE) (σ : L2.St) (H : Hp) (rs : List (List Nat)) : Prop := ∀ H1, Ex H H1 → ∀ Q : VK, (∀ p ys H2, H1 p = none → Ex H1 H2 → H2 p = some (.lst ys) → TupsAt K H2 ys rs → Q (.ref p) H2) → te σ H1 Q
theorem ew_tups {rs : List (List Nat)} (h : EvR K tl σ H rs) : EvW (iList K tl) σ H rs.length (YTup K rs) := fun H1 e R r => h H1 e _ fun p ys H2 hp e2 h2 hT => by
  refine ⟨p, rfl, ⟨ys, sq_of h2⟩, r _ (fun H => SqL K H p ys ∧ TupsAt K H ys rs) H2 e2 ?_ fun H3 e3 => ⟨sq_of (e3 _ _ h2), hT.keep (KeepT.ex e3)⟩⟩
  have w : Walk (Itl K p) ys.length (fun H => SqL K H p ys) (YAt ys) := walk_list
  rw [show ys.length = rs.length from paired_len hT] at w
  refine w.mono (fun H h => h.1) fun i H x H' hi hg hy => ?_
  obtain ⟨rfl, hx⟩ := hy
  obtain ⟨r, hr, a, rfl, ha⟩ := paired_get hg.2 hx
  exact ⟨rfl, a, r, hr, rfl, ha⟩
theorem flatten_take_le {α : Type} : ∀ (l : List (List α)) (i : Nat), (l.take i).flatten.length ≤ l.flatten.length
  | [], i => by simp
  | a :: r, 0 => by simp
  | a :: r, i + 1 => by
    have := flatten_take_le r i
    rw [List.take_succ_cons, List.flatten_cons, List.flatten_cons, List.length_append, List.length_append]
    omega
/-- a new tuple -/
def RetU (xs : List V) (H : Hp) (Q : VK) : Prop := ∀ p H2, H p = none → Ex H H2 → H2 p = some (.tup xs) → Q (.ref p) H2
def SpU (sp : Sp) (vs : List V) (H : Hp) (xs : List V) : Prop := ∀ H1, Ex H H1 → ∀ Q : VK, (∀ p H2, H1 p = none → Ex H1 H2 → H2 p = some (.tup xs) → Q (.ref p) H2) → ∀ E : XK, sp vs H1 Q E
theorem eu_call {σ : L2.St} {H : Hp} {sp : Sp} {vs xs : List V} {E : XK} {ta : TA} (h : EvA ta σ H vs) (hs : ∀ H1, Ex H H1 → ∀ Q : VK, RetU xs H1 Q → ∀ E, sp vs H1 Q E) : EvU (tCall sp [] E ta) σ H xs := fun H1 e Q q =>
  h H1 e _ fun H2 e2 => by
    rw [List.append_nil]
    exact hs H2 (e.trans e2) Q (fun p H3 hp e3 h3 => q p H3 (fresh_back e2 hp) (e2.trans e3) h3) E
theorem er_call {σ : L2.St} {H : Hp} {sp : Sp} {vs : List V} {rs : List (List Nat)} {E : XK} {ta : TA} (h : EvA ta σ H vs) (hs : ∀ H1, Ex H H1 → ∀ Q : VK, (∀ p ys H2, H1 p = none → Ex H1 H2 → H2 p = some (.lst ys) → TupsAt K H2 ys rs → Q (.ref p) H2) → ∀ E, sp vs H1 Q E) : EvR K (tCall sp [] E ta) σ H rs := fun H1 e Q q =>
  h H1 e _ fun H2 e2 => by
    rw [List.append_nil]
    exact hs H2 (e.trans e2) Q (fun p ys H3 hp e3 h3 hT => q p ys H3 (fresh_back e2 hp) (e2.trans e3) h3 hT) E
theorem rgV_nat (n : Nat) : rgV 0 (n : Int) = (List.range n).map vN := by
  unfold rgV
  rw [Int.sub_zero, Int.toNat_natCast]
  apply List.map_congr_left
  intro i _
  rw [Int.zero_add]
theorem el_listR {n : Nat} (ha : Ev ta σ H (.int n)) (hn : n ≤ 100000) : EvL (tLstRg (tRg1 ta)) σ H ((List.range n).map vN) := fun H1 e Q q =>
  ha H1 e _ fun H2 e2 => ⟨n, rfl, RgOk.of_le (by omega) (by omega) (by omega) (by omega), fun p hp => q p _ (fresh_back e2 hp) (e2.trans (Ex.new hp)) (by rw [rgV_nat]; exact upd_same)⟩
theorem paired_flip {α β γ : Type} {F : β → γ → Prop} {g : α → γ} : ∀ {xs : List α} {ys : List β}, Paired (fun i y => F y (g i)) xs ys → Paired F ys (xs.map g)
  | _, _, .nil => .nil
  | _, _, .cons r t => .cons r (paired_flip t)
theorem q_asgC {te : TE} {σ : L2.St} {H : Hp} {D : Ends} {tz : TS} {i n : Nat} {f : Nat → Bool} {Φ : Nat → V → Hp → Prop} (h : EvC te σ H n f Φ) (k : ∀ p ys H1, H p = none → Ex H H1 → H1 p = some (.lst ys) → Paired (fun i y => Φ i y H1) ((List.range n).filter f) ys → tz D (σ.set i (some (.ref p))) H1) :
    tSeq (tAsg te (gName i)) tz D σ H := h H (Ex.refl H) _ k
end
end Kw
set_option Elab.async false
set_option linter.all false
set_option maxRecDepth 100000
set_option maxHeartbeats 4000000
namespace Kw
open PySem PySem.Spec PyProof.Rows L2 Evl
def topS (i : Nat) : Stmt := PySem.Challenge.pw_keyswithin_k04_lots_judged_and_broken_on.main.body.getD i (.Pass ⟨0, 0, 0, 0⟩)
end Kw
set_option Elab.async false
set_option linter.all false
set_option maxRecDepth 100000
set_option maxHeartbeats 4000000
namespace Kw
open PySem PySem.Spec PyProof.Rows L2 Evl
section
variable {K : PySem.W.Frag} {σ : L2.St} {H H' : Hp} {ta tb tc te tl : TE} {t u : TT} {x y z v : V} {r r' : R2}
theorem ew_zipL {a b : Addr} {xs ys : List V} {n : Nat} (hn : n = min xs.length ys.length) (h : Ev ta σ H (.ref a)) (hb : Ev tb σ H (.ref b)) (hx : SqL K H a xs) (hy : SqL K H b ys) : EvW (iZip K (tCons ta (tCons tb tNil))) σ H n (YPair (fun i => xs[i]?) (fun i => ys[i]?)) := fun H1 e R r =>
  h H1 e _ fun H2 e2 => hb H2 (e.trans e2) _ fun H3 e3 => ⟨a, b, xs, ys, rfl, ex_l ((e.trans e2).trans e3) hx, ex_l ((e.trans e2).trans e3) hy, r _ _ H3 (e2.trans e3) (walk_zip hn) fun H4 e4 => ⟨ex_l (((e.trans e2).trans e3).trans e4) hx, ex_l (((e.trans e2).trans e3).trans e4) hy⟩⟩
theorem ew_enumL {a : Addr} {xs : List V} (h : Ev ta σ H (.ref a)) (hx : SqL K H a xs) : EvW (iEnum K (tCons ta tNil)) σ H xs.length (YPair (fun i => some (.int (i : Nat))) (fun i => xs[i]?)) := fun H1 e R r =>
  h H1 e _ fun H2 e2 => ⟨a, xs, rfl, ex_l (e.trans e2) hx, r _ _ H2 e2 walk_enum fun H3 e3 => ex_l ((e.trans e2).trans e3) hx⟩
/-- [x, *xs] -/
theorem el_star1 {p : Addr} {xs : List V} (ha : Ev ta σ H x) (hb : Ev tb σ H (.ref p)) (h : SqL K H p xs ∨ SqT K H p xs) (hn : xs.length < 100000) : EvL (tLst (tCons ta (StX.tStar K tb tNil))) σ H (x :: xs) := fun H1 e Q q =>
  ha H1 e _ fun H2 e2 => hb H2 (e.trans e2) _ fun H3 e3 => ⟨p, xs, rfl, h.elim (fun h => .inr (ex_l ((e.trans e2).trans e3) h)) (fun h => .inl (ex_t ((e.trans e2).trans e3) h)), by
    show (x :: (xs ++ [])).length ≤ sizeLine ∧ ∀ p, H3 p = none → Q (.ref p) (upd H3 p (.lst (x :: (xs ++ []))))
    rw [List.append_nil]
    exact ⟨sz_of (by rw [List.length_cons]; omega), fun l hl => q l _ (fresh_back (e2.trans e3) hl) ((e2.trans e3).trans (Ex.new hl)) upd_same⟩⟩
theorem ev_sum {ns : List Int} (ha : EvL ta σ H (ns.map V.int)) : Ev (tCB (rSum K) (tCons ta tNil)) σ H (.int ns.sum) := fun H1 e Q q =>
  ha H1 e _ fun p H2 _ e2 h2 => ⟨p, ns, rfl, sq_of h2, q H2 e2⟩
theorem ev_sumV {p : Addr} {ns : List Int} (ha : Ev ta σ H (.ref p)) (h : SqL K H p (ns.map V.int)) : Ev (tCB (rSum K) (tCons ta tNil)) σ H (.int ns.sum) := fun H1 e Q q =>
  ha H1 e _ fun H2 e2 => ⟨p, ns, rfl, ex_l (e.trans e2) h, q H2 e2⟩
theorem nats_int (ns : List Nat) : ns.map vN = (ns.map fun (i : Nat) => (i : Int)).map V.int := by rw [List.map_map]; rfl
theorem sum_nats (ns : List Nat) : (ns.map fun (i : Nat) => (i : Int)).sum = (ns.sum : Nat) := by
  induction ns with
  | nil => rfl
  | cons a r ih => rw [List.map_cons, List.sum_cons, List.sum_cons, ih, Int.natCast_add]
/-- xs[i] of a new list -/
theorem ev_ixN {xs : List V} {i : Int} (ha : EvL ta σ H xs) (hb : Ev tb σ H (.int i)) (hv : atI xs i = some v) : Ev (tOp (rIxL K) ta tb) σ H v :=
  ev_opL1 ha (fun H1 e1 => hb.mono e1) fun p H1 hp _ => rv_ixL (sq_of hp) hv
theorem ew_rng2 {ta : TA} {a n : Nat} (h : EvA ta σ H [.int a, .int (n + a : Nat)]) (hn : n + a ≤ 100000) : EvW (iRng2 ta) σ H n (YFn fun (i : Nat) => .int ((a + i : Nat) : Int)) := fun H1 e R r => h H1 e _ fun H2 e2 => ⟨a, (n + a : Nat), rfl, ⟨by omega, by omega, by omega, by omega⟩, r _ _ H2 e2 (by
  have e : (fun i : Nat => V.int (((a : Nat) : Int) + (i : Int))) = fun (i : Nat) => V.int ((a + i : Nat) : Int) := by
    funext i
    rw [Int.natCast_add]
  rw [← e, show (((n + a : Nat) : Int) - (a : Int)).toNat = n by omega]
  exact walk_range) fun _ _ => trivial⟩
end
theorem getD_eq {α : Type} {l : List α} {i : Nat} {d x : α} (h : l[i]? = some x) : l.getD i d = x := by
  rw [List.getD_eq_getElem?_getD, h]
  rfl
theorem get_map {α : Type} {l : List α} {f : α → V} {i : Nat} {x : V} (d : α) (h : (l.map f)[i]? = some x) : x = f (l.getD i d) ∧ i < l.length ∧ l[i]? = some (l.getD i d) := by
  rw [List.getElem?_map] at h
  cases e : l[i]? with
  | none => rw [e] at h; cases h
  | some a =>
    rw [e] at h
    have hl : i < l.length := (List.getElem?_eq_some_iff.mp e).1
    rw [getD_eq e]
    exact ⟨(Option.some.inj h).symm, hl, rfl⟩
end Kw
set_option Elab.async false
set_option linter.all false
set_option maxRecDepth 100000
set_option maxHeartbeats 4000000
namespace Kw
open PySem PySem.Spec PyProof.Rows L2 Evl
/-! ### enumerate of a tuple -/
def itO (l : Addr) : Obj := { cls := .type "tuple_iterator", data := .fields #[.ref l, .int 0 0] }
def enO (i : Addr) : Obj := { cls := .type "enumerate", data := .fields #[.none, .bool false, .ref i, rawInt 0, .none, .none] }
open AutoSeq1 (wpAny_loadPart') in
theorem meets_enT (l : Addr) (xs : Array Value) (n : Nat) (dd : Option Addr) (ss : Array (Option Value)) : Meets (Builtin.«enumerate.__new__» ⟨[.type "enumerate", .ref l], []⟩)
    (fun _ R s => s.heap.get? l = some { cls := .type "tuple", dict := dd, data := .seq xs n, slots := ss } ∧ R (.ok (.ret (.ref (s.heap.push (itO l)).objs.size))) { s with heap := (s.heap.push (itO l)).push (enO s.heap.objs.size) }) := by
  refine .of_wp fun prog w A R st hyp => ?_
  obtain ⟨h0, g0, d0, t0, o0⟩ := st
  obtain ⟨ho, hR⟩ := hyp
  have sb := sub_enumerate
  have hT : Heap.IsTuple (Shared.heap ⟨h0, g0, d0, t0, o0⟩) l xs := ⟨_, ho, rfl, n, rfl⟩
  wp_walk using wpAny_loadPart' ho
  refine wpAny_stack_any fun stk => (wpAny_pure ?_)
  split
  · rename_i cc _ _ _ _ _
    cases (cc == Value.type "enumerate") <;> (wp_walk using wpAny_loadPart' ho, wpAny_pyIter_tuple hT) <;> exact ⟨_, rfl, hR⟩
  · wp_walk using wpAny_loadPart' ho, wpAny_pyIter_tuple hT
    exact (⟨_, rfl, hR⟩)
theorem call_enumT {prog : Program} {w : World} {A : Around} {E : Value → Shared → Prop} {s : Shared} {l : Addr} {xs : Array Value} {Q : Value → Shared → Prop} (hT : s.heap.IsTuple l xs)
    (h : ∀ h', IsEnum h' (s.heap.objs.size + 1) s.heap.objs.size 0 .none → h'.IsTupleIter s.heap.objs.size l 0 → (∀ b o, s.heap.get? b = some o → h'.get? b = some o) → Q (.ref (s.heap.objs.size + 1)) { s with heap := h' }) :
    wpAny (model prog w) A (call (.type "enumerate") [.ref l]) Q E s := by
  obtain ⟨⟨c, dd, dt, ss⟩, ho, hc, n, hd⟩ := hT
  cases (show c = .type "tuple" from hc)
  cases (show dt = .seq xs n from hd)
  refine callType_new F.called_enumerate (by decide) (F.typeCall_enumerate_1 _) (F.newCall_enumerate_1 _) (fun ob => F.args_object_init_2 ob _) F.entry_enumerate_new (meets_enT l xs n dd ss) ⟨ho, ?_⟩
  have z1 : (s.heap.push (itO l)).objs.size = s.heap.objs.size + 1 := Heap.size_push ..
  have he : IsEnum ((s.heap.push (itO l)).push (enO s.heap.objs.size)) (s.heap.objs.size + 1) s.heap.objs.size 0 .none := by
    have q := Heap.get?_push_size (s.heap.push (itO l)) (o := enO s.heap.objs.size) rfl
    rw [z1] at q
    exact q
  show _ ∧ _
  rw [z1]
  exact ⟨⟨_, he, rfl⟩, h _ he ⟨_, Heap.get?_push_of_some _ (Heap.get?_push_size _ rfl), rfl, rfl⟩ fun b o x => Heap.get?_push_of_some _ (Heap.get?_push_of_some _ x)⟩
/-- the tuple at a, each item in a new pair with its number -/
def IteT (K : PySem.W.Frag) (a : Addr) : It where
  go := fun i H => ∃ (xs : List V) (x : V), SqT K H a xs ∧ xs[i]? = some x
  yld := fun i H v H' => ∃ T x, v = .ref T ∧ H T = none ∧ H' = upd H T (.tup [.int (i : Nat), x]) ∧ ∀ xs, SqT K H a xs → xs[i]? = some x
  stop := fun i H => ∃ xs : List V, SqT K H a xs ∧ xs.length = i
theorem turn_enT {P : Program} {w : World} {K : PySem.W.Frag} {es : List Expr} {kk : Nat} {tp : Pos} {a e it : Addr} (n1 : e ≠ it) (n2 : a ≠ it) (n3 : e ≠ a) :
    Turn P w K (.Tuple es kk tp) (IteT K a) [e, it] e (fun i h => (∃ old, IsEnum h e it ((i : Nat) : Int) old) ∧ h.IsTupleIter it a i) where
  mem := List.mem_cons_self ..
  obj := fun i h st b hb => by
    obtain ⟨⟨old, he⟩, ⟨o, ho, _, hd⟩⟩ := st
    rcases List.mem_cons.mp hb with rfl | hb
    · exact ⟨_, he, fun v q => nomatch q⟩
    · rw [List.mem_singleton.mp hb]
      exact ⟨o, ho, fun v q => by rw [hd] at q; cases q⟩
  keep := fun i h h' st k => by
    obtain ⟨⟨old, he⟩, hi⟩ := st
    exact ⟨⟨old, k e (by simp) _ he⟩, hi.at fun o q => k it (by simp) o q⟩
  item := by
    intro X hP hw hK hc i pins s σ H E I hf st hg
    cases hP
    cases hw
    cases hK
    obtain ⟨⟨old, he⟩, hit⟩ := st
    obtain ⟨xs, x, hq, hx⟩ := hg
    obtain ⟨us, rv, p, _⟩ := I.tuple hq
    obtain ⟨u, hu, ru⟩ := rv.get hx
    have le1 : e < s.heap.objs.size := Heap.lt_size he
    have le2 : it < s.heap.objs.size := by
      obtain ⟨_, z, _⟩ := hit
      exact Heap.lt_size z
    have hlt : i < us.toArray.size := by
      have := (List.getElem?_eq_some_iff.mp hu).1
      simpa using this
    refine wpAny_pyNext_enum_itemD (Draws.tuple (A := X.A.in1) (I.ok.hd hc) it a n2 us.toArray) he ⟨hit, p⟩ hlt n1 (by simp [n1, n3]) fun y h1 tk hy ho hs hT hz hk => ?_
    have ey : y = u := by
      have : us[i]? = some y := by simpa using hy
      rw [hu] at this
      exact (Option.some.inj this).symm
    subst ey
    refine ⟨_, rfl, wpAny_letOwnedTupleGo_enum (s := { s with heap := h1, toks := tk + 1 }) ho fun h2 he2 sb => ?_⟩
    have hT2 : h2.get? s.heap.objs.size = some { cls := .type "tuple", data := .seq #[.int i tk, y] } := (sb.2 _ (Nat.ne_of_gt le1)).trans hT
    have nw : ObjOk X.prog X.w (upd H s.heap.objs.size (.tup [.int (i : Nat), x])) h2 s.heap.objs.size (.tup [.int (i : Nat), x]) := ⟨by show 2 ≤ sizeLine; decide, [.int i tk, y], .cons ⟨_, rfl⟩ (.cons ru .nil), ⟨_, hT2, rfl, _, rfl⟩⟩
    have I1 : Inv X pins σ (upd H s.heap.objs.size (.tup [.int (i : Nat), x])) { s with heap := h2, toks := tk + 1 } :=
      I.turnedNew (ch := [e, it]) (fun b ob hb q => (sb.2 b (fun z => hb (by rw [z]; simp))).trans (hk b ob (fun z => hb (by rw [z]; simp)) (fun z => hb (by rw [z]; simp)) q)) hf (Nat.le_refl _) nw
    refine ⟨.ref s.heap.objs.size, _, I1, rfl, ⟨_, x, rfl, I.hok.fresh (Nat.le_refl _), rfl, fun zs hz => by rw [I.tuple_inj hz hq]; exact hx⟩, ⟨⟨y, ?_⟩, hs.1.at fun o q => (sb.2 it (Ne.symm n1)).trans q⟩, fun b hb => ?_⟩
    · rw [show ((i + 1 : Nat) : Int) = (i : Int) + 1 by omega]
      exact he2
    · have hb' : b < s.heap.objs.size := by
        rcases List.mem_cons.mp hb with rfl | hb
        · exact le1
        · rw [List.mem_singleton.mp hb]
          exact le2
      rw [upd_ne (Nat.ne_of_lt hb')]
      exact (hf b hb).1
  done := by
    intro X hP hw hK hc i pins s σ H E I hf st hg
    cases hP
    cases hw
    cases hK
    obtain ⟨⟨old, he⟩, hit⟩ := st
    obtain ⟨xs, hq, hx⟩ := hg
    obtain ⟨us, rv, p, _⟩ := I.tuple hq
    have hz : us.toArray.size = i := by
      rw [← hx, rv.length]
      simp
    obtain ⟨f0, f1, f2, f3, f4, f5⟩ := hf it (by simp)
    exact wpAny_pyNext_enum_endD (Draws.tuple (A := X.A.in1) (I.ok.hd hc) it a n2 us.toArray) he ⟨by rw [hz]; exact hit, p⟩ fun h1 eb => ⟨rfl, I.turned (t' := s.toks) (fun b o hb q => eb b o hb q) f0 f1 f3 f4 f5⟩
  self := fun A i s Q E st h => by
    obtain ⟨⟨_, he⟩, _⟩ := st
    exact wpAny_pyIter_enum he h
def iEnT (K : PySem.W.Frag) (ta : TA) : TI := fun σ H R => ta σ H fun vs H1 => ∃ a xs, vs = [.ref a] ∧ SqT K H1 a xs ∧ R (IteT K a) H1
theorem pi_enT {X : Cx} {e : Expr} {ta : TA} {p pos tp : Pos} {es : List Expr} {kk : Nat} (hg : Gl X "enumerate") (hm : X.mg "enumerate" = none) (ha : PA X [e] ta) (hs : starEach [e] X.env = [(false, eval e X.env)] := by rfl) :
    PI X (.Tuple es kk tp) (.Call (.Name "enumerate" p) [e] [] pos) (iEnT X.K ta) := by
  refine ⟨fun pins s σ H R I h => Call_ (ld_blt I hg hm PyProof.Rows.boot_enumerate (PyProof.Rows.callWith_type1 (thn (ha.run pos pins s σ H _ I h) fun us s1 ⟨vs, H1, I1, r1, q1⟩ => ?_) hs rfl))⟩
  obtain ⟨a, xs, rfl, hq, q⟩ := q1
  cases r1 with
  | cons r rr =>
    cases rr
    cases r
    obtain ⟨us, rv, pt, _⟩ := I1.tuple hq
    obtain ⟨oa, hoa, _⟩ := id pt
    have la : a < s1.heap.objs.size := Heap.lt_size hoa
    refine call_enumT pt fun h' he hit hk => wpAny_pyIter_enum he ⟨s1.heap.objs.size + 1, [s1.heap.objs.size + 1, s1.heap.objs.size], _, _, H1, rfl, I1.kept (t' := s1.toks) hk, turn_enT (Nat.succ_ne_self _) (Nat.ne_of_lt la) (Nat.ne_of_gt (Nat.lt_succ_of_lt la)), ⟨⟨.none, he⟩, hit⟩, fun b hb => ?_, q⟩
    have hle : s1.heap.objs.size ≤ b := by
      rcases List.mem_cons.mp hb with rfl | hb
      · exact Nat.le_succ _
      · rw [List.mem_singleton.mp hb]
        exact Nat.le_refl _
    exact I1.fpOk hle (I1.hok.fresh hle)
theorem walk_enT {K : PySem.W.Frag} {a : Addr} {xs : List V} : Walk (IteT K a) xs.length (fun H => SqT K H a xs) (YPair (fun i => some (.int (i : Nat))) (fun i => xs[i]?)) where
  goes := fun i _ hi q => ⟨xs, xs[i], q, List.getElem?_eq_getElem hi⟩
  stops := fun _ q => ⟨xs, q, rfl⟩
  yields := fun i H v H' _ q y => by
    obtain ⟨T, x, h1, h2, h3, h4⟩ := y
    exact ⟨T, _, x, h1, h2, h3, rfl, h4 xs q⟩
end Kw
set_option Elab.async false
set_option linter.all false
set_option maxRecDepth 100000
set_option maxHeartbeats 4000000
namespace Kw
open PySem PySem.Spec PyProof.Rows L2 Evl
/-! ### data compared -/
def dN (ns : List Nat) : List PyData := ns.map fun (i : Nat) => PyData.int (i : Int)
def dR (rs : List (List Nat)) : List PyData := rs.map fun r => PyData.tuple (dN r)
theorem lay_dN : ∀ ns : List Nat, PyData.canLayAll0 (dN ns) = true
  | [] => by simp [dN, PyData.canLayAll0]
  | a :: r => by
    have := lay_dN r
    simp only [dN, List.map_cons, PyData.canLayAll0, PyData.canLay0, Bool.true_and] at this ⊢
    exact this
theorem depth_dN : ∀ ns : List Nat, PyData.depthAll (dN ns) ≤ 1
  | [] => by simp [dN, PyData.depthAll]
  | a :: r => by
    have := depth_dN r
    simp only [dN, List.map_cons, PyData.depthAll, PyData.depth] at this ⊢
    omega
theorem lay_dR : ∀ rs : List (List Nat), PyData.canLayAll0 (dR rs) = true
  | [] => by simp [dR, PyData.canLayAll0]
  | a :: r => by
    have := lay_dR r
    have h2 := lay_dN a
    simp only [dR, List.map_cons, PyData.canLayAll0, PyData.canLay0, Bool.and_eq_true] at this ⊢
    exact ⟨h2, this⟩
theorem depth_dR : ∀ rs : List (List Nat), PyData.depthAll (dR rs) ≤ 2
  | [] => by simp [dR, PyData.depthAll]
  | a :: r => by
    have := depth_dR r
    have h2 := depth_dN a
    simp only [dR, List.map_cons, PyData.depthAll, PyData.depth] at this ⊢
    omega
theorem shaped_lN (ns : List Nat) : SeqAt.shaped (.list (dN ns)) = true := by
  have h1 := depth_dN ns
  refine Bool.and_eq_true_iff.mpr ⟨?_, decide_eq_true ?_⟩
  · rw [PyData.canLay0]
    exact lay_dN ns
  · rw [PyData.depth]
    omega
theorem shaped_tN (ns : List Nat) : SeqAt.shaped (.tuple (dN ns)) = true := by
  have h1 := depth_dN ns
  refine Bool.and_eq_true_iff.mpr ⟨?_, decide_eq_true ?_⟩
  · rw [PyData.canLay0]
    exact lay_dN ns
  · rw [PyData.depth]
    omega
theorem shaped_lR (rs : List (List Nat)) : SeqAt.shaped (.list (dR rs)) = true := by
  have h1 := depth_dR rs
  refine Bool.and_eq_true_iff.mpr ⟨?_, decide_eq_true ?_⟩
  · rw [PyData.canLay0]
    exact lay_dR rs
  · rw [PyData.depth]
    omega
theorem eqv_dN : ∀ a b : List Nat, PyData.eqvAll (dN a) (dN b) = decide (a = b)
  | [], [] => by simp [dN, PyData.eqvAll]
  | [], _ :: _ => by simp [dN, PyData.eqvAll]
  | _ :: _, [] => by simp [dN, PyData.eqvAll]
  | x :: r, y :: t => by
    have ih := eqv_dN r t
    simp only [dN, List.map_cons, PyData.eqvAll, PyData.eqv] at ih ⊢
    rw [ih]
    by_cases h1 : x = y
    · subst h1
      by_cases h2 : r = t
      · subst h2
        simp
      · simp [h2]
    · have : ((x : Int) == (y : Int)) = false := by
        apply beq_eq_false_iff_ne.mpr
        omega
      rw [this]
      simp [h1]
theorem eqv_dR : ∀ a b : List (List Nat), PyData.eqvAll (dR a) (dR b) = decide (a = b)
  | [], [] => by simp [dR, PyData.eqvAll]
  | [], _ :: _ => by simp [dR, PyData.eqvAll]
  | _ :: _, [] => by simp [dR, PyData.eqvAll]
  | x :: r, y :: t => by
    have ih := eqv_dR r t
    have e := eqv_dN x y
    simp only [dR, List.map_cons, PyData.eqvAll, PyData.eqv] at ih ⊢
    rw [ih, e]
    by_cases h1 : x = y
    · subst h1
      by_cases h2 : r = t
      · subst h2
        simp
      · simp [h2]
    · simp [h1]
section
variable {K : PySem.W.Frag} {H H' : Hp} {σ : L2.St} {ta tb : TE}
theorem dp_nats : ∀ ns : List Nat, DpAll K H (ns.map vN) (dN ns)
  | [] => .nil
  | a :: r => .cons (.int _) (dp_nats r)
theorem dp_tups : ∀ {ys : List V} {rs : List (List Nat)}, TupsAt K H ys rs → DpAll K H ys (dR rs)
  | _, _, .nil => .nil
  | _, _, .cons h t => by
    obtain ⟨a, rfl, ha⟩ := h
    exact .cons (.tup ha (dp_nats _)) (dp_tups t)
theorem rv_eqLN {p q : Addr} {a b : List Nat} (h1 : SqL K H p (a.map vN)) (h2 : SqL K H q (b.map vN)) : RV (rEqD K) (.ref p) (.ref q) H (.bl (decide (a = b))) := fun H1 e Q k =>
  ⟨_, _, .lst (ex_l e h1) (dp_nats a), .lst (ex_l e h2) (dp_nats b), shaped_lN a, shaped_lN b, by
    rw [show PyData.eqv (.list (dN a)) (.list (dN b)) = decide (a = b) by rw [PyData.eqv, eqv_dN]]
    exact k H1 (Ex.refl H1)⟩
theorem rv_neLN {p q : Addr} {a b : List Nat} (h1 : SqL K H p (a.map vN)) (h2 : SqL K H q (b.map vN)) : RV (rNeD K) (.ref p) (.ref q) H (.bl (!decide (a = b))) := fun H1 e Q k =>
  ⟨_, _, .lst (ex_l e h1) (dp_nats a), .lst (ex_l e h2) (dp_nats b), shaped_lN a, shaped_lN b, by
    rw [show PyData.eqv (.list (dN a)) (.list (dN b)) = decide (a = b) by rw [PyData.eqv, eqv_dN]]
    exact k H1 (Ex.refl H1)⟩
theorem rv_neTN {p q : Addr} {a b : List Nat} (h1 : SqT K H p (a.map vN)) (h2 : SqT K H q (b.map vN)) : RV (rNeD K) (.ref p) (.ref q) H (.bl (!decide (a = b))) := fun H1 e Q k =>
  ⟨_, _, .tup (ex_t e h1) (dp_nats a), .tup (ex_t e h2) (dp_nats b), shaped_tN a, shaped_tN b, by
    rw [show PyData.eqv (.tuple (dN a)) (.tuple (dN b)) = decide (a = b) by rw [PyData.eqv, eqv_dN]]
    exact k H1 (Ex.refl H1)⟩
theorem rv_eqTN {p q : Addr} {a b : List Nat} (h1 : SqT K H p (a.map vN)) (h2 : SqT K H q (b.map vN)) : RV (rEqD K) (.ref p) (.ref q) H (.bl (decide (a = b))) := fun H1 e Q k =>
  ⟨_, _, .tup (ex_t e h1) (dp_nats a), .tup (ex_t e h2) (dp_nats b), shaped_tN a, shaped_tN b, by
    rw [show PyData.eqv (.tuple (dN a)) (.tuple (dN b)) = decide (a = b) by rw [PyData.eqv, eqv_dN]]
    exact k H1 (Ex.refl H1)⟩
theorem rv_neLR {p q : Addr} {ys zs : List V} {a b : List (List Nat)} (h1 : SqL K H p ys) (t1 : TupsAt K H ys a) (h2 : SqL K H q zs) (t2 : TupsAt K H zs b) : RV (rNeD K) (.ref p) (.ref q) H (.bl (!decide (a = b))) := fun H1 e Q k =>
  ⟨_, _, .lst (ex_l e h1) (dp_tups (t1.keep (KeepT.ex e))), .lst (ex_l e h2) (dp_tups (t2.keep (KeepT.ex e))), shaped_lR a, shaped_lR b, by
    rw [show PyData.eqv (.list (dR a)) (.list (dR b)) = decide (a = b) by rw [PyData.eqv, eqv_dR]]
    exact k H1 (Ex.refl H1)⟩
end
end Kw
set_option Elab.async false
set_option linter.all false
set_option maxRecDepth 100000
set_option maxHeartbeats 4000000
namespace Kw
open PySem PySem.Spec PyProof.Rows L2 Evl
/-! ### data: what stays -/
section
variable {K : PySem.W.Frag} {H H' : Hp}
mutual
theorem dp_ex (e : Ex H H') : ∀ (d : PyData) (v : V), Dp K H v d → Dp K H' v d
  | .none, _, h => by cases h; exact .non
  | .bool b, _, h => by cases h; exact .bl b
  | .int i, _, h => by cases h; exact .int i
  | .str x, _, h => by cases h; exact .str x
  | .list ds, _, h => by
    cases h with
    | lst h a => exact .lst (ex_l e h) (dpA_ex e ds _ a)
  | .tuple ds, _, h => by
    cases h with
    | tup h a => exact .tup (ex_t e h) (dpA_ex e ds _ a)
  | .dict _, _, h => by cases h
theorem dpA_ex (e : Ex H H') : ∀ (ds : List PyData) (vs : List V), DpAll K H vs ds → DpAll K H' vs ds
  | [], _, h => by cases h; exact .nil
  | d :: ds, _, h => by
    cases h with
    | cons a b => exact .cons (dp_ex e d _ a) (dpA_ex e ds _ b)
end
mutual
/-- no list within -/
def Fz : PyData → Bool
  | .none => true
  | .bool _ => true
  | .int _ => true
  | .str _ => true
  | .tuple ds => FzA ds
  | .list _ => false
  | .dict _ => false
def FzA : List PyData → Bool
  | [] => true
  | d :: ds => Fz d && FzA ds
end
mutual
theorem dp_keep (e : KeepT H H') : ∀ (d : PyData) (v : V), Fz d = true → Dp K H v d → Dp K H' v d
  | .none, _, _, h => by cases h; exact .non
  | .bool b, _, _, h => by cases h; exact .bl b
  | .int i, _, _, h => by cases h; exact .int i
  | .str x, _, _, h => by cases h; exact .str x
  | .list ds, _, f, h => by simp [Fz] at f
  | .tuple ds, _, f, h => by
    cases h with
    | tup h a => exact .tup (keep_t e h) (dpA_keep e ds _ (by simpa [Fz] using f) a)
  | .dict _, _, _, h => by cases h
theorem dpA_keep (e : KeepT H H') : ∀ (ds : List PyData) (vs : List V), FzA ds = true → DpAll K H vs ds → DpAll K H' vs ds
  | [], _, _, h => by cases h; exact .nil
  | d :: ds, _, f, h => by
    cases h with
    | cons a b =>
      simp only [FzA, Bool.and_eq_true] at f
      exact .cons (dp_keep e d _ f.1 a) (dpA_keep e ds _ f.2 b)
end
theorem dpA_paired : ∀ {vs : List V} {ds : List PyData}, DpAll K H vs ds → Paired (Dp K H) vs ds
  | _, [], h => by cases h; exact .nil
  | _, d :: ds, h => by
    cases h with
    | cons a b => exact .cons a (dpA_paired b)
theorem dpA_of : ∀ {vs : List V} {ds : List PyData}, Paired (Dp K H) vs ds → DpAll K H vs ds
  | _, _, .nil => .nil
  | _, _, .cons a b => .cons a (dpA_of b)
theorem dpA_len {vs : List V} {ds : List PyData} (h : DpAll K H vs ds) : vs.length = ds.length := paired_len (dpA_paired h)
theorem dpA_get {vs : List V} {ds : List PyData} {i : Nat} {v : V} (h : DpAll K H vs ds) (hv : vs[i]? = some v) : ∃ d, ds[i]? = some d ∧ Dp K H v d := paired_get (dpA_paired h) hv
theorem dpA_get2 {vs : List V} {ds : List PyData} {i : Nat} {d : PyData} (h : DpAll K H vs ds) (hd : ds[i]? = some d) : ∃ v, vs[i]? = some v ∧ Dp K H v d := paired_get2 (dpA_paired h) hd
theorem dpA_strs : ∀ zs : List Str, DpAll K H (zs.map V.str) (zs.map PyData.str)
  | [] => .nil
  | z :: r => .cons (.str z) (dpA_strs r)
theorem dpA_strs_inv : ∀ {vs : List V} {zs : List Str}, DpAll K H vs (zs.map PyData.str) → vs = zs.map V.str
  | _, [], h => by cases h; rfl
  | _, z :: r, h => by
    cases h with
    | cons a b =>
      cases a
      rw [dpA_strs_inv b]
      rfl
theorem dpA_nats : ∀ ns : List Nat, DpAll K H (ns.map vN) (ns.map fun (i : Nat) => PyData.int (i : Int))
  | [] => .nil
  | n :: r => .cons (.int _) (dpA_nats r)
theorem dpA_nats_inv : ∀ {vs : List V} {ns : List Nat}, DpAll K H vs (ns.map fun (i : Nat) => PyData.int (i : Int)) → vs = ns.map vN
  | _, [], h => by cases h; rfl
  | _, z :: r, h => by
    cases h with
    | cons a b =>
      cases a
      rw [dpA_nats_inv b]
      rfl
theorem dp_tup_inv {v : V} {ds : List PyData} (h : Dp K H v (.tuple ds)) : ∃ a xs, v = .ref a ∧ SqT K H a xs ∧ DpAll K H xs ds := by
  cases h with
  | tup h a => exact ⟨_, _, rfl, h, a⟩
theorem dp_lst_inv {v : V} {ds : List PyData} (h : Dp K H v (.list ds)) : ∃ a xs, v = .ref a ∧ SqL K H a xs ∧ DpAll K H xs ds := by
  cases h with
  | lst h a => exact ⟨_, _, rfl, h, a⟩
end
/-! ### its kind -/
def tyOf : PyData → String
  | .none => "NoneType"
  | .bool _ => "bool"
  | .int _ => "int"
  | .str _ => "str"
  | .list _ => "list"
  | .tuple _ => "tuple"
  | .dict _ => "dict"
section
variable {K : PySem.W.Frag} {σ : L2.St} {H H' : Hp} {ta tb tc te tl : TE} {t u : TT} {x y z v : V} {r r' : R2} {d : PyData}
theorem ty_lst {a : Addr} {xs : List V} (h : SqL K H a xs) : TyX K H (.ref a) (.type "list") := by
  rcases h with (h | ⟨o, h⟩) | ⟨o, its, n, h1, h2, _⟩
  · exact .base (.lst h)
  · exact .base (.frz h)
  · exact .kList h1 h2
theorem ty_dp (h : Dp K H v d) : TyX K H v (.type (tyOf d)) := by
  cases h with
  | non => exact .base .non
  | bl b => exact .base (.bl b)
  | int i => exact .base (.int i)
  | str x => exact .base (.str x)
  | lst h a => exact ty_lst h
  | tup h a => exact ty_tup h
theorem ev_isiD {U : String} {b : Bool} (ha : Ev ta σ H v) (hb : Ev tb σ H (.ty U)) (hd : Dp K H v d) (hk : kitB (tyOf d) U = some b) : Ev (tCB (rIsi K) (tCons ta (tCons tb tNil))) σ H (.bl b) := ev_isi ha hb (fun H1 e => ty_dp (dp_ex e _ _ hd)) hk
def isTupD : PyData → Bool
  | .tuple _ => true
  | _ => false
def isStrD : PyData → Bool
  | .str _ => true
  | _ => false
def isLstD : PyData → Bool
  | .list _ => true
  | _ => false
def isIntD : PyData → Bool
  | .int _ => true
  | _ => false
def isBolD : PyData → Bool
  | .bool _ => true
  | _ => false
theorem kit_tup (h : Dp K H v d) : kitB (tyOf d) "tuple" = some (isTupD d) := by
  cases h <;> first | exact (by decide +kernel : kitB "NoneType" "tuple" = some false) | exact (by decide +kernel : kitB "bool" "tuple" = some false) | exact (by decide +kernel : kitB "int" "tuple" = some false) | exact (by decide +kernel : kitB "str" "tuple" = some false) | exact (by decide +kernel : kitB "list" "tuple" = some false) | exact (by decide +kernel : kitB "tuple" "tuple" = some true)
theorem kit_str (h : Dp K H v d) : kitB (tyOf d) "str" = some (isStrD d) := by
  cases h <;> first | exact (by decide +kernel : kitB "NoneType" "str" = some false) | exact (by decide +kernel : kitB "bool" "str" = some false) | exact (by decide +kernel : kitB "int" "str" = some false) | exact (by decide +kernel : kitB "str" "str" = some true) | exact (by decide +kernel : kitB "list" "str" = some false) | exact (by decide +kernel : kitB "tuple" "str" = some false)
theorem kit_int (h : Dp K H v d) : kitB (tyOf d) "int" = some (isIntD d || isBolD d) := by
  cases h <;> first | exact (by decide +kernel : kitB "NoneType" "int" = some false) | exact (by decide +kernel : kitB "bool" "int" = some true) | exact (by decide +kernel : kitB "int" "int" = some true) | exact (by decide +kernel : kitB "str" "int" = some false) | exact (by decide +kernel : kitB "list" "int" = some false) | exact (by decide +kernel : kitB "tuple" "int" = some false)
theorem kit_bol (h : Dp K H v d) : kitB (tyOf d) "bool" = some (isBolD d) := by
  cases h <;> first | exact (by decide +kernel : kitB "NoneType" "bool" = some false) | exact (by decide +kernel : kitB "bool" "bool" = some true) | exact (by decide +kernel : kitB "int" "bool" = some false) | exact (by decide +kernel : kitB "str" "bool" = some false) | exact (by decide +kernel : kitB "list" "bool" = some false) | exact (by decide +kernel : kitB "tuple" "bool" = some false)
theorem kit_lst (h : Dp K H v d) : kitB (tyOf d) "list" = some (isLstD d) := by
  cases h <;> first | exact (by decide +kernel : kitB "NoneType" "list" = some false) | exact (by decide +kernel : kitB "bool" "list" = some false) | exact (by decide +kernel : kitB "int" "list" = some false) | exact (by decide +kernel : kitB "str" "list" = some false) | exact (by decide +kernel : kitB "list" "list" = some true) | exact (by decide +kernel : kitB "tuple" "list" = some false)
end
end Kw
set_option Elab.async false
set_option linter.all false
set_option maxRecDepth 100000
set_option maxHeartbeats 4000000
namespace Kw
open PySem PySem.Spec PyProof.Rows L2 Evl
/-! ### what is left of a text without its letters -/
def low (c : Nat) : Bool := decide (97 ≤ c) && decide (c ≤ 122)
def lowB (z : Str) : Bool := z.cps.toList.all low
theorem str_ext {a b : Str} (h : a.cps.toList = b.cps.toList) : a = b := by
  cases a; cases b
  congr 1
  exact Array.toList_inj.mp h
theorem str_nil (a : Str) : a = ("" : Str) ↔ a.cps.toList = [] := by
  constructor
  · rintro rfl
    rfl
  · intro h
    exact str_ext h
theorem strip_nil (goes : Nat → Bool) (x : Str) : Txt.stripBy goes true true x = ("" : Str) ↔ x.cps.toList.all goes = true := by
  have hx : x.length = x.cps.toList.length := rfl
  generalize hl : x.cps.toList = l at hx
  constructor
  · intro h
    rcases hall : l.all goes with _ | _
    · exfalso
      have htw := List.takeWhile_append_dropWhile (p := goes) (l := l)
      cases hd : l.dropWhile goes with
      | nil =>
        rw [hd, List.append_nil] at htw
        have : l.all goes = true := by
          rw [← htw]
          exact List.all_takeWhile
        rw [this] at hall
        cases hall
      | cons c r =>
        have hc : goes c = false := by
          have := List.head_dropWhile_not goes (l := l) (by rw [hd]; exact List.cons_ne_nil _ _)
          simpa [hd] using this
        have hdrop : l.drop (l.takeWhile goes).length = c :: r := by
          rw [hd] at htw
          have h3 := List.drop_left (l₁ := l.takeWhile goes) (l₂ := c :: r)
          rw [htw] at h3
          exact h3
        have hlen : l.length = (l.takeWhile goes).length + (r.length + 1) := by
          conv => lhs; rw [← htw, hd]
          rw [List.length_append, List.length_cons]
        have hrev : (((c :: r).reverse).takeWhile goes).length ≤ r.length := by
          rw [List.reverse_cons]
          rw [List.takeWhile_append]
          split
          · rw [List.takeWhile_cons_of_neg (by rw [hc]; decide), List.append_nil, List.length_reverse]
            exact Nat.le_refl _
          · have := (List.takeWhile_prefix (p := goes) (l := r.reverse)).length_le
            rw [List.length_reverse] at this
            exact this
        unfold Txt.stripBy at h
        split at h
        · rw [str_nil, hl] at h
          rw [h] at hlen
          simp at hlen
        · unfold PySem.stripped at h
          rw [str_nil] at h
          unfold PySem.Builtin.Str.strSub at h
          have h2 := congrArg List.length h
          simp only [PySem.stripLo, PySem.stripHi, if_true, hl, Array.length_toList, Array.size_extract, List.length_nil, hdrop] at h2
          rw [show x.cps.size = l.length by rw [← hl]; rfl, hx] at h2
          omega
    · rfl
  · intro hall
    have htw : l.takeWhile goes = l := by
      have h2 := List.all_eq_true.mp hall
      clear hall hl hx
      induction l with
      | nil => rfl
      | cons a r ih =>
        rw [List.takeWhile_cons_of_pos (h2 a (List.mem_cons_self ..)), ih fun b hb => h2 b (List.mem_cons_of_mem _ hb)]
    unfold Txt.stripBy
    split
    · next hs =>
      unfold PySem.stripSame PySem.stripLo at hs
      rw [hl, htw] at hs
      simp at hs
      rw [str_nil, hl]
      exact hs.1
    · rw [str_nil]
      unfold PySem.stripped PySem.Builtin.Str.strSub PySem.stripLo
      simp only [if_true, hl, htw]
      apply List.eq_nil_of_length_eq_zero
      rw [Array.length_toList, Array.size_extract]
      unfold PySem.stripHi
      rw [show x.cps.size = l.length by rw [← hl]; rfl]
      omega
theorem goes_low (c : Nat) : (Str.ofString "abcdefghijklmnopqrstuvwxyz").cps.contains c = low c := by
  have e : (Str.ofString "abcdefghijklmnopqrstuvwxyz").cps = ((List.range 26).map (97 + ·)).toArray := by decide +kernel
  rw [e]
  have h : ((List.range 26).map (97 + ·)).toArray.contains c = true ↔ low c = true := by
    rw [Array.contains_iff_mem, List.mem_toArray, List.mem_map]
    unfold low
    rw [Bool.and_eq_true, decide_eq_true_eq, decide_eq_true_eq]
    constructor
    · rintro ⟨i, hi, rfl⟩
      have := List.mem_range.mp hi
      omega
    · rintro ⟨h1, h2⟩
      exact ⟨c - 97, List.mem_range.mpr (by omega), by omega⟩
  cases h1 : ((List.range 26).map (97 + ·)).toArray.contains c <;> cases h2 : low c
  · rfl
  · rw [h.mpr h2] at h1; cases h1
  · rw [h.mp h1] at h2; cases h2
  · rfl
theorem strip_low (x : Str) : decide (V.str (Txt.stripChars x (Str.ofString "abcdefghijklmnopqrstuvwxyz")) = V.str ("" : Str)) = lowB x := by
  have h := strip_nil (Str.ofString "abcdefghijklmnopqrstuvwxyz").cps.contains x
  have e : x.cps.toList.all (Str.ofString "abcdefghijklmnopqrstuvwxyz").cps.contains = lowB x := by
    unfold lowB
    congr 1
    funext c
    exact goes_low c
  rw [e] at h
  cases hb : lowB x with
  | true => exact decide_eq_true (congrArg V.str (h.mpr hb))
  | false =>
    refine decide_eq_false fun z => ?_
    have := h.mp (V.str.inj z)
    rw [this] at hb
    cases hb
theorem joinL_nil : ∀ l : List (List Nat), TL.joinL [] l = l.flatten
  | [] => rfl
  | [p] => by simp [TL.joinL]
  | p :: q :: r => by
    show p ++ ([] ++ TL.joinL [] (q :: r)) = _
    rw [joinL_nil (q :: r)]
    rfl
theorem join_low (zs : List Str) : lowB (Txt.join ("" : Str) zs) = zs.all lowB := by
  unfold lowB
  rw [show (Txt.join ("" : Str) zs).cps.toList = (zs.map fun z => z.cps.toList).flatten from ?_]
  · rw [List.all_flatten, List.all_map]
    rfl
  · rw [TL.join_eq]
    exact (TL.tl_join ("" : Str) zs).trans (joinL_nil _)
end Kw
set_option Elab.async false
set_option linter.all false
set_option maxRecDepth 100000
set_option maxHeartbeats 4000000
namespace Kw
open PySem PySem.Spec PyProof.Rows L2 Evl
abbrev Box := List Str × List Str
abbrev House := List Box × List Str
def BoxAt (K : PySem.W.Frag) (H : Hp) (v : V) (b : Box) : Prop := ∃ a l k : Addr, v = .ref a ∧ SqT K H a [.ref l, .ref k] ∧ SqT K H l (b.1.map V.str) ∧ SqT K H k (b.2.map V.str)
def BoxesT (K : PySem.W.Frag) (H : Hp) (a : Addr) (bs : List Box) : Prop := ∃ vs, SqT K H a vs ∧ Paired (BoxAt K H) vs bs
def HouseAt (K : PySem.W.Frag) (H : Hp) (v : V) (h : House) : Prop := ∃ a b k : Addr, v = .ref a ∧ SqT K H a [.ref b, .ref k] ∧ BoxesT K H b h.1 ∧ SqT K H k (h.2.map V.str)
section
variable {K : PySem.W.Frag} {H H' : Hp}
theorem BoxAt.keep {v : V} {b : Box} (e : KeepT H H') (h : BoxAt K H v b) : BoxAt K H' v b := by
  obtain ⟨a, l, k, h1, h2, h3, h4⟩ := h
  exact ⟨a, l, k, h1, keep_t e h2, keep_t e h3, keep_t e h4⟩
theorem BoxesT.keep {a : Addr} {bs : List Box} (e : KeepT H H') (h : BoxesT K H a bs) : BoxesT K H' a bs := by
  obtain ⟨vs, h1, h2⟩ := h
  exact ⟨vs, keep_t e h1, paired_imp h2 fun _ _ h => h.keep e⟩
theorem HouseAt.keep {v : V} {h : House} (e : KeepT H H') (x : HouseAt K H v h) : HouseAt K H' v h := by
  obtain ⟨a, b, k, h1, h2, h3, h4⟩ := x
  exact ⟨a, b, k, h1, keep_t e h2, h3.keep e, keep_t e h4⟩
end
def Rising (cs : List Str) : Prop := ∀ i x y, cs[i]? = some x → cs[i + 1]? = some y → x.cps.toList < y.cps.toList
def colB (z : Str) : Bool := (decide (1 ≤ z.length) && decide (z.length ≤ 8)) && z.cps.toList.all fun c => decide (97 ≤ c) && decide (c ≤ 122)
def OkCols (cs : List Str) (m : Nat) : Prop := cs.length ≤ m ∧ (∀ c ∈ cs, colB c = true) ∧ Rising cs
def OkBox (b : Box) : Prop := OkCols b.1 3 ∧ OkCols b.2 6
def OkHouse (h : House) : Prop := 1 ≤ h.1.length ∧ h.1.length ≤ 30 ∧ (∀ b ∈ h.1, OkBox b) ∧ OkCols h.2 6
theorem colB_len {z : Str} (h : colB z = true) : z.length ≤ 8 := by
  unfold colB at h
  simp only [Bool.and_eq_true, decide_eq_true_eq] at h
  exact h.1.2
def fitsB (ls hs : List Str) : Bool := ls.all fun c => decide (c ∈ hs)
def bx (bs : List Box) (i : Nat) : Box := bs.getD i ([], [])
def keysIn (bs : List Box) (is : List Nat) : List Str := is.flatMap fun i => (bx bs i).2
def readyOf (bs : List Box) (held : List Str) (closed : List Nat) : List Nat := closed.filter fun i => fitsB (bx bs i).1 held
def less (closed ready : List Nat) : List Nat := closed.filter fun i => !decide (i ∈ ready)
def roundsF (bs : List Box) : Nat → List Str → List Nat → List (List Nat)
  | 0, _, _ => []
  | n + 1, held, closed => let r := readyOf bs held closed; if r = [] then [] else r :: roundsF bs n (held ++ keysIn bs r) (less closed r)
def roundsOf (bs : List Box) (held : List Str) (closed : List Nat) : List (List Nat) := roundsF bs (closed.length + 1) held closed
def shutOf (bs : List Box) (hand : List Str) (broken : List Nat) : List Nat :=
  less (less (List.range bs.length) broken) (roundsOf bs (hand ++ keysIn bs broken) (less (List.range bs.length) broken)).flatten
theorem less_len (c r : List Nat) : (less c r).length ≤ c.length := List.length_filter_le _ _
theorem less_lt {bs : List Box} {held : List Str} {closed : List Nat} (h : readyOf bs held closed ≠ []) : (less closed (readyOf bs held closed)).length < closed.length := by
  obtain ⟨i, hi⟩ := List.exists_mem_of_ne_nil _ h
  have hc : i ∈ closed := (List.mem_filter.mp hi).1
  unfold less
  rcases Nat.lt_or_ge (closed.filter fun i => !decide (i ∈ readyOf bs held closed)).length closed.length with h1 | h1
  · exact h1
  · have e := (List.filter_sublist (p := fun i => !decide (i ∈ readyOf bs held closed)) (l := closed)).eq_of_length_le h1
    rw [← e] at hc
    have := (List.mem_filter.mp hc).2
    rw [decide_eq_true hi] at this
    cases this
theorem roundsF_fuel (bs : List Box) : ∀ (n m : Nat) (held : List Str) (closed : List Nat), closed.length < n → closed.length < m → roundsF bs n held closed = roundsF bs m held closed
  | 0, _, _, _, h, _ => by omega
  | _, 0, _, _, _, h => by omega
  | n + 1, m + 1, held, closed, h1, h2 => by
    show (if readyOf bs held closed = [] then [] else _) = (if readyOf bs held closed = [] then [] else _)
    by_cases h : readyOf bs held closed = []
    · rw [if_pos h, if_pos h]
    · rw [if_neg h, if_neg h]
      have := less_lt h
      rw [roundsF_fuel bs n m _ _ (by omega) (by omega)]
theorem roundsOf_nil {bs : List Box} {held : List Str} {closed : List Nat} (h : readyOf bs held closed = []) : roundsOf bs held closed = [] := by
  unfold roundsOf
  show (if readyOf bs held closed = [] then [] else _) = _
  rw [if_pos h]
theorem roundsOf_cons {bs : List Box} {held : List Str} {closed : List Nat} (h : readyOf bs held closed ≠ []) :
    roundsOf bs held closed = readyOf bs held closed :: roundsOf bs (held ++ keysIn bs (readyOf bs held closed)) (less closed (readyOf bs held closed)) := by
  unfold roundsOf
  show (if readyOf bs held closed = [] then [] else _) = _
  rw [if_neg h]
  have := less_lt h
  rw [roundsF_fuel bs closed.length _ _ _ this (Nat.lt_succ_self _)]
/-- boxes, a list or a tuple of them -/
def BoxesS (K : PySem.W.Frag) (H : Hp) (a : Addr) (bs : List Box) : Prop := ∃ vs, (SqL K H a vs ∨ SqT K H a vs) ∧ Paired (BoxAt K H) vs bs
section
variable {K : PySem.W.Frag} {σ : L2.St} {H H' : Hp} {ta tb te tl : TE} {x y z v : V}
theorem BoxesS.ex {a : Addr} {bs : List Box} (e : Ex H H') (h : BoxesS K H a bs) : BoxesS K H' a bs := by
  obtain ⟨vs, h1, h2⟩ := h
  exact ⟨vs, h1.elim (fun h => .inl (ex_l e h)) (fun h => .inr (ex_t e h)), paired_imp h2 fun _ _ h => h.keep (KeepT.ex e)⟩
theorem BoxesS.of {a : Addr} {bs : List Box} (h : BoxesT K H a bs) : BoxesS K H a bs := by
  obtain ⟨vs, h1, h2⟩ := h
  exact ⟨vs, .inr h1, h2⟩
theorem bx_get {bs : List Box} {i : Nat} (h : i < bs.length) : bs[i]? = some (bx bs i) := by
  unfold bx
  rw [List.getD_eq_getElem?_getD, List.getElem?_eq_getElem h]
  rfl
/-- boxes[i][0], boxes[i][1] -/
theorem box_at {a : Addr} {bs : List Box} {i : Nat} (h : BoxesS K H a bs) (hi : i < bs.length) (ha : Ev ta σ H (.ref a)) (hb : Ev tb σ H (vN i)) :
    ∃ l k : Addr, SqT K H l ((bx bs i).1.map V.str) ∧ SqT K H k ((bx bs i).2.map V.str) ∧ Ev (tOp (rIxT K) (tOp (rIx K) ta tb) (tC (.int 0))) σ H (.ref l) ∧ Ev (tOp (rIxT K) (tOp (rIx K) ta tb) (tC (.int 1))) σ H (.ref k) := by
  obtain ⟨vs, h1, h2⟩ := h
  obtain ⟨v, hv, p, l, k, rfl, hp, hl, hk⟩ := paired_get2 h2 (bx_get hi)
  have e := ev_op ha hb (rIx_seq (K := K) h1 (atI_nat hv))
  exact ⟨l, k, hl, hk, ev_op e ev_c (rv_ixT hp at0), ev_op e ev_c (rv_ixT hp at1)⟩
theorem ev_lenB {a : Addr} {bs : List Box} (ha : Ev ta σ H (.ref a)) (h : BoxesS K H a bs) : Ev (tCB (rLenS K) (tCons ta tNil)) σ H (.int (bs.length : Int)) := by
  obtain ⟨vs, h1, h2⟩ := h
  rw [← paired_len h2]
  exact h1.elim (fun h => ev_len ha h) (fun h => ev_lenT ha h)
end
theorem keysIn_len {bs : List Box} (hb : ∀ b ∈ bs, b.2.length ≤ 6) : ∀ is : List Nat, (keysIn bs is).length ≤ 6 * is.length
  | [] => by simp [keysIn]
  | i :: r => by
    have ih := keysIn_len hb r
    have : (bx bs i).2.length ≤ 6 := by
      unfold bx
      rw [List.getD_eq_getElem?_getD]
      cases e : bs[i]? with
      | none => simp
      | some b => exact hb b (List.mem_of_getElem? e)
    unfold keysIn at ih ⊢
    rw [List.flatMap_cons, List.length_append, List.length_cons]
    omega
theorem ready_less (bs : List Box) (held : List Str) (closed : List Nat) : (readyOf bs held closed).length + (less closed (readyOf bs held closed)).length = closed.length := by
  have e : less closed (readyOf bs held closed) = closed.filter (fun i => !fitsB (bx bs i).1 held) := by
    unfold less
    apply List.filter_congr
    intro i hi
    congr 1
    cases h : fitsB (bx bs i).1 held with
    | true => exact decide_eq_true (List.mem_filter.mpr ⟨hi, h⟩)
    | false =>
      refine decide_eq_false fun z => ?_
      have := (List.mem_filter.mp z).2
      rw [h] at this
      cases this
  rw [e]
  unfold readyOf
  exact filter_both closed fun i => fitsB (bx bs i).1 held
def Few (bs : List Box) : Prop := bs.length ≤ 30 ∧ ∀ b ∈ bs, b.1.length ≤ 3 ∧ b.2.length ≤ 6
theorem Few.bx {bs : List Box} (h : Few bs) (i : Nat) : (bx bs i).1.length ≤ 3 ∧ (bx bs i).2.length ≤ 6 := by
  unfold Kw.bx
  rw [List.getD_eq_getElem?_getD]
  cases e : bs[i]? with
  | none => simp
  | some b => exact h.2 b (List.mem_of_getElem? e)
theorem flatten_rounds (bs : List Box) : ∀ (n : Nat) (held : List Str) (closed : List Nat), (roundsF bs n held closed).flatten.length ≤ closed.length
  | 0, _, _ => Nat.zero_le _
  | n + 1, held, closed => by
    show (if readyOf bs held closed = [] then [] else _).flatten.length ≤ _
    by_cases h : readyOf bs held closed = []
    · rw [if_pos h]
      exact Nat.zero_le _
    · rw [if_neg h, List.flatten_cons, List.length_append]
      have := flatten_rounds bs n (held ++ keysIn bs (readyOf bs held closed)) (less closed (readyOf bs held closed))
      have := ready_less bs held closed
      omega
theorem OkHouse.few {h : House} (o : OkHouse h) : Few h.1 := ⟨o.2.1, fun b hb => ⟨(o.2.2.1 b hb).1.1, (o.2.2.1 b hb).2.1⟩⟩
def withoutL (cs : List Str) (c : Str) : List Str := cs.filter fun x => !decide (x = c)
def fewerBs (bs : List Box) (c : Str) : List Box := bs.map fun b => (b.1, withoutL b.2 c)
def lostOf (h : House) (c : Str) : List Nat := less (shutOf (fewerBs h.1 c) (withoutL h.2 c) []) (shutOf h.1 h.2 [])
theorem withoutL_len (cs : List Str) (c : Str) : (withoutL cs c).length ≤ cs.length := List.length_filter_le _ _
theorem Few.fewer {bs : List Box} (h : Few bs) (c : Str) : Few (fewerBs bs c) := by
  refine ⟨by unfold fewerBs; rw [List.length_map]; exact h.1, fun b hb => ?_⟩
  obtain ⟨b0, h0, rfl⟩ := List.mem_map.mp hb
  have := h.2 b0 h0
  have := withoutL_len b0.2 c
  exact ⟨by show b0.1.length ≤ 3; omega, by show (withoutL b0.2 c).length ≤ 6; omega⟩
theorem shutOf_len (bs : List Box) (hand : List Str) (br : List Nat) : (shutOf bs hand br).length ≤ bs.length := by
  unfold shutOf
  have h1 := less_len (less (List.range bs.length) br) (roundsOf bs (hand ++ keysIn bs br) (less (List.range bs.length) br)).flatten
  have h2 := less_len (List.range bs.length) br
  rw [List.length_range] at h2
  omega
/-- [x for x in t if x not in u] -/
theorem el_lessT {K : PySem.W.Frag} {σ : L2.St} {H : Hp} {tl tu : TE} {a b : Addr} {j : Nat} {vs : List Nat} {xs ys : List Nat} (ha : Ev tl σ H (.ref a)) (hx : SqT K H a (xs.map vN)) (hl : xs.length ≤ 1000) (hy : SqT K H b (ys.map vN))
    (hw : ∀ x, wipe ((wipe σ vs).set j (some x)) vs = wipe σ vs ∧ ((wipe σ vs).set j (some x))[j]? = some (some x) ∧ ∀ H1, Ev tu ((wipe σ vs).set j (some x)) H1 (.ref b)) :
    EvL (tLc (iTup K tl) (gName j) (tTest (tOp (rIn K true) (tVar j) tu)) (tVar j) vs) σ H ((less xs ys).map vN) := by
  refine el_lc (ew_tup ha hx) (by rw [List.length_map]; omega) (fun i => !decide (xs.getD i 0 ∈ ys)) (fun i => vN (xs.getD i 0)) ?_ (fun i x H1 H2 Q e hi hy' k => ?_)
  · rw [List.length_map]
    exact filter_range_map xs 0 (fun i => !decide (i ∈ ys)) vN
  · obtain ⟨rfl, hx'⟩ := hy'
    have hi' : i < xs.length := by rw [List.length_map] at hi; exact hi
    have ei : xs.getD i 0 = xs[i] := by rw [List.getD_eq_getElem?_getD, List.getElem?_eq_getElem hi']; rfl
    have ex : x = vN xs[i] := by
      rw [List.getElem?_map, List.getElem?_eq_getElem hi'] at hx'
      exact (Option.some.inj hx').symm
    subst ex
    obtain ⟨w1, w2, w3⟩ := hw (vN xs[i])
    refine k _ _ (Ex.refl _) w1 ?_ fun _ => ?_
    · rw [ei, ← inV_nat]
      exact et_test (ev_op (ev_var w2) (w3 _) (rv_niT (ex_t e hy) rfl (flat_nats ys)))
    · rw [ei]
      exact ev_var w2
end Kw
set_option Elab.async false
set_option linter.all false
set_option maxRecDepth 100000
set_option maxHeartbeats 4000000
namespace Kw
open PySem PySem.Spec PyProof.Rows L2 Evl
abbrev sWho : Stmt := topS 21
theorem scWho : FnScope ["thing"] ["thing"] (defScope sWho) := ⟨rfl, rfl, rfl, by decide +kernel, rfl, by decide +kernel, by decide +kernel⟩
section
variable {P : Program} {w : World} {K : PySem.W.Frag} {mg : Str → Option Value} {base : Heap}
def spWho (K : PySem.W.Frag) : Sp := fun vs H Q _ => ∃ (x : V) (T : String) (b1 b2 : Bool), vs = [x] ∧ (∀ H1, Ex H H1 → TyX K H1 x (.type T)) ∧ kitB T "int" = some b1 ∧ kitB T "bool" = some b2 ∧ RetV (.bl (b1 && !b2)) H Q
theorem ok_who {f  : Addr} {fd  : FuncData} {k : Nat} (F : Fun K "is_whole" "is_whole" sWho f fd) (B : Bu mg) : FnOk P w K mg base CX0 (k + 1) f fd ["thing"] (spWho K) := by
  refine F.ok scWho (fun vs H Q E h => ?_) (fun cdv A outer s H vs Q E hr h => ?_)
  · obtain ⟨x, T, b1, b2, rfl, _⟩ := h
    rfl
  · obtain ⟨x, T, b1, b2, rfl, hT, h1, h2, q⟩ := h
    refine ⟨_, (pss_one (ps_ret (pe_and (pe_callB call_isi (by rfl) B.isi boot_isinstance (pa_cons (pv 0) (pa_cons (pe_bltn (v := .ty "int") (by rfl) B.int boot_int rfl) pa_nil))) (pe_one (pe_not (pe_callB call_isi (by rfl) B.isi boot_isinstance (pa_cons (pv 0) (pa_cons (pe_bltn (v := .ty "bool") (by rfl) B.bool (by decide +kernel) rfl) pa_nil)))))))), ?_⟩
    exact s_ret (v := .bl (b1 && !b2)) (ev_andV (ev_isi (K := K) (ev_var (v := x) rfl) ev_c hT h1) fun _ => ev_notV (ev_isi (K := K) (ev_var (v := x) rfl) ev_c hT h2)) (fun H1 e1 => q H1 e1)
theorem who_int {H : Hp} {i : Int} {Q : VK} {E : XK} (q : RetV (.bl true) H Q) : spWho K [.int i] H Q E := ⟨.int i, "int", true, false, rfl, fun H1 _ => .base (.int i), by decide +kernel, by decide +kernel, q⟩
theorem who_dp {H : Hp} {v : V} {d : PyData} {Q : VK} {E : XK} (h : Dp K H v d) (q : RetV (.bl (isIntD d)) H Q) : spWho K [v] H Q E := by
  refine ⟨v, tyOf d, _, _, rfl, fun H1 e => ty_dp (dp_ex e _ _ h), kit_int h, kit_bol h, ?_⟩
  have e : ((isIntD d || isBolD d) && !isBolD d) = isIntD d := by cases d <;> rfl
  rw [e]
  exact q
end
end Kw
set_option Elab.async false
set_option linter.all false
set_option maxRecDepth 100000
set_option maxHeartbeats 4000000
namespace Kw
open PySem
/-! ### which boxes open at all -/
def Closed (bs : List Box) (hand : List Str) (S : Nat → Prop) : Prop := ∀ i, i < bs.length → (∀ c ∈ (bx bs i).1, c ∈ hand ∨ ∃ j, j < bs.length ∧ S j ∧ c ∈ (bx bs j).2) → S i
def Op (bs : List Box) (hand : List Str) (i : Nat) : Prop := ∀ S : Nat → Prop, Closed bs hand S → S i
theorem Op.closed (bs : List Box) (hand : List Str) : Closed bs hand (Op bs hand) := fun i hi h S hS => hS i hi fun c hc => (h c hc).imp id fun ⟨j, h1, h2, h3⟩ => ⟨j, h1, h2 S hS, h3⟩
theorem fits_iff {ls hs : List Str} : fitsB ls hs = true ↔ ∀ c ∈ ls, c ∈ hs := by
  unfold fitsB
  rw [List.all_eq_true]
  exact ⟨fun h c hc => of_decide_eq_true (h c hc), fun h c hc => decide_eq_true (h c hc)⟩
theorem mem_keysIn {bs : List Box} {is : List Nat} {c : Str} : c ∈ keysIn bs is ↔ ∃ i ∈ is, c ∈ (bx bs i).2 := by
  unfold keysIn
  rw [List.mem_flatMap]
/-- boxes opened one behind the other -/
def Seq (bs : List Box) (hand : List Str) (op : List Nat) : Prop := ∀ i ∈ op, i < bs.length ∧ Op bs hand i
theorem Seq.fits {bs : List Box} {hand : List Str} {op : List Nat} (h : Seq bs hand op) {i : Nat} (hi : i < bs.length) (hf : fitsB (bx bs i).1 (hand ++ keysIn bs op) = true) : Op bs hand i := by
  refine Op.closed bs hand i hi fun c hc => ?_
  rcases List.mem_append.mp (fits_iff.mp hf c hc) with z | z
  · exact .inl z
  · obtain ⟨j, h1, h2⟩ := mem_keysIn.mp z
    exact .inr ⟨j, (h j h1).1, (h j h1).2, h2⟩
theorem seq_all {bs : List Box} {hand : List Str} {op : List Nat} (hmax : ∀ i, i < bs.length → i ∉ op → fitsB (bx bs i).1 (hand ++ keysIn bs op) = false) {i : Nat} (h : Op bs hand i) : i ∈ op := by
  refine h (fun j => j ∈ op) fun j hj hc => ?_
  by_cases hm : j ∈ op
  · exact hm
  · have := hmax j hj hm
    rw [show fitsB (bx bs j).1 (hand ++ keysIn bs op) = true from fits_iff.mpr fun c hc' => List.mem_append.mpr ((hc c hc').imp id fun ⟨k, _, h2, h3⟩ => mem_keysIn.mpr ⟨k, h2, h3⟩)] at this
    cases this
/-- the rounds open just these -/
theorem rounds_seq (bs : List Box) (hand : List Str) : ∀ (n : Nat) (op closed : List Nat), closed.length < n → Seq bs hand op → (∀ i ∈ closed, i < bs.length) → (∀ i, i < bs.length → i ∈ op ∨ i ∈ closed) → closed.Nodup → (∀ i ∈ op, i ∉ closed) →
    Seq bs hand (op ++ (roundsF bs n (hand ++ keysIn bs op) closed).flatten) ∧ (roundsF bs n (hand ++ keysIn bs op) closed).flatten.Nodup ∧ (∀ i ∈ (roundsF bs n (hand ++ keysIn bs op) closed).flatten, i ∈ closed) ∧
    ∀ i, i < bs.length → i ∉ op ++ (roundsF bs n (hand ++ keysIn bs op) closed).flatten → fitsB (bx bs i).1 (hand ++ keysIn bs (op ++ (roundsF bs n (hand ++ keysIn bs op) closed).flatten)) = false
  | 0, _, _, h, _, _, _, _, _ => by omega
  | n + 1, op, closed, hn, hs, hc, ha, nd, hd => by
    show Seq bs hand (op ++ (if readyOf bs (hand ++ keysIn bs op) closed = [] then [] else _).flatten) ∧ _
    by_cases h : readyOf bs (hand ++ keysIn bs op) closed = []
    · have e : roundsF bs (n + 1) (hand ++ keysIn bs op) closed = [] := if_pos h
      rw [if_pos h, e]
      refine ⟨by rw [List.flatten_nil, List.append_nil]; exact hs, List.nodup_nil, by simp, fun i hi hm => ?_⟩
      rw [List.flatten_nil, List.append_nil] at hm ⊢
      have him := (ha i hi).resolve_left hm
      cases q : fitsB (bx bs i).1 (hand ++ keysIn bs op) with
      | false => rfl
      | true =>
        have : i ∈ readyOf bs (hand ++ keysIn bs op) closed := List.mem_filter.mpr ⟨him, q⟩
        rw [h] at this
        cases this
    · have e : roundsF bs (n + 1) (hand ++ keysIn bs op) closed = readyOf bs (hand ++ keysIn bs op) closed :: roundsF bs n ((hand ++ keysIn bs op) ++ keysIn bs (readyOf bs (hand ++ keysIn bs op) closed)) (less closed (readyOf bs (hand ++ keysIn bs op) closed)) := if_neg h
      have hlt := less_lt h
      rw [if_neg h, e]
      generalize hr : readyOf bs (hand ++ keysIn bs op) closed = r at *
      have ek : (hand ++ keysIn bs op) ++ keysIn bs r = hand ++ keysIn bs (op ++ r) := by
        unfold keysIn
        rw [List.flatMap_append, List.append_assoc]
      have hrm : ∀ i ∈ r, i ∈ closed ∧ fitsB (bx bs i).1 (hand ++ keysIn bs op) = true := fun i hi => by
        rw [← hr] at hi
        exact List.mem_filter.mp hi
      have hs2 : Seq bs hand (op ++ r) := fun i hi => by
        rcases List.mem_append.mp hi with z | z
        · exact hs i z
        · exact ⟨hc i (hrm i z).1, hs.fits (hc i (hrm i z).1) (hrm i z).2⟩
      have ih := rounds_seq bs hand n (op ++ r) (less closed r) (by omega) hs2 (fun i hi => hc i (List.mem_filter.mp hi).1) (fun i hi => by
        by_cases hm : i ∈ r
        · exact .inl (List.mem_append.mpr (.inr hm))
        · rcases ha i hi with z | z
          · exact .inl (List.mem_append.mpr (.inl z))
          · exact .inr (List.mem_filter.mpr ⟨z, by simp [hm]⟩)) (nd.filter _) (fun i hi hm => by
        have hm2 := List.mem_filter.mp hm
        rcases List.mem_append.mp hi with z | z
        · exact hd i z hm2.1
        · simp [z] at hm2)
      rw [← ek] at ih
      rw [List.flatten_cons, ← List.append_assoc]
      obtain ⟨i1, i2, i3, i4⟩ := ih
      refine ⟨i1, ?_, fun i hi => ?_, i4⟩
      · refine List.nodup_append.mpr ⟨?_, i2, fun a ha' b hb hab => ?_⟩
        · rw [← hr]
          exact nd.filter _
        · have := List.mem_filter.mp (i3 b hb)
          rw [← hab] at this
          simp [ha'] at this
      · rcases List.mem_append.mp hi with z | z
        · exact (hrm i z).1
        · exact (List.mem_filter.mp (i3 i z)).1
theorem less_nil (l : List Nat) : less l [] = l := List.filter_eq_self.mpr fun _ _ => rfl
def openedOf (bs : List Box) (hand : List Str) : List Nat := (roundsOf bs hand (List.range bs.length)).flatten
theorem opened_facts (bs : List Box) (hand : List Str) : Seq bs hand (openedOf bs hand) ∧ (openedOf bs hand).Nodup ∧ ∀ i, i < bs.length → i ∉ openedOf bs hand → fitsB (bx bs i).1 (hand ++ keysIn bs (openedOf bs hand)) = false := by
  have h := rounds_seq bs hand ((List.range bs.length).length + 1) [] (List.range bs.length) (Nat.lt_succ_self _) (by intro i hi; cases hi) (fun i hi => List.mem_range.mp hi) (fun i hi => .inr (List.mem_range.mpr hi)) List.nodup_range (by intro i hi; cases hi)
  have e : hand ++ keysIn bs [] = hand := List.append_nil _
  rw [e, List.nil_append] at h
  exact ⟨h.1, h.2.1, h.2.2.2⟩
theorem mem_opened {bs : List Box} {hand : List Str} {i : Nat} : i ∈ openedOf bs hand ↔ Op bs hand i := ⟨fun h => ((opened_facts bs hand).1 i h).2, fun h => seq_all (opened_facts bs hand).2.2 h⟩
theorem shut_eq (bs : List Box) (hand : List Str) : shutOf bs hand [] = less (List.range bs.length) (openedOf bs hand) := by
  unfold shutOf openedOf
  have e : hand ++ keysIn bs [] = hand := List.append_nil _
  rw [less_nil, e]
theorem mem_shut {bs : List Box} {hand : List Str} {i : Nat} : i ∈ shutOf bs hand [] ↔ i < bs.length ∧ ¬ Op bs hand i := by
  rw [shut_eq]
  unfold less
  rw [List.mem_filter, List.mem_range]
  constructor
  · rintro ⟨h1, h2⟩
    refine ⟨h1, fun z => ?_⟩
    rw [decide_eq_true (mem_opened.mpr z)] at h2
    cases h2
  · rintro ⟨h1, h2⟩
    exact ⟨h1, by rw [decide_eq_false (fun z => h2 (mem_opened.mp z))]; rfl⟩
/-- whoever opens boxes one by one till none can be opened has opened just these -/
theorem less_same {bs : List Box} {hand : List Str} {op : List Nat} (hs : Seq bs hand op) (hmax : ∀ i, i < bs.length → i ∉ op → fitsB (bx bs i).1 (hand ++ keysIn bs op) = false) : less (List.range bs.length) op = shutOf bs hand [] := by
  rw [shut_eq]
  unfold less
  apply List.filter_congr
  intro i _
  have : i ∈ op ↔ i ∈ openedOf bs hand := ⟨fun h => mem_opened.mpr (hs i h).2, fun h => seq_all hmax (mem_opened.mp h)⟩
  by_cases h : i ∈ op
  · rw [decide_eq_true h, decide_eq_true (this.mp h)]
  · rw [decide_eq_false h, decide_eq_false fun z => h (this.mpr z)]
/-- one key more, a lock fewer: nothing is shut by it -/
theorem Op.mono {bs bs2 : List Box} {hand hand2 : List Str} (hl : bs2.length = bs.length) (hh : ∀ c ∈ hand, c ∈ hand2) (hk : ∀ i, (∀ c ∈ (bx bs2 i).1, c ∈ (bx bs i).1) ∧ ∀ c ∈ (bx bs i).2, c ∈ (bx bs2 i).2) {i : Nat} (h : Op bs hand i) : Op bs2 hand2 i := by
  intro S hS
  refine h S fun j hj hc => hS j (by omega) fun c hc2 => ?_
  exact (hc c ((hk j).1 c hc2)).imp (hh c) fun ⟨k, h1, h2, h3⟩ => ⟨k, by omega, h2, (hk k).2 c h3⟩
theorem shut_mono {bs bs2 : List Box} {hand hand2 : List Str} (hl : bs2.length = bs.length) (hh : ∀ c ∈ hand, c ∈ hand2) (hk : ∀ i, (∀ c ∈ (bx bs2 i).1, c ∈ (bx bs i).1) ∧ ∀ c ∈ (bx bs i).2, c ∈ (bx bs2 i).2) : less (shutOf bs2 hand2 []) (shutOf bs hand []) = [] := by
  unfold less
  rw [List.filter_eq_nil_iff]
  intro i hi
  have h1 := mem_shut.mp hi
  have : i ∈ shutOf bs hand [] := mem_shut.mpr ⟨by omega, fun z => h1.2 (Op.mono hl hh hk z)⟩
  simp [this]
/-- what stays shut is a lot that is kept shut -/
def keptB (bs : List Box) (hand : List Str) (lot : List Nat) : Bool := !(lot.any fun i => fitsB (bx bs i).1 (hand ++ keysIn bs (less (List.range bs.length) lot)))
theorem shut_kept (bs : List Box) (hand : List Str) : keptB bs hand (shutOf bs hand []) = true := by
  unfold keptB
  rw [Bool.not_eq_true', List.any_eq_false]
  intro i hi hf
  have h1 := mem_shut.mp hi
  refine h1.2 (Op.closed bs hand i h1.1 fun c hc => ?_)
  rcases List.mem_append.mp (fits_iff.mp hf c hc) with z | z
  · exact .inl z
  · obtain ⟨j, h2, h3⟩ := mem_keysIn.mp z
    have h4 := List.mem_filter.mp h2
    have hj := List.mem_range.mp h4.1
    refine .inr ⟨j, hj, ?_, h3⟩
    have hns : j ∉ shutOf bs hand [] := fun y => by
      have := h4.2
      rw [decide_eq_true y] at this
      cases this
    exact Classical.byContradiction fun y => hns (mem_shut.mpr ⟨hj, y⟩)
theorem sorted_unique : ∀ {l m : List Int}, l.Perm m → l.Pairwise (· ≤ ·) → m.Pairwise (· ≤ ·) → l = m := by
  intro l m p h1 h2
  exact p.eq_of_pairwise (fun a b _ _ x y => Int.le_antisymm x y) h1 h2
theorem opened_still (bs : List Box) (hand : List Str) : (openedOf bs hand ++ shutOf bs hand []).Perm (List.range bs.length) := by
  rw [shut_eq]
  have nd := (opened_facts bs hand).2.1
  have hs := (opened_facts bs hand).1
  refine (List.perm_ext_iff_of_nodup ?_ List.nodup_range).mpr fun i => ?_
  · refine List.nodup_append.mpr ⟨nd, List.nodup_range.filter _, fun a ha b hb hab => ?_⟩
    have := (List.mem_filter.mp hb).2
    rw [← hab] at this
    rw [decide_eq_true ha] at this
    cases this
  · rw [List.mem_append, List.mem_range]
    constructor
    · rintro (h | h)
      · exact (hs i h).1
      · exact List.mem_range.mp (List.mem_filter.mp h).1
    · intro h
      by_cases hm : i ∈ openedOf bs hand
      · exact .inl hm
      · exact .inr (List.mem_filter.mpr ⟨List.mem_range.mpr h, by rw [decide_eq_false hm]; rfl⟩)
end Kw
set_option Elab.async false
set_option linter.all false
set_option maxRecDepth 100000
set_option maxHeartbeats 4000000
namespace Kw
open PySem PySem.Spec PyProof.Rows L2 Evl
abbrev sPair : Stmt := topS 22
theorem scPair : FnScope ["thing"] ["thing"] (defScope sPair) := ⟨rfl, rfl, rfl, by decide +kernel, rfl, by decide +kernel, by decide +kernel⟩
abbrev sCols : Stmt := topS 23
theorem scCols : FnScope ["thing", "most", "before", "part"] ["thing", "most"] (defScope sCols) := ⟨rfl, rfl, rfl, by decide +kernel, rfl, by decide +kernel, by decide +kernel⟩
abbrev sBox : Stmt := topS 29
theorem scBox : FnScope ["thing"] ["thing"] (defScope sBox) := ⟨rfl, rfl, rfl, by decide +kernel, rfl, by decide +kernel, by decide +kernel⟩
abbrev sIsH : Stmt := topS 30
theorem scIsH : FnScope ["thing", "boxes", "hand", "box"] ["thing"] (defScope sIsH) := ⟨rfl, rfl, rfl, by decide +kernel, rfl, by decide +kernel, by decide +kernel⟩
abbrev sChk : Stmt := topS 31
theorem scChk : FnScope ["house"] ["house"] (defScope sChk) := ⟨rfl, rfl, rfl, by decide +kernel, rfl, by decide +kernel, by decide +kernel⟩
/-! ### what a reading tells of data -/
mutual
/-- no long text within -/
def StB : PyData → Bool
  | .none => true
  | .bool _ => true
  | .int _ => true
  | .str z => decide (z.length ≤ 1000)
  | .tuple ds => StBA ds
  | .list ds => StBA ds
  | .dict _ => false
def StBA : List PyData → Bool
  | [] => true
  | d :: ds => StB d && StBA ds
end
theorem stBA_mem : ∀ {ds : List PyData} {d : PyData}, StBA ds = true → d ∈ ds → StB d = true
  | [], _, _, h => by cases h
  | a :: r, d, h, hm => by
    simp only [StBA, Bool.and_eq_true] at h
    rcases List.mem_cons.mp hm with rfl | hm
    · exact h.1
    · exact stBA_mem h.2 hm
theorem stBA_of : ∀ {ds : List PyData}, (∀ d ∈ ds, StB d = true) → StBA ds = true
  | [], _ => by simp [StBA]
  | a :: r, h => by
    simp only [StBA, Bool.and_eq_true]
    exact ⟨h a (List.mem_cons_self ..), stBA_of fun d hd => h d (List.mem_cons_of_mem _ hd)⟩
def risD : Str → List PyData → Bool
  | _, [] => true
  | b, .str z :: r => (decide (b.cps.toList < z.cps.toList) && decide (z.length ≤ 8)) && risD z r
  | _, _ :: _ => false
def lowD : PyData → Bool
  | .str z => lowB z
  | _ => false
def pairD : PyData → Bool
  | .tuple [_, _] => true
  | _ => false
def colsD (m : Nat) : PyData → Bool
  | .tuple ds => decide (ds.length ≤ m) && (risD "" ds && ds.all lowD)
  | _ => false
def boxD : PyData → Bool
  | .tuple [l, k] => colsD 3 l && colsD 6 k
  | _ => false
def houseD : PyData → Bool
  | .tuple [.tuple bs, h] => (decide (1 ≤ bs.length) && decide (bs.length ≤ 30)) && (bs.all boxD && colsD 6 h)
  | _ => false
section
variable {K : PySem.W.Frag} {σ : L2.St} {H H' : Hp} {ta tb tc te tl : TE} {t u : TT} {x y z v : V} {r r' : R2}
theorem ev_lenStr {z : Str} (ha : Ev ta σ H (.str z)) (hz : z.length ≤ 100000) : Ev (tCB (fun xs H Q => ∃ a, xs = [.str a] ∧ a.length ≤ sizeLine ∧ Q (.int a.length) H) (tCons ta tNil)) σ H (.int (z.length : Int)) := fun H1 e Q q =>
  ha H1 e _ fun H2 e2 => ⟨z, rfl, sz_of hz, q H2 e2⟩
theorem rv_leS {a b : Str} : RV (fun x y H Q => ∃ i j, x = .str i ∧ y = .str j ∧ Q (.bl (!decide (j.cps.toList < i.cps.toList))) H) (.str a) (.str b) H (.bl (!decide (b.cps.toList < a.cps.toList))) := fun H1 _ Q q => ⟨a, b, rfl, rfl, q H1 (Ex.refl H1)⟩
end
section
variable {P : Program} {w : World} {K : PySem.W.Frag} {mg : Str → Option Value} {base : Heap}
def spPair (K : PySem.W.Frag) : Sp := fun vs H Q _ => ∃ (v : V) (d : PyData), vs = [v] ∧ Dp K H v d ∧ RetV (.bl (pairD d)) H Q
theorem pairD_not {d : PyData} (h : isTupD d = false) : pairD d = false := by
  cases d <;> first | rfl | cases h
theorem pairD_tup (ds : List PyData) : pairD (.tuple ds) = decide (ds.length = 2) := by
  match ds with
  | [] => rfl
  | [_] => rfl
  | [_, _] => rfl
  | _ :: _ :: _ :: r => exact (decide_eq_false (by simp)).symm
theorem ok_pair {f  : Addr} {fd  : FuncData} {k : Nat} (F : Fun K "is_pair" "is_pair" sPair f fd) (B : Bu mg) : FnOk P w K mg base CX0 (k + 1) f fd ["thing"] (spPair K) := by
  refine F.ok scPair (fun vs H Q E h => ?_) (fun cdv A outer s H vs Q E hr h => ?_)
  · obtain ⟨v, d, rfl, _⟩ := h
    rfl
  · obtain ⟨v, d, rfl, hd, q⟩ := h
    refine ⟨_, (pss_one (ps_ret (pe_and (pe_callB call_isi (by rfl) B.isi boot_isinstance (pa_cons (pv 0) (pa_cons (pe_bltn (v := .ty "tuple") (by rfl) B.tup boot_tuple rfl) pa_nil))) (pe_one (pe_cmpR op_eq (pe_callB call_len_seq (by rfl) B.len PySem.boot_len (pa_cons (pv 0) pa_nil)) pe_int (nomark _)))))), ?_⟩
    refine s_ret (v := .bl (pairD d)) (ev_is (ev_andV (a := isTupD d) (b := pairD d) (ev_isiD (K := K) (ev_var (v := v) rfl) ev_c hd (kit_tup hd)) fun ht => ?_) ?_) (fun H1 e1 => q H1 e1)
    · cases d <;> first | cases ht | skip
      obtain ⟨a, xs, rfl, hS, hA⟩ := dp_tup_inv hd
      refine ev_is (ev_op (ev_lenT (K := K) (ev_var (v := .ref a) rfl) hS) ev_c (rv_eq rfl)) ?_
      rw [pairD_tup, ← dpA_len hA]
      congr 1
      by_cases h : xs.length = 2
      · rw [decide_eq_true h, decide_eq_true (by rw [h]; rfl)]
      · rw [decide_eq_false h, decide_eq_false (fun z => h (by have := V.int.inj z; omega))]
    · cases ht : isTupD d with
      | true => rfl
      | false => rw [pairD_not ht]; rfl
/-! ### is_colours -/
def spCols (K : PySem.W.Frag) : Sp := fun vs H Q _ => ∃ (v : V) (d : PyData) (m : Nat), vs = [v, .int m] ∧ Dp K H v d ∧ StB d = true ∧ m ≤ 100 ∧ RetV (.bl (colsD m d)) H Q
theorem colsD_not {d : PyData} {m : Nat} (h : isTupD d = false) : colsD m d = false := by
  cases d <;> first | rfl | cases h
theorem strs_of_ris : ∀ {ds : List PyData} {b : Str}, risD b ds = true → ∃ zs : List Str, ds = zs.map PyData.str ∧ ∀ z ∈ zs, z.length ≤ 8
  | [], _, _ => ⟨[], rfl, by simp⟩
  | .str z :: r, b, h => by
    simp only [risD, Bool.and_eq_true, decide_eq_true_eq] at h
    obtain ⟨zs, e, hz⟩ := strs_of_ris h.2
    exact ⟨z :: zs, by rw [e]; rfl, fun y hy => by
      rcases List.mem_cons.mp hy with rfl | hy
      · exact h.1.2
      · exact hz y hy⟩
  | .none :: _, _, h => by simp [risD] at h
  | .bool _ :: _, _, h => by simp [risD] at h
  | .int _ :: _, _, h => by simp [risD] at h
  | .list _ :: _, _, h => by simp [risD] at h
  | .tuple _ :: _, _, h => by simp [risD] at h
  | .dict _ :: _, _, h => by simp [risD] at h
theorem lowD_strs (zs : List Str) : (zs.map PyData.str).all lowD = zs.all lowB := by
  rw [List.all_map]
  rfl
theorem sum_len8 : ∀ {zs : List Str}, (∀ z ∈ zs, z.length ≤ 8) → (zs.map (·.length)).sum ≤ 8 * zs.length
  | [], _ => by simp
  | z :: r, h => by
    have h1 := h z (List.mem_cons_self ..)
    have h2 := sum_len8 fun y hy => h y (List.mem_cons_of_mem _ hy)
    rw [List.map_cons, List.sum_cons, List.length_cons]
    omega
theorem join_len (zs : List Str) : (Txt.join ("" : Str) zs).length = (zs.map (·.length)).sum := by
  show (Txt.join ("" : Str) zs).cps.size = _
  rw [← Array.length_toList, show (Txt.join ("" : Str) zs).cps.toList = (zs.map fun z => z.cps.toList).flatten from by
    rw [TL.join_eq]
    exact (TL.tl_join ("" : Str) zs).trans (joinL_nil _), List.length_flatten, List.map_map]
  rfl
theorem ok_cols {f  : Addr} {fd  : FuncData} {k : Nat} (F : Fun K "is_colours" "is_colours" sCols f fd) (B : Bu mg) {t8 tl : Tok} (m_MOST_LETTERS : mg "MOST_LETTERS" = some (.int 8 t8)) (m_SMALL_LETTERS : mg "SMALL_LETTERS" = some (.str "abcdefghijklmnopqrstuvwxyz" tl)) : FnOk P w K mg base CX0 (k + 1) f fd ["thing", "most"] (spCols K) := by
  refine F.ok scCols (fun vs H Q E h => ?_) (fun cdv A outer s H vs Q E hr h => ?_)
  · obtain ⟨v, d, m, rfl, _⟩ := h
    rfl
  · obtain ⟨v, d, m, rfl, hd, hst, hm, q⟩ := h
    refine ⟨_, (pss_cons (ps_if (PW.pt (pw_or (pt_not (pt_val (pe_callB call_isi (by rfl) B.isi boot_isinstance (pa_cons (pv 0) (pa_cons (pe_bltn (v := .ty "tuple") (by rfl) B.tup boot_tuple rfl) pa_nil))))) (pw_or1 (pt_cmpR op_gt (pe_callB call_len_seq (by rfl) B.len PySem.boot_len (pa_cons (pv 0) pa_nil)) (pv 1) (nomark _))))) (pss_one (ps_ret pe_bl)) pss_nil)
      (pss_cons (ps_set (i := 2) scCols.nd rfl (.inl rfl) pe_str)
      (pss_cons (ps_for PassesOwn.never rfl (pi_tup (pv 0)) (pg_name (i := 3) scCols.nd rfl (.inl rfl))
      (pss_cons (ps_if (PW.pt (pw_or (pt_not (pt_val (pe_callB call_isi (by rfl) B.isi boot_isinstance (pa_cons (pv 3) (pa_cons (pe_bltn (v := .ty "str") (by rfl) B.str boot_str rfl) pa_nil))))) (pw_or (pt_cmpR op_le_str (pv 3) (pv 2) (nomark _)) (pw_or1 (pt_cmpR op_gt (pe_callB call_len_str (by rfl) B.len PySem.boot_len (pa_cons (pv 3) pa_nil)) (pe_glob (v := .int 8) (by rfl) m_MOST_LETTERS ⟨_, rfl⟩) (nomark _)))))) (pss_one (ps_ret pe_bl)) pss_nil)
      (pss_one (ps_set (i := 2) scCols.nd rfl (.inl rfl) (pv 3)))))
      (pss_one (ps_ret (pe_cmpR op_eq (pe_bm PySem.F.plainAttrs_str PySem.F.slot_str_strip PySem.F.type_str_strip mt_stripChars (pe_join pe_str (pv 0)) (pa_cons (pe_glob (v := .str "abcdefghijklmnopqrstuvwxyz") (by rfl) m_SMALL_LETTERS ⟨_, rfl⟩) pa_nil)) pe_str (nomark _))))))), ?_⟩
    cases ht : isTupD d with
    | false =>
      rw [colsD_not ht] at q
      exact q_when (b := true) (et_is (et_or (b := true) (et_not (et_B (ev_isiD (K := K) (ev_var (v := v) rfl) ev_c hd (kit_tup hd)))) fun h => absurd h (by rw [ht]; decide)) (by rw [ht]; rfl)) (fun _ H1 e1 => q H1 e1) (fun hb => absurd hb (by decide))
    | true =>
      cases d <;> first | cases ht | skip
      rename_i ds
      obtain ⟨a, xs, rfl, hS, hA⟩ := dp_tup_inv hd
      have hlen := dpA_len hA
      have hstA : StBA ds = true := by simpa [StB] using hst
      refine q_when (b := !decide (ds.length ≤ m)) (et_is (et_or (et_not (et_B (ev_isiD (K := K) (ev_var (v := .ref a) rfl) ev_c hd (kit_tup hd)))) fun _ => et_test (ev_op (ev_lenT (K := K) (ev_var (v := .ref a) rfl) hS) (ev_var (v := .int m) rfl) rv_gt)) ?_) (fun hb H1 e1 => ?_) (fun hb H1 e1 => ?_)
      · show (!true || decide ((m : Int) < (xs.length : Nat))) = _
        rw [hlen]
        by_cases h : ds.length ≤ m
        · rw [decide_eq_true h, decide_eq_false (by omega)]; rfl
        · rw [decide_eq_false h, decide_eq_true (by omega)]; rfl
      · have e : colsD m (.tuple ds) = false := by
          show (decide (ds.length ≤ m) && _) = false
          rw [Bool.not_eq_true'] at hb
          rw [hb]
          rfl
        rw [e] at q
        exact q H1 e1
      · have hle : ds.length ≤ m := by
          by_cases h : ds.length ≤ m
          · exact h
          · rw [decide_eq_false h] at hb; cases hb
        have e : colsD m (.tuple ds) = (risD "" ds && ds.all lowD) := by
          show (decide (ds.length ≤ m) && _) = _
          rw [decide_eq_true hle]
          rfl
        rw [e] at q
        refine q_asg (v := .str "") ev_c fun H2 e2 => ?_
        refine q_forT (K := K) (a := a) (xs := xs) (ev_var (v := .ref a) rfl) (ex_t (e1.trans e2) hS) (fun i σ' H' => Ex H H' ∧ ∃ b y, σ' = [some (.ref a), some (.int m), some (.str b), y] ∧ risD "" ds = risD b (ds.drop i)) (fun H3 e3 => ⟨(e1.trans e2).trans e3, "", none, rfl, rfl⟩) (fun i σ' H' _ hP => ex_t hP.1 hS) (fun i x σ' H' hx hP => ?_) (fun σ' H' hP => ?_)
        · obtain ⟨eH, b, y, rfl, hris⟩ := hP
          obtain ⟨dx, hdx, hDx⟩ := dpA_get hA hx
          have hdx' : ds.drop i = dx :: ds.drop (i + 1) := (List.getElem?_eq_some_iff.mp hdx).choose_spec ▸ List.drop_eq_getElem_cons _
          have hDx' := dp_ex eH _ _ hDx
          rw [hdx'] at hris
          show tIfS _ _ _ _ [some (.ref a), some (.int m), some (.str b), some x] H'
          cases hs : isStrD dx with
          | false =>
            have hf : risD "" ds = false := by
              rw [hris]
              cases dx <;> first | rfl | cases hs
            rw [hf] at q
            exact s_when (b := true) (et_is (et_or (b := true) (et_not (et_B (ev_isiD (K := K) (ev_var (v := x) rfl) ev_c hDx' (kit_str hDx')))) fun h => absurd h (by rw [hs]; decide)) (by rw [hs]; rfl)) (fun _ H3 e3 => q H3 (eH.trans e3)) (fun hb => absurd hb (by decide))
          | true =>
            cases dx <;> first | cases hs | skip
            rename_i z
            cases hDx
            have hzl : z.length ≤ 1000 := by
              have := stBA_mem hstA (List.mem_of_getElem? hdx)
              simpa [StB] using this
            refine s_when (b := !(decide (b.cps.toList < z.cps.toList) && decide (z.length ≤ 8))) (et_is (et_or (et_not (et_B (ev_isiD (K := K) (ev_var (v := .str z) rfl) ev_c hDx' (kit_str hDx')))) fun _ => et_or (et_test (ev_op (ev_var (v := .str z) rfl) (ev_var (v := .str b) rfl) rv_leS)) fun _ => et_test (ev_op (ev_lenStr (ev_var (v := .str z) rfl) (by omega)) ev_c rv_gt)) ?_) (fun hb H3 e3 => ?_) (fun hb H3 e3 => ?_)
            · show (!true || (!decide (b.cps.toList < z.cps.toList) || decide ((8 : Int) < z.length))) = _
              have a2 : decide ((8 : Int) < z.length) = !decide (z.length ≤ 8) := by
                by_cases h : z.length ≤ 8
                · rw [decide_eq_true h, decide_eq_false (by omega)]; rfl
                · rw [decide_eq_false h, decide_eq_true (by omega)]; rfl
              rw [a2]
              cases decide (b.cps.toList < z.cps.toList) <;> cases decide (z.length ≤ 8) <;> rfl
            · have hf : risD "" ds = false := by
                rw [hris]
                show ((decide (b.cps.toList < z.cps.toList) && decide (z.length ≤ 8)) && _) = false
                rw [Bool.not_eq_true'] at hb
                rw [hb]
                rfl
              rw [hf] at q
              exact q H3 (eH.trans e3)
            · refine s_asg (v := .str z) (ev_var rfl) fun H4 e4 => ⟨(eH.trans e3).trans e4, z, _, rfl, ?_⟩
              rw [hris]
              show ((decide (b.cps.toList < z.cps.toList) && decide (z.length ≤ 8)) && _) = _
              rw [Bool.not_eq_false'] at hb
              rw [hb]
              rfl
        · obtain ⟨eH, b, y, rfl, hris⟩ := hP
          rw [List.drop_eq_nil_of_le (by omega)] at hris
          have hris : risD "" ds = true := hris
          obtain ⟨zs, rfl, hz8⟩ := strs_of_ris hris
          rw [hris, lowD_strs, Bool.true_and, ← join_low, ← strip_low] at q
          have hxs := dpA_strs_inv hA
          subst hxs
          have hsum := sum_len8 hz8
          rw [List.length_map] at hlen hle
          refine ⟨⟨_, rfl⟩, .ref a, rfl, "", a, zs, rfl, rfl, .inr (ex_t eH hS), ?_, rfl, _, _, rfl, rfl, sz_of ?_, rfl, ?_⟩
          · show _ + zs.length * 0 ≤ _
            omega
          · rw [join_len]
            omega
          · exact q H' eH
/-! ### is_box -/
def spBox (K : PySem.W.Frag) : Sp := fun vs H Q _ => ∃ (v : V) (d : PyData), vs = [v] ∧ Dp K H v d ∧ StB d = true ∧ RetV (.bl (boxD d)) H Q
theorem boxD_not {d : PyData} (h : pairD d = false) : boxD d = false := by
  unfold boxD
  split
  · cases h
  · rfl
theorem houseD_not {d : PyData} (h : pairD d = false) : houseD d = false := by
  unfold houseD
  split
  · cases h
  · rfl
theorem pairD_inv {d : PyData} (h : pairD d = true) : ∃ a b, d = .tuple [a, b] := by
  unfold pairD at h
  split at h
  · exact ⟨_, _, rfl⟩
  · cases h
theorem ok_box {f fPair fCols : Addr} {fd fdPair fdCols : FuncData} {k : Nat} (F : Fun K "is_box" "is_box" sBox f fd) (DPair : Df K mg "is_pair" sPair ["thing"] fPair fdPair) (DCols : Df K mg "is_colours" sCols ["thing", "most"] fCols fdCols) (GPair : FnOk P w K mg base CX0 (k + 1) fPair fdPair ["thing"] (spPair K)) (GCols : FnOk P w K mg base CX0 (k + 1) fCols fdCols ["thing", "most"] (spCols K)) {t3 t6 : Tok} (m_MOST_LOCKS : mg "MOST_LOCKS" = some (.int 3 t3)) (m_MOST_KEYS : mg "MOST_KEYS" = some (.int 6 t6)) : FnOk P w K mg base CX0 (k + 2) f fd ["thing"] (spBox K) := by
  refine F.ok scBox (fun vs H Q E h => ?_) (fun cdv A outer s H vs Q E hr h => ?_)
  · obtain ⟨v, d, rfl, _⟩ := h
    rfl
  · obtain ⟨v, d, rfl, hd, hst, q⟩ := h
    refine ⟨_, (pss_one (ps_ret (pe_and (pcall DPair GPair (hr.mono (by omega)) (pa_cons (pv 0) pa_nil)) (pe_and (pcall DCols GCols (hr.mono (by omega)) (pa_cons (pe_ix ix_tup (pv 0) pe_int (fun _ _ => rfl)) (pa_cons (pe_glob (v := .int 3) (by rfl) m_MOST_LOCKS ⟨_, rfl⟩) pa_nil))) (pe_one (pcall DCols GCols (hr.mono (by omega)) (pa_cons (pe_ix ix_tup (pv 0) pe_int (fun _ _ => rfl)) (pa_cons (pe_glob (v := .int 6) (by rfl) m_MOST_KEYS ⟨_, rfl⟩) pa_nil)))))))), ?_⟩
    have t1 : Ev (tCall (spPair K) [] E0 (tCons (tVar 0) tNil)) [some v] H (.bl (pairD d)) := ev_call (ea_cons (ev_var (v := v) rfl) ea_nil) (SpV.of fun H1 e1 Q q E => ⟨v, d, rfl, dp_ex e1 _ _ hd, q⟩)
    cases hp : pairD d with
    | false =>
      rw [boxD_not hp] at q
      rw [hp] at t1
      exact s_ret (v := .bl false) (ev_andV (b := false) t1 fun h => by cases h) (fun H1 e1 => q H1 e1)
    | true =>
      rw [hp] at t1
      obtain ⟨l, k, rfl⟩ := pairD_inv hp
      obtain ⟨a, xs, rfl, hS, hA⟩ := dp_tup_inv hd
      cases hA with
      | cons h1 hA =>
        cases hA with
        | cons h2 hA =>
          cases hA
          simp only [StB, StBA, Bool.and_eq_true] at hst
          refine s_ret (v := .bl (boxD (.tuple [l, k]))) (ev_andV (a := true) (b := colsD 3 l && colsD 6 k) t1 fun _ => ev_andV (ev_call (ea_cons (ev_op (ev_var (v := .ref a) rfl) ev_c (rv_ixT hS at0)) (ea_cons ev_c ea_nil)) (SpV.of fun H1 e1 Q q E => ⟨_, l, 3, rfl, dp_ex e1 _ _ h1, hst.1, by decide, q⟩)) fun _ =>
            ev_call (ea_cons (ev_op (ev_var (v := .ref a) rfl) ev_c (rv_ixT hS at1)) (ea_cons ev_c ea_nil)) (SpV.of fun H1 e1 Q q E => ⟨_, k, 6, rfl, dp_ex e1 _ _ h2, hst.2.1, by decide, q⟩)) (fun H1 e1 => q H1 e1)
/-! ### is_house -/
def spIsH (K : PySem.W.Frag) : Sp := fun vs H Q _ => ∃ (v : V) (d : PyData), vs = [v] ∧ Dp K H v d ∧ StB d = true ∧ RetV (.bl (houseD d)) H Q
theorem ok_isH {f fPair fCols fBox : Addr} {fd fdPair fdCols fdBox : FuncData} {k : Nat} (F : Fun K "is_house" "is_house" sIsH f fd) (DPair : Df K mg "is_pair" sPair ["thing"] fPair fdPair) (DCols : Df K mg "is_colours" sCols ["thing", "most"] fCols fdCols) (DBox : Df K mg "is_box" sBox ["thing"] fBox fdBox) (GPair : FnOk P w K mg base CX0 (k + 1) fPair fdPair ["thing"] (spPair K)) (GCols : FnOk P w K mg base CX0 (k + 1) fCols fdCols ["thing", "most"] (spCols K)) (GBox : FnOk P w K mg base CX0 (k + 2) fBox fdBox ["thing"] (spBox K)) (B : Bu mg) {t30 t6 : Tok} (m_MOST_BOXES : mg "MOST_BOXES" = some (.int 30 t30)) (m_MOST_KEYS : mg "MOST_KEYS" = some (.int 6 t6)) : FnOk P w K mg base CX0 (k + 3) f fd ["thing"] (spIsH K) := by
  refine F.ok scIsH (fun vs H Q E h => ?_) (fun cdv A outer s H vs Q E hr h => ?_)
  · obtain ⟨v, d, rfl, _⟩ := h
    rfl
  · obtain ⟨v, d, rfl, hd, hst, q⟩ := h
    refine ⟨_, (pss_cons (ps_if (pt_not (pt_val (pcall DPair GPair (hr.mono (by omega)) (pa_cons (pv 0) pa_nil)))) (pss_one (ps_ret pe_bl)) pss_nil)
      (pss_cons (ps_asg (pv 0) (pg_tup rfl (pgs_cons (pg_name (i := 1) scIsH.nd rfl (.inl rfl)) (pgs_cons (pg_name (i := 2) scIsH.nd rfl (.inl rfl)) pgs_nil))))
      (pss_cons (ps_if (PW.pt (pw_or (pt_not (pt_val (pe_callB call_isi (by rfl) B.isi boot_isinstance (pa_cons (pv 1) (pa_cons (pe_bltn (v := .ty "tuple") (by rfl) B.tup boot_tuple rfl) pa_nil))))) (pw_or1 (pt_not (pt_chain op_le op_le pe_int (pe_callB call_len_seq (by rfl) B.len PySem.boot_len (pa_cons (pv 1) pa_nil)) (pe_glob (v := .int 30) (by rfl) m_MOST_BOXES ⟨_, rfl⟩)))))) (pss_one (ps_ret pe_bl)) pss_nil)
      (pss_cons (ps_for PassesOwn.never rfl (pi_tup (pv 1)) (pg_name (i := 3) scIsH.nd rfl (.inl rfl))
      (pss_one (ps_if (pt_not (pt_val (pcall DBox GBox (hr.mono (by omega)) (pa_cons (pv 3) pa_nil)))) (pss_one (ps_ret pe_bl)) pss_nil)))
      (pss_one (ps_ret (pcall DCols GCols (hr.mono (by omega)) (pa_cons (pv 2) (pa_cons (pe_glob (v := .int 6) (by rfl) m_MOST_KEYS ⟨_, rfl⟩) pa_nil))))))))), ?_⟩
    have t1 : ∀ {y1 y2 y3}, Ev (tCall (spPair K) [] E0 (tCons (tVar 0) tNil)) [some v, y1, y2, y3] H (.bl (pairD d)) := ev_call (ea_cons (ev_var (v := v) rfl) ea_nil) (SpV.of fun H1 e1 Q q E => ⟨v, d, rfl, dp_ex e1 _ _ hd, q⟩)
    cases hp : pairD d with
    | false =>
      rw [houseD_not hp] at q
      rw [hp] at t1
      exact q_when (b := true) (et_not (et_B t1)) (fun _ H1 e1 => q H1 e1) (fun hb => absurd hb (by decide))
    | true =>
      rw [hp] at t1
      refine q_when (b := false) (et_not (et_B t1)) (fun hb => absurd hb (by decide)) (fun _ H1 e1 => ?_)
      obtain ⟨db, dh, rfl⟩ := pairD_inv hp
      obtain ⟨a, xs, rfl, hS, hA⟩ := dp_tup_inv hd
      cases hA with
      | cons h1 hA =>
        cases hA with
        | cons h2 hA =>
          cases hA
          rename_i vb vh
          simp only [StB, StBA, Bool.and_eq_true] at hst
          refine ⟨.ref a, rfl, a, _, rfl, ex_t e1 hS, rfl, vb, [vh], rfl, vh, [], rfl, rfl, ?_⟩
          show tSeq _ _ _ [some (.ref a), some vb, some vh, none] H1
          have h1' := dp_ex e1 _ _ h1
          cases ht : isTupD db with
          | false =>
            have e : houseD (.tuple [db, dh]) = false := by cases db <;> first | rfl | cases ht
            rw [e] at q
            exact q_when (b := true) (et_is (et_or (b := true) (et_not (et_B (ev_isiD (K := K) (ev_var (v := vb) rfl) ev_c h1' (kit_tup h1')))) fun h => absurd h (by rw [ht]; decide)) (by rw [ht]; rfl)) (fun _ H2 e2 => q H2 (e1.trans e2)) (fun hb => absurd hb (by decide))
          | true =>
            cases db <;> first | cases ht | skip
            rename_i bs
            obtain ⟨ab, ys, rfl, hSb, hAb⟩ := dp_tup_inv h1
            have hlen := dpA_len hAb
            have hstB : StBA bs = true := by simpa [StB] using hst.1
            refine q_when (b := !(decide (1 ≤ bs.length) && decide (bs.length ≤ 30))) (et_is (et_or (et_not (et_B (ev_isiD (K := K) (ev_var (v := .ref ab) rfl) ev_c h1' (kit_tup h1')))) fun _ => et_not (et_test (ev_chain ev_c (ev_lenT (K := K) (ev_var (v := .ref ab) rfl) (ex_t e1 hSb)) ev_c rv_le rv_le))) ?_) (fun hb H2 e2 => ?_) (fun hb H2 e2 => ?_)
            · show (!true || !(decide ((1 : Int) ≤ (ys.length : Nat)) && decide (((ys.length : Nat) : Int) ≤ 30))) = _
              rw [hlen]
              have a1 : decide ((1 : Int) ≤ (bs.length : Nat)) = decide (1 ≤ bs.length) := decide_eq_decide.mpr (by omega)
              have a2 : decide (((bs.length : Nat) : Int) ≤ 30) = decide (bs.length ≤ 30) := decide_eq_decide.mpr (by omega)
              rw [a1, a2]
              rfl
            · have e : houseD (.tuple [.tuple bs, dh]) = false := by
                show ((decide (1 ≤ bs.length) && decide (bs.length ≤ 30)) && _) = false
                rw [Bool.not_eq_true'] at hb
                rw [hb]
                rfl
              rw [e] at q
              exact q H2 (e1.trans e2)
            · have e : houseD (.tuple [.tuple bs, dh]) = (bs.all boxD && colsD 6 dh) := by
                show ((decide (1 ≤ bs.length) && decide (bs.length ≤ 30)) && _) = _
                rw [Bool.not_eq_false'] at hb
                rw [hb]
                rfl
              rw [e] at q
              have eX := e1.trans e2
              refine q_forT (K := K) (a := ab) (xs := ys) (ev_var (v := .ref ab) rfl) (ex_t eX hSb) (fun i σ' H' => Ex H H' ∧ (∃ y, σ' = [some (.ref a), some (.ref ab), some vh, y]) ∧ (bs.take i).all boxD = true) (fun H3 e3 => ⟨eX.trans e3, ⟨none, rfl⟩, rfl⟩) (fun i σ' H' _ hP => ex_t hP.1 hSb) (fun i x σ' H' hx hP => ?_) (fun σ' H' hP => ?_)
              · obtain ⟨eH, ⟨y, rfl⟩, hall⟩ := hP
                obtain ⟨dx, hdx, hDx⟩ := dpA_get hAb hx
                have hDx' := dp_ex eH _ _ hDx
                have hmem := List.mem_of_getElem? hdx
                show tIfS _ _ _ _ [some (.ref a), some (.ref ab), some vh, some x] H'
                refine s_when (b := !boxD dx) (et_not (et_B (ev_call (ea_cons (ev_var (v := x) rfl) ea_nil) (SpV.of fun H3 e3 Q q E => ⟨x, dx, rfl, dp_ex e3 _ _ hDx', stBA_mem hstB hmem, q⟩)))) (fun hb H3 e3 => ?_) (fun hb H3 e3 => ?_)
                · have hf : bs.all boxD = false := by
                    rw [Bool.not_eq_true'] at hb
                    exact List.all_eq_false.mpr ⟨dx, hmem, by rw [hb]; decide⟩
                  rw [hf] at q
                  exact q H3 (eH.trans e3)
                · rw [Bool.not_eq_false'] at hb
                  refine ⟨eH.trans e3, ⟨_, rfl⟩, ?_⟩
                  rw [List.take_add_one, List.all_append, hall, hdx]
                  show (true && (boxD dx && true)) = true
                  rw [hb]
                  rfl
              · obtain ⟨eH, ⟨y, rfl⟩, hall⟩ := hP
                rw [List.take_of_length_le (by omega)] at hall
                rw [hall, Bool.true_and] at q
                exact s_ret (v := .bl (colsD 6 dh)) (ev_call (ea_cons (ev_var (v := vh) rfl) (ea_cons ev_c ea_nil)) (SpV.of fun H3 e3 Q q E => ⟨vh, dh, 6, rfl, dp_ex (eH.trans e3) _ _ h2, hst.2.1, by decide, q⟩)) (fun H3 e3 => q H3 (eH.trans e3))
end
end Kw
set_option Elab.async false
set_option linter.all false
set_option maxRecDepth 100000
set_option maxHeartbeats 4000000
namespace Kw
open PySem PySem.Spec PyProof.Rows L2 Evl
abbrev sKeys : Stmt := topS 32
theorem scKeys : FnScope ["boxes", "some", "box", "colour"] ["boxes", "some"] (defScope sKeys) := ⟨rfl, rfl, rfl, by decide +kernel, rfl, by decide +kernel, by decide +kernel⟩
abbrev sFits : Stmt := topS 33
theorem scFits : FnScope ["locks", "held", "colour"] ["locks", "held"] (defScope sFits) := ⟨rfl, rfl, rfl, by decide +kernel, rfl, by decide +kernel, by decide +kernel⟩
abbrev sOpn : Stmt := topS 34
theorem scOpn : FnScope ["boxes", "held", "closed", "told", "ready", "box"] ["boxes", "held", "closed"] (defScope sOpn) := ⟨rfl, rfl, rfl, by decide +kernel, rfl, by decide +kernel, by decide +kernel⟩
abbrev sShB : Stmt := topS 35
theorem scShB : FnScope ["boxes", "hand", "broken", "held", "closed", "told", "left", "box"] ["boxes", "hand", "broken"] (defScope sShB) := ⟨rfl, rfl, rfl, by decide +kernel, rfl, by decide +kernel, by decide +kernel⟩
/-! ### houses as data -/
def encC (cs : List Str) : PyData := .tuple (cs.map PyData.str)
def encB (b : Box) : PyData := .tuple [encC b.1, encC b.2]
def encBs (bs : List Box) : PyData := .tuple (bs.map encB)
def encH (h : House) : PyData := .tuple [encBs h.1, encC h.2]
section
variable {K : PySem.W.Frag} {H H' : Hp}
theorem dp_cols {a : Addr} {cs : List Str} (h : SqT K H a (cs.map V.str)) : Dp K H (.ref a) (encC cs) := .tup h (dpA_strs cs)
theorem dp_box {v : V} {b : Box} (h : BoxAt K H v b) : Dp K H v (encB b) := by
  obtain ⟨a, l, k, rfl, h1, h2, h3⟩ := h
  exact .tup h1 (.cons (dp_cols h2) (.cons (dp_cols h3) .nil))
theorem dp_boxesA : ∀ {vs : List V} {bs : List Box}, Paired (BoxAt K H) vs bs → DpAll K H vs (bs.map encB)
  | _, _, .nil => .nil
  | _, _, .cons a r => .cons (dp_box a) (dp_boxesA r)
theorem dp_house {v : V} {h : House} (x : HouseAt K H v h) : Dp K H v (encH h) := by
  obtain ⟨a, b, k, rfl, h1, ⟨vs, h2, h3⟩, h4⟩ := x
  exact .tup h1 (.cons (.tup h2 (dp_boxesA h3)) (.cons (dp_cols h4) .nil))
theorem cols_dp {v : V} {cs : List Str} (h : Dp K H v (encC cs)) : ∃ a, v = .ref a ∧ SqT K H a (cs.map V.str) := by
  obtain ⟨a, xs, rfl, h1, h2⟩ := dp_tup_inv h
  rw [dpA_strs_inv h2] at h1
  exact ⟨a, rfl, h1⟩
theorem box_dp {v : V} {b : Box} (h : Dp K H v (encB b)) : BoxAt K H v b := by
  obtain ⟨a, xs, rfl, h1, h2⟩ := dp_tup_inv h
  cases h2 with
  | cons x h2 =>
    cases h2 with
    | cons y h2 =>
      cases h2
      obtain ⟨l, rfl, hl⟩ := cols_dp x
      obtain ⟨k, rfl, hk⟩ := cols_dp y
      exact ⟨a, l, k, rfl, h1, hl, hk⟩
theorem boxes_dpA : ∀ {vs : List V} {bs : List Box}, DpAll K H vs (bs.map encB) → Paired (BoxAt K H) vs bs
  | _, [], h => by cases h; exact .nil
  | _, b :: r, h => by
    cases h with
    | cons a t => exact .cons (box_dp a) (boxes_dpA t)
theorem house_dp {v : V} {h : House} (x : Dp K H v (encH h)) : HouseAt K H v h := by
  obtain ⟨a, xs, rfl, h1, h2⟩ := dp_tup_inv x
  cases h2 with
  | cons x h2 =>
    cases h2 with
    | cons y h2 =>
      cases h2
      obtain ⟨b, bs, rfl, hb, hbs⟩ := dp_tup_inv x
      obtain ⟨k, rfl, hk⟩ := cols_dp y
      exact ⟨a, b, k, rfl, h1, ⟨bs, hb, boxes_dpA hbs⟩, hk⟩
end
theorem colB_low {z : Str} (h : colB z = true) : lowB z = true ∧ z.length ≤ 8 ∧ 1 ≤ z.length := by
  unfold colB at h
  rw [Bool.and_eq_true, Bool.and_eq_true, decide_eq_true_eq, decide_eq_true_eq] at h
  exact ⟨h.2, h.1.2, h.1.1⟩
theorem ris_strs : ∀ {cs : List Str} {b : Str}, (∀ c ∈ cs, colB c = true) → Rising (b :: cs) → risD b (cs.map PyData.str) = true
  | [], _, _, _ => rfl
  | c :: r, b, hc, hr => by
    show ((decide (b.cps.toList < c.cps.toList) && decide (c.length ≤ 8)) && risD c (r.map PyData.str)) = true
    rw [decide_eq_true (hr 0 b c rfl rfl), decide_eq_true (colB_low (hc c (List.mem_cons_self ..))).2.1, ris_strs (fun d hd => hc d (List.mem_cons_of_mem _ hd)) (fun i x y hx hy => hr (i + 1) x y hx hy)]
    rfl
theorem nil_lt {z : Str} (h : 1 ≤ z.length) : ("" : Str).cps.toList < z.cps.toList := by
  have hz : z.length = z.cps.toList.length := rfl
  cases e : z.cps.toList with
  | nil => rw [hz, e] at h; cases h
  | cons a r => exact List.nil_lt_cons a r
theorem cols_ok {cs : List Str} {m : Nat} (h : OkCols cs m) : colsD m (encC cs) = true := by
  obtain ⟨h1, h2, h3⟩ := h
  show (decide ((cs.map PyData.str).length ≤ m) && (risD "" (cs.map PyData.str) && (cs.map PyData.str).all lowD)) = true
  rw [decide_eq_true (by rw [List.length_map]; exact h1), lowD_strs, List.all_eq_true.mpr fun c hc => (colB_low (h2 c hc)).1, ris_strs h2 ?_]
  · rfl
  · intro i x y hx hy
    cases i with
    | zero =>
      cases cs with
      | nil => cases hy
      | cons c r =>
        cases hx
        cases hy
        exact nil_lt (colB_low (h2 _ (List.mem_cons_self ..))).2.2
    | succ i => exact h3 i x y hx hy
theorem box_ok {b : Box} (h : OkBox b) : boxD (encB b) = true := by
  show (colsD 3 (encC b.1) && colsD 6 (encC b.2)) = true
  rw [cols_ok h.1, cols_ok h.2]
  rfl
theorem house_ok {h : House} (o : OkHouse h) : houseD (encH h) = true := by
  obtain ⟨h1, h2, h3, h4⟩ := o
  show ((decide (1 ≤ (h.1.map encB).length) && decide ((h.1.map encB).length ≤ 30)) && ((h.1.map encB).all boxD && colsD 6 (encC h.2))) = true
  rw [List.length_map, decide_eq_true h1, decide_eq_true h2, cols_ok h4, List.all_map, show h.1.all (boxD ∘ encB) = true from List.all_eq_true.mpr fun b hb => box_ok (h3 b hb)]
  rfl
theorem stB_cols {cs : List Str} {m : Nat} (h : OkCols cs m) : StB (encC cs) = true := by
  show StBA (cs.map PyData.str) = true
  refine stBA_of fun d hd => ?_
  obtain ⟨c, hc, rfl⟩ := List.mem_map.mp hd
  have := (colB_low (h.2.1 c hc)).2.1
  show decide (c.length ≤ 1000) = true
  exact decide_eq_true (by omega)
theorem stB_house {h : House} (o : OkHouse h) : StB (encH h) = true := by
  show (StB (encBs h.1) && (StB (encC h.2) && true)) = true
  rw [stB_cols o.2.2.2, Bool.true_and, Bool.and_true]
  show StBA (h.1.map encB) = true
  refine stBA_of fun d hd => ?_
  obtain ⟨b, hb, rfl⟩ := List.mem_map.mp hd
  show (StB (encC b.1) && (StB (encC b.2) && true)) = true
  rw [stB_cols (o.2.2.1 b hb).1, stB_cols (o.2.2.1 b hb).2]
  rfl
/-! ### what is left -/
theorem less_less (c r s : List Nat) : less (less c r) s = less c (r ++ s) := by
  unfold less
  rw [List.filter_filter]
  apply List.filter_congr
  intro i _
  by_cases h1 : i ∈ r <;> by_cases h2 : i ∈ s <;> simp [h1, h2]
def leftOf (bs : List Box) (held : List Str) (closed : List Nat) : List Nat := less closed (roundsOf bs held closed).flatten
section
variable {P : Program} {w : World} {K : PySem.W.Frag} {mg : Str → Option Value} {base : Heap}
/-! ### check_house, of a house -/
def spChk (K : PySem.W.Frag) : Sp := fun vs H Q _ => ∃ (v : V) (h : House), vs = [v] ∧ HouseAt K H v h ∧ OkHouse h ∧ RetV .non H Q
theorem ok_chk {f fIsH : Addr} {fd fdIsH : FuncData} {k : Nat} (F : Fun K "check_house" "check_house" sChk f fd) (DIsH : Df K mg "is_house" sIsH ["thing"] fIsH fdIsH) (GIsH : FnOk P w K mg base CX0 (k + 3) fIsH fdIsH ["thing"] (spIsH K)) : FnOk P w K mg base CX0 (k + 4) f fd ["house"] (spChk K) := by
  refine F.ok scChk (fun vs H Q E h => ?_) (fun cdv A outer s H vs Q E hr h => ?_)
  · obtain ⟨v, b, rfl, _⟩ := h
    rfl
  · obtain ⟨v, b, rfl, ha, ho, q⟩ := h
    refine ⟨_, (pss_one (ps_if (pt_not (pt_val (pcall DIsH GIsH (hr.mono (by omega)) (pa_cons (pv 0) pa_nil)))) pss_never pss_nil)), ?_⟩
    exact s_when (b := false) (et_is (et_not (et_B (ev_call (z := .bl true) (ea_cons (ev_var rfl) ea_nil) (SpV.of fun H2 e2 Q q E => ⟨v, encH b, rfl, dp_ex e2 _ _ (dp_house ha), stB_house ho, by rw [house_ok ho]; exact q⟩)))) rfl) (fun hb => absurd hb (by decide)) (fun _ H1 e1 => q H1 e1)
/-! ### keys_in -/
def spKeys (K : PySem.W.Frag) : Sp := fun vs H Q _ => ∃ (b s : Addr) (bs : List Box) (is : List Nat), vs = [.ref b, .ref s] ∧ BoxesS K H b bs ∧ (SqL K H s (is.map vN) ∨ SqT K H s (is.map vN)) ∧ (∀ i ∈ is, i < bs.length) ∧ is.length ≤ 1000 ∧ (∀ b ∈ bs, b.2.length ≤ 6) ∧ RetL ((keysIn bs is).map V.str) H Q
theorem ok_keys {f  : Addr} {fd  : FuncData} {k : Nat} (F : Fun K "keys_in" "keys_in" sKeys f fd) : FnOk P w K mg base CX0 (k + 1) f fd ["boxes", "some"] (spKeys K) := by
  refine F.ok scKeys (fun vs H Q E h => ?_) (fun cdv A outer s H vs Q E hr h => ?_)
  · obtain ⟨b, s, bs, is, rfl, _⟩ := h
    rfl
  · obtain ⟨b, sa, bs, is, rfl, hB, hS, hlt, hl, h6, q⟩ := h
    have core : ∀ (wi : TI), EvW wi [some (.ref b), some (.ref sa), none, none] H (is.map vN).length (YAt (is.map vN)) → EvL (tLc2 wi (gName 2) tYes (iTup K (tOp (rIxT K) (tOp (rIx K) (tVar 0) (tVar 2)) (tC (.int 1)))) (gName 3) tYes (tVar 3) [2, 3] [3]) [some (.ref b), some (.ref sa), none, none] H ((keysIn bs is).map V.str) := by
      intro wi hw
      refine el_lc2 (K := K) hw (fun i => (bx bs (is.getD i 0)).2.map V.str) (fun i hi => ?_) ?_ (fun i x H1 H2 Q e hi hy k => ?_)
      · rw [flatMap_take is 0 (fun i => (bx bs i).2.map V.str) i (by rw [List.length_map] at hi; exact hi), map_flatMap', List.length_map]
        have := keysIn_len h6 (is.take i)
        unfold keysIn at this
        rw [List.length_take] at this
        omega
      · rw [List.length_map, flatMap_range is 0 (fun i => (bx bs i).2.map V.str), map_flatMap']
        rfl
      · obtain ⟨rfl, hx⟩ := hy
        obtain ⟨rfl, hi', hget⟩ := get_map 0 hx
        have hm := hlt _ (List.mem_of_getElem? hget)
        obtain ⟨l, kk, hl1, hk1, e1, e2⟩ := box_at (K := K) (σ := [some (.ref b), some (.ref sa), some (vN (is.getD i 0)), none]) (ta := tVar 0) (tb := tVar 2) (hB.ex e) hm (ev_var rfl) (ev_var rfl)
        exact k _ _ kk (Ex.refl _) rfl e2 hk1 fun y => ⟨rfl, rfl⟩
    rcases hS with hS | hS
    · refine ⟨_, (pss_one (ps_ret (pe_lc2 (own := [("box", 2), ("colour", 3)]) (vs1 := [3]) (g := (gName 2)) (tt := tYes) (g1 := (gName 3)) (tt1 := tYes) (wi1 := (iTup K (tOp (rIxT K) (tOp (rIx K) (tVar 0) (tVar 2)) (tC (.int 1))))) (te := (tVar 3)) rfl scKeys.nd (pi_list (pv 1)) (blkOk_by (N := ["boxes", "some", "box", "colour"]) (sc := defScope sKeys) (by decide +kernel)) (by decide) (fun _ _ _ _ _ => (pg_name (i := 2) scKeys.nd rfl (.inl rfl))) (fun _ _ _ _ _ => pts_nil) (fun _ _ _ _ _ => (pi_tup (pe_ix ix_tup (pe_ix ix_seq (pv 0) (pv 2) (fun _ _ => rfl)) pe_int (fun _ _ => rfl)))) (fun _ _ _ _ _ => (pg_name (i := 3) scKeys.nd rfl (.inl rfl))) (fun _ _ _ _ _ => pts_nil) (fun _ _ _ _ _ => (pv 3))))), ?_⟩
      exact s_retL (core _ (ew_list (ev_var rfl) hS)) q
    · refine ⟨_, (pss_one (ps_ret (pe_lc2 (own := [("box", 2), ("colour", 3)]) (vs1 := [3]) (g := (gName 2)) (tt := tYes) (g1 := (gName 3)) (tt1 := tYes) (wi1 := (iTup K (tOp (rIxT K) (tOp (rIx K) (tVar 0) (tVar 2)) (tC (.int 1))))) (te := (tVar 3)) rfl scKeys.nd (pi_tup (pv 1)) (blkOk_by (N := ["boxes", "some", "box", "colour"]) (sc := defScope sKeys) (by decide +kernel)) (by decide) (fun _ _ _ _ _ => (pg_name (i := 2) scKeys.nd rfl (.inl rfl))) (fun _ _ _ _ _ => pts_nil) (fun _ _ _ _ _ => (pi_tup (pe_ix ix_tup (pe_ix ix_seq (pv 0) (pv 2) (fun _ _ => rfl)) pe_int (fun _ _ => rfl)))) (fun _ _ _ _ _ => (pg_name (i := 3) scKeys.nd rfl (.inl rfl))) (fun _ _ _ _ _ => pts_nil) (fun _ _ _ _ _ => (pv 3))))), ?_⟩
      exact s_retL (core _ (ew_tup (ev_var rfl) hS)) q
/-! ### fits -/
def spFits (K : PySem.W.Frag) : Sp := fun vs H Q _ => ∃ (l h : Addr) (ls hs : List Str), vs = [.ref l, .ref h] ∧ SqT K H l (ls.map V.str) ∧ SqL K H h (hs.map V.str) ∧ RetV (.bl (fitsB ls hs)) H Q
theorem ok_fits {f  : Addr} {fd  : FuncData} {k : Nat} (F : Fun K "fits" "fits" sFits f fd) : FnOk P w K mg base CX0 (k + 1) f fd ["locks", "held"] (spFits K) := by
  refine F.ok scFits (fun vs H Q E h => ?_) (fun cdv A outer s H vs Q E hr h => ?_)
  · obtain ⟨l, h, ls, hs, rfl, _⟩ := h
    rfl
  · obtain ⟨l, h, ls, hs, rfl, hL, hH, q⟩ := h
    refine ⟨_, (pss_cons (ps_for PassesOwn.never rfl (pi_tup (pv 0)) (pg_name (i := 2) scFits.nd rfl (.inl rfl))
      (pss_one (ps_if (pt_cmpR op_notIn_seq (pv 2) (pv 1) (by rfl)) (pss_one (ps_ret pe_bl)) pss_nil)))
      (pss_one (ps_ret pe_bl))), ?_⟩
    refine q_forT (K := K) (a := l) (xs := ls.map V.str) (ev_var (v := .ref l) rfl) hL (fun i σ' H' => Ex H H' ∧ (∃ y, σ' = [some (.ref l), some (.ref h), y]) ∧ (ls.take i).all (fun c => decide (c ∈ hs)) = true) (fun H1 e1 => ⟨e1, ⟨none, rfl⟩, rfl⟩) (fun i σ' H' _ hP => ex_t hP.1 hL) (fun i x σ' H' hx hP => ?_) (fun σ' H' hP => ?_)
    · obtain ⟨eH, ⟨y, rfl⟩, hall⟩ := hP
      obtain ⟨rfl, hi, hget⟩ := get_map default hx
      show tIfS _ _ _ _ [some (.ref l), some (.ref h), some (.str (ls.getD i default))] H'
      have ht := et_test (ev_op (ev_var (σ := [some (.ref l), some (.ref h), some (.str (ls.getD i default))]) (i := 2) (v := .str (ls.getD i default)) rfl) (ev_var (i := 1) (v := .ref h) rfl) (rv_niL (K := K) (ex_l eH hH) rfl (flat_strs hs)))
      rw [inV_str] at ht
      refine s_when ht (fun hb H1 e1 => ?_) (fun hb H1 e1 => ?_)
      · have hf : fitsB ls hs = false := by
          rw [Bool.not_eq_true'] at hb
          exact List.all_eq_false.mpr ⟨_, List.mem_of_getElem? hget, by rw [hb]; decide⟩
        rw [hf] at q
        exact q H1 (eH.trans e1)
      · rw [Bool.not_eq_false'] at hb
        refine ⟨eH.trans e1, ⟨_, rfl⟩, ?_⟩
        rw [List.take_add_one, List.all_append, hall, hget]
        show (true && (decide (ls.getD i default ∈ hs) && true)) = true
        rw [hb]
        rfl
    · obtain ⟨eH, ⟨y, rfl⟩, hall⟩ := hP
      rw [List.length_map, List.take_length] at hall
      have hf : fitsB ls hs = true := hall
      rw [hf] at q
      exact q H' eH
/-! ### opened_in_rounds -/
def spOpn (K : PySem.W.Frag) : Sp := fun vs H Q _ => ∃ (b h c : Addr) (bs : List Box) (held : List Str) (closed : List Nat), vs = [.ref b, .ref h, .ref c] ∧ BoxesS K H b bs ∧ Few bs ∧ H h = some (.lst (held.map V.str)) ∧ H c = some (.lst (closed.map vN)) ∧
  (∀ i ∈ closed, i < bs.length) ∧ closed.length ≤ 1000 ∧ held.length + 6 * closed.length ≤ 10000 ∧
  ∀ p t l ys H2, H t = none → H l = none → Ex H H2 → H2 p = some (.tup [.ref t, .ref l]) → H2 t = some (.lst ys) → TupsAt K H2 ys (roundsOf bs held closed) → H2 l = some (.tup ((leftOf bs held closed).map vN)) → Q (.ref p) H2
def tFit (K : PySem.W.Frag) : TT := tB (tCall (spFits K) [] E0 (tCons (tOp (rIxT K) (tOp (rIx K) (tVar 0) (tVar 5)) (tC (.int 0))) (tCons (tVar 1) tNil)))
theorem el_ready {b h c : Addr} {y3 y4 y5 : Option V} {H : Hp} {bs : List Box} {held : List Str} {closed : List Nat} (hB : BoxesS K H b bs) (hF : Few bs) (hh : H h = some (.lst (held.map V.str))) (hc : H c = some (.lst (closed.map vN))) (hlt : ∀ i ∈ closed, i < bs.length) (hl : closed.length ≤ 1000) :
    EvL (tLc (iList K (tVar 2)) (gName 5) (tFit K) (tVar 5) [5]) [some (.ref b), some (.ref h), some (.ref c), y3, y4, y5] H ((readyOf bs held closed).map vN) := by
  refine el_lc (ew_list (ev_var rfl) (sq_of hc)) (by rw [List.length_map]; omega) (fun i => fitsB (bx bs (closed.getD i 0)).1 held) (fun i => vN (closed.getD i 0)) ?_ (fun i x H1 H2 Q e hi hy k => ?_)
  · rw [List.length_map]
    exact filter_range_map closed 0 (fun i => fitsB (bx bs i).1 held) vN
  · obtain ⟨rfl, hx⟩ := hy
    obtain ⟨rfl, hi', hget⟩ := get_map 0 hx
    have hm := hlt _ (List.mem_of_getElem? hget)
    obtain ⟨l, kk, hl1, hk1, e1, e2⟩ := box_at (K := K) (σ := [some (.ref b), some (.ref h), some (.ref c), y3, y4, some (vN (closed.getD i 0))]) (ta := tVar 0) (tb := tVar 5) (hB.ex e) hm (ev_var rfl) (ev_var rfl)
    refine k _ _ (Ex.refl _) rfl ?_ fun _ => ev_var rfl
    exact et_B (ev_call (ea_cons e1 (ea_cons (ev_var (v := .ref h) rfl) ea_nil)) (SpV.of fun H3 e3 Q q E => ⟨l, h, _, held, rfl, ex_t e3 hl1, sq_of ((e.trans e3) _ _ hh), q⟩))
theorem el_less {b h c r : Addr} {y3 y5 : Option V} {H : Hp} {closed ready : List Nat} (hc : H c = some (.lst (closed.map vN))) (hr : H r = some (.lst (ready.map vN))) (hl : closed.length ≤ 1000) :
    EvL (tLc (iList K (tVar 2)) (gName 5) (tTest (tOp (rIn K true) (tVar 5) (tVar 4))) (tVar 5) [5]) [some (.ref b), some (.ref h), some (.ref c), y3, some (.ref r), y5] H ((less closed ready).map vN) := by
  refine el_lc (ew_list (ev_var rfl) (sq_of hc)) (by rw [List.length_map]; omega) (fun i => !decide (closed.getD i 0 ∈ ready)) (fun i => vN (closed.getD i 0)) ?_ (fun i x H1 H2 Q e hi hy k => ?_)
  · rw [List.length_map]
    exact filter_range_map closed 0 (fun i => !decide (i ∈ ready)) vN
  · obtain ⟨rfl, hx⟩ := hy
    obtain ⟨rfl, hi', hget⟩ := get_map 0 hx
    refine k _ _ (Ex.refl _) rfl ?_ fun _ => ev_var rfl
    rw [← inV_nat]
    exact et_test (ev_op (ev_var rfl) (ev_var (v := .ref r) rfl) (rv_niL (sq_of (e _ _ hr)) rfl (flat_nats ready)))
theorem ok_opn {f fKeys fFits : Addr} {fd fdKeys fdFits : FuncData} {k : Nat} (F : Fun K "opened_in_rounds" "opened_in_rounds" sOpn f fd) (DKeys : Df K mg "keys_in" sKeys ["boxes", "some"] fKeys fdKeys) (DFits : Df K mg "fits" sFits ["locks", "held"] fFits fdFits) (GKeys : FnOk P w K mg base CX0 (k + 1) fKeys fdKeys ["boxes", "some"] (spKeys K)) (GFits : FnOk P w K mg base CX0 (k + 1) fFits fdFits ["locks", "held"] (spFits K)) (B : Bu mg) : FnOk P w K mg base CX0 (k + 2) f fd ["boxes", "held", "closed"] (spOpn K) := by
  refine F.ok scOpn (fun vs H Q E h => ?_) (fun cdv A outer s H vs Q E hr h => ?_)
  · obtain ⟨b, h, c, bs, held, closed, rfl, _⟩ := h
    rfl
  · obtain ⟨b, h, c, bs, held, closed, rfl, hB, hF, hh, hc, hlt, hl, hz, q⟩ := h
    refine ⟨_, (pss_cons (ps_set (i := 3) scOpn.nd rfl (.inl rfl) (pe_lst pa_nil))
      (pss_cons (ps_set (i := 4) scOpn.nd rfl (.inr rfl) (pe_lc (own := [("box", 5)]) (g := (gName 5)) (tt := (tB (tCall (spFits K) [] E0 (tCons (tOp (rIxT K) (tOp (rIx K) (tVar 0) (tVar 5)) (tC (.int 0))) (tCons (tVar 1) tNil))))) (te := (tVar 5)) rfl scOpn.nd (pi_list (pv 2)) (blkOk_by (N := ["boxes", "held", "closed", "told", "ready", "box"]) (sc := defScope sOpn) (by decide +kernel)) (fun _ _ _ _ _ => (pg_name (i := 5) scOpn.nd rfl (.inl rfl))) (fun _ _ _ _ _ => (pts_one (pt_val (pcall DFits GFits (hr.mono (by omega)) (pa_cons (pe_ix ix_tup (pe_ix ix_seq (pv 0) (pv 5) (fun _ _ => rfl)) pe_int (fun _ _ => rfl)) (pa_cons (pv 1) pa_nil)))))) (fun _ _ _ _ _ => (pv 5))))
      (pss_cons (ps_while PassesOwn.never (pt_truth (pv 4) (fun _ => rfl)) (pss_cons (ps_expr (pe_bm PySem.F.plainAttrs_list PySem.F.slot_list_append PySem.F.type_list_append mt_append (pv 3) (pa_cons (pe_callTy call_tupOf (by rfl) B.tup boot_tuple (pa_cons (pv 4) pa_nil)) pa_nil)))
      (pss_cons (ps_set (i := 1) scOpn.nd rfl (.inr rfl) (pe_op op_cat (pv 1) (pcall DKeys GKeys (hr.mono (by omega)) (pa_cons (pv 0) (pa_cons (pv 4) pa_nil)))))
      (pss_cons (ps_setLc (i := 2) (own := [("box", 5)]) (g := (gName 5)) (tt := (tTest (tOp (rIn K true) (tVar 5) (tVar 4)))) (te := (tVar 5)) rfl scOpn.nd rfl rfl (sw_true rfl rfl rfl (by decide +kernel)) (pi_list (pv 2)) (blkOk_by (N := ["boxes", "held", "closed", "told", "ready", "box"]) (sc := defScope sOpn) (by decide +kernel)) (fun _ _ _ _ _ => (pg_name (i := 5) scOpn.nd rfl (.inl rfl))) (fun _ _ _ _ _ => (pts_one (pt_cmpR op_notIn_seq (pv 5) (pv 4) (by rfl)))) (fun _ _ _ _ _ => (pv 5)))
      (pss_one (ps_set (i := 4) scOpn.nd rfl (.inr rfl) (pe_lc (own := [("box", 5)]) (g := (gName 5)) (tt := (tB (tCall (spFits K) [] E0 (tCons (tOp (rIxT K) (tOp (rIx K) (tVar 0) (tVar 5)) (tC (.int 0))) (tCons (tVar 1) tNil))))) (te := (tVar 5)) rfl scOpn.nd (pi_list (pv 2)) (blkOk_by (N := ["boxes", "held", "closed", "told", "ready", "box"]) (sc := defScope sOpn) (by decide +kernel)) (fun _ _ _ _ _ => (pg_name (i := 5) scOpn.nd rfl (.inl rfl))) (fun _ _ _ _ _ => (pts_one (pt_val (pcall DFits GFits (hr.mono (by omega)) (pa_cons (pe_ix ix_tup (pe_ix ix_seq (pv 0) (pv 5) (fun _ _ => rfl)) pe_int (fun _ _ => rfl)) (pa_cons (pv 1) pa_nil)))))) (fun _ _ _ _ _ => (pv 5)))))))))
      (pss_one (ps_ret (pe_tup (pa_cons (pv 3) (pa_cons (pe_callTy call_tupOf (by rfl) B.tup boot_tuple (pa_cons (pv 2) pa_nil)) pa_nil)))))))), ?_⟩
    refine q_asgL (xs := []) (el_lst ea_nil (by decide)) fun t H1 nt e1 ht => ?_
    refine q_asgL (el_ready (K := K) (hB.ex e1) hF (e1 _ _ hh) (e1 _ _ hc) hlt hl) fun r H2 nr e2 hr2 => ?_
    refine q_while (fun m σ' H' => ∃ (h' c' r' : Addr) (y5 : Option V) (held' : List Str) (closed' : List Nat) (done : List (List Nat)) (ys : List V), σ' = [some (.ref b), some (.ref h'), some (.ref c'), some (.ref t), some (.ref r'), y5] ∧ Ex H H' ∧
        H' h' = some (.lst (held'.map V.str)) ∧ H' c' = some (.lst (closed'.map vN)) ∧ H' r' = some (.lst ((readyOf bs held' closed').map vN)) ∧ H' t = some (.lst ys) ∧ TupsAt K H' ys done ∧ h' ≠ t ∧ c' ≠ t ∧ r' ≠ t ∧
        done ++ roundsOf bs held' closed' = roundsOf bs held closed ∧ closed' = less closed done.flatten ∧ (∀ i ∈ closed', i < bs.length) ∧ closed'.length ≤ 1000 ∧ held'.length + 6 * closed'.length ≤ 10000 ∧ done.length + closed'.length ≤ 1000 ∧ m = closed'.length) closed.length ?_ (fun m σ' H' hW => ?_)
    · refine ⟨h, c, r, none, held, closed, [], [], rfl, e1.trans e2, (e1.trans e2) _ _ hh, (e1.trans e2) _ _ hc, hr2, e2 _ _ ht, .nil, ne_of_none hh nt, ne_of_none hc nt, fun z => ?_, rfl, ?_, hlt, hl, hz, by simpa using hl, rfl⟩
      · rw [z, ht] at nr
        cases nr
      · show closed = closed.filter _
        exact (List.filter_eq_self.mpr fun i _ => by simp).symm
    · obtain ⟨h', c', r', y5, held', closed', done, ys, rfl, eH, hh', hc', hr', ht', hT, nh, nc, nrt, hsum, hcl, hlt', hl', hz', hd', rfl⟩ := hW
      refine ⟨_, et_truL (K := K) (ev_var (v := .ref r') rfl) (sq_of hr'), fun hb H3 e3 => ?_, fun hb H3 e3 => ?_⟩
      · have hne : readyOf bs held' closed' ≠ [] := fun z => by
          rw [z] at hb
          cases hb
        have hys : ys.length = done.length := paired_len hT
        have hrl := ready_less bs held' closed'
        have hlt2 := less_lt hne
        have hkl := keysIn_len (fun b hb => (hF.2 b hb).2) (readyOf bs held' closed')
        have hrm : ∀ i ∈ readyOf bs held' closed', i < bs.length := fun i hi => hlt' i (List.mem_filter.mp hi).1
        refine ⟨_, fun σ2 H2 hN => ⟨_, hlt2, hN⟩, ?_⟩
        refine q_appU (K := K) (l := t) (e3 _ _ ht') (ev_var rfl) (eu_tupL (K := K) (ev_var (v := .ref r') rfl) (sq_of (e3 _ _ hr'))) (by omega) fun p H4 hp e4 hp4 => ?_
        have fr : ∀ a o, H' a = some o → a ≠ t → (upd H4 t (.lst (ys ++ [.ref p]))) a = some o := fun a o ha na => by
          rw [upd_ne na]
          exact e4 _ _ (e3 _ _ ha)
        have eX : Ex H (upd H4 t (.lst (ys ++ [.ref p]))) := Ex.mut ((eH.trans e3).trans e4) nt
        have ht4 : H4 t = some (.lst ys) := e4 _ _ (e3 _ _ ht')
        have kT : KeepT H' (upd H4 t (.lst (ys ++ [.ref p]))) := (KeepT.ex (e3.trans e4)).trans (KeepT.lst ht4)
        refine q_asgL (xs := (held' ++ keysIn bs (readyOf bs held' closed')).map V.str) (by
            rw [List.map_append]
            refine el_cat (ev_var (v := .ref h') rfl) (fr _ _ hh' nh) (el_call (ea_cons (ev_var (v := .ref b) rfl) (ea_cons (ev_var (v := .ref r') rfl) ea_nil)) (SpL.of fun H5 e5 Q q E => ⟨b, r', bs, _, rfl, hB.ex (eX.trans e5), .inl (sq_of (e5 _ _ (fr _ _ hr' nrt))), hrm, by omega, fun b hb => (hF.2 b hb).2, q⟩)) ?_
            rw [List.length_map, List.length_map]
            omega) fun h2 H5 nh2 e5 hh2 => ?_
        have np : h2 ≠ t := fun z => by
          rw [z, upd_same] at nh2
          cases nh2
        refine q_asgL (el_less (K := K) (h := h2) (r := r') (e5 _ _ (fr _ _ hc' nc)) (e5 _ _ (fr _ _ hr' nrt)) hl') fun c2 H6 nc2 e6 hc2 => ?_
        have nc2t : c2 ≠ t := fun z => by
          rw [z, e5 _ _ upd_same] at nc2
          cases nc2
        have hlt2' : ∀ i ∈ less closed' (readyOf bs held' closed'), i < bs.length := fun i hi => hlt' i (List.mem_filter.mp hi).1
        refine s_asgL (el_ready (K := K) (hB.ex ((eX.trans e5).trans e6)) hF (e6 _ _ hh2) hc2 hlt2' (by omega)) fun r2 H7 nr2 e7 hr7 => ?_
        refine ⟨h2, c2, r2, y5, _, _, done ++ [readyOf bs held' closed'], ys ++ [.ref p], rfl, ((eX.trans e5).trans e6).trans e7, e7 _ _ (e6 _ _ hh2), e7 _ _ hc2, hr7, e7 _ _ (e6 _ _ (e5 _ _ upd_same)), ?_, np, nc2t, fun z => ?_, ?_, ?_, hlt2', by omega, ?_, ?_, rfl⟩
        · refine paired_app ((hT.keep (kT.trans (KeepT.ex ((e5.trans e6).trans e7))))) ⟨p, rfl, ?_⟩
          refine keep_t (KeepT.ex ((e5.trans e6).trans e7)) (keep_t (KeepT.lst ht4) (st_of hp4))
        · rw [z, e6 _ _ (e5 _ _ upd_same)] at nr2
          cases nr2
        · rw [List.append_assoc, ← hsum, roundsOf_cons hne]
          rfl
        · rw [List.flatten_append, List.flatten_singleton, ← less_less, ← hcl]
        · rw [List.length_append]
          omega
        · rw [List.length_append, List.length_singleton]
          have : 0 < (readyOf bs held' closed').length := List.length_pos_iff.mpr hne
          omega
      · have hne : readyOf bs held' closed' = [] := by
          cases e : readyOf bs held' closed' with
          | nil => rfl
          | cons a r =>
            rw [e] at hb
            cases hb
        rw [roundsOf_nil hne, List.append_nil] at hsum
        have hleft : closed' = leftOf bs held closed := by rw [hcl, hsum]; rfl
        refine ⟨.ref t, rfl, ?_⟩
        refine eu_tupL (K := K) (ev_var (v := .ref c') rfl) (sq_of (e3 _ _ hc')) H3 (Ex.refl H3) _ fun l H4 nl e4 hl4 => ?_
        refine ⟨by show 2 ≤ sizeLine; decide, fun p hp => ?_⟩
        have e5 := Ex.new (o := .tup [.ref t, .ref l]) hp
        have e45 := e4.trans e5
        refine q p t l ys _ nt (fresh_back (eH.trans e3) nl) ((eH.trans e3).trans e45) upd_same (e45 _ _ (e3 _ _ ht')) ?_ ?_
        · rw [← hsum]
          exact hT.keep (KeepT.ex (e3.trans e45))
        · rw [← hleft]
          exact e5 _ _ hl4
/-! ### shut_boxes -/
def spShB (K : PySem.W.Frag) : Sp := fun vs H Q _ => ∃ (b h k : Addr) (bs : List Box) (hand : List Str) (broken : List Nat), vs = [.ref b, .ref h, .ref k] ∧ BoxesS K H b bs ∧ Few bs ∧ SqT K H h (hand.map V.str) ∧ hand.length ≤ 100 ∧ SqT K H k (broken.map vN) ∧
  (∀ i ∈ broken, i < bs.length) ∧ broken.length ≤ 100 ∧ RetU ((shutOf bs hand broken).map vN) H Q
theorem ok_shB {f fKeys fOpn : Addr} {fd fdKeys fdOpn : FuncData} {k : Nat} (F : Fun K "shut_boxes" "shut_boxes" sShB f fd) (DKeys : Df K mg "keys_in" sKeys ["boxes", "some"] fKeys fdKeys) (DOpn : Df K mg "opened_in_rounds" sOpn ["boxes", "held", "closed"] fOpn fdOpn) (GKeys : FnOk P w K mg base CX0 (k + 1) fKeys fdKeys ["boxes", "some"] (spKeys K)) (GOpn : FnOk P w K mg base CX0 (k + 2) fOpn fdOpn ["boxes", "held", "closed"] (spOpn K)) (B : Bu mg) : FnOk P w K mg base CX0 (k + 3) f fd ["boxes", "hand", "broken"] (spShB K) := by
  refine F.ok scShB (fun vs H Q E h => ?_) (fun cdv A outer s H vs Q E hr h => ?_)
  · obtain ⟨b, h, k, bs, held, closed, rfl, _⟩ := h
    rfl
  · obtain ⟨b, h, kk, bs, hand, broken, rfl, hB, hF, hh, hhl, hk, hlt, hl, q⟩ := h
    refine ⟨_, (pss_cons (ps_set (i := 3) scShB.nd rfl (.inl rfl) (pe_op op_cat (pe_callTy call_list_of (by rfl) B.lst boot_list (pa_cons (pv 1) pa_nil)) (pcall DKeys GKeys (hr.mono (by omega)) (pa_cons (pv 0) (pa_cons (pv 2) pa_nil)))))
      (pss_cons (ps_setLc (i := 4) (own := [("box", 7)]) (g := (gName 7)) (tt := (tTest (tOp (rIn K true) (tVar 7) (tVar 2)))) (te := (tVar 7)) rfl scShB.nd rfl rfl (sw_true rfl rfl rfl (by decide +kernel)) (pi_range1 (by rfl) B.rng (pa_cons (pe_callB call_len_seq (by rfl) B.len PySem.boot_len (pa_cons (pv 0) pa_nil)) pa_nil)) (blkOk_by (N := ["boxes", "hand", "broken", "held", "closed", "told", "left", "box"]) (sc := defScope sShB) (by decide +kernel)) (fun _ _ _ _ _ => (pg_name (i := 7) scShB.nd rfl (.inl rfl))) (fun _ _ _ _ _ => (pts_one (pt_cmpR op_notIn_seq (pv 7) (pv 2) (by rfl)))) (fun _ _ _ _ _ => (pv 7)))
      (pss_cons (ps_asg (pcall DOpn GOpn (hr.mono (by omega)) (pa_cons (pv 0) (pa_cons (pv 3) (pa_cons (pv 4) pa_nil)))) (pg_tup rfl (pgs_cons (pg_name (i := 5) scShB.nd rfl (.inl rfl)) (pgs_cons (pg_name (i := 6) scShB.nd rfl (.inl rfl)) pgs_nil))))
      (pss_one (ps_ret (pv 6)))))), ?_⟩
    have hkl := keysIn_len (fun b hb => (hF.2 b hb).2) broken
    have hb30 := hF.1
    refine q_asgL (xs := (hand ++ keysIn bs broken).map V.str) (by
      rw [List.map_append]
      refine el_catN (el_listT (K := K) (ev_var (v := .ref h) rfl) hh) (el_call (ea_cons (ev_var (v := .ref b) rfl) (ea_cons (ev_var (v := .ref kk) rfl) ea_nil)) (SpL.of fun H5 e5 Q q E => ⟨b, kk, bs, _, rfl, hB.ex e5, .inr (ex_t e5 hk), hlt, by omega, fun b hb => (hF.2 b hb).2, q⟩)) ?_
      rw [List.length_map, List.length_map]
      omega) fun h3 H1 n1 e1 hh3 => ?_
    refine q_asgL (xs := (less (List.range bs.length) broken).map vN) (by
      refine el_lc (ew_rng1 (ea_cons (ev_lenB (K := K) (ev_var (v := .ref b) rfl) (hB.ex e1)) ea_nil) (by omega)) (by omega) (fun i => !decide (i ∈ broken)) (fun i => vN i) rfl (fun i x H2 H3 Q e hi hy k => ?_)
      obtain ⟨rfl, rfl⟩ := hy
      refine k _ _ (Ex.refl _) rfl ?_ fun _ => ?_
      · rw [← inV_nat]
        exact et_test (ev_op (ev_var rfl) (ev_var (v := .ref kk) rfl) (rv_niT (ex_t (e1.trans e) hk) rfl (flat_nats broken)))
      · exact ev_var rfl) fun h4 H2 n2 e2 hh4 => ?_
    have hcl : (less (List.range bs.length) broken).length ≤ bs.length := by
      have := less_len (List.range bs.length) broken
      rw [List.length_range] at this
      exact this
    have hz : (hand ++ keysIn bs broken).length + 6 * (less (List.range bs.length) broken).length ≤ 10000 := by
      rw [List.length_append]
      omega
    have hcm : ∀ i ∈ less (List.range bs.length) broken, i < bs.length := fun i hi => List.mem_range.mp (List.mem_filter.mp hi).1
    refine ⟨.ref b, rfl, .ref h3, rfl, .ref h4, rfl, b, h3, h4, bs, _, _, rfl, hB.ex (e1.trans e2), hF, e2 _ _ hh3, hh4, hcm, by omega, hz, fun p t l ys H3 nt nl e3 hp ht hT hll => ?_⟩
    refine ⟨p, _, rfl, st_of hp, rfl, .ref t, [.ref l], rfl, .ref l, [], rfl, rfl, .ref l, rfl, ?_⟩
    exact q l H3 (fresh_back (e1.trans e2) nl) ((e1.trans e2).trans e3) hll
end
end Kw
set_option Elab.async false
set_option linter.all false
set_option maxRecDepth 100000
set_option maxHeartbeats 4000000
namespace Kw
open PySem PySem.Spec PyProof.Rows L2 Evl
abbrev sCell : Stmt := topS 40
theorem scCell : FnScope ["script", "k"] ["script", "k"] (defScope sCell) := ⟨rfl, rfl, rfl, by decide +kernel, rfl, by decide +kernel, by decide +kernel⟩
abbrev sDraw : Stmt := topS 41
theorem scDraw : FnScope ["cell", "many", "size", "found", "rest", "stirred", "k"] ["cell", "many", "size"] (defScope sDraw) := ⟨rfl, rfl, rfl, by decide +kernel, rfl, by decide +kernel, by decide +kernel⟩
abbrev sBag : Stmt := topS 42
theorem scBag : FnScope ["script", "k"] ["script", "k"] (defScope sBag) := ⟨rfl, rfl, rfl, by decide +kernel, rfl, by decide +kernel, by decide +kernel⟩
abbrev sBags : Stmt := topS 43
theorem scBags : FnScope ["script", "limit", "k"] ["script", "limit"] (defScope sBags) := ⟨rfl, rfl, rfl, by decide +kernel, rfl, by decide +kernel, by decide +kernel⟩
abbrev sTake : Stmt := topS 44
theorem scTake : FnScope ["bag", "many"] ["bag", "many"] (defScope sTake) := ⟨rfl, rfl, rfl, by decide +kernel, rfl, by decide +kernel, by decide +kernel⟩
abbrev BuL (mg : Str → Option Value) : Prop := Bu mg
def DrawsOk (xs : List Int) : Prop := xs.length = 400 ∧ ∀ x ∈ xs, 0 ≤ x ∧ x < 1000
def Bag (H : Hp) (a : Addr) : Prop := ∃ (d : Addr) (n : Int) (xs : List Int), H a = some (.lst [.ref d, .int n]) ∧ H d = some (.lst (xs.map V.int)) ∧ DrawsOk xs
/-- all stays but what lies at a -/
def ExB (a : Addr) (H H' : Hp) : Prop := ∀ b o, b ≠ a → H b = some o → H' b = some o
theorem ExB.refl (a : Addr) (H : Hp) : ExB a H H := fun _ _ _ h => h
theorem ExB.trans {a : Addr} {H H1 H2 : Hp} (x : ExB a H H1) (y : ExB a H1 H2) : ExB a H H2 := fun b o n h => y b o n (x b o n h)
theorem ExB.of {a : Addr} {H H' : Hp} (e : Ex H H') : ExB a H H' := fun b o _ h => e b o h
theorem Bag.ex {H H' : Hp} {a : Addr} (e : Ex H H') (h : Bag H a) : Bag H' a := by
  obtain ⟨d, n, xs, h1, h2, h3⟩ := h
  exact ⟨d, n, xs, e _ _ h1, e _ _ h2, h3⟩
theorem Bag.keepT {H H' : Hp} {a : Addr} (h : Bag H a) (e : ExB a H H') : KeepT H H' := fun b xs r => by
  obtain ⟨d, n, ys, h1, _⟩ := h
  have nb : b ≠ a := by
    rintro rfl
    rcases r with r | ⟨o, r⟩
    · rw [h1] at r; cases r
    · rw [h1] at r; cases r
  rcases r with r | ⟨o, r⟩
  · exact .inl (e _ _ nb r)
  · exact .inr ⟨o, e _ _ nb r⟩
section
variable {P : Program} {w : World} {K : PySem.W.Frag} {mg : Str → Option Value} {base : Heap}
/-! ### _law_cell_at -/
def spCell (K : PySem.W.Frag) : Sp := fun vs H Q _ => ∃ (a : Addr) (ns : List Int) (k : Nat), vs = [.ref a, vN k] ∧ SqL K H a (ns.map V.int) ∧ ∀ c H2, Ex H H2 → Q (.int c) H2
theorem ok_cell {f : Addr} {fd : FuncData} {k : Nat} (F : Fun K "_law_cell_at" "_law_cell_at" sCell f fd) (B : Bu mg) : FnOk P w K mg base CX0 (k + 1) f fd ["script", "k"] (spCell K) := by
  refine F.ok scCell (fun vs H Q E h => ?_) (fun cdv A outer s H vs Q E hr h => ?_)
  · obtain ⟨a, ns, k, rfl, _⟩ := h
    rfl
  · obtain ⟨a, ns, k, rfl, hS, q⟩ := h
    refine ⟨_, pss_cons (ps_if (pt_cmpR op_lt (pv 1) (pe_callB call_len_seq (by rfl) B.len PySem.boot_len (pa_cons (pv 0) pa_nil)) (nomark _)) (pss_one (ps_ret (pe_ix ix_list (pv 0) (pv 1) (fun _ _ => rfl)))) pss_nil) (pss_one (ps_ret pe_int)), ?_⟩
    refine q_when (b := decide ((k : Int) < ((ns.map V.int).length : Nat))) (et_test (ev_op (ev_var (v := vN k) rfl) (ev_len (K := K) (ev_var (v := .ref a) rfl) hS) rv_I0)) (fun hb H1 e1 => ?_) (fun hb H1 e1 => q 0 H1 e1)
    have hk : k < ns.length := by
      have := of_decide_eq_true hb
      rw [List.length_map] at this
      omega
    exact s_ret (ev_op (ev_var (v := .ref a) rfl) (ev_var (v := vN k) rfl) (rv_ixL (v := .int ns[k]) (ex_l e1 hS) (atI_nat (by rw [List.getElem?_map, List.getElem?_eq_getElem hk]; rfl)))) fun H2 e2 => q _ H2 (e1.trans e2)
/-! ### _law_draws -/
def DrawI (H : Hp) (p : Addr) (c : Int) (i : Nat) (σ' : L2.St) (H' : Hp) : Prop := ∃ (rest st : Int) (y : Option V) (xs : List Int), σ' = [some (.int c), some (.int 400), some (.int 1000), some (.ref p), some (.int rest), some (.int st), y] ∧ Ex H H' ∧ H' p = some (.lst (xs.map V.int)) ∧ xs.length = i - 3 ∧ (∀ x ∈ xs, 0 ≤ x ∧ x < 1000) ∧ 0 ≤ st ∧ st < 2305843009213693951
theorem DrawI.grow {H H' : Hp} {p : Addr} {c rest st v : Int} {i : Nat} {y : Option V} {xs : List Int} (np : H p = none) (e : Ex H H') (h2 : 2 < i) (hl : xs.length = i - 3) (hall : ∀ x ∈ xs, 0 ≤ x ∧ x < 1000) (v0 : 0 ≤ v) (v1 : v < 1000) (s0 : 0 ≤ st) (s1 : st < 2305843009213693951) :
    DrawI H p c (i + 1) [some (.int c), some (.int 400), some (.int 1000), some (.ref p), some (.int rest), some (.int st), y] (upd H' p (.lst (xs.map V.int ++ [.int v]))) := by
  refine ⟨rest, st, y, xs ++ [v], rfl, Ex.mut e np, ?_, by rw [List.length_append, List.length_singleton]; omega, fun x hx => ?_, s0, s1⟩
  · rw [upd_same, List.map_append]
    rfl
  · rcases List.mem_append.mp hx with h | h
    · exact hall x h
    · rw [List.mem_singleton.mp h]
      exact ⟨v0, v1⟩
def spDraw (K : PySem.W.Frag) : Sp := fun vs H Q _ => ∃ c : Int, vs = [.int c, .int 400, .int 1000] ∧ ∀ p xs H2, H p = none → Ex H H2 → H2 p = some (.lst (xs.map V.int)) → DrawsOk xs → Q (.ref p) H2
theorem ok_draw {f : Addr} {fd : FuncData} {k : Nat} (F : Fun K "_law_draws" "_law_draws" sDraw f fd) (B : Bu mg) (BL : BuL mg) : FnOk P w K mg base CX0 (k + 1) f fd ["cell", "many", "size"] (spDraw K) := by
  refine F.ok scDraw (fun vs H Q E h => ?_) (fun cdv A outer s H vs Q E hr h => ?_)
  · obtain ⟨c, rfl, _⟩ := h
    rfl
  · obtain ⟨c, rfl, q⟩ := h
    refine ⟨_, pss_cons (ps_set (i := 3) scDraw.nd rfl (.inl rfl) (pe_lst pa_nil))
      (pss_cons (ps_set (i := 4) scDraw.nd rfl (.inl rfl) (pe_op op_mul (pv 0) (pe_callTy call_int1 (by rfl) BL.int PyProof.Rows.boot_int (pa_cons (pe_cmpR op_ge (pv 0) (pe_op op_pow pe_int pe_int) (nomark _)) pa_nil))))
      (pss_cons (ps_set (i := 5) scDraw.nd rfl (.inl rfl) (pe_op op_mod (pv 0) pe_int))
      (pss_cons (ps_for PassesOwn.never rfl (pi_range1 (by rfl) B.rng (pa_cons (pe_op op_add (pv 1) pe_int) pa_nil)) (pg_name (i := 6) scDraw.nd rfl (.inl rfl))
        (pss_cons (ps_set (i := 5) scDraw.nd rfl (.inl rfl) (pe_op op_mod (pe_op op_add (pe_op op_add (pe_op op_add (pe_op op_mul (pv 5) (pv 5)) (pe_op op_mul pe_int (pv 5))) (pv 6)) pe_int) pe_int))
        (pss_one (ps_if (pw_and (pt_cmpR op_gt (pv 6) pe_int (nomark _)) (pw_and1 (pt_cmpR op_gt (pv 4) pe_int (nomark _)))).pt
          (pss_cons (ps_expr (pe_bm PySem.F.plainAttrs_list PySem.F.slot_list_append PySem.F.type_list_append mt_append (pv 3) (pa_cons (pe_op op_mod (pv 4) (pv 2)) pa_nil)))
            (pss_one (ps_set (i := 4) scDraw.nd rfl (.inl rfl) (pe_op op_fdiv (pv 4) (pv 2)))))
          (pss_one (ps_if (pt_cmpR op_gt (pv 6) pe_int (nomark _)) (pss_one (ps_expr (pe_bm PySem.F.plainAttrs_list PySem.F.slot_list_append PySem.F.type_list_append mt_append (pv 3) (pa_cons (pe_op op_mod (pe_op op_fdiv (pv 5) pe_int) (pv 2)) pa_nil)))) pss_nil))))))
      (pss_one (ps_ret (pv 3)))))), ?_⟩
    refine q_asgL (xs := []) (el_lst ea_nil (by decide)) fun p H1 np e1 hp => ?_
    have t10 : ∀ {σ : L2.St} {H : Hp}, Ev (tOp (rI CPow fun i j => .int (i ^ j.toNat)) (tC (.int 10)) (tC (.int 18))) σ H (.int ((10 : Int) ^ (18 : Int).toNat)) := fun {σ H} => ev_op ev_c ev_c (rv_I ⟨by decide, by decide, by decide⟩)
    refine q_asg (v := .int (c * (if decide ((10 : Int) ^ (18 : Int).toNat ≤ c) then 1 else 0))) (ev_op (ev_var (v := .int c) rfl) (ev_cb (ea_cons (ev_op (ev_var (v := .int c) rfl) t10 rv_I0) ea_nil) (z := .int (if decide ((10 : Int) ^ (18 : Int).toNat ≤ c) then 1 else 0)) (fun H2 _ Q q => .inr ⟨_, rfl, q H2 (Ex.refl H2)⟩)) (rv_I (.inr ?_))) fun H2 e2 => ?_
    · split <;> exact ⟨by decide, by decide⟩
    refine q_asg (v := .int (c % 2305843009213693951)) (ev_op (ev_var (v := .int c) rfl) ev_c (rv_I (by decide))) fun H3 e3 => ?_
    refine q_forR1 (n := 403) (ea_cons (ev_op (ev_var (v := .int 400) rfl) ev_c rv_I0) ea_nil) (by decide) (DrawI H p c)
      (fun H4 e4 => ⟨_, _, none, [], rfl, ((e1.trans e2).trans e3).trans e4, ((e2.trans e3).trans e4) _ _ hp, rfl, by simp, Int.emod_nonneg _ (by decide), Int.emod_lt_of_pos _ (by decide)⟩) (fun i σ' H' hi hP => ?_) (fun σ' H' hP => ?_)
    · obtain ⟨rest, st, y, xs, rfl, eH, hp', hlen, hall, s0, s1⟩ := hP
      refine q_asg (v := .int ((st * st + 48271 * st + (i : Int) + 1) % 2305843009213693951)) (ev_op (ev_op (ev_op (ev_op (ev_op (ev_var (v := .int st) rfl) (ev_var (v := .int st) rfl) (rv_I (.inl ⟨by omega, by omega⟩))) (ev_op ev_c (ev_var (v := .int st) rfl) (rv_I (.inl ⟨by decide, by decide⟩))) rv_I0) (ev_var (v := .int (i : Int)) rfl) rv_I0) ev_c rv_I0) ev_c (rv_I (by decide))) fun H5 e5 => ?_
      generalize hst : (st * st + 48271 * st + (i : Int) + 1) % 2305843009213693951 = st2
      have z0 : 0 ≤ st2 := by rw [← hst]; exact Int.emod_nonneg _ (by decide)
      have z1 : st2 < 2305843009213693951 := by rw [← hst]; exact Int.emod_lt_of_pos _ (by decide)
      have hxl : (xs.map V.int).length < 100000 := by
        rw [List.length_map]
        omega
      refine s_if (b := decide ((2 : Int) < (i : Int)) && decide (0 < rest)) (et_and (et_test (ev_op (ev_var (v := .int (i : Int)) rfl) ev_c rv_gt)) fun _ => et_test (ev_op (ev_var (v := .int rest) rfl) ev_c rv_gt)) (fun hb H6 e6 => ?_) (fun hb H6 e6 => ?_)
      · have hb' := Bool.and_eq_true_iff.mp hb
        have h2 : 2 < i := by
          have := of_decide_eq_true hb'.1
          omega
        refine q_app (K := K) (l := p) ((e5.trans e6) _ _ hp') (ev_var (v := .ref p) rfl) (v := .int (rest % 1000)) (ev_op (ev_var (v := .int rest) rfl) (ev_var (v := .int 1000) rfl) (rv_I (by decide))) hxl fun H7 e7 => ?_
        refine s_asg (v := .int (rest / 1000)) (ev_op (ev_var (v := .int rest) rfl) (ev_var (v := .int 1000) rfl) (rv_I ⟨by decide, by decide⟩)) fun H8 e8 => ?_
        have g := DrawI.grow (c := c) (rest := rest / 1000) (y := some (.int (i : Int))) np (((eH.trans e5).trans e6).trans e7) h2 hlen hall (Int.emod_nonneg rest (by decide : (1000 : Int) ≠ 0)) (Int.emod_lt_of_pos rest (by decide : (0 : Int) < 1000)) z0 z1
        obtain ⟨r', s', y', xs', g1, g2, g3, g4⟩ := g
        exact ⟨r', s', y', xs', g1, g2.trans e8, e8 _ _ g3, g4⟩
      · refine s_when (b := decide ((2 : Int) < (i : Int))) (et_test (ev_op (ev_var (v := .int (i : Int)) rfl) ev_c rv_gt)) (fun hb2 H7 e7 => ?_) (fun hb2 H7 e7 => ?_)
        · have h2 : 2 < i := by
            have := of_decide_eq_true hb2
            omega
          refine s_app (K := K) (l := p) (((e5.trans e6).trans e7) _ _ hp') (ev_var (v := .ref p) rfl) (v := .int (st2 / 4096 % 1000)) (ev_op (ev_op (ev_var (v := .int st2) rfl) ev_c (rv_I ⟨by decide, by decide⟩)) (ev_var (v := .int 1000) rfl) (rv_I (by decide))) hxl fun H8 e8 => ?_
          exact DrawI.grow np ((((eH.trans e5).trans e6).trans e7).trans e8) h2 hlen hall (Int.emod_nonneg _ (by decide : (1000 : Int) ≠ 0)) (Int.emod_lt_of_pos _ (by decide : (0 : Int) < 1000)) z0 z1
        · have h2 : ¬ 2 < i := by
            have := of_decide_eq_false hb2
            omega
          exact ⟨rest, st2, _, xs, rfl, (((eH.trans e5).trans e6).trans e7), ((e5.trans e6).trans e7) _ _ hp', by omega, hall, z0, z1⟩
    · obtain ⟨rest, st, y, xs, rfl, eH, hp', hlen, hall, s0, s1⟩ := hP
      exact ⟨.ref p, rfl, q p xs H' np eH hp' ⟨hlen, hall⟩⟩
end
end Kw
set_option Elab.async false
set_option linter.all false
set_option maxRecDepth 100000
set_option maxHeartbeats 4000000
namespace Kw
open PySem PySem.Spec PyProof.Rows L2 Evl
section
variable {P : Program} {w : World} {K : PySem.W.Frag} {mg : Str → Option Value} {base : Heap}
/-! ### _law_bag -/
def spBag (K : PySem.W.Frag) : Sp := fun vs H Q _ => ∃ (a : Addr) (ns : List Int) (k : Nat), vs = [.ref a, vN k] ∧ SqL K H a (ns.map V.int) ∧ ∀ p d xs H2, H p = none → H d = none → Ex H H2 → H2 p = some (.lst [.ref d, .int 0]) → H2 d = some (.lst (xs.map V.int)) → DrawsOk xs → Q (.ref p) H2
theorem ok_bag {f fC fD : Addr} {fd fdC fdD : FuncData} {k : Nat} (F : Fun K "_law_bag" "_law_bag" sBag f fd) (DC : Df K mg "_law_cell_at" sCell ["script", "k"] fC fdC) (DD : Df K mg "_law_draws" sDraw ["cell", "many", "size"] fD fdD)
    (GC : FnOk P w K mg base CX0 (k + 1) fC fdC ["script", "k"] (spCell K)) (GD : FnOk P w K mg base CX0 (k + 1) fD fdD ["cell", "many", "size"] (spDraw K)) : FnOk P w K mg base CX0 (k + 2) f fd ["script", "k"] (spBag K) := by
  refine F.ok scBag (fun vs H Q E h => ?_) (fun cdv A outer s H vs Q E hr h => ?_)
  · obtain ⟨a, ns, k, rfl, _⟩ := h
    rfl
  · obtain ⟨a, ns, k, rfl, hS, q⟩ := h
    refine ⟨_, pss_one (ps_ret (pe_lst (pa_cons (pcall DD GD hr (pa_cons (pcall DC GC hr (pa_cons (pv 0) (pa_cons (pv 1) pa_nil))) (pa_cons pe_int (pa_cons pe_int pa_nil)))) (pa_cons pe_int pa_nil)))), ?_⟩
    refine ⟨.ref a, rfl, vN k, rfl, a, ns, k, rfl, hS, fun c H2 e2 => ?_⟩
    refine ⟨c, rfl, fun p xs H3 np e3 h3 ho => ⟨by show 2 ≤ sizeLine; decide, fun b nb => ?_⟩⟩
    have e4 := Ex.new (o := .lst [.ref p, .int 0]) nb
    exact q b p xs _ (fresh_back (e2.trans e3) nb) (fresh_back e2 np) ((e2.trans e3).trans e4) upd_same (e4 _ _ h3) ho
/-! ### _law_bags -/
def BagsAt (H : Hp) (ys : List V) : Prop := ∀ y ∈ ys, ∃ a, y = .ref a ∧ Bag H a
theorem BagsAt.ex {H H' : Hp} {ys : List V} (e : Ex H H') (h : BagsAt H ys) : BagsAt H' ys := fun y hy => by
  obtain ⟨a, h1, h2⟩ := h y hy
  exact ⟨a, h1, h2.ex e⟩
def spBags (K : PySem.W.Frag) (lim : Nat) : Sp := fun vs H Q _ => ∃ (a : Addr) (ns : List Int), vs = [.ref a, vN lim] ∧ SqL K H a (ns.map V.int) ∧ ns.length ≤ 1000 ∧ ∀ p ys H2, H p = none → Ex H H2 → H2 p = some (.lst ys) → BagsAt H2 ys → (∀ y ∈ ys, y ≠ .ref p) → ys.length ≤ lim → Q (.ref p) H2
/-- the lists made on the way stay apart from the list that is made of them -/
theorem ok_bags {f fB : Addr} {fd fdB : FuncData} {k lim : Nat} (hlim : 1 ≤ lim ∧ lim ≤ 1000) (F : Fun K "_law_bags" "_law_bags" sBags f fd) (B : Bu mg) (BL : BuL mg) (DB : Df K mg "_law_bag" sBag ["script", "k"] fB fdB)
    (GB : FnOk P w K mg base CX0 (k + 2) fB fdB ["script", "k"] (spBag K)) : FnOk P w K mg base CX0 (k + 3) f fd ["script", "limit"] (spBags K lim) := by
  refine F.ok scBags (fun vs H Q E h => ?_) (fun cdv A outer s H vs Q E hr h => ?_)
  · obtain ⟨a, ns, rfl, _⟩ := h
    rfl
  · obtain ⟨a, ns, rfl, hS, hl, q⟩ := h
    refine ⟨_, pss_one (ps_ret (pe_lc (own := [("k", 2)]) (g := gName 2) (tt := tYes) (te := tCall (spBag K) [] E0 (tCons (tVar 0) (tCons (tVar 2) tNil))) rfl scBags.nd
        (pi_range1 (by rfl) B.rng (pa_cons (pe_callB (call_max2 rfl) (by rfl) BL.max PyProof.Rows.boot_max (pa_cons pe_int (pa_cons (pe_callB (call_min2 rfl) (by rfl) BL.min PyProof.Rows.boot_min (pa_cons (pv 1) (pa_cons (pe_callB call_len_seq (by rfl) B.len PySem.boot_len (pa_cons (pv 0) pa_nil)) pa_nil))) pa_nil))) pa_nil))
        (blkOk_by (N := ["script", "limit", "k"]) (sc := defScope sBags) (by decide +kernel)) (fun _ _ _ _ _ => pg_name (i := 2) scBags.nd rfl (.inl rfl)) (fun _ _ _ _ _ => pts_nil) (fun _ _ _ _ _ => pcall DB GB hr (pa_cons (pv 0) (pa_cons (pv 2) pa_nil))))), ?_⟩
    have hn : ∃ n : Nat, n ≤ lim ∧ (if (if ((ns.map V.int).length : Int) < (lim : Int) then ((ns.map V.int).length : Int) else (lim : Int)) > 1 then (if ((ns.map V.int).length : Int) < (lim : Int) then ((ns.map V.int).length : Int) else (lim : Int)) else 1) = (n : Int) := by
      split <;> split
      · exact ⟨(ns.map V.int).length, by omega, rfl⟩
      · exact ⟨1, by omega, rfl⟩
      · exact ⟨lim, by omega, rfl⟩
      · exact ⟨1, by omega, rfl⟩
    obtain ⟨n, hn1, hn2⟩ := hn
    refine ⟨vN lim, rfl, .ref a, rfl, a, _, rfl, .inl hS, (lim : Int), _, rfl, 1, _, rfl, _, rfl, ?_⟩
    rw [hn2]
    refine ⟨by omega, by omega, fun D hD => ?_⟩
    rw [Int.toNat_natCast]
    refine lc_it (walk_rng0 (n := n)) (Pv := fun i H' => Ex H H' ∧ ∃ ys : List V, H' D = some (.lst ys) ∧ ys.length = i ∧ ∀ y ∈ ys, ∃ a d n xs, y = .ref a ∧ a ≠ D ∧ d ≠ D ∧ H' a = some (.lst [.ref d, .int n]) ∧ H' d = some (.lst (xs.map V.int)) ∧ DrawsOk xs) ⟨Ex.new hD, [], upd_same, rfl, by simp⟩
      (fun _ _ _ _ => trivial) (fun i x H' H2 hi p y => ?_) (fun H' p => ?_)
    · obtain ⟨p1, ys, p2, p3, p4⟩ := p
      obtain ⟨rfl, rfl⟩ := y
      refine ⟨rfl, yes_do ?_⟩
      refine ⟨.ref a, rfl, vN i, rfl, a, ns, i, rfl, ex_l p1 hS, fun p d xs H3 np nd e3 h3 h3' ho => ?_⟩
      have hD3 : H3 D = some (.lst ys) := e3 _ _ p2
      have npD : p ≠ D := fun z => by
        rw [z, p2] at np
        cases np
      have ndD : d ≠ D := fun z => by
        rw [z, p2] at nd
        cases nd
      refine ⟨ys, hD3, sz_lt (by omega), Ex.mut (p1.trans e3) hD, ys ++ [.ref p], upd_same, by rw [List.length_append, List.length_singleton, p3], fun y hy => ?_⟩
      rcases List.mem_append.mp hy with h | h
      · obtain ⟨a', d', n', xs', r1, r2, r3, r4, r5, r6⟩ := p4 y h
        exact ⟨a', d', n', xs', r1, r2, r3, by rw [upd_ne r2]; exact e3 _ _ r4, by rw [upd_ne r3]; exact e3 _ _ r5, r6⟩
      · rw [List.mem_singleton.mp h]
        exact ⟨p, d, 0, xs, rfl, npD, ndD, by rw [upd_ne npD]; exact h3, by rw [upd_ne ndD]; exact h3', ho⟩
    · obtain ⟨p1, ys, p2, p3, p4⟩ := p
      refine q D ys H' hD p1 p2 (fun y hy => ?_) (fun y hy z => ?_) (by omega)
      · obtain ⟨a', d', n', xs', r1, r2, r3, r4, r5, r6⟩ := p4 y hy
        exact ⟨a', r1, d', n', xs', r4, r5, r6⟩
      · obtain ⟨a', d', n', xs', r1, r2, r3, r4, r5, r6⟩ := p4 y hy
        rw [r1] at z
        exact r2 (V.ref.inj z)
theorem ExB.back {a : Addr} {H H' : Hp} (e : ExB a H H') (h : Bag H' a) {b : Addr} (hb : H' b = none) : H b = none := by
  obtain ⟨d, n, xs, h1, _⟩ := h
  cases q : H b with
  | none => rfl
  | some o =>
    have nb : b ≠ a := fun z => by
      rw [z, h1] at hb
      cases hb
    rw [e b o nb q] at hb
    cases hb
/-! ### _law_take -/
def spTake (K : PySem.W.Frag) : Sp := fun vs H Q _ => ∃ (a : Addr) (m : Int), vs = [.ref a, .int m] ∧ Bag H a ∧ 0 < m ∧ ∀ r H', 0 ≤ r → r < m → ExB a H H' → Bag H' a → Q (.int r) H'
theorem ok_take {f : Addr} {fd : FuncData} {k : Nat} (F : Fun K "_law_take" "_law_take" sTake f fd) (B : Bu mg) : FnOk P w K mg base CX0 (k + 1) f fd ["bag", "many"] (spTake K) := by
  refine F.ok scTake (fun vs H Q E h => ?_) (fun cdv A outer s H vs Q E hr h => ?_)
  · obtain ⟨a, m, rfl, _⟩ := h
    rfl
  · obtain ⟨a, m, rfl, ⟨d, n, xs, h1, h2, h3⟩, hm, q⟩ := h
    refine ⟨_, pss_cons (ps_asg (pe_op op_add (pe_ix ix_list (pv 0) pe_int (fun _ _ => rfl)) pe_int) (pg_sub (pv 0) pe_int set_list))
      (pss_one (ps_ret (pe_op op_mod (pe_ix ix_list (pe_ix ix_list (pv 0) pe_int (fun _ _ => rfl)) (pe_op op_mod (pe_ix ix_list (pv 0) pe_int (fun _ _ => rfl)) (pe_callB call_len_seq (by rfl) B.len PySem.boot_len (pa_cons (pe_ix ix_list (pv 0) pe_int (fun _ _ => rfl)) pa_nil))) (fun _ _ => rfl)) (pv 1)))), ?_⟩
    have nad : d ≠ a := fun z => by
      rw [z, h1] at h2
      have := HO.lst.inj (Option.some.inj h2)
      have := congrArg List.length this
      rw [List.length_map, h3.1] at this
      simp at this
    refine q_setL (l := a) (xs := [.ref d, .int n]) (j := 1) (v := .int (n + 1)) h1 (ev_op (ev_op (ev_var (v := .ref a) rfl) ev_c (rv_ixL (K := K) (sq_of h1) at1)) ev_c rv_I0) (ev_var rfl) ev_c (by show 1 < 2; decide) fun H1 e1 => ?_
    have g1 : upd H1 a (.lst ([V.ref d, .int n].set 1 (.int (n + 1)))) a = some (.lst [.ref d, .int (n + 1)]) := upd_same
    have g2 : upd H1 a (.lst ([V.ref d, .int n].set 1 (.int (n + 1)))) d = some (.lst (xs.map V.int)) := by
      rw [upd_ne nad]
      exact e1 _ _ h2
    have g3 : ExB a H (upd H1 a (.lst ([V.ref d, .int n].set 1 (.int (n + 1))))) := fun b o nb hb => by
      rw [upd_ne nb]
      exact e1 _ _ hb
    generalize upd H1 a (.lst ([V.ref d, .int n].set 1 (.int (n + 1)))) = G at g1 g2 g3
    have hlen : (xs.map V.int).length = 400 := by rw [List.length_map, h3.1]
    have r0 : 0 ≤ (n + 1) % 400 := Int.emod_nonneg _ (by decide)
    have r1 : (n + 1) % 400 < 400 := Int.emod_lt_of_pos _ (by decide)
    obtain ⟨j, hj⟩ := Int.eq_ofNat_of_zero_le r0
    have hj' : j < xs.length := by
      rw [h3.1]
      omega
    have ed : Ev (tOp (rIxL K) (tVar 0) (tC (.int 0))) [some (.ref a), some (.int m)] G (.ref d) := ev_op (ev_var (v := .ref a) rfl) ev_c (rv_ixL (K := K) (sq_of g1) at0)
    refine s_ret (v := .int (xs[j] % m)) (ev_op (ev_op ed (ev_is (w := .int (j : Int)) (ev_op (ev_op (ev_var (v := .ref a) rfl) ev_c (rv_ixL (K := K) (sq_of g1) at1)) (ev_len (K := K) ed (sq_of g2)) (rv_I ?_)) ?_) (rv_ixL (K := K) (v := .int xs[j]) (sq_of g2) (atI_nat (by rw [List.getElem?_map, List.getElem?_eq_getElem hj']; rfl)))) (ev_var (v := .int m) rfl) (rv_I hm)) fun H2 e2 => ?_
    · rw [hlen]
      decide
    · rw [hlen]
      show V.int ((n + 1) % 400) = _
      rw [hj]
    · exact q _ H2 (Int.emod_nonneg _ (by omega)) (Int.emod_lt_of_pos _ hm) (g3.trans (ExB.of e2)) ⟨d, n + 1, xs, e2 _ _ g1, e2 _ _ g2, h3⟩
end
end Kw
set_option Elab.async false
set_option linter.all false
set_option maxRecDepth 100000
set_option maxHeartbeats 4000000
namespace Kw
open PySem PySem.Spec PyProof.Rows L2 Evl
abbrev sSome : Stmt := topS 45
theorem scSome : FnScope ["bag", "most", "wide", "names", "found", "turn"] ["bag", "most", "wide"] (defScope sSome) := ⟨rfl, rfl, rfl, by decide +kernel, rfl, by decide +kernel, by decide +kernel⟩
abbrev sHouse : Stmt := topS 46
theorem scHouse : FnScope ["bag", "boxes", "locks", "wide", "found", "turn"] ["bag", "boxes", "locks", "wide"] (defScope sHouse) := ⟨rfl, rfl, rfl, by decide +kernel, rfl, by decide +kernel, by decide +kernel⟩
def names12 : List Str := ["amber", "blue", "cyan", "dun", "ebony", "fawn", "gold", "hazel", "ivory", "jade", "khaki", "lime"]
theorem names_col : ∀ c ∈ names12, colB c = true := by decide +kernel
theorem rising_of_sorted : ∀ {ys : List Str}, ys.Nodup → sortedS ys = true → Rising ys := by
  intro ys hn hs i x y hx hy
  have key : ∀ (r : List Str) (p : Str) (i : Nat) (x y : Str), risingS p r = true → (p :: r)[i]? = some x → (p :: r)[i + 1]? = some y → ltCps y.cps.toList x.cps.toList = false := by
    intro r
    induction r with
    | nil =>
      intro p i x y _ _ h
      simp at h
    | cons a r ih =>
      intro p i x y h hx hy
      have h' : (!ltCps a.cps.toList p.cps.toList && risingS a r) = true := h
      rw [Bool.and_eq_true_iff] at h'
      cases i with
      | zero =>
        have e1 : p = x := Option.some.inj hx
        have e2 : a = y := Option.some.inj hy
        rw [← e1, ← e2]
        have := h'.1
        cases q : ltCps a.cps.toList p.cps.toList with
        | false => rfl
        | true =>
          rw [q] at this
          cases this
      | succ i => exact ih a i x y h'.2 hx hy
  cases ys with
  | nil => simp at hx
  | cons p r =>
    have h1 := key r p i x y hs hx hy
    rw [ltCps_eq] at h1
    have h2 := of_decide_eq_false h1
    have h3 : x.cps.toList ≤ y.cps.toList := List.not_lt.mp h2
    have hne : x.cps.toList ≠ y.cps.toList := fun z => by
      have := nd_ix hn (by rw [str_ext z] at hx; exact hx) hy
      omega
    by_cases hlt : x.cps.toList < y.cps.toList
    · exact hlt
    · exact absurd (List.le_antisymm h3 (List.not_lt.mp hlt)) hne
theorem any_key {kvs : List (Key × V)} {k : Key} : (kvs.any fun kv => decide (kv.1 = k)) = true ↔ k ∈ kvs.map (·.1) := by
  rw [List.any_eq_true, List.mem_map]
  constructor
  · rintro ⟨x, h1, h2⟩
    exact ⟨x, h1, of_decide_eq_true h2⟩
  · rintro ⟨x, h1, h2⟩
    exact ⟨x, h1, decide_eq_true h2⟩
theorem putK_in {kvs : List (Key × V)} {k : Key} {v : V} (h : k ∈ kvs.map (·.1)) : (putK kvs k v).map (·.1) = kvs.map (·.1) := by
  unfold putK
  rw [if_pos (any_key.mpr h), List.map_map]
  apply List.map_congr_left
  intro x hx
  show (if x.1 = k then (x.1, v) else x).1 = x.1
  split <;> rfl
theorem putK_out {kvs : List (Key × V)} {k : Key} {v : V} (h : ¬ k ∈ kvs.map (·.1)) : (putK kvs k v).map (·.1) = kvs.map (·.1) ++ [k] := by
  unfold putK
  rw [if_neg (fun z => h (any_key.mp z)), List.map_append]
  rfl
abbrev BuS (mg : Str → Option Value) : Prop := Bu mg
section
variable {P : Program} {w : World} {K : PySem.W.Frag} {mg : Str → Option Value} {base : Heap}
def spSome (K : PySem.W.Frag) : Sp := fun vs H Q _ => ∃ (a : Addr) (m w : Nat), vs = [.ref a, vN m, vN w] ∧ Bag H a ∧ m ≤ 6 ∧ 1 ≤ w ∧ w ≤ 12 ∧ ∀ p cs H', H p = none → ExB a H H' → Bag H' a → H' p = some (.tup (cs.map V.str)) → OkCols cs m → (∀ c ∈ cs, c ∈ names12) → Q (.ref p) H'
theorem ok_some {f fT : Addr} {fd fdT : FuncData} {k : Nat} (F : Fun K "_law_some" "_law_some" sSome f fd) (B : Bu mg) (BS : BuS mg) (DT : Df K mg "_law_take" sTake ["bag", "many"] fT fdT) (GT : FnOk P w K mg base CX0 (k + 1) fT fdT ["bag", "many"] (spTake K)) : FnOk P w K mg base CX0 (k + 2) f fd ["bag", "most", "wide"] (spSome K) := by
  refine F.ok scSome (fun vs H Q E h => ?_) (fun cdv A outer s H vs Q E hr h => ?_)
  · obtain ⟨a, m, w, rfl, _⟩ := h
    rfl
  · obtain ⟨a, m, wd, rfl, hB, hm, hw1, hw2, q⟩ := h
    refine ⟨_, pss_cons (ps_set (i := 3) scSome.nd rfl (.inl rfl) (pe_lst (pa_cons pe_str (pa_cons pe_str (pa_cons pe_str (pa_cons pe_str (pa_cons pe_str (pa_cons pe_str (pa_cons pe_str (pa_cons pe_str (pa_cons pe_str (pa_cons pe_str (pa_cons pe_str (pa_cons pe_str pa_nil))))))))))))))
      (pss_cons (ps_set (i := 4) scSome.nd rfl (.inl rfl) pe_dnewK)
      (pss_cons (ps_for PassesOwn.never rfl (pi_range1 (by rfl) B.rng (pa_cons (pcall DT GT hr (pa_cons (pv 0) (pa_cons (pe_op op_add (pv 1) pe_int) pa_nil))) pa_nil)) (pg_name (i := 5) scSome.nd rfl (.inl rfl))
        (pss_one (ps_dput (hu_of hr) (pv 4) (pe_ix ix_list (pv 3) (pcall DT GT hr (pa_cons (pv 0) (pa_cons (pv 2) pa_nil))) (fun _ _ => rfl)) pe_bl rfl)))
      (pss_one (ps_ret (pe_callTy call_tupOf (by rfl) B.tup boot_tuple (pa_cons (pe_callB (call_sortedD rfl) (by rfl) BS.srt PyProof.Rows.boot_sorted (pa_cons (pv 4) pa_nil)) pa_nil)))))), ?_⟩
    refine q_asgL (xs := names12.map V.str) (el_lst (ea_cons ev_c (ea_cons ev_c (ea_cons ev_c (ea_cons ev_c (ea_cons ev_c (ea_cons ev_c (ea_cons ev_c (ea_cons ev_c (ea_cons ev_c (ea_cons ev_c (ea_cons ev_c (ea_cons ev_c ea_nil)))))))))))) (by show 12 ≤ 100000; decide)) fun l H0 nl e1 hl => fun d nd => ?_
    have nla : l ≠ a := fun z => by
      obtain ⟨da, na, xa, hBa, _⟩ := hB
      rw [z, hBa] at nl
      cases nl
    have e2 := Ex.new (H := H0) (o := .dK []) nd
    have nda : d ≠ a := fun z => by
      obtain ⟨da, na, xa, hBa, _⟩ := hB.ex e1
      rw [z, hBa] at nd
      cases nd
    have nH : H d = none := fresh_back e1 nd
    have ndl : d ≠ l := fun z => by
      rw [z, hl] at nd
      cases nd
    refine ⟨.ref a, rfl, vN m, rfl, (m : Int), 1, rfl, rfl, a, (m : Int) + 1, rfl, hB.ex (e1.trans e2), by omega, fun r H1 r0 r1 x1 b1 => ?_⟩
    refine ⟨r, rfl, by omega, by omega, ?_⟩
    refine for_range (lo := 0) (n := r.toNat) (fun i σ' H' => ∃ (y : Option V) (kvs : List (Key × V)) (ks : List Str), σ' = [some (.ref a), some (vN m), some (vN wd), some (.ref l), some (.ref d), y] ∧ ExB a H H' ∧ Bag H' a ∧ H' l = some (.lst (names12.map V.str)) ∧ H' d = some (.dK kvs) ∧ kvs.map (·.1) = ks.map Sum.inr ∧ ks.Nodup ∧ (∀ c ∈ ks, c ∈ names12) ∧ ks.length ≤ i)
      ⟨none, [], [], rfl, (ExB.of (e1.trans e2)).trans x1, b1, x1 _ _ nla (e2 _ _ hl), x1 _ _ nda upd_same, rfl, List.nodup_nil, by simp, Nat.le_refl _⟩ (fun i σ' H' hi hP => ?_) (fun σ' H' hP => ?_)
    · obtain ⟨y, kvs, ks, rfl, x2, b2, h3, h4, hk, hnd, hin, hlen⟩ := hP
      refine ⟨.ref d, rfl, .ref l, rfl, .ref a, rfl, vN wd, rfl, a, (wd : Int), rfl, b2, by omega, fun r2 H2 s0 s1 x3 b3 => ?_⟩
      obtain ⟨j, hj⟩ := Int.eq_ofNat_of_zero_le s0
      have hj12 : j < names12.length := by
        show j < 12
        omega
      have h3' := x3 _ _ nla h3
      have h4' := x3 _ _ nda h4
      refine ⟨l, names12.map V.str, r2, .str names12[j], rfl, rfl, sq_of h3', by rw [hj]; exact atI_nat (by rw [List.getElem?_map, List.getElem?_eq_getElem hj12]; rfl), d, _, rfl, DPut.k (k := Sum.inr names12[j]) h4' ?_, ?_⟩
      · have := congrArg List.length hk
        rw [List.length_map, List.length_map] at this
        exact sz_lt (by omega)
      · have b4 : Bag (upd H2 d (.dK (putK kvs (Sum.inr names12[j]) (.bl true)))) a := by
          obtain ⟨d', n', xs', g1, g2, g3⟩ := b3
          refine ⟨d', n', xs', by rw [upd_ne (Ne.symm nda)]; exact g1, ?_, g3⟩
          have : d' ≠ d := fun z => by
            rw [z, h4'] at g2
            cases g2
          rw [upd_ne this]
          exact g2
        have x4 : ExB a H (upd H2 d (.dK (putK kvs (Sum.inr names12[j]) (.bl true)))) := fun b o nb hb => by
          have : b ≠ d := ne_of_none hb nH
          rw [upd_ne this]
          exact (x2.trans x3) b o nb hb
        by_cases hmem : names12[j] ∈ ks
        · have hput := putK_in (kvs := kvs) (k := Sum.inr names12[j]) (v := .bl true) (by rw [hk]; exact List.mem_map.mpr ⟨_, hmem, rfl⟩)
          rw [hk] at hput
          exact ⟨some _, _, ks, rfl, x4, b4, by rw [upd_ne (Ne.symm ndl)]; exact h3', upd_same, hput, hnd, hin, by omega⟩
        · have hput := putK_out (kvs := kvs) (k := Sum.inr names12[j]) (v := .bl true) (by
            rw [hk]
            intro z
            obtain ⟨c, h1, h2⟩ := List.mem_map.mp z
            exact hmem (Sum.inr.inj h2 ▸ h1))
          rw [hk] at hput
          refine ⟨some _, _, ks ++ [names12[j]], rfl, x4, b4, by rw [upd_ne (Ne.symm ndl)]; exact h3', upd_same, by rw [hput, List.map_append]; rfl, nd_snoc hnd hmem, fun c hc => ?_, by rw [List.length_append, List.length_singleton]; omega⟩
          rcases List.mem_append.mp hc with h | h
          · exact hin c h
          · rw [List.mem_singleton.mp h]
            exact List.getElem_mem hj12
    · obtain ⟨y, kvs, ks, rfl, x2, b2, h3, h4, hk, hnd, hin, hlen⟩ := hP
      refine ⟨.ref d, rfl, d, kvs, ks, rfl, .inl h4, hk, by omega, fun ys p perm srt np => ⟨p, ys.map V.str, rfl, .inl ⟨sq_of upd_same, fun t nt => ?_⟩⟩⟩
      have e5 := Ex.new (o := .lst (ys.map V.str)) np
      have e6 := Ex.new (H := upd H' p (.lst (ys.map V.str))) (o := .tup (ys.map V.str)) nt
      refine q t ys _ (x2.back b2 (fresh_back e5 nt)) (x2.trans (ExB.of (e5.trans e6))) (b2.ex (e5.trans e6)) upd_same ⟨?_, fun c hc => names_col c (hin c (perm.mem_iff.mp hc)), rising_of_sorted (perm.nodup_iff.mpr hnd) srt⟩ fun c hc => hin c (perm.mem_iff.mp hc)
      rw [perm.length_eq]
      omega
end
end Kw
set_option Elab.async false
set_option linter.all false
set_option maxRecDepth 100000
set_option maxHeartbeats 4000000
namespace Kw
open PySem PySem.Spec PyProof.Rows L2 Evl
/-- [c, ..][_law_take(bag, n)] -/
theorem menu {K : PySem.W.Frag} {σ : L2.St} {H : Hp} {ta : TA} {cs : List Int} {i : Nat} {a : Addr} {n : Int} {Q : VK} (ha : EvA ta σ H (cs.map V.int)) (hn : n = (cs.length : Int)) (hl : 1 ≤ cs.length ∧ cs.length ≤ 1000) (h0 : σ[i]? = some (some (.ref a))) (hB : Bag H a)
    (q : ∀ c H', c ∈ cs → ExB a H H' → Bag H' a → Q (.int c) H') : tOp (rIxL K) (tLst ta) (tCall (spTake K) [] E0 (tCons (tVar i) (tCons (tC (.int n)) tNil))) σ H Q := by
  refine el_lst ha (by rw [List.length_map]; omega) H (Ex.refl H) _ fun l H1 nl e1 hl1 => ?_
  refine ⟨.ref a, h0, a, n, rfl, hB.ex e1, by omega, fun r H2 r0 r1 x2 b2 => ?_⟩
  obtain ⟨j, hj⟩ := Int.eq_ofNat_of_zero_le r0
  have hj' : j < cs.length := by omega
  have nla : l ≠ a := fun z => by
    obtain ⟨da, na, xa, hBa, _⟩ := hB
    rw [z, hBa] at nl
    cases nl
  exact ⟨l, cs.map V.int, r, .int cs[j], rfl, rfl, sq_of (x2 _ _ nla hl1), by rw [hj]; exact atI_nat (by rw [List.getElem?_map, List.getElem?_eq_getElem hj']; rfl), q _ H2 (List.getElem_mem hj') ((ExB.of e1).trans x2) b2⟩
def FromNames (h : House) : Prop := (∀ b ∈ h.1, (∀ c ∈ b.1, c ∈ names12) ∧ ∀ c ∈ b.2, c ∈ names12) ∧ ∀ c ∈ h.2, c ∈ names12
theorem OkCols.mono {cs : List Str} {m n : Nat} (h : OkCols cs m) (hmn : m ≤ n) : OkCols cs n := ⟨Nat.le_trans h.1 hmn, h.2⟩
section
variable {P : Program} {w : World} {K : PySem.W.Frag} {mg : Str → Option Value} {base : Heap}
def spHs (K : PySem.W.Frag) : Sp := fun vs H Q _ => ∃ (a : Addr) (nb nl w : Nat), vs = [.ref a, vN nb, vN nl, vN w] ∧ Bag H a ∧ 1 ≤ nb ∧ nb ≤ 30 ∧ nl ≤ 3 ∧ 1 ≤ w ∧ w ≤ 12 ∧
  ∀ v h H', ExB a H H' → Bag H' a → HouseAt K H' v h → OkHouse h → h.1.length ≤ nb → (∀ b ∈ h.1, b.1.length ≤ nl) → FromNames h → Q v H'
theorem ok_hs {f fT fS : Addr} {fd fdT fdS : FuncData} {k : Nat} (F : Fun K "_law_house" "_law_house" sHouse f fd) (B : Bu mg) (DT : Df K mg "_law_take" sTake ["bag", "many"] fT fdT) (DS : Df K mg "_law_some" sSome ["bag", "most", "wide"] fS fdS)
    (GT : FnOk P w K mg base CX0 (k + 1) fT fdT ["bag", "many"] (spTake K)) (GS : FnOk P w K mg base CX0 (k + 2) fS fdS ["bag", "most", "wide"] (spSome K)) : FnOk P w K mg base CX0 (k + 3) f fd ["bag", "boxes", "locks", "wide"] (spHs K) := by
  refine F.ok scHouse (fun vs H Q E h => ?_) (fun cdv A outer s H vs Q E hr h => ?_)
  · obtain ⟨a, nb, nl, w, rfl, _⟩ := h
    rfl
  · obtain ⟨a, nb, nl, wd, rfl, hB, hb1, hb2, hl3, hw1, hw2, q⟩ := h
    refine ⟨_, pss_cons (ps_set (i := 4) scHouse.nd rfl (.inl rfl) (pe_lst pa_nil))
      (pss_cons (ps_for PassesOwn.never rfl (pi_range1 (by rfl) B.rng (pa_cons (pe_op op_add pe_int (pcall DT GT (hr.mono (by omega)) (pa_cons (pv 0) (pa_cons (pv 1) pa_nil)))) pa_nil)) (pg_name (i := 5) scHouse.nd rfl (.inl rfl))
        (pss_one (ps_expr (pe_bm PySem.F.plainAttrs_list PySem.F.slot_list_append PySem.F.type_list_append mt_append (pv 4) (pa_cons (pe_tup (pa_cons (pcall DS GS hr (pa_cons (pv 0) (pa_cons (pv 2) (pa_cons (pv 3) pa_nil))))
          (pa_cons (pcall DS GS hr (pa_cons (pv 0) (pa_cons (pe_ix ix_list (pe_lst (pa_cons pe_int (pa_cons pe_int (pa_cons pe_int (pa_cons pe_int pa_nil))))) (pcall DT GT (hr.mono (by omega)) (pa_cons (pv 0) (pa_cons pe_int pa_nil))) (fun _ _ => rfl)) (pa_cons (pv 3) pa_nil)))) pa_nil))) pa_nil)))))
      (pss_one (ps_ret (pe_tup (pa_cons (pe_callTy call_tupOf (by rfl) B.tup boot_tuple (pa_cons (pv 4) pa_nil))
        (pa_cons (pcall DS GS hr (pa_cons (pv 0) (pa_cons (pe_ix ix_list (pe_lst (pa_cons pe_int (pa_cons pe_int (pa_cons pe_int (pa_cons pe_int pa_nil))))) (pcall DT GT (hr.mono (by omega)) (pa_cons (pv 0) (pa_cons pe_int pa_nil))) (fun _ _ => rfl)) (pa_cons (pv 3) pa_nil)))) pa_nil)))))), ?_⟩
    refine q_asgL (xs := []) (el_lst ea_nil (by decide)) fun fl H0 nfl e0 hfl => ?_
    have nfa : fl ≠ a := fun z => by
      obtain ⟨da, na, xa, hBa, _⟩ := hB
      rw [z, hBa] at nfl
      cases nfl
    refine ⟨.ref a, rfl, vN nb, rfl, a, (nb : Int), rfl, hB.ex e0, by omega, fun r H1 r0 r1 x1 b1 => ?_⟩
    refine ⟨1, r, rfl, rfl, 1 + r, rfl, by omega, by omega, ?_⟩
    refine for_range (lo := 0) (n := (1 + r).toNat) (fun i σ' H' => ∃ (y : Option V) (ys : List V) (bs : List Box), σ' = [some (.ref a), some (vN nb), some (vN nl), some (vN wd), some (.ref fl), y] ∧ ExB a H H' ∧ Bag H' a ∧ H' fl = some (.lst ys) ∧ Paired (BoxAt K H') ys bs ∧ bs.length = i ∧ ∀ b ∈ bs, OkBox b ∧ b.1.length ≤ nl ∧ (∀ c ∈ b.1, c ∈ names12) ∧ ∀ c ∈ b.2, c ∈ names12)
      ⟨none, [], [], rfl, (ExB.of e0).trans x1, b1, x1 _ _ nfa hfl, .nil, rfl, by simp⟩ (fun i σ' H' hi hP => ?_) (fun σ' H' hP => ?_)
    · obtain ⟨y, ys, bs, rfl, x2, b2, h3, hp, hlen, hall⟩ := hP
      have hyl : ys.length = bs.length := paired_len hp
      refine ⟨.ref fl, rfl, .inl ⟨rfl, _, sq_of h3⟩, .ref a, rfl, vN nl, rfl, vN wd, rfl, a, nl, wd, rfl, b2, by omega, hw1, hw2, fun p1 cs1 H2 np1 x3 b3 h1 oc1 in1 => ?_⟩
      refine ⟨.ref a, rfl, ?_⟩
      refine menu (K := K) (cs := [1, 1, 3, 6]) (ea_cons ev_c (ea_cons ev_c (ea_cons ev_c (ea_cons ev_c ea_nil)))) rfl (by decide) rfl b3 fun c H3 hc x4 b4 => ?_
      have hc6 : ∃ m : Nat, c = (m : Int) ∧ m ≤ 6 := by
        simp only [List.mem_cons, List.mem_singleton, List.not_mem_nil, or_false] at hc
        rcases hc with rfl | rfl | rfl | rfl
        · exact ⟨1, rfl, by decide⟩
        · exact ⟨1, rfl, by decide⟩
        · exact ⟨3, rfl, by decide⟩
        · exact ⟨6, rfl, by decide⟩
      obtain ⟨m, rfl, hm6⟩ := hc6
      refine ⟨vN wd, rfl, a, m, wd, rfl, b4, hm6, hw1, hw2, fun p2 cs2 H4 np2 x5 b5 h2 oc2 in2 => ?_⟩
      refine ⟨by show 2 ≤ sizeLine; decide, fun p3 np3 => ?_⟩
      have e6 := Ex.new (o := .tup [.ref p1, .ref p2]) np3
      have np1a : p1 ≠ a := fun z => by
        obtain ⟨da, na, xa, hBa, _⟩ := b3
        rw [z, hBa] at h1
        cases h1
      have k1 : KeepT H' (upd H4 p3 (.tup [.ref p1, .ref p2])) := (((b2.keepT x3).trans (b3.keepT x4)).trans (b4.keepT x5)).trans (KeepT.ex e6)
      have h1' : upd H4 p3 (.tup [.ref p1, .ref p2]) p1 = some (.tup (cs1.map V.str)) := e6 _ _ (x5 _ _ np1a (x4 _ _ np1a h1))
      have h2' : upd H4 p3 (.tup [.ref p1, .ref p2]) p2 = some (.tup (cs2.map V.str)) := e6 _ _ h2
      have hfl' : upd H4 p3 (.tup [.ref p1, .ref p2]) fl = some (.lst ys) := e6 _ _ (x5 _ _ nfa (x4 _ _ nfa (x3 _ _ nfa h3)))
      have h3' : upd H4 p3 (.tup [.ref p1, .ref p2]) p3 = some (.tup [.ref p1, .ref p2]) := upd_same
      have xA : ExB a H (upd H4 p3 (.tup [.ref p1, .ref p2])) := ((x2.trans x3).trans x4).trans (x5.trans (ExB.of e6))
      have bA : Bag (upd H4 p3 (.tup [.ref p1, .ref p2])) a := b5.ex e6
      generalize upd H4 p3 (.tup [.ref p1, .ref p2]) = G at k1 h1' h2' hfl' h3' xA bA
      refine ⟨fl, ys, .ref p3, rfl, rfl, hfl', sz_lt (by omega), ?_⟩
      refine ⟨some _, ys ++ [.ref p3], bs ++ [(cs1, cs2)], rfl, fun b o nb hb => ?_, ?_, upd_same, ?_, by rw [List.length_append, List.length_singleton, hlen], fun b hb => ?_⟩
      · have : b ≠ fl := ne_of_none hb nfl
        rw [upd_ne this]
        exact xA b o nb hb
      · obtain ⟨d', n', xs', g1, g2, g3⟩ := bA
        refine ⟨d', n', xs', by rw [upd_ne (Ne.symm nfa)]; exact g1, ?_, g3⟩
        have : d' ≠ fl := fun z => by
          rw [z, hfl'] at g2
          have e := congrArg List.length (HO.lst.inj (Option.some.inj g2))
          rw [List.length_map, g3.1] at e
          omega
        rw [upd_ne this]
        exact g2
      · have kk := KeepT.lst (ys := ys ++ [.ref p3]) hfl'
        exact paired_app (paired_imp hp fun _ _ h => h.keep (k1.trans kk)) ⟨p3, p1, p2, rfl, keep_t kk (st_of h3'), keep_t kk (st_of h1'), keep_t kk (st_of h2')⟩
      · rcases List.mem_append.mp hb with h | h
        · exact hall b h
        · rw [List.mem_singleton.mp h]
          exact ⟨⟨oc1.mono hl3, oc2.mono hm6⟩, oc1.1, in1, in2⟩
    · obtain ⟨y, ys, bs, rfl, x2, b2, h3, hp, hlen, hall⟩ := hP
      have hbl : bs.length = (1 + r).toNat := hlen
      refine ⟨.ref fl, rfl, fl, ys, rfl, .inl ⟨sq_of h3, fun t nt => ?_⟩⟩
      have e4 := Ex.new (o := .tup ys) nt
      refine ⟨.ref a, rfl, ?_⟩
      refine menu (K := K) (cs := [0, 0, 1, 6]) (ea_cons ev_c (ea_cons ev_c (ea_cons ev_c (ea_cons ev_c ea_nil)))) rfl (by decide) rfl (b2.ex e4) fun c H3 hc x4 b4 => ?_
      have hc6 : ∃ m : Nat, c = (m : Int) ∧ m ≤ 6 := by
        simp only [List.mem_cons, List.mem_singleton, List.not_mem_nil, or_false] at hc
        rcases hc with rfl | rfl | rfl | rfl
        · exact ⟨0, rfl, by decide⟩
        · exact ⟨0, rfl, by decide⟩
        · exact ⟨1, rfl, by decide⟩
        · exact ⟨6, rfl, by decide⟩
      obtain ⟨m, rfl, hm6⟩ := hc6
      refine ⟨vN wd, rfl, a, m, wd, rfl, b4, hm6, hw1, hw2, fun p2 cs2 H4 np2 x5 b5 h2 oc2 in2 => ?_⟩
      refine ⟨by show 2 ≤ sizeLine; decide, fun p3 np3 => ?_⟩
      have e6 := Ex.new (o := .tup [.ref t, .ref p2]) np3
      have k0 : KeepT H' (upd H4 p3 (.tup [.ref t, .ref p2])) := (((KeepT.ex e4).trans ((b2.ex e4).keepT x4)).trans (b4.keepT x5)).trans (KeepT.ex e6)
      have k1 : KeepT (upd H' t (.tup ys)) (upd H4 p3 (.tup [.ref t, .ref p2])) := (((b2.ex e4).keepT x4).trans (b4.keepT x5)).trans (KeepT.ex e6)
      refine q (.ref p3) (bs, cs2) _ (((x2.trans (ExB.of e4)).trans x4).trans (x5.trans (ExB.of e6))) (b5.ex e6) ⟨p3, t, p2, rfl, st_of upd_same, ⟨ys, keep_t k1 (st_of upd_same), paired_imp hp fun _ _ h => h.keep k0⟩, st_of (e6 _ _ h2)⟩ ⟨?_, ?_, fun b hb => (hall b hb).1, oc2.mono hm6⟩ ?_ (fun b hb => (hall b hb).2.1) ⟨fun b hb => (hall b hb).2.2, in2⟩
      · show 1 ≤ bs.length
        omega
      · show bs.length ≤ 30
        omega
      · show bs.length ≤ nb
        omega
end
end Kw
set_option Elab.async false
set_option linter.all false
set_option maxRecDepth 100000
set_option maxHeartbeats 4000000
namespace Kw
open PySem PySem.Spec PyProof.Rows L2 Evl
def cl (n : Nat) (op : List Nat) : List Nat := less (List.range n) op
theorem cl_app (n : Nat) (op r : List Nat) : cl n (op ++ r) = less (cl n op) r := by
  unfold cl less
  rw [List.filter_filter]
  apply List.filter_congr
  intro i _
  by_cases h1 : i ∈ op <;> by_cases h2 : i ∈ r <;> simp [h1, h2]
theorem some_eq (bs : List Box) (hand : List Str) (n : Nat) (op : List Nat) : (List.range n).filter (fun i => !decide (i ∈ op) && fitsB (bx bs i).1 hand) = readyOf bs hand (cl n op) := by
  unfold cl less readyOf
  rw [List.filter_filter]
  apply List.filter_congr
  intro i _
  rw [Bool.and_comm]
theorem ones_fit (ls hs : List Str) : decide (((ls.filter fun c => !decide (c ∈ hs)).map fun _ => 1) = ([] : List Nat)) = fitsB ls hs := by
  unfold fitsB
  induction ls with
  | nil => simp
  | cons a r ih =>
    rw [List.all_cons, ← ih]
    by_cases h : a ∈ hs
    · rw [List.filter_cons_of_neg (by simp [h])]
      simp [h]
    · rw [List.filter_cons_of_pos (by simp [h])]
      simp [h]
/-- the boxes one by one with their numbers -/
def YB (K : PySem.W.Frag) (bs : List Box) : Nat → Hp → V → Hp → Prop := fun i H x H' => ∃ T v, x = .ref T ∧ H T = none ∧ H' = upd H T (.tup [vN i, v]) ∧ BoxAt K H v (bx bs i)
/-- what is walked, as long as what the heap H held is there -/
def WalksB (K : PySem.W.Frag) (H : Hp) (wi : TI) (b : Addr) (bs : List Box) : Prop := ∀ (σ : L2.St) (H1 : Hp), Ex H H1 → σ[0]? = some (some (.ref b)) → ∀ R : It → Hp → Prop,
  (∀ (J : It) (G : Hp → Prop) (H2 : Hp), Ex H1 H2 → Walk J bs.length G (YB K bs) → (∀ H3, Ex H H3 → G H3) → R J H2) → wi σ H1 R
theorem walksB_T {K : PySem.W.Frag} {H : Hp} {b : Addr} {vs : List V} {bs : List Box} (h : SqT K H b vs) (p : Paired (BoxAt K H) vs bs) : WalksB K H (iEnT K (tCons (tVar 0) tNil)) b bs := by
  intro σ H1 e h0 R r
  refine ⟨.ref b, h0, b, vs, rfl, ex_t e h, r _ (fun H' => SqT K H' b vs ∧ Paired (BoxAt K H') vs bs) H1 (Ex.refl H1) ?_ fun H3 e3 => ⟨ex_t e3 h, paired_imp p fun _ _ x => x.keep (KeepT.ex e3)⟩⟩
  rw [← paired_len p]
  refine walk_enT.mono (fun H' x => x.1) fun i H' x H2 hi hg hy => ?_
  obtain ⟨T, n, v, h1, h2, h3, h4, h5⟩ := hy
  cases h4
  obtain ⟨b0, hb0, hat⟩ := paired_get hg.2 h5
  have : bx bs i = b0 := by
    unfold bx
    rw [List.getD_eq_getElem?_getD, hb0]
    rfl
  rw [← this] at hat
  exact ⟨T, v, h1, h2, h3, hat⟩
theorem walksB_L {K : PySem.W.Frag} {H : Hp} {b : Addr} {vs : List V} {bs : List Box} (h : SqL K H b vs) (p : Paired (BoxAt K H) vs bs) : WalksB K H (iEnum K (tCons (tVar 0) tNil)) b bs := by
  intro σ H1 e h0 R r
  refine ⟨.ref b, h0, b, vs, rfl, ex_l e h, r _ (fun H' => SqL K H' b vs ∧ Paired (BoxAt K H') vs bs) H1 (Ex.refl H1) ?_ fun H3 e3 => ⟨ex_l e3 h, paired_imp p fun _ _ x => x.keep (KeepT.ex e3)⟩⟩
  rw [← paired_len p]
  refine walk_enum.mono (fun H' x => x.1) fun i H' x H2 hi hg hy => ?_
  obtain ⟨T, n, v, h1, h2, h3, h4, h5⟩ := hy
  cases h4
  obtain ⟨b0, hb0, hat⟩ := paired_get hg.2 h5
  have : bx bs i = b0 := by
    unfold bx
    rw [List.getD_eq_getElem?_getD, hb0]
    rfl
  rw [← this] at hat
  exact ⟨T, v, h1, h2, h3, hat⟩
section
variable {K : PySem.W.Frag} {σ : L2.St} {H H' : Hp} {ta tb te tl : TE} {x y z v : V}
theorem el_cat2 {l b : Addr} {xs zs : List V} (ha : Ev ta σ H (.ref l)) (hl : H l = some (.lst xs)) (hb : Ev tb σ H (.ref b)) (hz : H b = some (.lst zs)) (hn : xs.length + zs.length ≤ 100000) : EvL (tOp rCat ta tb) σ H (xs ++ zs) := fun H1 e Q q =>
  ha H1 e _ fun H2 e2 => hb H2 (e.trans e2) _ fun H3 e3 => ⟨l, b, xs, zs, rfl, rfl, e3 _ _ (e2 _ _ (e _ _ hl)), e3 _ _ (e2 _ _ (e _ _ hz)), sz_of hn, fun p hp => q p _ (fresh_back (e2.trans e3) hp) ((e2.trans e3).trans (Ex.new hp)) upd_same⟩
/-- [1 for colour in locks if colour not in hand] == [] -/
theorem et_ones {l h : Addr} {ls hs : List Str} {vs : List Nat} {jc jl jh : Nat} (hl : Ev (tVar jl) σ H (.ref l)) (hL : SqT K H l (ls.map V.str)) (hn : ls.length ≤ 1000) (hH : H h = some (.lst (hs.map V.str)))
    (hw : ∀ x, wipe ((wipe σ vs).set jc (some x)) vs = wipe σ vs ∧ ((wipe σ vs).set jc (some x))[jc]? = some (some x) ∧ ((wipe σ vs).set jc (some x))[jh]? = some (some (.ref h))) :
    EvT (tTest (tOp (rEqD K) (tLc (iTup K (tVar jl)) (gName jc) (tTest (tOp (rIn K true) (tVar jc) (tVar jh))) (tC (.int 1)) vs) (tLst tNil))) σ H (fitsB ls hs) := by
  refine et_is (et_test (ev_opLL (xs := ((ls.filter fun c => !decide (c ∈ hs)).map fun _ => 1).map vN) (ys := ([] : List Nat).map vN) ?_ (el_lst ea_nil (by decide)) fun p q H1 hp hq e => rv_eqLN (K := K) (sq_of hp) (sq_of hq))) (ones_fit ls hs)
  refine el_lc (ew_tup hl hL) (by rw [List.length_map]; omega) (fun i => !decide (ls.getD i default ∈ hs)) (fun i => vN 1) ?_ (fun i x H1 H2 Q e hi hy k => ?_)
  · rw [List.length_map, List.map_map]
    exact filter_range_map ls default (fun c => !decide (c ∈ hs)) (fun _ => vN 1)
  · obtain ⟨rfl, hx⟩ := hy
    have hi' : i < ls.length := by rw [List.length_map] at hi; exact hi
    have ei : ls.getD i default = ls[i] := by rw [List.getD_eq_getElem?_getD, List.getElem?_eq_getElem hi']; rfl
    have ex : x = .str ls[i] := by
      rw [List.getElem?_map, List.getElem?_eq_getElem hi'] at hx
      exact (Option.some.inj hx).symm
    subst ex
    obtain ⟨w1, w2, w3⟩ := hw (.str ls[i])
    refine k _ _ (Ex.refl _) w1 ?_ fun _ => ev_c
    rw [ei, ← inV_str]
    exact et_test (ev_op (ev_var w2) (ev_var w3) (rv_niL (sq_of (e _ _ hH)) rfl (flat_strs hs)))
end
end Kw
set_option Elab.async false
set_option linter.all false
set_option maxRecDepth 100000
set_option maxHeartbeats 4000000
namespace Kw
open PySem PySem.Spec PyProof.Rows L2 Evl
abbrev sLR : Stmt := topS 47
theorem scLR : FnScope ["boxes", "hand", "opened", "found", "some", "number", "locks", "inside", "colour"] ["boxes", "hand"] (defScope sLR) := ⟨rfl, rfl, rfl, by decide +kernel, rfl, by decide +kernel, by decide +kernel⟩
section
variable {P : Program} {w : World} {K : PySem.W.Frag} {mg : Str → Option Value} {base : Heap}
def spLR (K : PySem.W.Frag) : Sp := fun vs H Q _ => ∃ (b h : Addr) (bs : List Box) (hand : List Str), vs = [.ref b, .ref h] ∧ BoxesS K H b bs ∧ Few bs ∧ SqT K H h (hand.map V.str) ∧ hand.length ≤ 100 ∧
  ∀ p ys H2, H p = none → Ex H H2 → H2 p = some (.lst ys) → TupsAt K H2 ys (roundsOf bs hand (List.range bs.length)) → Q (.ref p) H2
/-- between two turns of the while -/
def LRI (K : PySem.W.Frag) (H : Hp) (b f : Addr) (bs : List Box) (all : List (List Nat)) (m : Nat) (σ' : L2.St) (H' : Hp) : Prop := ∃ (h o s : Addr) (y5 y6 y7 y8 : Option V) (hand : List Str) (op sl : List Nat) (done : List (List Nat)) (ys : List V),
  σ' = [some (.ref b), some (.ref h), some (.ref o), some (.ref f), some (.ref s), y5, y6, y7, y8] ∧ Ex H H' ∧ H' h = some (.lst (hand.map V.str)) ∧ H' o = some (.lst (op.map vN)) ∧ H' f = some (.lst ys) ∧ TupsAt K H' ys done ∧ H' s = some (.lst (sl.map vN)) ∧
  h ≠ f ∧ o ≠ f ∧ s ≠ f ∧ (sl ≠ [] → done ++ roundsOf bs hand (cl bs.length op) = all) ∧ (sl = [] → done = all) ∧ hand.length + 6 * (cl bs.length op).length ≤ 1000 ∧ op.length + (cl bs.length op).length ≤ 1000 ∧ done.length + (cl bs.length op).length ≤ 1000 ∧ m = (cl bs.length op).length + (if sl = [] then 0 else 1)
def tLRb (K : PySem.W.Frag) (wi : TI) : TS :=
  tSeq (tAsg (tTup (tCons (tCB (rListS K) (tCons (tVar 1) tNil)) (tCons (tLst tNil) (tCons (tLst tNil) (tCons (tLst (tCons (tC (.int 0)) tNil)) tNil))))) (gTup K 4 (gCons (gName 1) (gCons (gName 2) (gCons (gName 3) (gCons (gName 4) gNil))))))
  (tSeq (tWhile (tTest (tOp (rNeD K) (tVar 4) (tLst tNil)))
    (tSeq (tAsg (tLst tNil) (gName 4))
    (tSeq (tFor wi (gTup K 2 (gCons (gName 5) (gCons (gTup K 2 (gCons (gName 6) (gCons (gName 7) gNil))) gNil))) (tIfS (tAnd (tTest (tOp (rIn K true) (tVar 5) (tVar 2))) (tTest (tOp (rEqD K) (tLc (iTup K (tVar 6)) (gName 8) (tTest (tOp (rIn K true) (tVar 8) (tVar 1))) (tC (.int 1)) [8]) (tLst tNil)))) (tDrop (tBM K "list" rAppend (tVar 4) (tCons (tVar 5) tNil))) tNext))
    (tSeq (tAsg (tOp rCat (tVar 2) (tVar 4)) (gName 2))
    (tSeq (tFor (iList K (tVar 4)) (gName 5) (tAsg (tOp rCat (tVar 1) (tCB (rListS K) (tCons (tOp (rIxT K) (tOp (rIx K) (tVar 0) (tVar 5)) (tC (.int 1))) tNil))) (gName 1)))
      (tIfS (tTest (tOp (rNeD K) (tVar 4) (tLst tNil))) (tDrop (tBM K "list" rAppend (tVar 3) (tCons (tCB (rTupOf K) (tCons (tVar 4) tNil)) tNil))) tNext))))))
  (tRet (tVar 3)))
theorem et_neN {σ : L2.St} {H : Hp} {j : Nat} {s : Addr} {sl : List Nat} (h : σ[j]? = some (some (.ref s))) (hs : H s = some (.lst (sl.map vN))) : EvT (tTest (tOp (rNeD K) (tVar j) (tLst tNil))) σ H (!decide (sl = [])) :=
  et_test (ev_opL (xs := ([] : List Nat).map vN) (ev_var h) (el_lst ea_nil (by decide)) fun p H1 hp e => rv_neLN (K := K) (sq_of (e _ _ hs)) (sq_of hp))
theorem LR_core {wi : TI} {b h : Addr} {H : Hp} {bs : List Box} {hand : List Str} {Q : VK} {nx : L2.St → Hp → Prop} {bk ct : L2.St → Hp → Prop} (hW : WalksB K H wi b bs) (hB : BoxesS K H b bs) (hF : Few bs) (hh : SqT K H h (hand.map V.str)) (hl : hand.length ≤ 100)
    (q : ∀ p ys H2, H p = none → Ex H H2 → H2 p = some (.lst ys) → TupsAt K H2 ys (roundsOf bs hand (List.range bs.length)) → Q (.ref p) H2) :
    tLRb K wi ⟨nx, Q, bk, ct⟩ [some (.ref b), some (.ref h), none, none, none, none, none, none, none] H := by
  have hb30 := hF.1
  refine el_listT (K := K) (ev_var (v := .ref h) rfl) hh H (Ex.refl H) _ fun h1 H1 n1 e1 hh1 => ?_
  refine el_lst ea_nil (by decide) H1 (Ex.refl H1) _ fun o H2 n2 e2 ho => ?_
  refine el_lst ea_nil (by decide) H2 (Ex.refl H2) _ fun f H3 n3 e3 hf => ?_
  refine el_lst (vs := [vN 0]) (ea_cons ev_c ea_nil) (by show 1 ≤ 100000; decide) H3 (Ex.refl H3) _ fun s H4 n4 e4 hs => ?_
  refine ⟨by show 4 ≤ sizeLine; decide, fun tp ntp => ?_⟩
  have e5 := Ex.new (o := .tup [.ref h1, .ref o, .ref f, .ref s]) ntp
  refine ⟨tp, _, rfl, st_of upd_same, rfl, .ref h1, _, rfl, .ref o, _, rfl, .ref f, _, rfl, .ref s, _, rfl, rfl, ?_⟩
  have nf : H f = none := fresh_back (e1.trans e2) n3
  have hcl0 : cl bs.length [] = List.range bs.length := List.filter_eq_self.mpr fun _ _ => rfl
  refine q_while (LRI K H b f bs (roundsOf bs hand (List.range bs.length))) ((cl bs.length []).length + 1) ⟨h1, o, s, none, none, none, none, hand, [], [0], [], [], rfl, (((e1.trans e2).trans e3).trans e4).trans e5, (((e2.trans e3).trans e4).trans e5) _ _ hh1, ((e3.trans e4).trans e5) _ _ ho, (e4.trans e5) _ _ hf, .nil, e5 _ _ hs, fun z => ?_, fun z => ?_, fun z => ?_, fun _ => by rw [hcl0]; rfl, (by intro z; cases z), ?_, ?_, ?_, rfl⟩ (fun m σ' H' hI => ?_)
  · rw [← z, e2 _ _ hh1] at n3
    cases n3
  · rw [← z, ho] at n3
    cases n3
  · rw [z, hf] at n4
    cases n4
  · rw [hcl0, List.length_range]
    omega
  · rw [hcl0, List.length_range]
    show 0 + bs.length ≤ 1000
    omega
  · rw [hcl0, List.length_range]
    show 0 + bs.length ≤ 1000
    omega
  obtain ⟨h, o, s, y5, y6, y7, y8, hd, op, sl, done, ys, rfl, eH, hh, ho, hf, hT, hs, nhf, nof, nsf, hne, hnil, z1, z2, z3, rfl⟩ := hI
  refine ⟨_, et_neN (K := K) rfl hs, fun hb H5 e5 => ?_, fun hb H5 e5 => ?_⟩
  · have hsl : sl ≠ [] := fun z => by
      rw [z] at hb
      cases hb
    have hall := hne hsl
    rw [if_neg hsl]
    refine ⟨fun σ2 H2 => ∃ m', m' < (cl bs.length op).length + 1 ∧ LRI K H b f bs (roundsOf bs hand (List.range bs.length)) m' σ2 H2, fun σ2 H2 hN => hN, ?_⟩
    -- some = []
    refine q_asgL (xs := []) (el_lst ea_nil (by decide)) fun s2 H6 n6 e6 hs2 => ?_
    have eH6 := (eH.trans e5).trans e6
    have ns2 : H s2 = none := fresh_back (eH.trans e5) n6
    have d1 : h ≠ s2 := fun z => by
      rw [← z, e5 _ _ hh] at n6
      cases n6
    have d2 : o ≠ s2 := fun z => by
      rw [← z, e5 _ _ ho] at n6
      cases n6
    have d3 : f ≠ s2 := fun z => by
      rw [← z, e5 _ _ hf] at n6
      cases n6
    -- the boxes one by one
    refine hW _ H6 eH6 rfl _ fun J G H7 e7 wk hG => ?_
    refine for_it wk (fun i σ' H' => ∃ (y5 y6 y7 : Option V), σ' = [some (.ref b), some (.ref h), some (.ref o), some (.ref f), some (.ref s2), y5, y6, y7, y8] ∧ Ex H H' ∧ H' h = some (.lst (hd.map V.str)) ∧ H' o = some (.lst (op.map vN)) ∧ H' f = some (.lst ys) ∧ TupsAt K H' ys done ∧
        H' s2 = some (.lst (((List.range i).filter fun i => !decide (i ∈ op) && fitsB (bx bs i).1 hd).map vN)))
      ⟨y5, y6, y7, rfl, eH6.trans e7, ((e5.trans e6).trans e7) _ _ hh, ((e5.trans e6).trans e7) _ _ ho, ((e5.trans e6).trans e7) _ _ hf, hT.keep (KeepT.ex ((e5.trans e6).trans e7)), e7 _ _ hs2⟩
      (fun i σ' H' _ hP => ?_) (fun i x σ' H8 H9 hi hP hy => ?_) (fun σ' H8 hP => ?_)
    · obtain ⟨_, _, _, _, eX, _⟩ := hP
      exact hG _ eX
    · obtain ⟨u5, u6, u7, rfl, eX, g1, g2, g3, g4, g5⟩ := hP
      obtain ⟨T, v, rfl, nT, rfl, p, l, kk, rfl, hp, hl1, hk1⟩ := hy
      have eT := Ex.new (o := .tup [vN i, .ref p]) nT
      refine ⟨T, _, rfl, st_of upd_same, rfl, vN i, [.ref p], rfl, .ref p, [], rfl, p, _, rfl, ex_t eT hp, rfl, .ref l, [.ref kk], rfl, .ref kk, [], rfl, rfl, rfl, ?_⟩
      have fb := (hF.bx i).1
      have sn : ∀ q : Nat → Bool, ((List.range i).filter q).length ≤ i := fun q => by
        have := List.length_filter_le q (List.range i)
        rw [List.length_range] at this
        exact this
      refine s_when (b := !decide (i ∈ op) && fitsB (bx bs i).1 hd) (et_and (et_is (et_test (ev_op (ev_var (v := vN i) rfl) (ev_var (v := .ref o) rfl) (rv_niL (K := K) (sq_of (eT _ _ g2)) rfl (flat_nats op)))) (by rw [inV_nat])) fun _ => et_ones (K := K) (h := h) (jl := 6) (ev_var rfl) (ex_t eT hl1) (by omega) (eT _ _ g1) fun x => ⟨rfl, rfl, rfl⟩) (fun hb H10 e10 => ?_) (fun hb H10 e10 => ?_)
      · refine s_app (K := K) (l := s2) ((eT.trans e10) _ _ g5) (ev_var rfl) (v := vN i) (ev_var rfl) (by rw [List.length_map]; have := sn fun i => !decide (i ∈ op) && fitsB (bx bs i).1 hd; omega) fun H11 e11 => ?_
        have eA := (eT.trans e10).trans e11
        have g5' := eA _ _ g5
        refine ⟨some (vN i), some (.ref l), some (.ref kk), rfl, Ex.mut (eX.trans eA) ns2, by rw [upd_ne d1]; exact eA _ _ g1, by rw [upd_ne d2]; exact eA _ _ g2, by rw [upd_ne d3]; exact eA _ _ g3, g4.keep ((KeepT.ex eA).trans (KeepT.lst g5')), ?_⟩
        rw [upd_same, List.range_succ, List.filter_append, List.filter_cons_of_pos (p := fun i => !decide (i ∈ op) && fitsB (bx bs i).1 hd) hb, List.map_append]
        rfl
      · have eA := eT.trans e10
        refine ⟨some (vN i), some (.ref l), some (.ref kk), rfl, eX.trans eA, eA _ _ g1, eA _ _ g2, eA _ _ g3, g4.keep (KeepT.ex eA), ?_⟩
        rw [List.range_succ, List.filter_append, List.filter_cons_of_neg (p := fun i => !decide (i ∈ op) && fitsB (bx bs i).1 hd) (by rw [hb]; decide), List.filter_nil, List.append_nil]
        exact eA _ _ g5
    · obtain ⟨u5, u6, u7, rfl, eX, g1, g2, g3, g4, g5⟩ := hP
      rw [some_eq] at g5
      generalize hrd : readyOf bs hd (cl bs.length op) = rd at g5
      have hrl : rd.length + (less (cl bs.length op) rd).length = (cl bs.length op).length := by
        rw [← hrd]
        exact ready_less bs hd (cl bs.length op)
      have hkl := keysIn_len (fun b hb => (hF.2 b hb).2) rd
      have hrm : ∀ i ∈ rd, i < bs.length := fun i hi => by
        rw [← hrd] at hi
        exact List.mem_range.mp (List.mem_filter.mp (List.mem_filter.mp hi).1).1
      -- opened = opened + some
      show tSeq (tAsg (tOp rCat (tVar 2) (tVar 4)) (gName 2)) _ _ [some (.ref b), some (.ref h), some (.ref o), some (.ref f), some (.ref s2), u5, u6, u7, y8] H8
      refine q_asgL (xs := (op ++ rd).map vN) (by
        rw [List.map_append]
        exact el_cat2 (ev_var (v := .ref o) rfl) g2 (ev_var (v := .ref s2) rfl) g5 (by rw [List.length_map, List.length_map]; omega)) fun o2 H10 n10 e10 ho2 => ?_
      have no2f : o2 ≠ f := fun z => by
        rw [z, g3] at n10
        cases n10
      -- the keys come to the hand
      show tSeq (tFor (iList K (tVar 4)) (gName 5) _) _ _ [some (.ref b), some (.ref h), some (.ref o2), some (.ref f), some (.ref s2), u5, u6, u7, y8] H10
      refine q_forLn (K := K) (ev_var (v := .ref s2) rfl) (sq_of (e10 _ _ g5)) (fun i σ' H' => ∃ (h2 : Addr) (y : Option V), σ' = [some (.ref b), some (.ref h2), some (.ref o2), some (.ref f), some (.ref s2), y, u6, u7, y8] ∧ Ex H10 H' ∧ h2 ≠ f ∧ H' h2 = some (.lst ((hd ++ keysIn bs (rd.take i)).map V.str)))
        (fun H11 e11 => ⟨h, u5, rfl, e11, nhf, by simp only [List.take_zero, keysIn, List.flatMap_nil, List.append_nil]; exact e11 _ _ (e10 _ _ g1)⟩) (fun i σ' H' _ hP => by
          obtain ⟨_, _, _, eY, _⟩ := hP
          exact sq_of (eY _ _ (e10 _ _ g5))) (fun i x σ' H11 hx hP => ?_) (fun σ' H11 hP => ?_)
      · obtain ⟨h2, y, rfl, eY, nh2, hh2⟩ := hP
        have hi' : i < rd.length := by
          have := (List.getElem?_eq_some_iff.mp hx).1
          rw [List.length_map] at this
          exact this
        have ex : x = vN rd[i] := by
          rw [List.getElem?_map, List.getElem?_eq_getElem hi'] at hx
          exact (Option.some.inj hx).symm
        subst ex
        obtain ⟨l, kk, hl1, hk1, ea, eb⟩ := box_at (K := K) (σ := [some (.ref b), some (.ref h2), some (.ref o2), some (.ref f), some (.ref s2), some (vN rd[i]), u6, u7, y8]) (ta := tVar 0) (tb := tVar 5) (hB.ex ((eX.trans e10).trans eY)) (hrm _ (List.getElem_mem hi')) (ev_var rfl) (ev_var rfl)
        have hk2 := keysIn_len (fun b hb => (hF.2 b hb).2) (rd.take i)
        rw [List.length_take] at hk2
        have fb := (hF.bx rd[i]).2
        refine s_asgL (xs := (hd ++ keysIn bs (rd.take (i + 1))).map V.str) (by
          rw [show hd ++ keysIn bs (rd.take (i + 1)) = (hd ++ keysIn bs (rd.take i)) ++ (bx bs rd[i]).2 by
            rw [List.take_add_one, List.getElem?_eq_getElem hi', List.append_assoc]
            unfold keysIn
            rw [List.flatMap_append]
            simp, List.map_append]
          exact el_cat (ev_var (v := .ref h2) rfl) hh2 (el_listT (K := K) eb hk1) (by rw [List.length_map, List.length_map, List.length_append]; omega)) fun h3 H12 n12 e12 hh3 => ?_
        have nh3 : h3 ≠ f := fun z => by
          rw [z, eY _ _ (e10 _ _ g3)] at n12
          cases n12
        exact ⟨h3, _, rfl, eY.trans e12, nh3, hh3⟩
      · obtain ⟨h2, y, rfl, eY, nh2, hh2⟩ := hP
        rw [List.length_map, List.take_length] at hh2
        have g3' := eY _ _ (e10 _ _ g3)
        have g5' := eY _ _ (e10 _ _ g5)
        have hlen : (hd ++ keysIn bs rd).length + 6 * (cl bs.length (op ++ rd)).length ≤ 1000 := by
          rw [cl_app, List.length_append]
          omega
        have hlen2 : (op ++ rd).length + (cl bs.length (op ++ rd)).length ≤ 1000 := by
          rw [cl_app, List.length_append]
          omega
        have hcl : (cl bs.length (op ++ rd)).length = (cl bs.length op).length - rd.length := by
          rw [cl_app]
          omega
        refine s_when (b := !decide (rd = [])) (et_neN (K := K) rfl g5') (fun hb H12 e12 => ?_) (fun hb H12 e12 => ?_)
        · have hr0 : rd ≠ [] := fun z => by
            rw [z] at hb
            cases hb
          have hpos : 0 < rd.length := List.length_pos_iff.mpr hr0
          have hyl : ys.length = done.length := paired_len hT
          refine s_appU (K := K) (l := f) (e12 _ _ g3') (ev_var rfl) (eu_tupL (K := K) (ev_var (v := .ref s2) rfl) (sq_of (e12 _ _ g5'))) (by omega) fun p H13 np e13 hp => ?_
          have eZ := e12.trans e13
          have g3'' := eZ _ _ g3'
          refine ⟨(cl bs.length (op ++ rd)).length + 1, by omega, h2, o2, s2, _, _, _, _, hd ++ keysIn bs rd, op ++ rd, rd, done ++ [rd], ys ++ [.ref p], rfl, Ex.mut ((((eX.trans e10).trans eY).trans e12).trans e13) nf, by rw [upd_ne nh2]; exact eZ _ _ hh2, by rw [upd_ne no2f]; exact eZ _ _ (eY _ _ ho2), upd_same, ?_, by rw [upd_ne (Ne.symm d3)]; exact eZ _ _ g5', nh2, no2f, Ne.symm d3, fun _ => ?_, fun z => absurd z hr0, hlen, hlen2, by rw [List.length_append, List.length_singleton]; omega, by rw [if_neg hr0]⟩
          · exact paired_app (g4.keep ((KeepT.ex (((e10.trans eY).trans e12).trans e13)).trans (KeepT.lst g3''))) ⟨p, rfl, keep_t (KeepT.lst g3'') (st_of hp)⟩
          · rw [List.append_assoc, cl_app, ← hall]
            rw [roundsOf_cons (bs := bs) (held := hd) (closed := cl bs.length op) (by rw [hrd]; exact hr0), hrd]
            rfl
        · have hr0 : rd = [] := by
            cases rd with
            | nil => rfl
            | cons a r => cases hb
          subst hr0
          refine ⟨(cl bs.length (op ++ [])).length + 0, by rw [List.append_nil]; omega, h2, o2, s2, _, _, _, _, hd ++ keysIn bs [], op ++ [], [], done, ys, rfl, ((eX.trans e10).trans eY).trans e12, e12 _ _ hh2, e12 _ _ (eY _ _ ho2), e12 _ _ g3', g4.keep (KeepT.ex ((e10.trans eY).trans e12)), e12 _ _ g5', nh2, no2f, Ne.symm d3, fun z => absurd rfl z, fun _ => ?_, hlen, hlen2, by rw [List.append_nil]; exact z3, by rw [if_pos rfl]⟩
          rw [← hall, roundsOf_nil hrd, List.append_nil]
  · have hsl : sl = [] := by
      cases sl with
      | nil => rfl
      | cons a r => cases hb
    exact ⟨.ref f, rfl, q f ys H5 nf (eH.trans e5) (e5 _ _ hf) (by rw [← hnil hsl]; exact hT.keep (KeepT.ex e5))⟩
theorem ok_LR {f : Addr} {fd : FuncData} {k : Nat} (F : Fun K "_law_rounds" "_law_rounds" sLR f fd) (B : Bu mg) (mE : mg "enumerate" = none) : FnOk P w K mg base CX0 (k + 1) f fd ["boxes", "hand"] (spLR K) := by
  refine F.ok scLR (fun vs H Q E h => ?_) (fun cdv A outer s H vs Q E hr h => ?_)
  · obtain ⟨b, h, bs, hand, rfl, _⟩ := h
    rfl
  · obtain ⟨b, h, bs, hand, rfl, hB, hF, hh, hl, q⟩ := h
    have hB' := hB
    obtain ⟨vs, hvs, hpr⟩ := hB'
    have hb30 := hF.1
    have hu64 := hr.units
    rcases hvs with hvs | hvs
    · refine ⟨tLRb K (iEnum K (tCons (tVar 0) tNil)), pss_cons (ps_asg (pe_tup (pa_cons (pe_callTy call_list_of (by rfl) B.lst boot_list (pa_cons (pv 1) pa_nil)) (pa_cons (pe_lst pa_nil) (pa_cons (pe_lst pa_nil) (pa_cons (pe_lst (pa_cons pe_int pa_nil)) pa_nil)))))
          (pg_tup rfl (pgs_cons (pg_name (i := 1) scLR.nd rfl (.inr rfl)) (pgs_cons (pg_name (i := 2) scLR.nd rfl (.inl rfl)) (pgs_cons (pg_name (i := 3) scLR.nd rfl (.inl rfl)) (pgs_cons (pg_name (i := 4) scLR.nd rfl (.inl rfl)) pgs_nil))))))
        (pss_cons (ps_while PassesOwn.never (pt_cmpR (op_neD hu64) (pv 4) (pe_lst pa_nil) (nomark _))
          (pss_cons (ps_set (i := 4) scLR.nd rfl (.inl rfl) (pe_lst pa_nil))
          (pss_cons (ps_for PassesOwn.never rfl (pi_enum (by rfl) mE (pa_cons (pv 0) pa_nil)) (pg_tup rfl (pgs_cons (pg_name (i := 5) scLR.nd rfl (.inl rfl)) (pgs_cons (pg_tup rfl (pgs_cons (pg_name (i := 6) scLR.nd rfl (.inl rfl)) (pgs_cons (pg_name (i := 7) scLR.nd rfl (.inl rfl)) pgs_nil))) pgs_nil)))
            (pss_one (ps_if (pw_and (pt_cmpR op_notIn_seq (pv 5) (pv 2) (by rfl)) (pw_and1 (pt_cmpR (op_eqD hu64) (pe_lc (own := [("colour", 8)]) (g := gName 8) (tt := tTest (tOp (rIn K true) (tVar 8) (tVar 1))) (te := tC (.int 1)) rfl scLR.nd (pi_tup (pv 6))
                (blkOk_by (N := ["boxes", "hand", "opened", "found", "some", "number", "locks", "inside", "colour"]) (sc := defScope sLR) (by decide +kernel)) (fun _ _ _ _ _ => pg_name (i := 8) scLR.nd rfl (.inl rfl)) (fun _ _ _ _ _ => pts_one (pt_cmpR op_notIn_seq (pv 8) (pv 1) (by rfl))) (fun _ _ _ _ _ => pe_int)) (pe_lst pa_nil) (nomark _)))).pt
              (pss_one (ps_expr (pe_bm PySem.F.plainAttrs_list PySem.F.slot_list_append PySem.F.type_list_append mt_append (pv 4) (pa_cons (pv 5) pa_nil)))) pss_nil)))
          (pss_cons (ps_set (i := 2) scLR.nd rfl (.inl rfl) (pe_op op_cat (pv 2) (pv 4)))
          (pss_cons (ps_for PassesOwn.never rfl (pi_list (pv 4)) (pg_name (i := 5) scLR.nd rfl (.inl rfl)) (pss_one (ps_set (i := 1) scLR.nd rfl (.inr rfl) (pe_op op_cat (pv 1) (pe_callTy call_list_of (by rfl) B.lst boot_list (pa_cons (pe_ix ix_tup (pe_ix ix_seq (pv 0) (pv 5) (fun _ _ => rfl)) pe_int (fun _ _ => rfl)) pa_nil))))))
          (pss_one (ps_if (pt_cmpR (op_neD hu64) (pv 4) (pe_lst pa_nil) (nomark _)) (pss_one (ps_expr (pe_bm PySem.F.plainAttrs_list PySem.F.slot_list_append PySem.F.type_list_append mt_append (pv 3) (pa_cons (pe_callTy call_tupOf (by rfl) B.tup boot_tuple (pa_cons (pv 4) pa_nil)) pa_nil)))) pss_nil)))))))
        (pss_one (ps_ret (pv 3)))), LR_core (walksB_L hvs hpr) hB hF hh hl q⟩
    · refine ⟨tLRb K (iEnT K (tCons (tVar 0) tNil)), pss_cons (ps_asg (pe_tup (pa_cons (pe_callTy call_list_of (by rfl) B.lst boot_list (pa_cons (pv 1) pa_nil)) (pa_cons (pe_lst pa_nil) (pa_cons (pe_lst pa_nil) (pa_cons (pe_lst (pa_cons pe_int pa_nil)) pa_nil)))))
          (pg_tup rfl (pgs_cons (pg_name (i := 1) scLR.nd rfl (.inr rfl)) (pgs_cons (pg_name (i := 2) scLR.nd rfl (.inl rfl)) (pgs_cons (pg_name (i := 3) scLR.nd rfl (.inl rfl)) (pgs_cons (pg_name (i := 4) scLR.nd rfl (.inl rfl)) pgs_nil))))))
        (pss_cons (ps_while PassesOwn.never (pt_cmpR (op_neD hu64) (pv 4) (pe_lst pa_nil) (nomark _))
          (pss_cons (ps_set (i := 4) scLR.nd rfl (.inl rfl) (pe_lst pa_nil))
          (pss_cons (ps_for PassesOwn.never rfl (pi_enT (by rfl) mE (pa_cons (pv 0) pa_nil)) (pg_tup rfl (pgs_cons (pg_name (i := 5) scLR.nd rfl (.inl rfl)) (pgs_cons (pg_tup rfl (pgs_cons (pg_name (i := 6) scLR.nd rfl (.inl rfl)) (pgs_cons (pg_name (i := 7) scLR.nd rfl (.inl rfl)) pgs_nil))) pgs_nil)))
            (pss_one (ps_if (pw_and (pt_cmpR op_notIn_seq (pv 5) (pv 2) (by rfl)) (pw_and1 (pt_cmpR (op_eqD hu64) (pe_lc (own := [("colour", 8)]) (g := gName 8) (tt := tTest (tOp (rIn K true) (tVar 8) (tVar 1))) (te := tC (.int 1)) rfl scLR.nd (pi_tup (pv 6))
                (blkOk_by (N := ["boxes", "hand", "opened", "found", "some", "number", "locks", "inside", "colour"]) (sc := defScope sLR) (by decide +kernel)) (fun _ _ _ _ _ => pg_name (i := 8) scLR.nd rfl (.inl rfl)) (fun _ _ _ _ _ => pts_one (pt_cmpR op_notIn_seq (pv 8) (pv 1) (by rfl))) (fun _ _ _ _ _ => pe_int)) (pe_lst pa_nil) (nomark _)))).pt
              (pss_one (ps_expr (pe_bm PySem.F.plainAttrs_list PySem.F.slot_list_append PySem.F.type_list_append mt_append (pv 4) (pa_cons (pv 5) pa_nil)))) pss_nil)))
          (pss_cons (ps_set (i := 2) scLR.nd rfl (.inl rfl) (pe_op op_cat (pv 2) (pv 4)))
          (pss_cons (ps_for PassesOwn.never rfl (pi_list (pv 4)) (pg_name (i := 5) scLR.nd rfl (.inl rfl)) (pss_one (ps_set (i := 1) scLR.nd rfl (.inr rfl) (pe_op op_cat (pv 1) (pe_callTy call_list_of (by rfl) B.lst boot_list (pa_cons (pe_ix ix_tup (pe_ix ix_seq (pv 0) (pv 5) (fun _ _ => rfl)) pe_int (fun _ _ => rfl)) pa_nil))))))
          (pss_one (ps_if (pt_cmpR (op_neD hu64) (pv 4) (pe_lst pa_nil) (nomark _)) (pss_one (ps_expr (pe_bm PySem.F.plainAttrs_list PySem.F.slot_list_append PySem.F.type_list_append mt_append (pv 3) (pa_cons (pe_callTy call_tupOf (by rfl) B.tup boot_tuple (pa_cons (pv 4) pa_nil)) pa_nil)))) pss_nil)))))))
        (pss_one (ps_ret (pv 3)))), LR_core (walksB_T hvs hpr) hB hF hh hl q⟩
end
end Kw
set_option Elab.async false
set_option linter.all false
set_option maxRecDepth 100000
set_option maxHeartbeats 4000000
namespace Kw
open PySem PySem.Spec PyProof.Rows L2 Evl
abbrev sLS : Stmt := topS 48
theorem scLS : FnScope ["house", "broken", "boxes", "number", "opened", "some"] ["house", "broken"] (defScope sLS) := ⟨rfl, rfl, rfl, by decide +kernel, rfl, by decide +kernel, by decide +kernel⟩
def unlock (bs : List Box) (br : List Nat) : List Box := br.foldl (fun bs i => bs.set i ([], (bx bs i).2)) bs
def lawShut (h : House) (br : List Nat) : List Nat := less (List.range h.1.length) (roundsOf (unlock h.1 br) h.2 (List.range h.1.length)).flatten
theorem unlock_len (br : List Nat) : ∀ bs : List Box, (unlock bs br).length = bs.length := by
  induction br with
  | nil => exact fun _ => rfl
  | cons a r ih =>
    intro bs
    show (unlock (bs.set a ([], (bx bs a).2)) r).length = _
    rw [ih, List.length_set]
theorem unlock_snoc (bs : List Box) (br : List Nat) (i : Nat) : unlock bs (br ++ [i]) = (unlock bs br).set i ([], (bx (unlock bs br) i).2) := by
  unfold unlock
  rw [List.foldl_append]
  rfl
theorem Few.set {bs : List Box} (h : Few bs) (i : Nat) : Few (bs.set i ([], (Kw.bx bs i).2)) := by
  refine ⟨by rw [List.length_set]; exact h.1, fun b hb => ?_⟩
  rcases List.mem_or_eq_of_mem_set hb with hb | rfl
  · exact h.2 b hb
  · exact ⟨Nat.zero_le _, (h.bx i).2⟩
theorem Few.unlock {bs : List Box} (h : Few bs) (br : List Nat) : Few (Kw.unlock bs br) := by
  induction br generalizing bs with
  | nil => exact h
  | cons a r ih => exact ih (h.set a)
theorem lawShut_nil (h : House) : lawShut h [] = shutOf h.1 h.2 [] := by
  unfold lawShut shutOf
  have e1 : less (List.range h.1.length) [] = List.range h.1.length := List.filter_eq_self.mpr fun _ _ => rfl
  have e2 : keysIn h.1 [] = [] := rfl
  rw [e1, e2, List.append_nil]
  rfl
theorem q_forW {wi : TI} {g : TG} {tu tz : TS} {D : Ends} {σ : L2.St} {H : Hp} {n : Nat} {Y : Nat → Hp → V → Hp → Prop} (hi : EvW wi σ H n Y) (Pv : Hp → Nat → L2.St → Hp → Prop) (h0 : ∀ H1, Ex H H1 → Pv H1 0 σ H1) (hE : ∀ H1 i σ' H', Pv H1 i σ' H' → Ex H1 H')
    (hs : ∀ H1 i x σ' H2 H3, Ex H H1 → i < n → Pv H1 i σ' H2 → Y i H2 x H3 → g x σ' H3 fun σ2 H4 => tu { D with nx := Pv H1 (i + 1), ct := Pv H1 (i + 1), bk := tz D } σ2 H4) (hd : ∀ H1 σ' H2, Ex H H1 → Pv H1 n σ' H2 → tz D σ' H2) : tSeq (tFor wi g tu) tz D σ H :=
  hi H (Ex.refl H) _ fun J G H1 e w hG => for_it w (Pv H1) (h0 H1 e) (fun i σ' H' _ p => hG H' (hE H1 i σ' H' p)) (fun i x σ' H2 H3 hi p y => hs H1 i x σ' H2 H3 e hi p y) (fun σ' H2 p => hd H1 σ' H2 e p)
theorem paired_set {α β : Type} {F : α → β → Prop} {x : α} {y : β} (r : F x y) : ∀ {xs : List α} {ys : List β} (i : Nat), Paired F xs ys → Paired F (xs.set i x) (ys.set i y)
  | _, _, _, .nil => .nil
  | _, _, 0, .cons _ t => .cons r t
  | _, _, i + 1, .cons q t => .cons q (paired_set r i t)
section
variable {P : Program} {w : World} {K : PySem.W.Frag} {mg : Str → Option Value} {base : Heap}
def spLS (K : PySem.W.Frag) : Sp := fun vs H Q _ => ∃ (v : V) (k : Addr) (h : House) (br : List Nat), vs = [v, .ref k] ∧ HouseAt K H v h ∧ Few h.1 ∧ h.2.length ≤ 100 ∧ SqT K H k (br.map vN) ∧ (∀ i ∈ br, i < h.1.length) ∧ br.length ≤ 100 ∧ RetU ((lawShut h br).map vN) H Q
theorem ok_LS {f fR : Addr} {fd fdR : FuncData} {k : Nat} (F : Fun K "_law_shut" "_law_shut" sLS f fd) (B : Bu mg) (DR : Df K mg "_law_rounds" sLR ["boxes", "hand"] fR fdR) (GR : FnOk P w K mg base CX0 (k + 1) fR fdR ["boxes", "hand"] (spLR K)) : FnOk P w K mg base CX0 (k + 2) f fd ["house", "broken"] (spLS K) := by
  refine F.ok scLS (fun vs H Q E h => ?_) (fun cdv A outer s H vs Q E hr h => ?_)
  · obtain ⟨v, k, h, br, rfl, _⟩ := h
    rfl
  · obtain ⟨v, kk, h, br, rfl, ⟨a, bb, kh, rfl, ha, ⟨vs, hvs, hpr⟩, hkh⟩, hF, hh, hk, hlt, hl, q⟩ := h
    refine ⟨_, pss_cons (ps_set (i := 2) scLS.nd rfl (.inl rfl) (pe_callTy call_list_of (by rfl) B.lst boot_list (pa_cons (pe_ix ix_tup (pv 0) pe_int (fun _ _ => rfl)) pa_nil)))
      (pss_cons (ps_for PassesOwn.never rfl (pi_tup (pv 1)) (pg_name (i := 3) scLS.nd rfl (.inl rfl))
        (pss_one (ps_asg (pe_tup (pa_cons (pe_tup pa_nil) (pa_cons (pe_ix ix_tup (pe_ix ix_list (pv 2) (pv 3) (fun _ _ => rfl)) pe_int (fun _ _ => rfl)) pa_nil))) (pg_sub (pv 2) (pv 3) set_list))))
      (pss_cons (ps_set (i := 4) scLS.nd rfl (.inr rfl) (pe_lst pa_nil))
      (pss_cons (ps_for PassesOwn.never rfl (pi_list (pcall DR GR hr (pa_cons (pv 2) (pa_cons (pe_ix ix_tup (pv 0) pe_int (fun _ _ => rfl)) pa_nil)))) (pg_name (i := 5) scLS.nd rfl (.inl rfl))
        (pss_one (ps_set (i := 4) scLS.nd rfl (.inr rfl) (pe_op op_cat (pv 4) (pe_callTy call_list_of (by rfl) B.lst boot_list (pa_cons (pv 5) pa_nil))))))
      (pss_one (ps_ret (pe_callTy call_tupOf (by rfl) B.tup boot_tuple (pa_cons (pe_lc (own := [("number", 3)]) (g := gName 3) (tt := tTest (tOp (rIn K true) (tVar 3) (tVar 4))) (te := tVar 3) rfl scLS.nd (pi_range1 (by rfl) B.rng (pa_cons (pe_callB call_len_seq (by rfl) B.len PySem.boot_len (pa_cons (pv 2) pa_nil)) pa_nil))
          (blkOk_by (N := ["house", "broken", "boxes", "number", "opened", "some"]) (sc := defScope sLS) (by decide +kernel)) (fun _ _ _ _ _ => pg_name (i := 3) scLS.nd rfl (.inl rfl)) (fun _ _ _ _ _ => pts_one (pt_cmpR op_notIn_seq (pv 3) (pv 4) (by rfl))) (fun _ _ _ _ _ => pv 3)) pa_nil))))))), ?_⟩
    have hn30 := hF.1
    -- boxes = list(house[0])
    refine q_asgL (el_listT (K := K) (ev_op (ev_var (v := .ref a) rfl) ev_c (rv_ixT (K := K) ha at0)) hvs) fun l H1 n1 e1 hl1 => ?_
    -- the broken ones
    refine q_forT (K := K) (ev_var (v := .ref kk) rfl) (ex_t e1 hk) (fun i σ' H' => ∃ (y : Option V) (us : List V), σ' = [some (.ref a), some (.ref kk), some (.ref l), y, none, none] ∧ Ex H H' ∧ H' l = some (.lst us) ∧ Paired (BoxAt K H') us (unlock h.1 (br.take i)))
      (fun H2 e2 => ⟨none, vs, rfl, e1.trans e2, e2 _ _ hl1, paired_imp hpr fun _ _ x => x.keep (KeepT.ex (e1.trans e2))⟩) (fun i σ' H' _ hP => by
        obtain ⟨_, _, _, eX, _⟩ := hP
        exact ex_t eX hk) (fun i x σ' H2 hx hP => ?_) (fun σ' H2 hP => ?_)
    · obtain ⟨y, us, rfl, eX, h2, hp2⟩ := hP
      have hi' : i < br.length := by
        have := (List.getElem?_eq_some_iff.mp hx).1
        rw [List.length_map] at this
        exact this
      have ex : x = vN br[i] := by
        rw [List.getElem?_map, List.getElem?_eq_getElem hi'] at hx
        exact (Option.some.inj hx).symm
      subst ex
      have hb : br[i] < (unlock h.1 (br.take i)).length := by
        rw [unlock_len]
        exact hlt _ (List.getElem_mem hi')
      obtain ⟨v, hv, p, l1, k1, rfl, hp, hl3, hk3⟩ := paired_get2 hp2 (bx_get hb)
      refine ⟨Nat.zero_le _, fun t nt => ?_⟩
      have e3 := Ex.new (o := .tup []) nt
      refine ⟨.ref l, rfl, vN br[i], rfl, l, us, _, .ref p, rfl, rfl, sq_of (e3 _ _ h2), atI_nat hv, p, _, _, .ref k1, rfl, rfl, ex_t e3 hp, at1, by show 2 ≤ sizeLine; decide, fun t2 nt2 => ?_⟩
      have e4 := Ex.new (H := upd H2 t (.tup [])) (o := .tup [.ref t, .ref k1]) nt2
      have h2' := (e3.trans e4) _ _ h2
      have ht := e4 _ _ (show upd H2 t (.tup []) t = some (.tup []) from upd_same)
      have ht2 : upd (upd H2 t (.tup [])) t2 (.tup [.ref t, .ref k1]) t2 = some (.tup [.ref t, .ref k1]) := upd_same
      have eA := e3.trans e4
      generalize upd (upd H2 t (.tup [])) t2 (.tup [.ref t, .ref k1]) = G at e4 h2' ht ht2 eA
      have hlu : br[i] < us.length := by
        rw [paired_len hp2]
        exact hb
      refine ⟨.ref l, rfl, vN br[i], rfl, l, us, _, br[i], rfl, rfl, h2', ixN_nat hlu, ?_⟩
      have kp := KeepT.lst (ys := us.set br[i] (.ref t2)) h2'
      refine ⟨_, us.set br[i] (.ref t2), rfl, Ex.mut (eX.trans eA) n1, upd_same, ?_⟩
      rw [List.take_add_one, List.getElem?_eq_getElem hi']
      show Paired _ _ (unlock h.1 (br.take i ++ [br[i]]))
      rw [unlock_snoc]
      exact paired_set ⟨t2, t, k1, rfl, keep_t kp (st_of ht2), keep_t kp (st_of ht), keep_t kp (ex_t eA hk3)⟩ br[i] (paired_imp hp2 fun _ _ x => x.keep ((KeepT.ex eA).trans kp))
    · obtain ⟨y, us, rfl, eX, h2, hp2⟩ := hP
      rw [List.length_map, List.take_length] at hp2
      have hFu := hF.unlock br
      have hul := unlock_len br h.1
      show tSeq (tAsg (tLst tNil) (gName 4)) _ _ [some (.ref a), some (.ref kk), some (.ref l), y, none, none] H2
      refine q_asgL (xs := []) (el_lst ea_nil (by decide)) fun o H3 n3 e3 ho => ?_
      have hBS : BoxesS K H3 l (unlock h.1 br) := ⟨us, .inl (sq_of (e3 _ _ h2)), paired_imp hp2 fun _ _ x => x.keep (KeepT.ex e3)⟩
      have hR : EvR K (tCall (spLR K) [] E0 (tCons (tVar 2) (tCons (tOp (rIxT K) (tVar 0) (tC (.int 1))) tNil))) [some (.ref a), some (.ref kk), some (.ref l), y, some (.ref o), none] H3 (roundsOf (unlock h.1 br) h.2 (List.range h.1.length)) :=
        er_call (vs := [.ref l, .ref kh]) (ea_cons (ev_var rfl) (ea_cons (ev_op (ev_var (v := .ref a) rfl) ev_c (rv_ixT (K := K) (ex_t (eX.trans e3) ha) at1)) ea_nil)) fun H4 e4 Q q E => ⟨l, kh, _, h.2, rfl, hBS.ex e4, hFu, ex_t ((eX.trans e3).trans e4) hkh, hh, by rw [hul]; exact q⟩
      have hfl := flatten_rounds (unlock h.1 br) ((List.range h.1.length).length + 1) h.2 (List.range h.1.length)
      rw [List.length_range] at hfl
      have hfl' : (roundsOf (unlock h.1 br) h.2 (List.range h.1.length)).flatten.length ≤ h.1.length := by
        unfold roundsOf
        rw [List.length_range]
        exact hfl
      refine q_forW (ew_tups hR) (fun H4 i σ' H' => ∃ (o2 : Addr) (y5 : Option V), σ' = [some (.ref a), some (.ref kk), some (.ref l), y, some (.ref o2), y5] ∧ Ex H4 H' ∧ H' o2 = some (.lst (((roundsOf (unlock h.1 br) h.2 (List.range h.1.length)).take i).flatten.map vN)))
        (fun H4 e4 => ⟨o, none, rfl, Ex.refl H4, e4 _ _ ho⟩) (fun H4 i σ' H' hP => by
          obtain ⟨_, _, _, eY, _⟩ := hP
          exact eY) (fun H4 i x σ' H5 H6 e4 hi hP hy => ?_) (fun H4 σ' H5 e4 hP => ?_)
      · obtain ⟨o2, y5, rfl, eY, ho2⟩ := hP
        obtain ⟨rfl, ad, r, hr', rfl, had⟩ := hy
        have hb1 := flatten_take_le (roundsOf (unlock h.1 br) h.2 (List.range h.1.length)) i
        have hb2 := flatten_take_le (roundsOf (unlock h.1 br) h.2 (List.range h.1.length)) (i + 1)
        have es : ((roundsOf (unlock h.1 br) h.2 (List.range h.1.length)).take (i + 1)).flatten = ((roundsOf (unlock h.1 br) h.2 (List.range h.1.length)).take i).flatten ++ r := by
          rw [List.take_add_one, hr', List.flatten_append]
          simp
        rw [es, List.length_append] at hb2
        refine s_asgL (xs := (((roundsOf (unlock h.1 br) h.2 (List.range h.1.length)).take (i + 1)).flatten).map vN) (by
          rw [es, List.map_append]
          exact el_cat (ev_var (v := .ref o2) rfl) ho2 (el_listT (K := K) (ev_var (v := .ref ad) rfl) had) (by rw [List.length_map, List.length_map]; omega)) fun o3 H7 n7 e7 ho3 => ?_
        exact ⟨o3, _, rfl, eY.trans e7, ho3⟩
      · obtain ⟨o2, y5, rfl, eY, ho2⟩ := hP
        rw [List.take_length] at ho2
        have eAll := ((eX.trans e3).trans e4).trans eY
        refine s_retU (eu_tupN (K := K) (xs := (lawShut h br).map vN) ?_) fun p H6 np e6 h6 => q p H6 (fresh_back eAll np) (eAll.trans e6) h6
        have hlen : us.length = h.1.length := by
          rw [paired_len hp2]
          exact hul
        refine el_lc (n := h.1.length) (ew_rng1 (ea_cons (by rw [← hlen]; exact ev_len (K := K) (ev_var (v := .ref l) rfl) (sq_of ((e4.trans eY) _ _ (e3 _ _ h2)))) ea_nil) (by omega)) (by omega) (fun i => !decide (i ∈ (roundsOf (unlock h.1 br) h.2 (List.range h.1.length)).flatten)) (fun i => vN i) rfl (fun i x H6 H7 Q e hi hy k => ?_)
        obtain ⟨rfl, rfl⟩ := hy
        refine k _ _ (Ex.refl _) rfl ?_ fun _ => ev_var rfl
        rw [← inV_nat]
        exact et_test (ev_op (ev_var rfl) (ev_var (v := .ref o2) rfl) (rv_niL (sq_of (e _ _ ho2)) rfl (flat_nats _)))
end
end Kw
set_option Elab.async false
set_option linter.all false
set_option maxRecDepth 100000
set_option maxHeartbeats 4000000
namespace Kw
open PySem PySem.Spec PyProof.Rows L2 Evl
theorem Bag.other {H H' : Hp} {a b : Addr} (hb : Bag H b) (ha : Bag H a) (e : ExB a H H') (ha' : Bag H' a) : Bag H' b := by
  by_cases hab : b = a
  · rw [hab]
    exact ha'
  · obtain ⟨d, n, xs, g1, g2, g3⟩ := hb
    obtain ⟨d', n', xs', f1, _⟩ := ha
    have hd : d ≠ a := fun z => by
      rw [z, f1] at g2
      have e := congrArg List.length (HO.lst.inj (Option.some.inj g2))
      rw [List.length_map, g3.1] at e
      cases e
    exact ⟨d, n, xs, e _ _ hab g1, e _ _ hd g2, g3⟩
/-- the loop over the bags of a script -/
theorem bags_for {K : PySem.W.Frag} {lim : Nat} {D : Ends} {body : TS} {σ : L2.St} {H : Hp} {a : Addr} {ns : List Int} (S : L2.St → Prop) (h0 : σ[0]? = some (some (.ref a))) (hS : SqL K H a (ns.map V.int)) (hl : ns.length ≤ 63) (hs : S σ)
    (turn : ∀ b H1 σ' (N : L2.St → Hp → Prop), S σ' → Bag H1 b → (∀ σ'' H'', S σ'' → ExB b H1 H'' → Bag H'' b → N σ'' H'') → body { D with nx := N, ct := N, bk := D.nx } (σ'.set 1 (some (.ref b))) H1)
    (done : ∀ σ' H', S σ' → D.nx σ' H') : tFor (iList K (tCall (spBags K lim) [] E0 (tCons (tVar 0) (tCons (tC (.int lim)) tNil)))) (gName 1) body D σ H := by
  refine ⟨.ref a, h0, a, ns, rfl, hS, by omega, fun p ys H1 np e1 hp hB hne hln => ⟨p, rfl, ⟨ys, sq_of hp⟩, ?_⟩⟩
  refine for_it (walk_list (K := K) (a := p) (xs := ys)) (fun _ σ' H' => S σ' ∧ H' p = some (.lst ys) ∧ BagsAt H' ys) ⟨hs, hp, hB⟩ (fun i σ' H' _ hP => sq_of hP.2.1) (fun i x σ' H2 H3 hi hP hy => ?_) (fun σ' H2 hP => done σ' H2 hP.1)
  obtain ⟨s2, hp2, hB2⟩ := hP
  obtain ⟨rfl, hx⟩ := hy
  have hm := List.mem_of_getElem? hx
  obtain ⟨b, rfl, hb⟩ := hB2 x hm
  have hpb : p ≠ b := fun z => hne _ hm (by rw [z])
  exact turn b _ σ' _ s2 hb fun σ'' H'' hs x2 b2 => ⟨hs, x2 _ _ hpb hp2, (fun y hy => by
    obtain ⟨b', rfl, hb'⟩ := hB2 y hy
    exact ⟨b', rfl, hb'.other hb x2 b2⟩)⟩
def spLaw (K : PySem.W.Frag) : Sp := fun vs H Q _ => ∃ (a : Addr) (ns : List Int), vs = [.ref a] ∧ SqL K H a (ns.map V.int) ∧ ns.length ≤ 63 ∧ ∀ H', Q (.bl true) H'
/-- the slots of a law: the script's, then n others -/
def SlotsN (a : Addr) (n : Nat) (σ : L2.St) : Prop := ∃ ys : List (Option V), ys.length = n ∧ σ = some (.ref a) :: ys
end Kw
set_option Elab.async false
set_option linter.all false
set_option maxRecDepth 100000
set_option maxHeartbeats 4000000
namespace Kw
open PySem PySem.Spec PyProof.Rows L2 Evl
abbrev sIsB : Stmt := topS 24
theorem scIsB : FnScope ["thing", "many", "before", "part"] ["thing", "many"] (defScope sIsB) := ⟨rfl, rfl, rfl, by decide +kernel, rfl, by decide +kernel, by decide +kernel⟩
abbrev sIsK : Stmt := topS 38
theorem scIsK : FnScope ["house", "thing", "boxes", "hand", "others", "held", "box"] ["house", "thing"] (defScope sIsK) := ⟨rfl, rfl, rfl, by decide +kernel, rfl, by decide +kernel, by decide +kernel⟩
/-! ### rising boxes, of anything -/
def risN (m : Nat) : Int → List PyData → Bool
  | _, [] => true
  | b, .int i :: r => (decide (b < i) && decide (i < m)) && risN m i r
  | _, _ :: _ => false
def boxesD (m : Nat) : PyData → Bool
  | .tuple ds => risN m (-1) ds
  | _ => false
def encN (ns : List Nat) : List PyData := ns.map fun (i : Nat) => PyData.int (i : Int)
def RisingN (ns : List Nat) : Prop := ∀ i x y, ns[i]? = some x → ns[i + 1]? = some y → x < y
theorem risN_nats {m : Nat} : ∀ {ds : List PyData} {b : Int}, -1 ≤ b → risN m b ds = true → ∃ ns : List Nat, ds = encN ns ∧ (∀ i ∈ ns, i < m) ∧ (∀ x : Nat, ns[0]? = some x → b < (x : Int)) ∧ RisingN ns
  | [], _, _, _ => ⟨[], rfl, by simp, by simp, fun i x y hx => by simp at hx⟩
  | .int i :: r, b, hb, h => by
    simp only [risN, Bool.and_eq_true, decide_eq_true_eq] at h
    obtain ⟨n, rfl⟩ := Int.eq_ofNat_of_zero_le (show 0 ≤ i by omega)
    obtain ⟨ns, e, h1, h2, h3⟩ := risN_nats (by omega) h.2
    refine ⟨n :: ns, by rw [e]; rfl, fun j hj => ?_, fun x hx => ?_, fun j x y hx hy => ?_⟩
    · rcases List.mem_cons.mp hj with rfl | hj
      · omega
      · exact h1 j hj
    · have : n = x := Option.some.inj hx
      omega
    · cases j with
      | zero =>
        have : n = x := Option.some.inj hx
        have := h2 y hy
        omega
      | succ j => exact h3 j x y hx hy
  | .none :: _, _, _, h => by simp [risN] at h
  | .bool _ :: _, _, _, h => by simp [risN] at h
  | .str _ :: _, _, _, h => by simp [risN] at h
  | .list _ :: _, _, _, h => by simp [risN] at h
  | .tuple _ :: _, _, _, h => by simp [risN] at h
  | .dict _ :: _, _, _, h => by simp [risN] at h
theorem nats_risN {m : Nat} : ∀ {ns : List Nat} {b : Int}, (∀ i ∈ ns, i < m) → (∀ x : Nat, ns[0]? = some x → b < (x : Int)) → RisingN ns → risN m b (encN ns) = true
  | [], _, _, _, _ => rfl
  | n :: r, b, h1, h2, h3 => by
    show ((decide (b < (n : Int)) && decide ((n : Int) < m)) && risN m n (encN r)) = true
    have := h2 n rfl
    have := h1 n (List.mem_cons_self ..)
    rw [decide_eq_true (by omega), decide_eq_true (by omega), nats_risN (fun i hi => h1 i (List.mem_cons_of_mem _ hi)) (fun x hx => by have := h3 0 n x rfl hx; omega) (fun i x y hx hy => h3 (i + 1) x y hx hy)]
    rfl
theorem boxesD_ok {m : Nat} {ns : List Nat} (h1 : ∀ i ∈ ns, i < m) (h3 : RisingN ns) : boxesD m (.tuple (encN ns)) = true := nats_risN h1 (fun x _ => by omega) h3
theorem boxesD_inv {m : Nat} {d : PyData} (h : boxesD m d = true) : ∃ ns : List Nat, d = .tuple (encN ns) ∧ (∀ i ∈ ns, i < m) ∧ RisingN ns := by
  cases d with
  | tuple ds =>
    obtain ⟨ns, rfl, h1, _, h3⟩ := risN_nats (by omega) (show risN m (-1) ds = true from h)
    exact ⟨ns, rfl, h1, h3⟩
  | _ => cases h
theorem boxesD_not {d : PyData} {m : Nat} (h : isTupD d = false) : boxesD m d = false := by
  cases d <;> first | rfl | cases h
theorem rising_len {m : Nat} {ns : List Nat} (h1 : ∀ i ∈ ns, i < m) (h3 : RisingN ns) : ns.length ≤ m := by
  have key : ∀ i, i < ns.length → i ≤ ns.getD i 0 := by
    intro i
    induction i with
    | zero => intro _; exact Nat.zero_le _
    | succ i ih =>
      intro hi
      have h0 := ih (by omega)
      have := h3 i _ _ (List.getElem?_eq_getElem (show i < ns.length by omega)) (List.getElem?_eq_getElem hi)
      rw [List.getD_eq_getElem?_getD, List.getElem?_eq_getElem (show i < ns.length by omega)] at h0
      rw [List.getD_eq_getElem?_getD, List.getElem?_eq_getElem hi]
      simp only [Option.getD_some] at h0 ⊢
      omega
  rcases Nat.lt_or_ge m ns.length with h | h
  · have h2 := key (ns.length - 1) (by omega)
    have h4 := h1 (ns.getD (ns.length - 1) 0) (by
      rw [List.getD_eq_getElem?_getD, List.getElem?_eq_getElem (by omega)]
      exact List.getElem_mem _)
    omega
  · exact h
section
variable {K : PySem.W.Frag} {σ : L2.St} {H H' : Hp} {ta tb tc te tl : TE} {t u : TT} {x y z v : V} {r r' : R2}
theorem rv_lt {i j : Int} : RV (rI0 fun i j => .bl (decide (i < j))) (.int i) (.int j) H (.bl (decide (i < j))) := rv_I0
theorem dpT_nats {a : Addr} {ns : List Nat} (h : SqT K H a (ns.map vN)) : Dp K H (.ref a) (.tuple (encN ns)) := .tup h (dpA_nats ns)
theorem nats_dp {v : V} {ns : List Nat} (h : Dp K H v (.tuple (encN ns))) : ∃ a, v = .ref a ∧ SqT K H a (ns.map vN) := by
  obtain ⟨a, xs, rfl, h1, h2⟩ := dp_tup_inv h
  rw [dpA_nats_inv h2] at h1
  exact ⟨a, rfl, h1⟩
end
section
variable {P : Program} {w : World} {K : PySem.W.Frag} {mg : Str → Option Value} {base : Heap}
def spIsB (K : PySem.W.Frag) : Sp := fun vs H Q _ => ∃ (v : V) (d : PyData) (m : Nat), vs = [v, vN m] ∧ Dp K H v d ∧ RetV (.bl (boxesD m d)) H Q
theorem ok_bxs {f fWho : Addr} {fd fdWho : FuncData} {k : Nat} (F : Fun K "is_boxes" "is_boxes" sIsB f fd) (DWho : Df K mg "is_whole" sWho ["thing"] fWho fdWho) (GWho : FnOk P w K mg base CX0 (k + 1) fWho fdWho ["thing"] (spWho K)) (B : Bu mg) : FnOk P w K mg base CX0 (k + 2) f fd ["thing", "many"] (spIsB K) := by
  refine F.ok scIsB (fun vs H Q E h => ?_) (fun cdv A outer s H vs Q E hr h => ?_)
  · obtain ⟨v, d, m, rfl, _⟩ := h
    rfl
  · obtain ⟨v, d, m, rfl, hd, q⟩ := h
    refine ⟨_, (pss_cons (ps_if (pt_not (pt_val (pe_callB call_isi (by rfl) B.isi boot_isinstance (pa_cons (pv 0) (pa_cons (pe_bltn (v := .ty "tuple") (by rfl) B.tup boot_tuple rfl) pa_nil))))) (pss_one (ps_ret pe_bl)) pss_nil)
      (pss_cons (ps_set (i := 2) scIsB.nd rfl (.inl rfl) (pe_un un_neg pe_int))
      (pss_cons (ps_for PassesOwn.never rfl (pi_tup (pv 0)) (pg_name (i := 3) scIsB.nd rfl (.inl rfl))
      (pss_cons (ps_if (PW.pt (pw_or (pt_not (pt_val (pcall DWho GWho (hr.mono (by omega)) (pa_cons (pv 3) pa_nil)))) (pw_or1 (pt_not (pt_chain op_lt op_lt (pv 2) (pv 3) (pv 1)))))) (pss_one (ps_ret pe_bl)) pss_nil)
      (pss_one (ps_set (i := 2) scIsB.nd rfl (.inl rfl) (pv 3)))))
      (pss_one (ps_ret pe_bl))))), ?_⟩
    cases ht : isTupD d with
    | false =>
      rw [boxesD_not ht] at q
      exact q_when (b := true) (et_is (et_not (et_B (ev_isiD (K := K) (ev_var (v := v) rfl) ev_c hd (kit_tup hd)))) (by rw [ht]; rfl)) (fun _ H1 e1 => q H1 e1) (fun hb => absurd hb (by decide))
    | true =>
      cases d <;> first | cases ht | skip
      rename_i ds
      obtain ⟨a, xs, rfl, hS, hA⟩ := dp_tup_inv hd
      refine q_when (b := false) (et_is (et_not (et_B (ev_isiD (K := K) (ev_var (v := .ref a) rfl) ev_c hd (kit_tup hd)))) rfl) (fun hb => absurd hb (by decide)) (fun _ H1 e1 => ?_)
      refine q_asg (v := .int (-1)) (ev_un ev_c ru_neg) fun H2 e2 => ?_
      have hlen := dpA_len hA
      refine q_forT (K := K) (a := a) (xs := xs) (ev_var (v := .ref a) rfl) (ex_t (e1.trans e2) hS) (fun i σ' H' => Ex H H' ∧ ∃ b y, σ' = [some (.ref a), some (vN m), some (.int b), y] ∧ risN m (-1) ds = risN m b (ds.drop i)) (fun H3 e3 => ⟨(e1.trans e2).trans e3, -1, none, rfl, rfl⟩) (fun i σ' H' _ hP => ex_t hP.1 hS) (fun i x σ' H' hx hP => ?_) (fun σ' H' hP => ?_)
      · obtain ⟨eH, b, y, rfl, hris⟩ := hP
        obtain ⟨dx, hdx, hDx⟩ := dpA_get hA hx
        have hdx' : ds.drop i = dx :: ds.drop (i + 1) := (List.getElem?_eq_some_iff.mp hdx).choose_spec ▸ List.drop_eq_getElem_cons _
        have hDx' := dp_ex eH _ _ hDx
        rw [hdx'] at hris
        show tIfS _ _ _ _ [some (.ref a), some (vN m), some (.int b), some x] H'
        have hW : Ev (tCall (spWho K) [] E0 (tCons (tVar 3) tNil)) [some (.ref a), some (vN m), some (.int b), some x] H' (.bl (isIntD dx)) := ev_call (ea_cons (ev_var (v := x) rfl) ea_nil) (SpV.of fun H3 e3 Q q E => who_dp (dp_ex e3 _ _ hDx') q)
        cases hs : isIntD dx with
        | false =>
          rw [hs] at hW
          have hf : risN m (-1) ds = false := by
            rw [hris]
            cases dx <;> first | rfl | cases hs
          have q' : RetV (.bl false) H Q := by
            have : boxesD m (.tuple ds) = false := hf
            rw [this] at q
            exact q
          exact s_when (b := true) (et_or (b := true) (et_not (et_B hW)) fun h => absurd h (by decide)) (fun _ H3 e3 => q' H3 (eH.trans e3)) (fun hb => absurd hb (by decide))
        | true =>
          rw [hs] at hW
          cases dx <;> first | cases hs | skip
          rename_i z
          cases hDx
          refine s_when (b := !(decide (b < z) && decide (z < (m : Int)))) (et_is (et_or (et_not (et_B hW)) fun _ => et_not (et_test (ev_chain (ev_var (v := .int b) rfl) (ev_var (v := .int z) rfl) (ev_var (v := vN m) rfl) rv_lt rv_lt))) rfl) (fun hb H3 e3 => ?_) (fun hb H3 e3 => ?_)
          · have hf : boxesD m (.tuple ds) = false := by
              show risN m (-1) ds = false
              rw [hris]
              show ((decide (b < z) && decide (z < (m : Int))) && _) = false
              rw [Bool.not_eq_true'] at hb
              rw [hb]
              rfl
            rw [hf] at q
            exact q H3 (eH.trans e3)
          · refine s_asg (v := .int z) (ev_var rfl) fun H4 e4 => ⟨(eH.trans e3).trans e4, z, _, rfl, ?_⟩
            rw [hris]
            show ((decide (b < z) && decide (z < (m : Int))) && _) = _
            rw [Bool.not_eq_false'] at hb
            rw [hb]
            rfl
      · obtain ⟨eH, b, y, rfl, hris⟩ := hP
        rw [List.drop_eq_nil_of_le (by omega)] at hris
        have hf : boxesD m (.tuple ds) = true := hris
        rw [hf] at q
        exact q H' eH
/-! ### is_kept, of anything -/
def lotD : PyData → List Nat
  | .tuple ds => ds.map fun d => match d with | .int i => i.toNat | _ => 0
  | _ => []
theorem lotD_enc (ns : List Nat) : lotD (.tuple (encN ns)) = ns := by
  show (encN ns).map _ = ns
  unfold encN
  rw [List.map_map]
  conv => rhs; rw [← List.map_id ns]
  apply List.map_congr_left
  intro n _
  exact Int.toNat_natCast n
def keptD (h : House) (d : PyData) : Bool := boxesD h.1.length d && (!(lotD d).isEmpty && keptB h.1 h.2 (lotD d))
theorem keptD_lot {h : House} {ls : List Nat} (h1 : ∀ i ∈ ls, i < h.1.length) (h3 : RisingN ls) (hne : ls ≠ []) : keptD h (.tuple (encN ls)) = keptB h.1 h.2 ls := by
  unfold keptD
  rw [lotD_enc, boxesD_ok h1 h3]
  cases ls with
  | nil => exact absurd rfl hne
  | cons a r => rfl
def spIsK (K : PySem.W.Frag) : Sp := fun vs H Q _ => ∃ (v x : V) (h : House) (d : PyData), vs = [v, x] ∧ HouseAt K H v h ∧ OkHouse h ∧ Dp K H x d ∧ RetV (.bl (keptD h d)) H Q
theorem ok_kept {f fChk fIsB fKeys fFits : Addr} {fd fdChk fdIsB fdKeys fdFits : FuncData} {k : Nat} (F : Fun K "is_kept" "is_kept" sIsK f fd) (DChk : Df K mg "check_house" sChk ["house"] fChk fdChk) (DIsB : Df K mg "is_boxes" sIsB ["thing", "many"] fIsB fdIsB) (DKeys : Df K mg "keys_in" sKeys ["boxes", "some"] fKeys fdKeys) (DFits : Df K mg "fits" sFits ["locks", "held"] fFits fdFits) (GChk : FnOk P w K mg base CX0 (k + 4) fChk fdChk ["house"] (spChk K)) (GIsB : FnOk P w K mg base CX0 (k + 2) fIsB fdIsB ["thing", "many"] (spIsB K)) (GKeys : FnOk P w K mg base CX0 (k + 1) fKeys fdKeys ["boxes", "some"] (spKeys K)) (GFits : FnOk P w K mg base CX0 (k + 1) fFits fdFits ["locks", "held"] (spFits K)) (B : Bu mg) : FnOk P w K mg base CX0 (k + 5) f fd ["house", "thing"] (spIsK K) := by
  refine F.ok scIsK (fun vs H Q E h => ?_) (fun cdv A outer s H vs Q E hr h => ?_)
  · obtain ⟨v, x, h, d, rfl, _⟩ := h
    rfl
  · obtain ⟨v, x, h, d, rfl, hA, ho, hd, q⟩ := h
    have hA' := hA
    obtain ⟨a, bb, kk, rfl, ha, hb, hk⟩ := hA'
    have hF := ho.few
    have h30 := ho.2.1
    have h6 := ho.2.2.2.1
    refine ⟨_, (pss_cons (ps_expr (pcall DChk GChk (hr.mono (by omega)) (pa_cons (pv 0) pa_nil)))
      (pss_cons (ps_asg (pv 0) (pg_tup rfl (pgs_cons (pg_name (i := 2) scIsK.nd rfl (.inl rfl)) (pgs_cons (pg_name (i := 3) scIsK.nd rfl (.inl rfl)) pgs_nil))))
      (pss_cons (ps_if (PW.pt (pw_or (pt_not (pt_val (pcall DIsB GIsB (hr.mono (by omega)) (pa_cons (pv 1) (pa_cons (pe_callB call_len_seq (by rfl) B.len PySem.boot_len (pa_cons (pv 2) pa_nil)) pa_nil))))) (pw_or1 (pt_cmpR op_eq (pe_callB call_len_seq (by rfl) B.len PySem.boot_len (pa_cons (pv 1) pa_nil)) pe_int (nomark _))))) (pss_one (ps_ret pe_bl)) pss_nil)
      (pss_cons (ps_setLc (i := 4) (own := [("box", 6)]) (g := (gName 6)) (tt := (tTest (tOp (rIn K true) (tVar 6) (tVar 1)))) (te := (tVar 6)) rfl scIsK.nd rfl rfl (sw_true rfl rfl rfl (by decide +kernel)) (pi_range1 (by rfl) B.rng (pa_cons (pe_callB call_len_seq (by rfl) B.len PySem.boot_len (pa_cons (pv 2) pa_nil)) pa_nil)) (blkOk_by (N := ["house", "thing", "boxes", "hand", "others", "held", "box"]) (sc := defScope sIsK) (by decide +kernel)) (fun _ _ _ _ _ => (pg_name (i := 6) scIsK.nd rfl (.inl rfl))) (fun _ _ _ _ _ => (pts_one (pt_cmpR op_notIn_seq (pv 6) (pv 1) (by rfl)))) (fun _ _ _ _ _ => (pv 6)))
      (pss_cons (ps_set (i := 5) scIsK.nd rfl (.inl rfl) (pe_op op_cat (pe_callTy call_list_of (by rfl) B.lst boot_list (pa_cons (pv 3) pa_nil)) (pcall DKeys GKeys (hr.mono (by omega)) (pa_cons (pv 2) (pa_cons (pv 4) pa_nil)))))
      (pss_cons (ps_for PassesOwn.never rfl (pi_tup (pv 1)) (pg_name (i := 6) scIsK.nd rfl (.inl rfl))
      (pss_one (ps_if (pt_val (pcall DFits GFits (hr.mono (by omega)) (pa_cons (pe_ix ix_tup (pe_ix ix_seq (pv 2) (pv 6) (fun _ _ => rfl)) pe_int (fun _ _ => rfl)) (pa_cons (pv 5) pa_nil)))) (pss_one (ps_ret pe_bl)) pss_nil)))
      (pss_one (ps_ret pe_bl)))))))), ?_⟩
    refine q_drop (ev_call (z := .non) (ea_cons (ev_var rfl) ea_nil) (SpV.of fun H2 e2 Q q E => ⟨_, h, rfl, hA.keep (KeepT.ex e2), ho, q⟩)) fun H1 e1 => ?_
    refine ⟨.ref a, rfl, a, _, rfl, ex_t e1 ha, rfl, .ref bb, [.ref kk], rfl, .ref kk, [], rfl, rfl, ?_⟩
    show tSeq _ _ _ [some (.ref a), some x, some (.ref bb), some (.ref kk), none, none, none] H1
    have hBS : BoxesS K H1 bb h.1 := BoxesS.of (hb.keep (KeepT.ex e1))
    have hB1 : Ev (tCall (spIsB K) [] E0 (tCons (tVar 1) (tCons (tCB (rLenS K) (tCons (tVar 2) tNil)) tNil))) [some (.ref a), some x, some (.ref bb), some (.ref kk), none, none, none] H1 (.bl (boxesD h.1.length d)) :=
      ev_call (ea_cons (ev_var (v := x) rfl) (ea_cons (ev_lenB (K := K) (ev_var (v := .ref bb) rfl) hBS) ea_nil)) (SpV.of fun H2 e2 Q q E => ⟨x, d, h.1.length, rfl, dp_ex (e1.trans e2) _ _ hd, q⟩)
    cases hbx : boxesD h.1.length d with
    | false =>
      rw [hbx] at hB1
      have hf : keptD h d = false := by unfold keptD; rw [hbx]; rfl
      rw [hf] at q
      exact q_when (b := true) (et_or (b := true) (et_not (et_B hB1)) fun h => absurd h (by decide)) (fun _ H2 e2 => q H2 (e1.trans e2)) (fun hb => absurd hb (by decide))
    | true =>
    rw [hbx] at hB1
    obtain ⟨ls, rfl, hm, hR⟩ := boxesD_inv hbx
    obtain ⟨t, rfl, hT⟩ := nats_dp hd
    have hl := rising_len hm hR
    refine q_when (b := decide (ls = [])) (et_is (et_or (et_not (et_B hB1)) fun _ => et_test (ev_op (ev_lenT (K := K) (ev_var (v := .ref t) rfl) (ex_t e1 hT)) ev_c (rv_eq rfl))) ?_) (fun hb H2 e2 => ?_) (fun hb H2 e2 => ?_)
    · show (!true || decide (V.int ((ls.map vN).length : Nat) = V.int 0)) = _
      rw [List.length_map]
      cases ls with
      | nil => rfl
      | cons a r =>
        have h1 : decide (V.int (((a :: r).length : Nat) : Int) = V.int 0) = false := decide_eq_false fun z => by
          have z2 := V.int.inj z
          rw [List.length_cons] at z2
          omega
        rw [h1]
        rfl
    · have he := of_decide_eq_true hb
      have hf : keptD h (.tuple (encN ls)) = false := by
        unfold keptD
        rw [lotD_enc, he]
        simp
      rw [hf] at q
      exact q H2 (e1.trans e2)
    have hne := of_decide_eq_false hb
    have hf : keptD h (.tuple (encN ls)) = keptB h.1 h.2 ls := by
      unfold keptD
      rw [lotD_enc, hbx]
      cases ls with
      | nil => exact absurd rfl hne
      | cons a r => rfl
    rw [hf] at q
    refine q_asgL (xs := (less (List.range h.1.length) ls).map vN) (by
      refine el_lc (ew_rng1 (ea_cons (ev_lenB (K := K) (ev_var (v := .ref bb) rfl) (hBS.ex e2)) ea_nil) (by omega)) (by omega) (fun i => !decide (i ∈ ls)) (fun i => vN i) rfl (fun i x H3 H4 Q e hi hy k => ?_)
      obtain ⟨rfl, rfl⟩ := hy
      refine k _ _ (Ex.refl _) rfl ?_ fun _ => ev_var rfl
      rw [← inV_nat]
      exact et_test (ev_op (ev_var rfl) (ev_var (v := .ref t) rfl) (rv_niT (ex_t ((e1.trans e2).trans e) hT) rfl (flat_nats ls)))) fun o H3 n3 e3 ho3 => ?_
    have hol : (less (List.range h.1.length) ls).length ≤ 30 := by
      have := less_len (List.range h.1.length) ls
      rw [List.length_range] at this
      omega
    have hkl := keysIn_len (fun b hb => (hF.2 b hb).2) (less (List.range h.1.length) ls)
    refine q_asgL (xs := (h.2 ++ keysIn h.1 (less (List.range h.1.length) ls)).map V.str) (by
      rw [List.map_append]
      refine el_catN (el_listT (K := K) (ev_var (v := .ref kk) rfl) (ex_t ((e1.trans e2).trans e3) hk)) (el_call (ea_cons (ev_var (v := .ref bb) rfl) (ea_cons (ev_var (v := .ref o) rfl) ea_nil)) (SpL.of fun H5 e5 Q q E => ⟨bb, o, h.1, _, rfl, hBS.ex ((e2.trans e3).trans e5), .inl (sq_of (e5 _ _ ho3)), fun i hi => List.mem_range.mp (List.mem_filter.mp hi).1, by omega, fun b hb => (hF.2 b hb).2, q⟩)) ?_
      rw [List.length_map, List.length_map]
      omega) fun hd H4 n4 e4 hh4 => ?_
    have eA := ((e1.trans e2).trans e3).trans e4
    refine q_forT (K := K) (a := t) (xs := ls.map vN) (ev_var (v := .ref t) rfl) (ex_t eA hT) (fun i σ' H' => Ex H4 H' ∧ (∃ y, σ' = [some (.ref a), some (.ref t), some (.ref bb), some (.ref kk), some (.ref o), some (.ref hd), y]) ∧ (ls.take i).any (fun i => fitsB (bx h.1 i).1 (h.2 ++ keysIn h.1 (less (List.range h.1.length) ls))) = false) (fun H5 e5 => ⟨e5, ⟨none, rfl⟩, rfl⟩) (fun i σ' H' _ hP => ex_t (eA.trans hP.1) hT) (fun i x σ' H' hx hP => ?_) (fun σ' H' hP => ?_)
    · obtain ⟨eH, ⟨y, rfl⟩, hany⟩ := hP
      obtain ⟨rfl, hi, hget⟩ := get_map 0 hx
      have hmem := List.mem_of_getElem? hget
      show tIfS _ _ _ _ [some (.ref a), some (.ref t), some (.ref bb), some (.ref kk), some (.ref o), some (.ref hd), some (vN (ls.getD i 0))] H'
      obtain ⟨l, kb, hl1, hk1, ea, eb⟩ := box_at (K := K) (σ := [some (.ref a), some (.ref t), some (.ref bb), some (.ref kk), some (.ref o), some (.ref hd), some (vN (ls.getD i 0))]) (ta := tVar 2) (tb := tVar 6) (hBS.ex (((e2.trans e3).trans e4).trans eH)) (hm _ hmem) (ev_var rfl) (ev_var rfl)
      refine s_when (et_B (ev_call (z := .bl (fitsB (bx h.1 (ls.getD i 0)).1 (h.2 ++ keysIn h.1 (less (List.range h.1.length) ls)))) (ea_cons ea (ea_cons (ev_var (v := .ref hd) rfl) ea_nil)) (SpV.of fun H7 e7 Q q E => ⟨l, hd, _, _, rfl, ex_t e7 hl1, sq_of ((eH.trans e7) _ _ hh4), q⟩))) (fun hb H5 e5 => ?_) (fun hb H5 e5 => ?_)
      · have hk : keptB h.1 h.2 ls = false := by
          unfold keptB
          rw [List.any_eq_true.mpr ⟨_, hmem, hb⟩]
          rfl
        rw [hk] at q
        exact q H5 ((eA.trans eH).trans e5)
      · refine ⟨eH.trans e5, ⟨_, rfl⟩, ?_⟩
        rw [List.take_add_one, List.any_append, hany, hget]
        show (false || (fitsB (bx h.1 (ls.getD i 0)).1 _ || false)) = false
        rw [hb]
        rfl
    · obtain ⟨eH, ⟨y, rfl⟩, hany⟩ := hP
      rw [List.length_map, List.take_length] at hany
      have hk : keptB h.1 h.2 ls = true := by
        unfold keptB
        rw [hany]
        rfl
      rw [hk] at q
      exact q H' (eA.trans eH)
end
end Kw
set_option Elab.async false
set_option linter.all false
set_option maxRecDepth 100000
set_option maxHeartbeats 4000000
namespace Kw
open PySem PySem.Spec PyProof.Rows L2 Evl
/-! ### broken boxes are boxes without locks -/
theorem bx_set {bs : List Box} {i j : Nat} {b : Box} (hi : i < bs.length) : bx (bs.set i b) j = if j = i then b else bx bs j := by
  unfold bx
  rw [List.getD_eq_getElem?_getD, List.getD_eq_getElem?_getD, List.getElem?_set]
  by_cases h : j = i
  · subst h
    rw [if_pos rfl, if_pos rfl, if_pos hi]
    rfl
  · rw [if_neg (fun z => h z.symm), if_neg h]
theorem bx_unlock {bs : List Box} : ∀ {br : List Nat}, (∀ i ∈ br, i < bs.length) → ∀ j, bx (unlock bs br) j = if j ∈ br then ([], (bx bs j).2) else bx bs j := by
  intro br
  induction br generalizing bs with
  | nil => intro _ j; simp [unlock]
  | cons a r ih =>
    intro hb j
    have ha := hb a (List.mem_cons_self ..)
    show bx (unlock (bs.set a ([], (bx bs a).2)) r) j = _
    rw [ih (fun i hi => by rw [List.length_set]; exact hb i (List.mem_cons_of_mem _ hi)) j, bx_set ha]
    by_cases h1 : j = a
    · subst h1
      simp
    · by_cases h2 : j ∈ r
      · simp [h1, h2]
      · simp [h1, h2]
theorem keysIn_unlock {bs : List Box} {br : List Nat} (hb : ∀ i ∈ br, i < bs.length) (is : List Nat) : keysIn (unlock bs br) is = keysIn bs is := by
  unfold keysIn
  congr 1
  funext i
  rw [bx_unlock hb]
  split <;> rfl
theorem roundsF_unlock {bs : List Box} {br : List Nat} (hb : ∀ i ∈ br, i < bs.length) : ∀ (n : Nat) (held : List Str) (closed : List Nat), (∀ i ∈ closed, i ∉ br) → roundsF (unlock bs br) n held closed = roundsF bs n held closed
  | 0, _, _, _ => rfl
  | n + 1, held, closed, hc => by
    have hr : readyOf (unlock bs br) held closed = readyOf bs held closed := by
      unfold readyOf
      apply List.filter_congr
      intro i hi
      rw [bx_unlock hb, if_neg (hc i hi)]
    show (if readyOf (unlock bs br) held closed = [] then [] else readyOf (unlock bs br) held closed :: roundsF (unlock bs br) n (held ++ keysIn (unlock bs br) (readyOf (unlock bs br) held closed)) (less closed (readyOf (unlock bs br) held closed))) = _
    rw [hr, keysIn_unlock hb, roundsF_unlock hb n (held ++ keysIn bs (readyOf bs held closed)) (less closed (readyOf bs held closed)) fun i hi => hc i (List.mem_filter.mp hi).1]
    rfl
theorem shutOf_unlock {bs : List Box} {hand : List Str} {br : List Nat} (hb : ∀ i ∈ br, i < bs.length) : shutOf bs hand br = shutOf (unlock bs br) hand [] := by
  have hcl : ∀ i ∈ less (List.range bs.length) br, i < bs.length ∧ i ∉ br := fun i hi => by
    have h := List.mem_filter.mp hi
    refine ⟨List.mem_range.mp h.1, fun z => ?_⟩
    rw [decide_eq_true z] at h
    cases h.2
  have hs : Seq (unlock bs br) hand br := fun i hi => ⟨by rw [unlock_len]; exact hb i hi, Op.closed _ _ i (by rw [unlock_len]; exact hb i hi) fun c hc => by
    rw [bx_unlock hb, if_pos hi] at hc
    cases hc⟩
  have h := rounds_seq (unlock bs br) hand ((less (List.range bs.length) br).length + 1) br (less (List.range bs.length) br) (Nat.lt_succ_self _) hs (fun i hi => by rw [unlock_len]; exact (hcl i hi).1) (fun i hi => by
      rw [unlock_len] at hi
      by_cases hm : i ∈ br
      · exact .inl hm
      · exact .inr (List.mem_filter.mpr ⟨List.mem_range.mpr hi, by rw [decide_eq_false hm]; rfl⟩)) (List.Pairwise.filter _ List.nodup_range) (fun i hi hc => (hcl i hc).2 hi)
  rw [keysIn_unlock hb, roundsF_unlock hb _ _ _ fun i hi => (hcl i hi).2] at h
  have e := less_same h.1 h.2.2.2
  rw [← e, unlock_len, ← less_less]
  rfl
theorem lawShut_eq {h : House} {br : List Nat} (hb : ∀ i ∈ br, i < h.1.length) : lawShut h br = shutOf h.1 h.2 br := by
  rw [shutOf_unlock hb, shut_eq]
  unfold lawShut openedOf
  rw [unlock_len]
section
variable {K : PySem.W.Frag} {σ : L2.St} {H H' : Hp} {ta tb tc te tl : TE} {t u : TT} {x y z v : V} {r r' : R2}
def rReprB : List V → Hp → VK → Prop := fun xs H Q => ∃ b : Bool, xs = [.bl b] ∧ Q (.str (if b then "True" else "False")) H
theorem cr_reprB {X : Cx} : CallR X (.builtin "repr") rReprB := by
  intro pins s σ H vs us Q I r h
  obtain ⟨b, rfl, q⟩ := h
  obtain ⟨u, rfl, ru⟩ := vals1 r
  cases (show u = Value.bool b from ru)
  exact PySem.P.repr_of_bool ⟨.str _, H, I.tok _, ⟨_, rfl⟩, q⟩
theorem ev_reprB {b : Bool} (ha : Ev ta σ H (.bl b)) : Ev (tCB rReprB (tCons ta tNil)) σ H (.str (if b then "True" else "False")) := fun H1 e Q q =>
  ha H1 e _ fun H2 e2 => ⟨b, rfl, q H2 e2⟩
end
end Kw
set_option Elab.async false
set_option linter.all false
set_option maxRecDepth 100000
set_option maxHeartbeats 4000000
/-! sorted of tuples of ints of any length, and of pairs of an int and such a tuple -/
namespace SoX
open PySem PySem.Spec PyProof.Rows SrtO
theorem lex_asym : ∀ (x y : List Int), HT.lexLt x y = true → HT.lexLt y x = false
  | [], [], h => by cases h
  | [], _ :: _, _ => rfl
  | _ :: _, [], h => by cases h
  | a :: x, b :: y, h => by
    rw [HT.lexLt_cons] at h ⊢
    by_cases e : a = b
    · subst e
      rw [if_pos rfl] at h ⊢
      exact lex_asym x y h
    · rw [if_neg e] at h
      rw [if_neg (fun z => e z.symm)]
      have := of_decide_eq_true h
      exact decide_eq_false (by omega)
theorem lex_tr : ∀ (x y z : List Int), HT.lexLt y x = false → HT.lexLt z y = false → HT.lexLt z x = false
  | [], [], [], _, _ => rfl
  | [], [], _ :: _, _, _ => rfl
  | [], _ :: _, [], h1, h2 => by cases h2
  | [], _ :: _, _ :: _, _, _ => rfl
  | _ :: _, [], [], h, _ => by cases h
  | _ :: _, [], _ :: _, h, _ => by cases h
  | _ :: _, _ :: _, [], _, h => by cases h
  | a :: x, b :: y, c :: z, h1, h2 => by
    rw [HT.lexLt_cons] at h1 h2 ⊢
    by_cases e1 : b = a
    · rw [if_pos e1] at h1
      by_cases e2 : c = b
      · rw [if_pos e2] at h2
        rw [if_pos (e2.trans e1)]
        exact lex_tr x y z h1 h2
      · rw [if_neg e2] at h2
        rw [if_neg (fun z => e2 (z.trans e1.symm)), ← e1]
        exact h2
    · rw [if_neg e1] at h1
      have h1 := of_decide_eq_false h1
      by_cases e2 : c = b
      · rw [if_neg (fun z => e1 (e2.symm.trans z))]
        exact decide_eq_false (by omega)
      · rw [if_neg e2] at h2
        have h2 := of_decide_eq_false h2
        rw [if_neg (by omega)]
        exact decide_eq_false (by omega)
theorem swo_lexL {α : Type} (k : α → List Int) : Swo fun v u => HT.lexLt (k v) (k u) := ⟨fun x y h => lex_asym _ _ h, fun x y z h1 h2 => lex_tr _ _ _ h1 h2⟩
theorem lex_refl : ∀ x : List Int, HT.lexLt x x = false := fun x => by
  cases h : HT.lexLt x x with
  | false => rfl
  | true => rw [lex_asym x x h] at h; cases h
/-- a tuple of ints -/
def TupI (h : Heap) (v : Value) (ns : List Int) : Prop := ∃ a its, v = .ref a ∧ IsTup h a its ∧ IntsAre its.toList ns
theorem TupI.keeps {h h' : Heap} {v : Value} {ns : List Int} (p : TupI h v ns) (k : ∀ b o, h.get? b = some o → o.cls = .type "tuple" → h'.get? b = some o) : TupI h' v ns := by
  obtain ⟨a, its, e, ⟨o, ho, hc, hd⟩, hi⟩ := p
  exact ⟨a, its, e, ⟨o, k _ _ ho hc, hc, hd⟩, hi⟩
theorem readsAll_ints {h : Heap} : ∀ {vs : List Value} {ns : List Int}, IntsAre vs ns → ReadsAll h vs (ns.map PyData.int) []
  | _, _, .nil => .nil
  | _, _, .cons n t r => ReadsAll.cons (as := []) (bs := []) (.int n t) (readsAll_ints r)
theorem TupI.reads {h : Heap} {v : Value} {ns : List Int} (p : TupI h v ns) : Reads h v (.tuple (ns.map PyData.int)) [] := by
  obtain ⟨a, its, rfl, ⟨o, ho, hc, n, hd⟩, hi⟩ := p
  exact .tuple ho hc hd (readsAll_ints hi)
theorem lay_ints : ∀ ns : List Int, PyData.canLayAll0 (ns.map PyData.int) = true
  | [] => by simp [PyData.canLayAll0]
  | a :: r => by
    have := lay_ints r
    simp only [List.map_cons, PyData.canLayAll0, PyData.canLay0, Bool.true_and]
    exact this
theorem depth_ints : ∀ ns : List Int, PyData.depthAll (ns.map PyData.int) ≤ 1
  | [] => by simp [PyData.depthAll]
  | a :: r => by
    have := depth_ints r
    simp only [List.map_cons, PyData.depthAll, PyData.depth]
    omega
theorem eqv_ints : ∀ a b : List Int, PyData.eqvAll (a.map PyData.int) (b.map PyData.int) = decide (a = b)
  | [], [] => by simp [PyData.eqvAll]
  | [], _ :: _ => by simp [PyData.eqvAll]
  | _ :: _, [] => by simp [PyData.eqvAll]
  | x :: a, y :: b => by
    have := eqv_ints a b
    simp only [List.map_cons, PyData.eqvAll, PyData.eqv, this]
    by_cases h : x = y
    · subst h
      simp
    · simp [h]
theorem depth_tup (ns : List Int) : PyData.depth (.tuple (ns.map PyData.int)) ≤ 2 := by
  have := depth_ints ns
  simp only [PyData.depth]
  omega
section
variable {prog : Program} {w : World} {A : Around} {E : Value → Shared → Prop} {s : Shared}
/-- pairs of an int and a tuple of ints -/
def PrT (h : Heap) (v : Value) (l : List Int) : Prop := ∃ a x ns t u, v = .ref a ∧ IsTup h a #[.int x t, u] ∧ TupI h u ns ∧ l = x :: ns
theorem PrT.keeps {h h' : Heap} {v : Value} {l : List Int} (p : PrT h v l) (k : ∀ b o, h.get? b = some o → o.cls = .type "tuple" → h'.get? b = some o) : PrT h' v l := by
  obtain ⟨a, x, ns, t, u, e, ⟨o, ho, hc, hd⟩, hu, hl⟩ := p
  exact ⟨a, x, ns, t, u, e, ⟨o, k _ _ ho hc, hc, hd⟩, hu.keeps k, hl⟩
theorem prt_cmp {vs : List Value} {k : Value → List Int} (hu : A.units + 4 < cLine) (hp : ∀ v ∈ vs, PrT s.heap v (k v)) : Cmp prog w A s (tuples' true) (fun p => p.1 ∈ vs) (lt2 fun v u => HT.lexLt (k v) (k u)) := by
  intro p q hm hm'
  have h1 := hp _ hm
  have h2 := hp _ hm'
  show wpAny (model prog w) A (keyLt' (tuples' true) p.1 q.1) (fun r s' => s' = s ∧ r = HT.lexLt (k p.1) (k q.1)) (fun _ _ => False) s
  obtain ⟨a, x, ns, t, u, e, ⟨o, ho, hc, n, hd⟩, hu1, hk⟩ := h1
  obtain ⟨a', x', ns', t', u', e', ⟨o', ho', hc', n', hd'⟩, hu2, hk'⟩ := h2
  rw [e, e', ← e, ← e', hk, hk', e, e', HT.lexLt_cons]
  refine PySem.W.kat_lt ho hd ho' hd' ?_
  show PySem.W.KatLex prog w A true (decide (2 < 2)) _ [(.int x t, .int x' t'), (u, u')] 0 s
  refine PySem.W.kat_cons (SeqAt.EqAt.int_int x t x' t' prog w _ _ ?_)
  refine PySem.W.kat_go (fun e1 => ?_) (fun e1 => ?_)
  · have ex : x = x' := by simpa using e1
    rw [if_pos ex]
    refine PySem.W.kat_yes (PySem.W.kat_cons (SeqAt.eqBoolOverData prog w A _ s u u' _ _ _ _ _ hu1.reads hu2.reads (by simpa [PyData.canLay0] using lay_ints ns) (by simpa [PyData.canLay0] using lay_ints ns') (by have := depth_tup ns; omega) ?_))
    refine PySem.W.kat_go (fun e2 => ?_) (fun e2 => ?_)
    · have ey : ns = ns' := by
        simp only [PyData.eqv, eqv_ints] at e2
        exact of_decide_eq_true e2
      subst ey
      exact PySem.W.kat_yes (PySem.W.kat_nil ⟨rfl, (lex_refl ns).symm⟩)
    · obtain ⟨b, its, rfl, hb, hi⟩ := hu1
      obtain ⟨b', its', rfl, hb', hi'⟩ := hu2
      exact PySem.W.kat_no (PySem.W.kat_one _ _ (HT.lt_tupInts hb hb' hi hi' (by omega) ⟨rfl, rfl⟩))
  · have ex : ¬ x = x' := by simpa using e1
    rw [if_neg ex]
    exact PySem.W.kat_no (oneLt_int ⟨rfl, rfl⟩)
theorem prt_firsts {h : Heap} {k : Value → List Int} : ∀ {vs : List Value}, (∀ v ∈ vs, PrT h v (k v)) → ∃ fs : List Value, PySem.W.KatTups h vs fs ∧ fs.length = vs.length ∧ ∀ f ∈ fs, ∃ x t, f = Value.int x t
  | [], _ => ⟨[], PySem.W.KatTups.nil, rfl, fun _ hm => by simp at hm⟩
  | v :: vs, hp => by
    obtain ⟨fs, h1, h2, h3⟩ := prt_firsts (vs := vs) fun v' hm => hp v' (List.mem_cons_of_mem _ hm)
    obtain ⟨a, x, ns, t, u, e, ⟨o, ho, hc, n, hd⟩, hu1, hk⟩ := hp v (List.mem_cons_self ..)
    subst e
    refine ⟨.int x t :: fs, PySem.W.KatTups.cons ho hc hd rfl h1, by rw [List.length_cons, List.length_cons, h2], fun f hm => ?_⟩
    rcases List.mem_cons.mp hm with rfl | hm
    · exact ⟨x, t, rfl⟩
    · exact h3 f hm
theorem prt_sortable {a : Addr} {vs : List Value} {k : Value → List Int} (hu : A.units + 4 < cLine) (h0 : 0 < vs.length) (hp : ∀ v ∈ vs, PrT s.heap v (k v)) (ha : ∀ o, s.heap.get? a = some o → o.cls ≠ .type "tuple") : SortableO prog w A s a vs fun v u => HT.lexLt (k v) (k u) := by
  intro h' keep
  have hp' : ∀ v ∈ vs, PrT h' v (k v) := fun v hm => (hp v hm).keeps fun b o e c => keep b o (fun z => by subst z; exact ha o e c) e
  obtain ⟨fs, h1, h2, h3⟩ := prt_firsts hp'
  refine ⟨tuples' true, fun Q E hq => ?_, prt_cmp hu hp'⟩
  refine PySem.W.kat_kind (T := .type "int") h1 (by omega) (fun f hm => ?_) (by rfl) ?_
  · obtain ⟨x, t, rfl⟩ := h3 f hm
    exact PySem.W.Looks.now
  · have e : (Value.type "int" != Value.type "tuple") = true := by first | decide +kernel | rfl | decide
    rw [e]
    exact hq
theorem sorted_prt {l : Addr} {vs : List Value} {k : Value → List Int} {Q : Value → Shared → Prop} (hu : A.units + 6 < cLine) (hl : s.heap.IsList l vs.toArray) (hz : vs.length ≤ sizeLine) (hp : ∀ v ∈ vs, PrT s.heap v (k v))
    (h : ∀ (h' : Heap) (d : Addr) (out : List Value), Srtd (fun v u => HT.lexLt (k v) (k u)) out → Stb (fun v u => HT.lexLt (k v) (k u)) out vs → (∀ b o, s.heap.get? b = some o → h'.get? b = some o) → s.heap.objs.size ≤ d → (∃ n, h'.get? d = some (seqObj "list" out.toArray n)) → Q (.ref d) { s with heap := h' }) :
    wpAny (model prog w) A (call (.builtin "sorted") [.ref l]) Q E s := by
  refine sorted_ord (swo_lexL k) hl hz (fun h2 h₁ a ha kk => ?_) fun out hs hb => ?_
  · refine prt_sortable (s := { s with heap := h₁ }) (by rw [Around.in1_units, Around.in1_units]; omega) (by omega) (fun v hm => (hp v hm).keeps fun b o e _ => (kk b o e).2) fun o e => ?_
    have e' : some o = some (seqObj "list" vs.toArray 0) := e.symm.trans ha
    cases e'
    intro c
    exact absurd (Value.type.inj c) (by decide)
  · exact h _ _ out hs hb (fun b o e => sortedAll_old e) (Nat.le_succ _) (sortedAll_at s.heap vs out.toArray)
/-! tuples of ints, not empty -/
theorem kat_ints {fin : Bool} : ∀ {vs us : List Value} {ns ms : List Int} {i : Nat}, IntsAre vs ns → IntsAre us ms → fin = decide (ns.length < ms.length) → PySem.W.KatLex prog w A true fin (fun r s' => s' = s ∧ r = HT.lexLt ns ms) (vs.zip us) i s
  | _, _, _, _, _, .nil, .nil, hf => by
    subst hf
    exact PySem.W.kat_nil ⟨rfl, rfl⟩
  | _, _, _, _, _, .nil, .cons m t r, hf => by
    subst hf
    refine PySem.W.kat_nil ⟨rfl, ?_⟩
    rw [List.length_nil, List.length_cons]
    exact decide_eq_true (by omega)
  | _, _, _, _, _, .cons m t r, .nil, hf => by
    subst hf
    refine PySem.W.kat_nil ⟨rfl, ?_⟩
    rw [List.length_nil, List.length_cons]
    exact decide_eq_false (by omega)
  | _, _, _, _, i, .cons x t r, .cons y u q, hf => by
    rw [List.zip_cons_cons]
    refine PySem.W.kat_cons (SeqAt.EqAt.int_int x t y u prog w _ _ ?_)
    refine PySem.W.kat_go (fun e1 => ?_) (fun e1 => ?_)
    · have ex : x = y := by simpa using e1
      rw [HT.lexLt_cons, if_pos ex]
      exact PySem.W.kat_yes (kat_ints r q (by rw [hf, List.length_cons, List.length_cons]; exact decide_eq_decide.mpr (by omega)))
    · have ex : ¬ x = y := by simpa using e1
      rw [HT.lexLt_cons, if_neg ex]
      exact PySem.W.kat_no (TS.oneLt_ints _ ⟨rfl, rfl⟩)
theorem IntsAre.len {vs : List Value} {ns : List Int} (h : IntsAre vs ns) : vs.length = ns.length := by
  induction h with
  | nil => rfl
  | cons n t _ ih => rw [List.length_cons, List.length_cons, ih]
theorem tup_cmp {vs : List Value} {k : Value → List Int} (hp : ∀ v ∈ vs, TupI s.heap v (k v)) : Cmp prog w A s (tuples' true) (fun p => p.1 ∈ vs) (lt2 fun v u => HT.lexLt (k v) (k u)) := by
  intro p q hm hm'
  obtain ⟨a, its, e, ⟨o, ho, hc, n, hd⟩, hi⟩ := hp _ hm
  obtain ⟨a', its', e', ⟨o', ho', hc', n', hd'⟩, hi'⟩ := hp _ hm'
  show wpAny (model prog w) A (keyLt' (tuples' true) p.1 q.1) (fun r s' => s' = s ∧ r = HT.lexLt (k p.1) (k q.1)) (fun _ _ => False) s
  generalize k p.1 = l1 at hi ⊢
  generalize k q.1 = l2 at hi' ⊢
  rw [e, e']
  refine PySem.W.kat_lt ho hd ho' hd' (kat_ints hi hi' ?_)
  have h1 := IntsAre.len hi
  have h2 := IntsAre.len hi'
  rw [Array.length_toList] at h1 h2
  rw [h1, h2]
theorem tup_firsts {h : Heap} {k : Value → List Int} : ∀ {vs : List Value}, (∀ v ∈ vs, TupI h v (k v) ∧ k v ≠ []) → ∃ fs : List Value, PySem.W.KatTups h vs fs ∧ fs.length = vs.length ∧ ∀ f ∈ fs, ∃ x t, f = Value.int x t
  | [], _ => ⟨[], PySem.W.KatTups.nil, rfl, fun _ hm => by simp at hm⟩
  | v :: vs, hp => by
    obtain ⟨fs, h1, h2, h3⟩ := tup_firsts (vs := vs) fun v' hm => hp v' (List.mem_cons_of_mem _ hm)
    obtain ⟨⟨a, its, e, ⟨o, ho, hc, n, hd⟩, hi⟩, hne⟩ := hp v (List.mem_cons_self ..)
    subst e
    generalize k (.ref a) = l at hi hne
    cases q : its.toList with
    | nil =>
      rw [q] at hi
      cases hi
      exact absurd rfl hne
    | cons y r =>
      rw [q] at hi
      cases hi with
      | cons x t r' =>
        refine ⟨.int x t :: fs, PySem.W.KatTups.cons ho hc hd (by rw [← Array.getElem?_toList, q]; rfl) h1, by rw [List.length_cons, List.length_cons, h2], fun f hm => ?_⟩
        rcases List.mem_cons.mp hm with rfl | hm
        · exact ⟨x, t, rfl⟩
        · exact h3 f hm
theorem tup_sortable {a : Addr} {vs : List Value} {k : Value → List Int} (h0 : 0 < vs.length) (hp : ∀ v ∈ vs, TupI s.heap v (k v) ∧ k v ≠ []) (ha : ∀ o, s.heap.get? a = some o → o.cls ≠ .type "tuple") : SortableO prog w A s a vs fun v u => HT.lexLt (k v) (k u) := by
  intro h' keep
  have hp' : ∀ v ∈ vs, TupI h' v (k v) ∧ k v ≠ [] := fun v hm => ⟨(hp v hm).1.keeps fun b o e c => keep b o (fun z => by subst z; exact ha o e c) e, (hp v hm).2⟩
  obtain ⟨fs, h1, h2, h3⟩ := tup_firsts hp'
  refine ⟨tuples' true, fun Q E hq => ?_, tup_cmp fun v hm => (hp' v hm).1⟩
  refine PySem.W.kat_kind (T := .type "int") h1 (by omega) (fun f hm => ?_) (by rfl) ?_
  · obtain ⟨x, t, rfl⟩ := h3 f hm
    exact PySem.W.Looks.now
  · have e : (Value.type "int" != Value.type "tuple") = true := by first | decide +kernel | rfl | decide
    rw [e]
    exact hq
theorem sorted_tup {l : Addr} {vs : List Value} {k : Value → List Int} {Q : Value → Shared → Prop} (hl : s.heap.IsList l vs.toArray) (hz : vs.length ≤ sizeLine) (hp : ∀ v ∈ vs, TupI s.heap v (k v) ∧ k v ≠ [])
    (h : ∀ (h' : Heap) (d : Addr) (out : List Value), Srtd (fun v u => HT.lexLt (k v) (k u)) out → Stb (fun v u => HT.lexLt (k v) (k u)) out vs → (∀ b o, s.heap.get? b = some o → h'.get? b = some o) → s.heap.objs.size ≤ d → (∃ n, h'.get? d = some (seqObj "list" out.toArray n)) → Q (.ref d) { s with heap := h' }) :
    wpAny (model prog w) A (call (.builtin "sorted") [.ref l]) Q E s := by
  refine sorted_ord (swo_lexL k) hl hz (fun h2 h₁ a ha kk => ?_) fun out hs hb => ?_
  · refine tup_sortable (s := { s with heap := h₁ }) (by omega) (fun v hm => ⟨(hp v hm).1.keeps fun b o e _ => (kk b o e).2, (hp v hm).2⟩) fun o e => ?_
    have e' : some o = some (seqObj "list" vs.toArray 0) := e.symm.trans ha
    cases e'
    intro c
    exact absurd (Value.type.inj c) (by decide)
  · exact h _ _ out hs hb (fun b o e => sortedAll_old e) (Nat.le_succ _) (sortedAll_at s.heap vs out.toArray)
end
end SoX
namespace Kw
open PySem PySem.Spec PyProof.Rows L2 Evl SoX
theorem ints_are {xs : List Int} : ∀ {us : List Value}, Vals (xs.map V.int) us → IntsAre us xs := by
  induction xs with
  | nil => intro us h; cases h; exact .nil
  | cons x r ih =>
    intro us h
    cases h with
    | cons a b =>
      obtain ⟨t, rfl⟩ := a
      exact .cons x t (ih b)
section
variable {X : Cx} {pins : List (Addr × Obj)} {σ : L2.St} {H : Hp} {s : Shared}
theorem tupI_of (I : Inv X pins σ H s) {a : Addr} {ns : List Int} (h : SqT X.K H a (ns.map V.int)) : TupI s.heap (.ref a) ns := by
  obtain ⟨its, r, p, _⟩ := I.tuple h
  exact ⟨a, its.toArray, rfl, p, ints_are r⟩
abbrev ltL (k : V → List Int) (x y : V) : Bool := HT.lexLt (k x) (k y)
/-- a pair of an int and a tuple of ints; a tuple of ints that is not empty -/
def PrAt (K : PySem.W.Frag) (H : Hp) (x : V) (l : List Int) : Prop := ∃ t u n ns, x = V.ref t ∧ SqT K H t [.int n, .ref u] ∧ SqT K H u (ns.map V.int) ∧ l = n :: ns
def TpAt (K : PySem.W.Frag) (H : Hp) (x : V) (l : List Int) : Prop := ∃ t, x = V.ref t ∧ SqT K H t (l.map V.int) ∧ l ≠ []
/-- a not behind b -/
abbrev NotB (a b : List Int) : Prop := HT.lexLt b a = false
def rSortBy (K : PySem.W.Frag) (F : PySem.W.Frag → Hp → V → List Int → Prop) : List V → Hp → VK → Prop := fun vs H Q => ∃ (a : Addr) (xs : List V) (ks : List (List Int)), vs = [V.ref a] ∧ SqL K H a xs ∧ Paired (F K H) xs ks ∧
  ∀ ys ls p, Paired (F K H) ys ls → ls.Perm ks → ls.Pairwise NotB → H p = none → Q (.ref p) (upd H p (.lst ys))
/-- sorted(xs), xs a list of pairs of an int and a tuple of ints -/
abbrev rSortPT (K : PySem.W.Frag) := rSortBy K PrAt
/-- sorted(xs), xs a list of tuples of ints, none empty -/
abbrev rSortTT (K : PySem.W.Frag) := rSortBy K TpAt
theorem ltL_swo (k : V → List Int) : SrtO.Swo (ltL k) := swo_lexL k
theorem map_inj {α β : Type} {f : α → β} (hf : ∀ x y, f x = f y → x = y) : ∀ {a b : List α}, a.map f = b.map f → a = b
  | [], [], _ => rfl
  | [], _ :: _, h => by cases h
  | _ :: _, [], h => by cases h
  | x :: a, y :: b, h => by
    have e := List.cons.inj h
    rw [hf x y e.1, map_inj hf e.2]
theorem ints_inj {a b : List Int} (h : a.map V.int = b.map V.int) : a = b := map_inj (fun x y e => V.int.inj e) h
theorem PrAt.inj (I : Inv X pins σ H s) {x : V} {l m : List Int} (h1 : PrAt X.K H x l) (h2 : PrAt X.K H x m) : l = m := by
  obtain ⟨t, u, n, ns, rfl, a1, a2, rfl⟩ := h1
  obtain ⟨t', u', n', ns', e, b1, b2, rfl⟩ := h2
  cases e
  have e1 := I.tuple_inj a1 b1
  have e2 := List.cons.inj e1
  have e3 := V.int.inj e2.1
  have e4 := V.ref.inj (List.cons.inj e2.2).1
  subst e3
  subst e4
  rw [ints_inj (I.tuple_inj a2 b2)]
theorem TpAt.inj (I : Inv X pins σ H s) {x : V} {l m : List Int} (h1 : TpAt X.K H x l) (h2 : TpAt X.K H x m) : l = m := by
  obtain ⟨t, rfl, a1, _⟩ := h1
  obtain ⟨t', e, b1, _⟩ := h2
  cases e
  exact ints_inj (I.tuple_inj a1 b1)
open Classical in
noncomputable def keyBy (F : V → List Int → Prop) (x : V) : List Int := if h : ∃ l, F x l then h.choose else []
theorem keyBy_is {F : V → List Int → Prop} (inj : ∀ x l m, F x l → F x m → l = m) {x : V} {l : List Int} (h : F x l) : keyBy F x = l := by
  unfold keyBy
  have hx : ∃ l, F x l := ⟨l, h⟩
  rw [dif_pos hx]
  exact inj _ _ _ hx.choose_spec h
theorem keys_map {F : V → List Int → Prop} (inj : ∀ x l m, F x l → F x m → l = m) : ∀ {xs : List V} {ks : List (List Int)}, Paired F xs ks → ks = xs.map (keyBy F)
  | _, _, .nil => rfl
  | _, _, .cons r t => by rw [List.map_cons, keyBy_is inj r, ← keys_map inj t]
theorem paired_mem {α β : Type} {F : α → β → Prop} : ∀ {xs : List α} {ys : List β} {x : α}, Paired F xs ys → x ∈ xs → ∃ y, F x y
  | _, _, _, .nil, h => by cases h
  | _, _, _, .cons r t, h => by
    rcases List.mem_cons.mp h with rfl | h
    · exact ⟨_, r⟩
    · exact paired_mem t h
theorem paired_keys {F : V → List Int → Prop} (inj : ∀ x l m, F x l → F x m → l = m) : ∀ {ys : List V}, (∀ y ∈ ys, ∃ l, F y l) → Paired F ys (ys.map (keyBy F))
  | [], _ => .nil
  | y :: r, h => by
    obtain ⟨l, hl⟩ := h y (List.mem_cons_self ..)
    rw [List.map_cons, keyBy_is inj hl]
    exact .cons hl (paired_keys inj fun z hz => h z (List.mem_cons_of_mem _ hz))
theorem sort_end {F : V → List Int → Prop} (inj : ∀ x l m, F x l → F x m → l = m) {xs ys : List V} {ks : List (List Int)} (h : Paired F xs ks) (h1 : SrtO.Srtd (ltL (keyBy F)) ys) (h2 : SrtO.Stb (ltL (keyBy F)) ys xs) :
    Paired F ys (ys.map (keyBy F)) ∧ (ys.map (keyBy F)).Perm ks ∧ (ys.map (keyBy F)).Pairwise NotB := by
  refine ⟨paired_keys inj fun y hy => paired_mem h (h2.perm.mem_iff.mp hy), ?_, List.pairwise_map.mpr h1⟩
  rw [keys_map inj h]
  exact h2.perm.map _
theorem cr_sortPT (hu : X.A.units + 64 < cLine) : CallR X (.builtin "sorted") (rSortPT X.K) := by
  intro pins s σ H vs us Q I r h
  obtain ⟨a, xs, ks, rfl, hs, hx, q⟩ := h
  obtain ⟨its, rv, hl, hz⟩ := I.list hs
  obtain ⟨u, rfl, ru⟩ := vals1 r
  obtain rfl : u = Value.ref a := ru
  have inj : ∀ x l m, PrAt X.K H x l → PrAt X.K H x m → l = m := fun x l m h1 h2 => PrAt.inj I h1 h2
  obtain ⟨e1, e2⟩ := refs_back rv fun x m => by
    obtain ⟨l, t, _, _, _, e, _⟩ := paired_mem hx m
    exact ⟨t, e⟩
  refine sorted_prt (k := fun u => keyBy (PrAt X.K H) (backV u)) (by omega) hl.isList (by rw [← rv.length]; exact hz) (fun v hv => ?_) fun h' d out h1 h2 kp hd hn => ?_
  · obtain ⟨t, rfl⟩ := e2 v hv
    have hm : V.ref t ∈ xs := by rw [e1]; exact List.mem_map.mpr ⟨_, hv, rfl⟩
    obtain ⟨l, hl⟩ := paired_mem hx hm
    have hk : keyBy (PrAt X.K H) (backV (.ref t)) = l := keyBy_is inj hl
    obtain ⟨t', u, n, ns, e, ht, hu2, rfl⟩ := hl
    cases e
    obtain ⟨its2, r2, p2, _⟩ := I.tuple ht
    obtain ⟨u1, u2, rfl, ri, rj⟩ := vals2 r2
    obtain ⟨t1, rfl⟩ := ri
    obtain rfl : u2 = Value.ref u := rj
    exact ⟨t, n, ns, t1, .ref u, rfl, p2, tupI_of I hu2, hk⟩
  · have h3 : ∀ u ∈ out, ∃ a, u = Value.ref a := fun u hu => e2 u (h2.perm.mem_iff.mp hu)
    obtain ⟨n, hn⟩ := hn
    have hb : SrtO.Stb (ltL (keyBy (PrAt X.K H))) (out.map backV) xs := by
      rw [e1]
      exact SrtO.Stb.map (ltL_swo _) backV h2
    obtain ⟨g1, g2, g3⟩ := sort_end inj hx (SrtO.srtd_map h1) hb
    refine ⟨.ref d, upd H d (.lst (out.map backV)), I.laid (t' := s.toks) kp hd ⟨?_, out, n, vals_back h3, hn⟩, rfl, q _ _ d g1 g2 g3 (I.hok.fresh hd)⟩
    rw [hb.len]
    exact hz
theorem cr_sortTT : CallR X (.builtin "sorted") (rSortTT X.K) := by
  intro pins s σ H vs us Q I r h
  obtain ⟨a, xs, ks, rfl, hs, hx, q⟩ := h
  obtain ⟨its, rv, hl, hz⟩ := I.list hs
  obtain ⟨u, rfl, ru⟩ := vals1 r
  obtain rfl : u = Value.ref a := ru
  have inj : ∀ x l m, TpAt X.K H x l → TpAt X.K H x m → l = m := fun x l m h1 h2 => TpAt.inj I h1 h2
  obtain ⟨e1, e2⟩ := refs_back rv fun x m => by
    obtain ⟨l, t, e, _⟩ := paired_mem hx m
    exact ⟨t, e⟩
  refine sorted_tup (k := fun u => keyBy (TpAt X.K H) (backV u)) hl.isList (by rw [← rv.length]; exact hz) (fun v hv => ?_) fun h' d out h1 h2 kp hd hn => ?_
  · obtain ⟨t, rfl⟩ := e2 v hv
    have hm : V.ref t ∈ xs := by rw [e1]; exact List.mem_map.mpr ⟨_, hv, rfl⟩
    obtain ⟨l, hl⟩ := paired_mem hx hm
    have hk : keyBy (TpAt X.K H) (backV (.ref t)) = l := keyBy_is inj hl
    obtain ⟨t', e, ht, hne⟩ := hl
    cases e
    rw [hk]
    exact ⟨tupI_of I ht, hne⟩
  · have h3 : ∀ u ∈ out, ∃ a, u = Value.ref a := fun u hu => e2 u (h2.perm.mem_iff.mp hu)
    obtain ⟨n, hn⟩ := hn
    have hb : SrtO.Stb (ltL (keyBy (TpAt X.K H))) (out.map backV) xs := by
      rw [e1]
      exact SrtO.Stb.map (ltL_swo _) backV h2
    obtain ⟨g1, g2, g3⟩ := sort_end inj hx (SrtO.srtd_map h1) hb
    refine ⟨.ref d, upd H d (.lst (out.map backV)), I.laid (t' := s.toks) kp hd ⟨?_, out, n, vals_back h3, hn⟩, rfl, q _ _ d g1 g2 g3 (I.hok.fresh hd)⟩
    rw [hb.len]
    exact hz
end
end Kw
set_option Elab.async false
set_option linter.all false
set_option maxRecDepth 100000
set_option maxHeartbeats 4000000
namespace Kw
open PySem PySem.Spec PyProof.Rows L2 Evl
section
variable {K : PySem.W.Frag} {σ : L2.St} {H H' : Hp} {ta tb tc te tl : TE} {t u : TT} {x y z v : V} {r r' : R2} {d e : PyData}
theorem rv_eqDp (h1 : Dp K H x d) (h2 : Dp K H y e) (s1 : SeqAt.shaped d = true) (s2 : SeqAt.shaped e = true) : RV (rEqD K) x y H (.bl (PyData.eqv d e)) := fun H1 e1 Q q => ⟨d, e, dp_ex e1 _ _ h1, dp_ex e1 _ _ h2, s1, s2, q H1 (Ex.refl H1)⟩
theorem rv_neDp (h1 : Dp K H x d) (h2 : Dp K H y e) (s1 : SeqAt.shaped d = true) (s2 : SeqAt.shaped e = true) : RV (rNeD K) x y H (.bl (!PyData.eqv d e)) := fun H1 e1 Q q => ⟨d, e, dp_ex e1 _ _ h1, dp_ex e1 _ _ h2, s1, s2, q H1 (Ex.refl H1)⟩
theorem lay_strs : ∀ cs : List Str, (∀ c ∈ cs, PyData.strOk c = true) → PyData.canLayAll0 (cs.map PyData.str) = true
  | [], _ => by simp [PyData.canLayAll0]
  | a :: r, h => by
    have h1 := lay_strs r fun c hc => h c (List.mem_cons_of_mem _ hc)
    have h2 := h a (List.mem_cons_self ..)
    simp only [List.map_cons, PyData.canLayAll0, PyData.canLay0, h1, h2, Bool.and_true]
theorem depth_strs : ∀ cs : List Str, PyData.depthAll (cs.map PyData.str) ≤ 1
  | [] => by simp [PyData.depthAll]
  | a :: r => by
    have := depth_strs r
    simp only [List.map_cons, PyData.depthAll, PyData.depth]
    omega
theorem shaped_lS {cs : List Str} (h : ∀ c ∈ cs, PyData.strOk c = true) : SeqAt.shaped (.list (cs.map PyData.str)) = true := by
  have := depth_strs cs
  unfold SeqAt.shaped
  rw [Bool.and_eq_true, decide_eq_true_eq]
  exact ⟨by simp only [PyData.canLay0]; exact lay_strs cs h, by simp only [PyData.depth]; omega⟩
theorem shaped_tS {cs : List Str} (h : ∀ c ∈ cs, PyData.strOk c = true) : SeqAt.shaped (.tuple (cs.map PyData.str)) = true := by
  have := depth_strs cs
  unfold SeqAt.shaped
  rw [Bool.and_eq_true, decide_eq_true_eq]
  exact ⟨by simp only [PyData.canLay0]; exact lay_strs cs h, by simp only [PyData.depth]; omega⟩
theorem strOk_low {z : Str} (h : lowB z = true) : PyData.strOk z = true := by
  unfold PyData.strOk
  rw [Array.all_eq_true_iff_forall_mem]
  intro c hc
  have := List.all_eq_true.mp h c (by simpa using hc)
  unfold low at this
  rw [Bool.and_eq_true, decide_eq_true_eq, decide_eq_true_eq] at this
  exact decide_eq_true (by omega)
theorem eqv_nilL (ds : List PyData) : PyData.eqv (.list ds) (.list []) = decide (ds = []) := by
  cases ds <;> simp [PyData.eqv, PyData.eqvAll]
theorem eqv_nilT (ds : List PyData) : PyData.eqv (.tuple ds) (.tuple []) = decide (ds = []) := by
  cases ds <;> simp [PyData.eqv, PyData.eqvAll]
theorem shaped_nilL : SeqAt.shaped (.list []) = true := by decide +kernel
theorem shaped_nilT : SeqAt.shaped (.tuple []) = true := by decide +kernel
/-- a tuple of what is asked, new or old -/
theorem ep_catA {a : Addr} {xs ys : List V} (ha : Ev ta σ H (.ref a)) (hx : SqT K H a xs) (hb : EvU tb σ H ys) (hn : xs.length + ys.length ≤ 100000) : EvP (tOp (rCatA K) ta tb) σ H (IsT K (xs ++ ys)) := fun H1 e Q q =>
  ha H1 e _ fun H2 e2 => hb H2 (e.trans e2) _ fun b H3 nb e3 hb3 => by
    have hx3 := ex_t ((e.trans e2).trans e3) hx
    refine ⟨a, b, xs, ys, rfl, rfl, hx3, st_of hb3, sz_of hn, fun h => ?_, fun h h' => ?_, fun h h' p hp => ?_⟩
    · subst h
      exact q _ H3 (e2.trans e3) ⟨b, rfl, st_of hb3⟩
    · subst h'
      exact q _ H3 (e2.trans e3) ⟨a, rfl, by rw [List.append_nil]; exact hx3⟩
    · exact q _ _ ((e2.trans e3).trans (Ex.new hp)) ⟨p, rfl, st_of upd_same⟩
end
end Kw
set_option Elab.async false
set_option linter.all false
set_option maxRecDepth 100000
set_option maxHeartbeats 4000000
namespace Kw
open PySem PySem.Spec PyProof.Rows L2 Evl
abbrev sShW : Stmt := topS 37
theorem scShW : FnScope ["house", "broken", "boxes", "hand"] ["house", "broken"] (defScope sShW) := ⟨rfl, rfl, rfl, by decide +kernel, rfl, by decide +kernel, by decide +kernel⟩
abbrev sLots : Stmt := topS 50
theorem scLots : FnScope ["many", "found", "number", "lot", "size"] ["many"] (defScope sLots) := ⟨rfl, rfl, rfl, by decide +kernel, rfl, by decide +kernel, by decide +kernel⟩
abbrev sKps : Stmt := topS 49
theorem scKps : FnScope ["house", "lot", "outer", "number", "locks", "inside", "colour"] ["house", "lot"] (defScope sKps) := ⟨rfl, rfl, rfl, by decide +kernel, rfl, by decide +kernel, by decide +kernel⟩
abbrev sRgt : Stmt := topS 52
theorem scRgt : FnScope ["house", "lot"] ["house", "lot"] (defScope sRgt) := ⟨rfl, rfl, rfl, by decide +kernel, rfl, by decide +kernel, by decide +kernel⟩
theorem ew_enB {K : PySem.W.Frag} {σ : L2.St} {H : Hp} {ta : TE} {b : Addr} {vs : List V} {bs : List Box} (ha : Ev ta σ H (.ref b)) (h : SqT K H b vs) (p : Paired (BoxAt K H) vs bs) : EvW (iEnT K (tCons ta tNil)) σ H bs.length (YB K bs) := fun H1 e R r =>
  ha H1 e _ fun H2 e2 => by
    have eX := e.trans e2
    refine ⟨b, vs, rfl, ex_t eX h, r _ (fun H' => SqT K H' b vs ∧ Paired (BoxAt K H') vs bs) H2 e2 ?_ fun H3 e3 => ⟨ex_t (eX.trans e3) h, paired_imp p fun _ _ x => x.keep (KeepT.ex (eX.trans e3))⟩⟩
    rw [← paired_len p]
    refine walk_enT.mono (fun H' x => x.1) fun i H' x H2 hi hg hy => ?_
    obtain ⟨T, n, v, h1, h2, h3, h4, h5⟩ := hy
    cases h4
    obtain ⟨b0, hb0, hat⟩ := paired_get hg.2 h5
    have : bx bs i = b0 := by
      unfold bx
      rw [List.getD_eq_getElem?_getD, hb0]
      rfl
    rw [← this] at hat
    exact ⟨T, v, h1, h2, h3, hat⟩
/-! ### all lots -/
def lotsAll : Nat → List (List Nat)
  | 0 => [[]]
  | n + 1 => lotsAll n ++ (lotsAll n).map (· ++ [n])
theorem lotsAll_len : ∀ n, (lotsAll n).length = 2 ^ n
  | 0 => rfl
  | n + 1 => by
    show (lotsAll n ++ (lotsAll n).map (· ++ [n])).length = _
    rw [List.length_append, List.length_map, lotsAll_len n, Nat.pow_succ]
    omega
theorem lotsAll_mem : ∀ {n : Nat} {l : List Nat}, l ∈ lotsAll n → (∀ i ∈ l, i < n) ∧ l.Pairwise (· < ·)
  | 0, l, h => by
    rw [List.mem_singleton.mp h]
    exact ⟨by simp, List.Pairwise.nil⟩
  | n + 1, l, h => by
    rcases List.mem_append.mp h with h | h
    · have := lotsAll_mem h
      exact ⟨fun i hi => by have := this.1 i hi; omega, this.2⟩
    · obtain ⟨m, hm, rfl⟩ := List.mem_map.mp h
      have := lotsAll_mem hm
      refine ⟨fun i hi => ?_, List.pairwise_append.mpr ⟨this.2, List.pairwise_singleton _ _, fun a ha b hb => ?_⟩⟩
      · rcases List.mem_append.mp hi with hi | hi
        · have := this.1 i hi; omega
        · rw [List.mem_singleton.mp hi]; omega
      · rw [List.mem_singleton.mp hb]
        exact this.1 a ha
theorem lotsAll_all : ∀ {n : Nat} {l : List Nat}, (∀ i ∈ l, i < n) → l.Pairwise (· < ·) → l ∈ lotsAll n
  | 0, l, h, _ => by
    cases l with
    | nil => exact List.mem_singleton.mpr rfl
    | cons a r => exact absurd (h a (List.mem_cons_self ..)) (Nat.not_lt_zero _)
  | n + 1, l, h, hp => by
    by_cases hn : n ∈ l
    · refine List.mem_append.mpr (.inr ?_)
      obtain ⟨s, t, rfl⟩ := List.append_of_mem hn
      have hp' := List.pairwise_append.mp hp
      have ht : t = [] := by
        cases t with
        | nil => rfl
        | cons b r =>
          have h1 := (List.pairwise_cons.mp hp'.2.1).1 b (List.mem_cons_self ..)
          have h2 := h b (List.mem_append.mpr (.inr (List.mem_cons_of_mem _ (List.mem_cons_self ..))))
          omega
      subst ht
      exact List.mem_map.mpr ⟨s, lotsAll_all (fun i hi => hp'.2.2 i hi n (List.mem_cons_self ..)) hp'.1, rfl⟩
    · refine List.mem_append.mpr (.inl (lotsAll_all (fun i hi => ?_) hp))
      have := h i hi
      have : i ≠ n := fun z => hn (z ▸ hi)
      omega
theorem rising_pw {l : List Nat} (h : l.Pairwise (· < ·)) : RisingN l := fun i x y hx hy => by
  obtain ⟨h1, rfl⟩ := List.getElem?_eq_some_iff.mp hx
  obtain ⟨h2, rfl⟩ := List.getElem?_eq_some_iff.mp hy
  exact (List.pairwise_iff_getElem.mp h) i (i + 1) h1 h2 (Nat.lt_succ_self i)
def lotKey (l : List Nat) : List Int := (l.length : Int) :: l.map fun (i : Nat) => (i : Int)
/-- a not behind b -/
def LotLe (a b : List Nat) : Prop := HT.lexLt (lotKey b) (lotKey a) = false
theorem lotKey_inj {a b : List Nat} (h : lotKey a = lotKey b) : a = b := map_inj (fun x y e => by have : (x : Int) = (y : Int) := e; omega) (List.cons.inj h).2
theorem map_key_perm : ∀ {a b : List (List Nat)}, (a.map lotKey).Perm (b.map lotKey) → a.Perm b := by
  intro a b h
  have f : ∀ l : List (List Nat), ((l.map lotKey).map fun k => k.tail.map Int.toNat) = l := fun l => by
    rw [List.map_map]
    conv => rhs; rw [← List.map_id l]
    apply List.map_congr_left
    intro x _
    show (x.map fun (i : Nat) => (i : Int)).map Int.toNat = x
    rw [List.map_map]
    conv => rhs; rw [← List.map_id x]
    apply List.map_congr_left
    intro i _
    exact Int.toNat_natCast i
  have := h.map (fun k => k.tail.map Int.toNat)
  rw [f, f] at this
  exact this
theorem keys_of : ∀ {ls : List (List Int)} {rs : List (List Nat)}, ls.Perm (rs.map lotKey) → ∃ qs : List (List Nat), ls = qs.map lotKey ∧ qs.Perm rs := by
  intro ls rs h
  have ex : ∀ {ls : List (List Int)}, (∀ l ∈ ls, ∃ r, l = lotKey r) → ∃ qs : List (List Nat), ls = qs.map lotKey := by
    intro ls
    induction ls with
    | nil => intro _; exact ⟨[], rfl⟩
    | cons a t ih =>
      intro h
      obtain ⟨r, rfl⟩ := h a (List.mem_cons_self ..)
      obtain ⟨qs, rfl⟩ := ih fun l hl => h l (List.mem_cons_of_mem _ hl)
      exact ⟨r :: qs, rfl⟩
  obtain ⟨qs, rfl⟩ := ex (ls := ls) fun l hl => by
    obtain ⟨r, _, e⟩ := List.mem_map.mp (h.mem_iff.mp hl)
    exact ⟨r, e.symm⟩
  exact ⟨qs, rfl, map_key_perm h⟩
section
variable {P : Program} {w : World} {K : PySem.W.Frag} {mg : Str → Option Value} {base : Heap}
/-- a comprehension whose source stands already -/
theorem lc_end {J : It} {G : Hp → Prop} {n : Nat} {Y : Nat → Hp → V → Hp → Prop} {g : TG} {tt : TT} {te : TE} {vs : List Nat} {σ : L2.St} {H0 : Hp} {Q : VK} (w : Walk J n G Y) (hG : ∀ H3, Ex H0 H3 → G H3) (hn : n ≤ 100000) (f : Nat → Bool) (Φ : Nat → V → Hp → Prop)
    (st : ∀ i y H H', KeepT H H' → Φ i y H → Φ i y H')
    (turn : ∀ i x H1 H2 (Q : L2.St → Hp → Prop), Ex H0 H1 → i < n → Y i H1 x H2 → (∀ σ2 H3, Ex H1 H3 → wipe σ2 vs = wipe σ vs → EvT tt σ2 H3 (f i) → (f i = true → EvP te σ2 H3 (Φ i)) → Q σ2 H3) → g x (wipe σ vs) H2 Q)
    (q : ∀ p ys H2, H0 p = none → Ex H0 H2 → H2 p = some (.lst ys) → Paired (fun i y => Φ i y H2) ((List.range n).filter f) ys → Q (.ref p) H2) :
    tLc (fun _ H R => R J H) g tt te vs σ H0 Q :=
  lc_gen (wi := fun σ H R => R J H) (t := tt) (te := te) (g := g) (vs := vs) (σ := σ) (H := H0) (Y := Y) (fun H1 e R r => r J G H1 (Ex.refl H1) w fun H3 e3 => hG H3 (e.trans e3)) hn f Φ st turn H0 (Ex.refl H0) Q q
theorem ret_to {te : TE} {D : Ends} {σ : L2.St} {H : Hp} (h : te σ H D.rt) : tRet te D σ H := h
theorem lc_src {tl : TE} {g : TG} {tt : TT} {te : TE} {vs : List Nat} {σ : L2.St} {H : Hp} {Q : VK} (h : tl σ H fun v H1 => ∃ a, v = .ref a ∧ (∃ xs, SqL K H1 a xs) ∧ tLc (fun _ H R => R (Itl K a) H) g tt te vs σ H1 Q) : tLc (iList K tl) g tt te vs σ H Q := h
theorem cb1_to {r : List V → Hp → VK → Prop} {te : TE} {σ : L2.St} {H : Hp} {Q : VK} (h : te σ H fun v H1 => r [v] H1 Q) : tCB r (tCons te tNil) σ H Q := h
def spLots (K : PySem.W.Frag) : Sp := fun vs H Q _ => ∃ (n : Nat), vs = [vN n] ∧ n ≤ 8 ∧ ∀ p ys rs H2, H p = none → Ex H H2 → H2 p = some (.lst ys) → TupsAt K H2 ys rs → rs.Perm (lotsAll n) → rs.Pairwise LotLe → Q (.ref p) H2
theorem paired_append {α β : Type} {F : α → β → Prop} : ∀ {xs xs' : List α} {ys ys' : List β}, Paired F xs ys → Paired F xs' ys' → Paired F (xs ++ xs') (ys ++ ys')
  | _, _, _, _, .nil, h => h
  | _, _, _, _, .cons r t, h => .cons r (paired_append t h)
theorem ok_lots {f  : Addr} {fd  : FuncData} {k : Nat} (F : Fun K "_law_lots" "_law_lots" sLots f fd) (B : Bu mg) : FnOk P w K mg base CX0 (k + 1) f fd ["many"] (spLots K) := by
  refine F.ok scLots (fun vs H Q E h => ?_) (fun cdv A outer s H vs Q E hr h => ?_)
  · obtain ⟨n, rfl, _⟩ := h
    rfl
  · obtain ⟨n, rfl, hn, q⟩ := h
    have hu64 := hr.units
    refine ⟨_, (pss_cons (ps_set (i := 1) scLots.nd rfl (.inl rfl) (pe_lst (pa_cons (pe_tup pa_nil) pa_nil)))
      (pss_cons (ps_for PassesOwn.never rfl (pi_range1 (by rfl) B.rng (pa_cons (pv 0) pa_nil)) (pg_name (i := 2) scLots.nd rfl (.inr rfl))
      (pss_one (ps_set (i := 1) scLots.nd rfl (.inl rfl) (pe_op op_cat (pv 1) (pe_lc (own := [("lot", 3)]) (g := (gName 3)) (tt := tYes) (te := (tOp (rCatA K) (tVar 3) (tTup (tCons (tVar 2) tNil)))) rfl scLots.nd (pi_list (pv 1)) (blkOk_by (N := ["many", "found", "number", "lot", "size"]) (sc := defScope sLots) (by decide +kernel)) (fun _ _ _ _ _ => (pg_name (i := 3) scLots.nd rfl (.inl rfl))) (fun _ _ _ _ _ => pts_nil) (fun _ _ _ _ _ => (pe_op op_catA (pv 3) (pe_tup (pa_cons (pv 2) pa_nil)))))))))
      (pss_one (ps_ret (pe_lc (own := [("size", 4), ("lot", 3)]) (g := (gTup K 2 (gCons (gName 4) (gCons (gName 3) gNil)))) (tt := tYes) (te := (tVar 3)) rfl scLots.nd (pi_list (pe_callB (cr_sortPT hu64) (by rfl) B.srt PyProof.Rows.boot_sorted (pa_cons (pe_lc (own := [("lot", 3)]) (g := (gName 3)) (tt := tYes) (te := (tTup (tCons (tCB (rLenS K) (tCons (tVar 3) tNil)) (tCons (tVar 3) tNil)))) rfl scLots.nd (pi_list (pv 1)) (blkOk_by (N := ["many", "found", "number", "lot", "size"]) (sc := defScope sLots) (by decide +kernel)) (fun _ _ _ _ _ => (pg_name (i := 3) scLots.nd rfl (.inl rfl))) (fun _ _ _ _ _ => pts_nil) (fun _ _ _ _ _ => (pe_tup (pa_cons (pe_callB call_len_seq (by rfl) B.len PySem.boot_len (pa_cons (pv 3) pa_nil)) (pa_cons (pv 3) pa_nil))))) pa_nil))) (blkOk_by (N := ["many", "found", "number", "lot", "size"]) (sc := defScope sLots) (by decide +kernel)) (fun _ _ _ _ _ => (pg_tup rfl (pgs_cons (pg_name (i := 4) scLots.nd rfl (.inl rfl)) (pgs_cons (pg_name (i := 3) scLots.nd rfl (.inl rfl)) pgs_nil)))) (fun _ _ _ _ _ => pts_nil) (fun _ _ _ _ _ => (pv 3))))))), ?_⟩
    have hpow : ∀ i, i ≤ 8 → 2 ^ i ≤ 256 := by decide
    refine ⟨Nat.zero_le _, fun t nt => ⟨by show 1 ≤ sizeLine; decide, fun p np => ?_⟩⟩
    have e1 := (Ex.new (o := .tup []) nt).trans (Ex.new (o := .lst [.ref t]) np)
    have ht : upd (upd H t (.tup [])) p (.lst [.ref t]) t = some (.tup []) := (Ex.new (o := .lst [.ref t]) np) _ _ upd_same
    have hp : upd (upd H t (.tup [])) p (.lst [.ref t]) p = some (.lst [.ref t]) := upd_same
    generalize upd (upd H t (.tup [])) p (.lst [.ref t]) = G at e1 ht hp
    show tSeq _ _ _ [some (vN n), some (.ref p), none, none, none] G
    refine q_forR1 (n := n) (ea_cons (ev_var (v := vN n) rfl) ea_nil) ⟨by omega, by omega⟩ (fun i σ' H' => Ex H H' ∧ ∃ c ys y2 y3 y4, σ' = [some (vN n), some (.ref c), y2, y3, y4] ∧ H' c = some (.lst ys) ∧ TupsAt K H' ys (lotsAll i)) (fun H2 e2 => ⟨e1.trans e2, p, [.ref t], none, none, none, rfl, e2 _ _ hp, .cons ⟨t, rfl, st_of (e2 _ _ ht)⟩ .nil⟩) (fun i σ' H' hi hP => ?_) (fun σ' H' hP => ?_)
    · obtain ⟨eH, c, ys, y2, y3, y4, rfl, hc, hT⟩ := hP
      have hll := lotsAll_len i
      have hyl : ys.length = 2 ^ i := by rw [paired_len hT, hll]
      have h256 := hpow i (by omega)
      refine ⟨.ref c, rfl, ?_⟩
      refine lc_gen (ew_list (K := K) (ev_var (σ := [some (vN n), some (.ref c), some (vN i), y3, y4]) (i := 1) (v := .ref c) rfl) (sq_of hc)) (by omega) (fun _ => true) (fun j y H => ∃ a, y = .ref a ∧ SqT K H a (((lotsAll i).getD j [] ++ [i]).map vN)) (fun j y H1 H2 kT ⟨a, h1, h2⟩ => ⟨a, h1, keep_t kT h2⟩) (fun j x H2 H3 Q2 e hj hy k => ?_) H' (Ex.refl H') _ fun b zs H2 nb e2 hb pr => ?_
      · obtain ⟨rfl, hx⟩ := hy
        obtain ⟨r, hr, a, rfl, ha⟩ := paired_get hT hx
        have hg : (lotsAll i).getD j [] = r := getD_eq hr
        rw [hg] at k
        refine k _ _ (Ex.refl _) rfl et_yes fun _ => ?_
        have hm := lotsAll_mem (List.mem_of_getElem? hr)
        have hlr := rising_len hm.1 (rising_pw hm.2)
        have g := ep_catA (K := K) (σ := [some (vN n), some (.ref c), some (vN i), some (.ref a), y4]) (ta := tVar 3) (tb := tTup (tCons (tVar 2) tNil)) (xs := r.map vN) (ys := [vN i]) (ev_var rfl) (ex_t e ha) (eu_tup (ea_cons (ev_var rfl) ea_nil) (by show 1 ≤ 100000; decide)) (by rw [List.length_map]; show r.length + 1 ≤ _; omega)
        rw [List.map_append]
        exact g
      · rw [filter_true] at pr
        have hzl : zs.length = ys.length := by rw [← paired_len pr, List.length_range]
        refine ⟨c, b, ys, zs, rfl, rfl, e2 _ _ hc, hb, sz_of (by omega), fun d nd => ?_⟩
        have e3 := Ex.new (o := .lst (ys ++ zs)) nd
        refine ⟨eH.trans (e2.trans e3), d, ys ++ zs, _, _, _, rfl, upd_same, ?_⟩
        show TupsAt K _ (ys ++ zs) (lotsAll i ++ (lotsAll i).map (· ++ [i]))
        refine paired_append (hT.keep (KeepT.ex (e2.trans e3))) ?_
        have pf := paired_flip (F := fun (y : V) (r : List Nat) => ∃ a, y = V.ref a ∧ SqT K H2 a (r.map vN)) (g := fun j => (lotsAll i).getD j [] ++ [i]) pr
        rw [hyl, ← hll, range_map_get (lotsAll i) [] (· ++ [i])] at pf
        exact paired_imp pf fun _ _ ⟨a, h1, h2⟩ => ⟨a, h1, ex_t e3 h2⟩
    · obtain ⟨eH, c, ys, y2, y3, y4, rfl, hc, hT⟩ := hP
      rw [Int.toNat_natCast] at hT
      have hll := lotsAll_len n
      have hyl : ys.length = 2 ^ n := by rw [paired_len hT, hll]
      have h256 := hpow n hn
      refine ret_to (lc_src (K := K) (cb1_to (lc_gen (ew_list (K := K) (ev_var (σ := [some (vN n), some (.ref c), y2, y3, y4]) (i := 1) (v := .ref c) rfl) (sq_of hc)) (by omega) (fun _ => true) (fun j y H => PrAt K H y (lotKey ((lotsAll n).getD j []))) (fun j y H1 H2 kT ⟨t, u, n, ns, h1, h2, h3, h4⟩ => ⟨t, u, n, ns, h1, keep_t kT h2, keep_t kT h3, h4⟩) (fun j x H2 H3 Q2 e hj hy k => ?_) H' (Ex.refl H') _ fun b zs H2 nb e2 hb pr => ?_)))
      · obtain ⟨rfl, hx⟩ := hy
        obtain ⟨r, hr, a, rfl, ha⟩ := paired_get hT hx
        have hg : (lotsAll n).getD j [] = r := getD_eq hr
        rw [hg] at k
        refine k _ _ (Ex.refl _) rfl et_yes fun _ => ?_
        intro H4 e4 Q4 q4
        refine ⟨.ref a, rfl, a, _, rfl, .inr (ex_t (e.trans e4) ha), .ref a, rfl, by show 2 ≤ sizeLine; decide, fun d nd => ?_⟩
        have e5 := Ex.new (o := .tup [.int ((r.map vN).length : Nat), .ref a]) nd
        refine q4 _ _ e5 ⟨d, a, (r.length : Int), r.map fun (i : Nat) => (i : Int), rfl, ?_, ?_, rfl⟩
        · refine st_of ?_
          rw [upd_same, List.length_map]
        · rw [← nats_int]
          exact ex_t ((e.trans e4).trans e5) ha
      · rw [filter_true] at pr
        have pf := paired_flip (F := PrAt K H2) (g := fun j => lotKey ((lotsAll n).getD j [])) pr
        rw [hyl, ← hll, range_map_get (lotsAll n) [] lotKey] at pf
        refine ⟨b, zs, _, rfl, sq_of hb, pf, fun us ls d g1 g2 g3 nd => ?_⟩
        obtain ⟨qs, rfl, hqs⟩ := keys_of g2
        have e3 := Ex.new (o := .lst us) nd
        have hul : us.length = 2 ^ n := by rw [paired_len g1, List.length_map, hqs.length_eq, hll]
        refine ⟨d, rfl, ⟨us, sq_of upd_same⟩, ?_⟩
        refine lc_end (H0 := upd H2 d (.lst us)) (n := us.length) (walk_list (K := K) (a := d) (xs := us)) (fun H3 e3 => sq_of (e3 _ _ upd_same)) (by omega) (fun _ => true) (fun j y H => ∃ a, y = .ref a ∧ SqT K H a ((qs.getD j []).map vN)) (fun j y H1 H2 kT ⟨a, h1, h2⟩ => ⟨a, h1, keep_t kT h2⟩) (fun j x H4 H5 Q2 e hj hy k => ?_) fun f fs H4 nf e4 hf pr2 => ?_
        · obtain ⟨rfl, hx⟩ := hy
          obtain ⟨l, hl, t1, u1, m1, ns1, rfl, ht1, hu1, hle⟩ := paired_get g1 hx
          rw [List.getElem?_map] at hl
          cases hq : qs[j]? with
          | none => rw [hq] at hl; cases hl
          | some r =>
            rw [hq] at hl
            have hl := Option.some.inj hl
            rw [← hl] at hle
            have hle2 := List.cons.inj hle
            have hr2 : ns1 = r.map fun (i : Nat) => (i : Int) := hle2.2.symm
            subst hr2
            rw [← nats_int] at hu1
            rw [getD_eq hq] at k
            refine ⟨t1, _, rfl, ex_t (e3.trans e) ht1, rfl, .int m1, [.ref u1], rfl, .ref u1, [], rfl, rfl, ?_⟩
            refine k _ _ (Ex.refl _) rfl et_yes fun _ => ?_
            exact ep_var rfl fun H6 e6 => ⟨u1, rfl, ex_t ((e3.trans e).trans e6) hu1⟩
        · rw [filter_true] at pr2
          have pf2 := paired_flip (F := fun (y : V) (r : List Nat) => ∃ a, y = V.ref a ∧ SqT K H4 a (r.map vN)) (g := fun j => qs.getD j []) pr2
          have hql : us.length = qs.length := by rw [paired_len g1, List.length_map]
          rw [hql, show (List.range qs.length).map (fun j => qs.getD j []) = qs from by simpa using range_map_get qs [] id] at pf2
          exact q f fs qs H4 (fresh_back ((eH.trans e2).trans e3) nf) (((eH.trans e2).trans e3).trans e4) hf pf2 hqs ((List.pairwise_map (f := lotKey) (R := NotB)).mp g3)
/-! ### shut_with, of boxes that rise -/
def spShW (K : PySem.W.Frag) : Sp := fun vs H Q _ => ∃ (v : V) (t : Addr) (h : House) (br : List Nat), vs = [v, .ref t] ∧ HouseAt K H v h ∧ OkHouse h ∧ SqT K H t (br.map vN) ∧ (∀ i ∈ br, i < h.1.length) ∧ RisingN br ∧ RetU ((shutOf h.1 h.2 br).map vN) H Q
theorem ok_shW {f fChk fIsB fShB : Addr} {fd fdChk fdIsB fdShB : FuncData} {k : Nat} (F : Fun K "shut_with" "shut_with" sShW f fd) (DChk : Df K mg "check_house" sChk ["house"] fChk fdChk) (DIsB : Df K mg "is_boxes" sIsB ["thing", "many"] fIsB fdIsB) (DShB : Df K mg "shut_boxes" sShB ["boxes", "hand", "broken"] fShB fdShB) (GChk : FnOk P w K mg base CX0 (k + 4) fChk fdChk ["house"] (spChk K)) (GIsB : FnOk P w K mg base CX0 (k + 2) fIsB fdIsB ["thing", "many"] (spIsB K)) (GShB : FnOk P w K mg base CX0 (k + 3) fShB fdShB ["boxes", "hand", "broken"] (spShB K)) (B : Bu mg) : FnOk P w K mg base CX0 (k + 5) f fd ["house", "broken"] (spShW K) := by
  refine F.ok scShW (fun vs H Q E h => ?_) (fun cdv A outer s H vs Q E hr h => ?_)
  · obtain ⟨v, t, h, br, rfl, _⟩ := h
    rfl
  · obtain ⟨v, t, h, br, rfl, hA, ho, hT, hlt, hR, q⟩ := h
    have hA' := hA
    obtain ⟨a, bb, kk, rfl, ha, hb, hk⟩ := hA'
    have hl := rising_len hlt hR
    have h30 := ho.2.1
    have h6 := ho.2.2.2.1
    refine ⟨_, (pss_cons (ps_expr (pcall DChk GChk (hr.mono (by omega)) (pa_cons (pv 0) pa_nil)))
      (pss_cons (ps_asg (pv 0) (pg_tup rfl (pgs_cons (pg_name (i := 2) scShW.nd rfl (.inl rfl)) (pgs_cons (pg_name (i := 3) scShW.nd rfl (.inl rfl)) pgs_nil))))
      (pss_cons (ps_if (pt_not (pt_val (pcall DIsB GIsB (hr.mono (by omega)) (pa_cons (pv 1) (pa_cons (pe_callB call_len_seq (by rfl) B.len PySem.boot_len (pa_cons (pv 2) pa_nil)) pa_nil))))) pss_never pss_nil)
      (pss_one (ps_ret (pcall DShB GShB (hr.mono (by omega)) (pa_cons (pv 2) (pa_cons (pv 3) (pa_cons (pv 1) pa_nil))))))))), ?_⟩
    refine q_drop (ev_call (z := .non) (ea_cons (ev_var rfl) ea_nil) (SpV.of fun H2 e2 Q q E => ⟨_, h, rfl, hA.keep (KeepT.ex e2), ho, q⟩)) fun H1 e1 => ?_
    refine ⟨.ref a, rfl, a, _, rfl, ex_t e1 ha, rfl, .ref bb, [.ref kk], rfl, .ref kk, [], rfl, rfl, ?_⟩
    show tSeq _ _ _ [some (.ref a), some (.ref t), some (.ref bb), some (.ref kk)] H1
    have hBS : BoxesS K H1 bb h.1 := BoxesS.of (hb.keep (KeepT.ex e1))
    refine q_when (b := false) (et_is (et_not (et_B (ev_call (z := .bl true) (ea_cons (ev_var (v := .ref t) rfl) (ea_cons (ev_lenB (K := K) (ev_var (v := .ref bb) rfl) hBS) ea_nil)) (SpV.of fun H2 e2 Q q E => ⟨.ref t, .tuple (encN br), h.1.length, rfl, dpT_nats (ex_t (e1.trans e2) hT), by rw [boxesD_ok hlt hR]; exact q⟩)))) rfl) (fun hb => absurd hb (by decide)) (fun _ H2 e2 => ?_)
    have eX := e1.trans e2
    refine ⟨.ref bb, rfl, .ref kk, rfl, .ref t, rfl, bb, kk, t, h.1, h.2, br, rfl, hBS.ex e2, ho.few, ex_t eX hk, by omega, ex_t eX hT, hlt, by omega, fun p H4 hp e4 h4 => ?_⟩
    exact q p H4 (fresh_back eX hp) (eX.trans e4) h4
/-! ### the law's own look at a lot -/
def spKps (K : PySem.W.Frag) : Sp := fun vs H Q _ => ∃ (v : V) (t : Addr) (h : House) (ls : List Nat), vs = [v, .ref t] ∧ HouseAt K H v h ∧ OkHouse h ∧ SqT K H t (ls.map vN) ∧ (∀ i ∈ ls, i < h.1.length) ∧ RetV (.bl (keptB h.1 h.2 ls)) H Q
theorem fits_filter (ls hs : List Str) : decide (((ls.filter fun c => !decide (c ∈ hs)).map PyData.str) = []) = fitsB ls hs := by
  by_cases h : fitsB ls hs = true
  · rw [h]
    have h2 := fits_iff.mp h
    apply decide_eq_true
    rw [List.map_eq_nil_iff, List.filter_eq_nil_iff]
    intro c hc
    rw [decide_eq_true (h2 c hc)]
    decide
  · have hf : fitsB ls hs = false := by simpa using h
    rw [hf]
    refine decide_eq_false fun z => h ?_
    rw [List.map_eq_nil_iff, List.filter_eq_nil_iff] at z
    refine fits_iff.mpr fun c hc => ?_
    by_cases hm : c ∈ hs
    · exact hm
    · exact absurd (by rw [decide_eq_false hm]; rfl) (z c hc)
theorem ok_kps {f  : Addr} {fd  : FuncData} {k : Nat} (F : Fun K "_law_keeps" "_law_keeps" sKps f fd) (B : Bu mg) : FnOk P w K mg base CX0 (k + 1) f fd ["house", "lot"] (spKps K) := by
  refine F.ok scKps (fun vs H Q E h => ?_) (fun cdv A outer s H vs Q E hr h => ?_)
  · obtain ⟨v, t, h, br, rfl, _⟩ := h
    rfl
  · obtain ⟨v, t, h, ls, rfl, hA, ho, hT, hlt, q⟩ := h
    obtain ⟨a, bb, kk, rfl, ha, ⟨vs, hvs, hpr⟩, hk⟩ := hA
    have hu64 := hr.units
    have hF := ho.few
    have h30 := ho.2.1
    have h6 := ho.2.2.2.1
    refine ⟨_, (pss_cons (ps_set (i := 2) scKps.nd rfl (.inr rfl) (pe_callTy call_list_of (by rfl) B.lst boot_list (pa_cons (pe_ix ix_tup (pv 0) pe_int (fun _ _ => rfl)) pa_nil)))
      (pss_cons (ps_for PassesOwn.never rfl (pi_enT (by rfl) B.enu (pa_cons (pe_ix ix_tup (pv 0) pe_int (fun _ _ => rfl)) pa_nil)) (pg_tup rfl (pgs_cons (pg_name (i := 3) scKps.nd rfl (.inl rfl)) (pgs_cons (pg_tup rfl (pgs_cons (pg_name (i := 4) scKps.nd rfl (.inl rfl)) (pgs_cons (pg_name (i := 5) scKps.nd rfl (.inl rfl)) pgs_nil))) pgs_nil)))
      (pss_one (ps_if (pt_cmpR op_notIn_seq (pv 3) (pv 1) (by rfl)) (pss_one (ps_set (i := 2) scKps.nd rfl (.inr rfl) (pe_op op_cat (pv 2) (pe_callTy call_list_of (by rfl) B.lst boot_list (pa_cons (pv 5) pa_nil))))) pss_nil)))
      (pss_cons (ps_for PassesOwn.never rfl (pi_tup (pv 1)) (pg_name (i := 3) scKps.nd rfl (.inl rfl))
      (pss_one (ps_if (pt_cmpR (op_eqD hu64) (pe_lc (own := [("colour", 6)]) (g := (gName 6)) (tt := (tTest (tOp (rIn K true) (tVar 6) (tVar 2)))) (te := (tVar 6)) rfl scKps.nd (pi_tup (pe_ix ix_tup (pe_ix ix_tup (pe_ix ix_tup (pv 0) pe_int (fun _ _ => rfl)) (pv 3) (fun _ _ => rfl)) pe_int (fun _ _ => rfl))) (blkOk_by (N := ["house", "lot", "outer", "number", "locks", "inside", "colour"]) (sc := defScope sKps) (by decide +kernel)) (fun _ _ _ _ _ => (pg_name (i := 6) scKps.nd rfl (.inl rfl))) (fun _ _ _ _ _ => (pts_one (pt_cmpR op_notIn_seq (pv 6) (pv 2) (by rfl)))) (fun _ _ _ _ _ => (pv 6))) (pe_lst pa_nil) (nomark _)) (pss_one (ps_ret pe_bl)) pss_nil)))
      (pss_one (ps_ret pe_bl))))), ?_⟩
    refine q_asgL (el_listT (K := K) (ev_op (ev_var (v := .ref a) rfl) ev_c (rv_ixT (K := K) ha at1)) hk) fun o H1 n1 e1 ho1 => ?_
    have ku : ∀ i, ((h.2 ++ keysIn h.1 ((List.range i).filter fun j => !decide (j ∈ ls)))).length ≤ 6 + 6 * i := fun i => by
      have h1 := keysIn_len (fun b hb => (hF.2 b hb).2) ((List.range i).filter fun j => !decide (j ∈ ls))
      have h2 := List.length_filter_le (fun j => !decide (j ∈ ls)) (List.range i)
      rw [List.length_range] at h2
      rw [List.length_append]
      omega
    refine q_forW (ew_enB (K := K) (ev_op (ev_var (v := .ref a) rfl) ev_c (rv_ixT (K := K) (ex_t e1 ha) at0)) (ex_t e1 hvs) (paired_imp hpr fun _ _ x => x.keep (KeepT.ex e1)))
      (fun H2 i σ' H' => Ex H2 H' ∧ ∃ c y3 y4 y5, σ' = [some (.ref a), some (.ref t), some (.ref c), y3, y4, y5, none] ∧ H' c = some (.lst ((h.2 ++ keysIn h.1 ((List.range i).filter fun j => !decide (j ∈ ls))).map V.str)))
      (fun H2 e2 => ⟨Ex.refl H2, o, none, none, none, rfl, by rw [show ((List.range 0).filter fun j => !decide (j ∈ ls)) = [] from rfl, show keysIn h.1 [] = [] from rfl, List.append_nil]; exact e2 _ _ ho1⟩) (fun H2 i σ' H' hP => hP.1) (fun H2 i x σ' H3 H4 e2 hi hP hy => ?_) (fun H2 σ' H3 e2 hP => ?_)
    · obtain ⟨eH, c, y3, y4, y5, rfl, hc⟩ := hP
      obtain ⟨T, v, rfl, nT, rfl, xa, l, kb, rfl, hxa, hl, hkb⟩ := hy
      have eT := Ex.new (o := .tup [vN i, .ref xa]) nT
      refine ⟨T, _, rfl, st_of upd_same, rfl, vN i, [.ref xa], rfl, .ref xa, [], rfl, ⟨xa, _, rfl, ex_t eT hxa, rfl, .ref l, [.ref kb], rfl, .ref kb, [], rfl, rfl, rfl, ?_⟩⟩
      show tIfS _ _ _ _ [some (.ref a), some (.ref t), some (.ref c), some (vN i), some (.ref l), some (.ref kb), none] _
      have eA := (e1.trans e2).trans (eH.trans eT)
      have ht := et_test (ev_op (ev_var (σ := [some (.ref a), some (.ref t), some (.ref c), some (vN i), some (.ref l), some (.ref kb), none]) (i := 3) (v := vN i) rfl) (ev_var (i := 1) (v := .ref t) rfl) (rv_niT (K := K) (ex_t eA hT) rfl (flat_nats ls)))
      rw [inV_nat] at ht
      have rs : (List.range (i + 1)).filter (fun j => !decide (j ∈ ls)) = (List.range i).filter (fun j => !decide (j ∈ ls)) ++ (if i ∈ ls then [] else [i]) := by
        rw [List.range_succ, List.filter_append]
        by_cases hm : i ∈ ls <;> simp [hm]
      refine s_when ht (fun hb H5 e5 => ?_) (fun hb H5 e5 => ?_)
      · have hm : i ∉ ls := fun z => by
          rw [decide_eq_true z] at hb
          cases hb
        have hk6 := (hF.bx i).2
        have hku := ku i
        refine s_asgL (xs := (h.2 ++ keysIn h.1 ((List.range i).filter fun j => !decide (j ∈ ls))).map V.str ++ (bx h.1 i).2.map V.str) (el_cat (ev_var (v := .ref c) rfl) ((eT.trans e5) _ _ hc) (el_listT (K := K) (ev_var (v := .ref kb) rfl) (ex_t (eT.trans e5) hkb)) (by rw [List.length_map, List.length_map]; omega)) fun c2 H6 n6 e6 h6' => ⟨eH.trans ((eT.trans e5).trans e6), c2, _, _, _, rfl, ?_⟩
        rw [h6', rs, if_neg hm, ← List.map_append, List.append_assoc]
        congr 3
        unfold keysIn
        rw [List.flatMap_append]
        simp
      · have hm : i ∈ ls := by
          by_cases z : i ∈ ls
          · exact z
          · rw [decide_eq_false z] at hb; cases hb
        refine ⟨eH.trans (eT.trans e5), c, _, _, _, rfl, ?_⟩
        rw [rs, if_pos hm, List.append_nil]
        exact (eT.trans e5) _ _ hc
    · obtain ⟨eH, c, y3, y4, y5, rfl, hc⟩ := hP
      have eA := (e1.trans e2).trans eH
      have hc' : H3 c = some (.lst ((h.2 ++ keysIn h.1 (less (List.range h.1.length) ls)).map V.str)) := hc
      refine q_forT (K := K) (a := t) (xs := ls.map vN) (ev_var (v := .ref t) rfl) (ex_t eA hT) (fun i σ' H' => Ex H3 H' ∧ (∃ y, σ' = [some (.ref a), some (.ref t), some (.ref c), y, y4, y5, none]) ∧ (ls.take i).any (fun i => fitsB (bx h.1 i).1 (h.2 ++ keysIn h.1 (less (List.range h.1.length) ls))) = false) (fun H5 e5 => ⟨e5, ⟨y3, rfl⟩, rfl⟩) (fun i σ' H' _ hP => ex_t (eA.trans hP.1) hT) (fun i x σ' H' hx hP => ?_) (fun σ' H' hP => ?_)
      · obtain ⟨eX, ⟨y, rfl⟩, hany⟩ := hP
        obtain ⟨rfl, hi, hget⟩ := get_map 0 hx
        have hmem := List.mem_of_getElem? hget
        show tIfS _ _ _ _ [some (.ref a), some (.ref t), some (.ref c), some (vN (ls.getD i 0)), y4, y5, none] H'
        generalize hj : ls.getD i 0 = j at hmem hget
        have hjl := hlt j hmem
        obtain ⟨v, hv, xa, l, kb, rfl, hxa, hl, hkb⟩ := paired_get2 hpr (bx_get hjl)
        have eY := eA.trans eX
        have hsrc : Ev (tOp (rIxT K) (tOp (rIxT K) (tOp (rIxT K) (tVar 0) (tC (.int 0))) (tVar 3)) (tC (.int 0))) [some (.ref a), some (.ref t), some (.ref c), some (vN j), y4, y5, none] H' (.ref l) :=
          ev_op (ev_op (ev_op (ev_var (v := .ref a) rfl) ev_c (rv_ixT (K := K) (ex_t eY ha) at0)) (ev_var (v := vN j) rfl) (rv_ixT (K := K) (ex_t eY hvs) (atI_nat hv))) ev_c (rv_ixT (K := K) (ex_t eY hxa) at0)
        have hbox := ho.2.2.1 (bx h.1 j) (List.mem_of_getElem? (bx_get hjl))
        refine s_when (b := fitsB (bx h.1 j).1 (h.2 ++ keysIn h.1 (less (List.range h.1.length) ls))) (et_test (ev_opLL (xs := (((bx h.1 j).1.filter fun c => !decide (c ∈ h.2 ++ keysIn h.1 (less (List.range h.1.length) ls))).map V.str)) (ys := []) ?_ (el_lst ea_nil (by decide)) fun p1 p2 G hp1 hp2 eG => ?_)) (fun hb H5 e5 => ?_) (fun hb H5 e5 => ?_)
        · have hb3 := (hF.bx j).1
          refine el_lc (ew_tup hsrc (ex_t eY hl)) (by rw [List.length_map]; omega) (fun i => !decide ((bx h.1 j).1.getD i default ∈ h.2 ++ keysIn h.1 (less (List.range h.1.length) ls))) (fun i => .str ((bx h.1 j).1.getD i default)) ?_ (fun m x H5 H6 Q e hm hy k => ?_)
          · rw [List.length_map]
            exact filter_range_map (bx h.1 j).1 default (fun c => !decide (c ∈ h.2 ++ keysIn h.1 (less (List.range h.1.length) ls))) V.str
          · obtain ⟨rfl, hx⟩ := hy
            obtain ⟨rfl, _, _⟩ := get_map default hx
            refine k _ _ (Ex.refl _) rfl ?_ fun _ => ev_var rfl
            rw [← inV_str]
            exact et_test (ev_op (ev_var rfl) (ev_var (v := .ref c) rfl) (rv_niL (K := K) (sq_of ((eX.trans e) _ _ hc')) rfl (flat_strs _)))
        · have g := rv_eqDp (K := K) (H := G) (d := .list (((bx h.1 j).1.filter fun c => !decide (c ∈ h.2 ++ keysIn h.1 (less (List.range h.1.length) ls))).map PyData.str)) (e := .list []) (.lst (sq_of hp1) (dpA_strs _)) (.lst (sq_of hp2) .nil) (shaped_lS fun c hc => strOk_low (colB_low (hbox.1.2.1 c (List.mem_filter.mp hc).1)).1) shaped_nilL
          rw [eqv_nilL, fits_filter] at g
          exact g
        · have hk : keptB h.1 h.2 ls = false := by
            unfold keptB
            rw [List.any_eq_true.mpr ⟨_, hmem, hb⟩]
            rfl
          rw [hk] at q
          exact q H5 (eY.trans e5)
        · refine ⟨eX.trans e5, ⟨_, rfl⟩, ?_⟩
          rw [List.take_add_one, List.any_append, hany, hget]
          show (false || (fitsB (bx h.1 j).1 _ || false)) = false
          rw [hb]
          rfl
      · obtain ⟨eX, ⟨y, rfl⟩, hany⟩ := hP
        rw [List.length_map, List.take_length] at hany
        have hk : keptB h.1 h.2 ls = true := by
          unfold keptB
          rw [hany]
          rfl
        rw [hk] at q
        exact q H' (eA.trans eX)
end
end Kw
set_option Elab.async false
set_option linter.all false
set_option maxRecDepth 100000
/-! several clauses 'except K as n', all with the same name n, in slot j -/
namespace KwX
open PySem PySem.Spec PyProof.Rows L2
abbrev Cl := Value × (Addr → Value → Option Addr → TS)
/-- the ends of a suite behind which slot j is empty again -/
def goneE (j : Nat) (D : Ends) : Ends := ⟨fun τ G => D.nx (τ.set j none) G, D.rt, fun τ G => D.bk (τ.set j none) G, fun τ G => D.ct (τ.set j none) G⟩
def wAsM (K : PySem.W.Frag) (j : Nat) (Wo : WX) (D : Ends) : List Cl → WX
  | [] => Wo
  | (kc, tz) :: more => fun cls d τ G => ∃ yes, PySem.W.exmOne K cls kc = some yes ∧ (yes = true → ∀ e, G e = none → tz e cls d (goneE j D) (τ.set j (some (.ref e))) G) ∧ (yes = false → wAsM K j Wo D more cls d τ G)
inductive HdsAs (X : Cx) (n : Str) : List ExceptHandler → List Cl → Prop
  | nil : HdsAs X n [] []
  | cons {y : Str} {kc : Value} {tz : Addr → Value → Option Addr → TS} {first : Stmt} {rest : List Stmt} {p1 p2 : Pos} {hds : List ExceptHandler} {l : List Cl} (nm : Names X y kc)
      (su : ∀ (e : Addr) (ob : Obj) (cls : Value) (d : Option Addr) (pp : List (Addr × Obj)), L2N.Zn cls d ob → (∃ fs, ob.data = .fields fs) → PSs (X.suite e ((e, ob) :: pp)) (first :: rest) (tz e cls d)) (more : HdsAs X n hds l) :
      HdsAs X n (.ExceptHandler (some (.Name y p1)) (some n) (first :: rest) p2 :: hds) ((kc, tz) :: l)
section
variable {X : Cx} {n : Str} {j : Nat} {body : List Stmt} {h1 : ExceptHandler} {hds : List ExceptHandler} {l : List Cl} {pos : Pos} {tb : WX → TS} {Wo : WX}
theorem ps_try_asM (stk : X.stack = X.env :: X.outer) (frm : X.env.frame = some X.env.locals) (nd : X.N.Nodup) (at_ : X.N[j]? = some n) (loc : X.env.kindOf n = some .local) (tk : L2N.Takes X Wo)
    (hb : ∀ (W : WX) (pp : List (Addr × Obj)) (xe : Value → Shared → Prop), L2N.Takes (X.tr pp xe) W → PassesOwn (model X.prog X.w) X.A X.env xe → PSs (X.tr pp xe) body (tb W))
    (hh : HdsAs X n (h1 :: hds) l) : PS X (.Try body (h1 :: hds) [] [] pos) (fun D σ H => tb (wAsM X.K j Wo D l) D σ H) := by
  constructor
  intro pins s0 σ0 H0 D I want
  have okX := I.ok
  have frs_ : X.A.frames = some (X.env :: X.outer) := okX.frames.trans (congrArg some stk)
  have locN : Loc X.env.scope n := Or.inl loc
  apply wpAny_Try_except
  have run := (hb (wAsM X.K j Wo D l) (X.pn ++ pins) (fun ev sa => wpAny (model X.prog X.w) X.A (noteFrame ev X.env) (fun _ sb => wpAny (model X.prog X.w) X.A (setFlight ev none) (fun _ sc => wpAny (model X.prog X.w) X.A (handleBy ev X.env (h1 :: hds)) (SP X pins D) X.xe sc) X.xe sb) X.xe sa) ?caught PassesOwn.looking).run [] s0 σ0 H0 D (I.toTry _) want
  case caught =>
    intro ev st told
    obtain ⟨e, Bd, sI, pins1, τ, G, cls, d, rfl, Jt, ltB, up0, sky0, freeE, sameO, agree, wish⟩ := told
    have J : Inv X pins τ G sI := Jt.ofTry okX
    have sky1 : Sky Bd (X.env :: X.outer) e (L2N.Zn cls d) X.env.locals st.heap := stk ▸ sky0
    change wpAny (model X.prog X.w) X.A (noteFrame (.ref e) X.env) _ _ _
    refine L2N.Sky.land L2N.Zn.steady frs_ frm sky1 fun hp3 land3 up3 => ?_
    have J3 : Inv X pins τ G { st with heap := hp3 } := J.landed ltB land3.1 (up0.trans up3) sameO agree
    obtain ⟨ob3, fs3, get3, zc3, dat3⟩ := land3.there
    have notIn : e ∉ frs (X.env :: X.outer) := by
      intro hm
      obtain ⟨_, ob', get', nof⟩ := land3.2.2.1.mem hm
      rw [get3] at get'
      cases get'
      exact nof _ dat3
    have neL : e ≠ X.env.locals := by
      intro z
      exact notIn (List.mem_filterMap.mpr ⟨X.env, List.mem_cons_self, by rw [frm, z]⟩)
    have niF : e ∉ X.fs := by
      intro hm
      obtain ⟨en, hen, q⟩ := List.mem_filterMap.mp hm
      exact notIn (List.mem_filterMap.mpr ⟨en, List.mem_cons_of_mem _ hen, q⟩)
    have S3 := J3.suite get3 dat3 freeE neL niF
    have each : ∀ {cs : List ExceptHandler} {m : List Cl}, HdsAs X n cs m → wAsM X.K j Wo D m cls d τ G → wpAny (model X.prog X.w) X.A (handleBy (.ref e) X.env cs) (SP X pins D) X.xe { st with heap := hp3 } := by
      intro cs m hk
      induction hk with
      | nil =>
        intro hw
        apply wpAny_handleBy_nil
        obtain ⟨_, _, _, ob, fs, T, _, _, get, _, dat, first, _⟩ := id land3
        unfold PySem.passOn
        refine wpAny_bind (wpAny_field get dat first ?_)
        rw [if_neg (show ¬ ((Value.ref T == Value.none) = true) by simp)]
        have out : wpAny (model X.prog X.w) X.A (setFlight (.ref e) X.env.frame) (fun _ sd => wpAny (model X.prog X.w) X.A (throw (.ref e) : Sem Flow) (SP X pins D) X.xe sd) X.xe { st with heap := hp3 } := by
          rw [frm]
          refine HandSPX.setFlight_upZ land3 fun hp4 sk4 up4 => wpAny_throw (tk _ _ ⟨e, Bd, sI, pins, τ, G, cls, d, rfl, J, ltB, (up0.trans up3).trans up4, .inr (.inr (by rw [stk]; exact sk4)), freeE, sameO, agree, hw⟩)
        first
          | exact wpAny_bind (wpAny_pure (wpAny_bind out))
          | exact wpAny_bind out
      | @cons y kc tz fst rst p1 p2 hds2 l2 nm su more ih =>
        intro hw
        obtain ⟨yes, hy, hw1, hw0⟩ := hw
        refine wpAny_handleBy_cons (codeAny_handlers_test ?_) (by intro q; cases q)
        have looks : PySem.W.Looks (model X.prog X.w) hp3 (typeOf (.ref e)) cls := fun A Q E sx kx q => wpAny_typeOf_ref (kx _ _ get3) (by rw [zc3.1]; exact q)
        have matches_ := PySem.W.exm_one (M := model X.prog X.w) J3.kIn looks hy
        have named : ∀ {Q : Value → Shared → Prop} {E : Value → Shared → Prop}, Q kc { st with heap := hp3 } → wpAny (model X.prog X.w) (X.A.mark (some (.ref e))) (eval (.Name y p1) X.env) Q E { st with heap := hp3 } := by
          intro Q E q
          obtain ⟨hg, hdbg, hm⟩ := nm
          rcases hm with hm | ⟨hm, hv, hnn⟩
          · exact ld_glob (X := X.suite e ((e, ob3) :: (X.pn ++ pins))) S3 hg hm q hdbg
          · exact ld_blt (X := X.suite e ((e, ob3) :: (X.pn ++ pins))) S3 hg hm hv q hnn hdbg
        refine named (matches_.here ?_)
        cases yes with
        | false =>
          change wpAny _ X.A (handleBy (.ref e) X.env hds2) _ _ _
          exact ih (hw0 rfl)
        | true =>
          refine codeAny_handlers_suite_as ?_
          refine HandSPX.lands_againZ land3 fun hp4 land4 up4 => ?_
          have J4 : Inv X pins τ G { st with heap := hp4 } := J.landed ltB land4.1 ((up0.trans up3).trans up4) sameO agree
          obtain ⟨ob4, fs4, get4, zc4, dat4⟩ := land4.there
          have S4 := J4.suite get4 dat4 freeE neL niF
          refine store_ok (X := X.suite e ((e, ob4) :: (X.pn ++ pins))) (v := .ref e) S4 nd at_ locN rfl (fun s5 S5 => ?_) (.inr loc)
          refine wpAny_mono ((su e ob4 cls d (X.pn ++ pins) zc4 ⟨_, dat4⟩).run [] s5 _ G _ S5 (hw1 rfl e freeE)) (fun fl s6 sp => ?_) (fun _ _ z => False.elim z)
          have done_ : ∀ {τ6 : L2.St} {G6 : Hp} {R : Shared → Prop}, Inv (X.suite e ((e, ob4) :: (X.pn ++ pins))) [] τ6 G6 s6 → (∀ s7, Inv X pins (τ6.set j none) G6 s7 → R s7) →
              wpAny (model X.prog X.w) X.A (do bindName X.env n .none; unbindBehindTheSuite X.env n p2) (fun _ s7 => R s7) X.xe s6 := fun {τ6 G6 R} S6 hR => gone_ok (S6.unsuite okX) nd at_ loc hR
          cases fl with
          | next =>
            obtain ⟨τ6, G6, S6, q6⟩ := sp
            exact done_ S6 fun s7 J7 => ⟨_, _, J7, q6⟩
          | brk =>
            obtain ⟨τ6, G6, S6, q6⟩ := sp
            exact done_ S6 fun s7 J7 => ⟨_, _, J7, q6⟩
          | cont =>
            obtain ⟨τ6, G6, S6, q6⟩ := sp
            exact done_ S6 fun s7 J7 => ⟨_, _, J7, q6⟩
          | ret u =>
            obtain ⟨v6, τ6, G6, S6, r6, q6⟩ := sp
            exact done_ S6 fun s7 J7 => ⟨_, _, _, J7, r6, q6⟩
    exact each hh wish
  refine wpAny_mono run (fun fl s1 sp => ?_) (fun ev s1 he => he)
  cases fl with
  | next =>
    obtain ⟨τ, G, J1, q⟩ := sp
    exact wpAny_execs_nil ⟨τ, G, J1.ofTry okX, q⟩
  | brk =>
    obtain ⟨τ, G, J1, q⟩ := sp
    exact ⟨τ, G, J1.ofTry okX, q⟩
  | cont =>
    obtain ⟨τ, G, J1, q⟩ := sp
    exact ⟨τ, G, J1.ofTry okX, q⟩
  | ret u =>
    obtain ⟨v, τ, G, J1, r, q⟩ := sp
    exact ⟨v, τ, G, J1.ofTry okX, r, q⟩
end
end KwX
set_option Elab.async false
set_option linter.all false
set_option maxRecDepth 100000
set_option maxHeartbeats 2000000
/-! the end of a walk while an exception is handled: lists, tuples, tuples unpacked -/
namespace KwX
open PySem PySem.Spec PyProof.Rows L2 HotX L2H
section
variable {prog : Program} {w : World} {A : Around} {E : Value → Shared → Prop} {s : Shared}
theorem list_end_hot {it l hx : Addr} {i : Nat} {items : Array Value} {Q : Option Value → Shared → Prop} (hot : HotAt A hx s.heap) (dif : hx ≠ it) (hit : s.heap.IsListIter it l i) (hl : s.heap.IsList l items) (out : items[i]? = none)
    (hQ : ∀ h', Heap.ExtBut it s.heap h' → Q none { s with heap := h' }) : wpAny (model prog w) A (pyNext (.ref it)) Q E s := by
  have hit' := hit
  obtain ⟨io, gi, ci, di⟩ := hit'
  obtain ⟨lo, gl, _, nl, dl⟩ := hl
  obtain ⟨hand, ho, hv, gh, dh, ch⟩ := hot
  unfold pyNext
  refine wpAny_bind (wpAny_attempt (wpAny_callSpecial?_slot (name := Str.ofString "__next__") hit.typeIs slot_listiter_next (wpAny_call_entry slot_listiter_next hit.typeIs entry_listiter_next ?_ (args_listiter_next _))))
  change wpAny _ _ (field (.ref it) 0 >>= _) _ _ s
  apply wpAny_bind
  refine wpAny_field gi di (x := .ref l) rfl ?_
  change wpAny _ _ (if (Value.ref l == Value.none) = true then _ else _) _ _ s
  have notNone : ¬ ((Value.ref l == Value.none) = true) := Bool.false_ne_true
  rw [if_neg notNone]
  change wpAny _ _ (field (.ref it) 1 >>= _) _ _ s
  apply wpAny_bind
  refine wpAny_field gi di (x := .int i 0) rfl ?_
  change wpAny _ _ (seqItems? (.ref l) >>= _) _ _ s
  apply wpAny_bind
  refine wpAny_seqItems gl dl ?_
  simp only [Int.toNat_natCast, out]
  refine wpAny_bind (wpAny_rule (wpAny_bind (wpAny_setField gi di (by simp) ?_)))
  change wpAny _ _ (newExc (.type "StopIteration") [] >>= _) _ _ _
  apply wpAny_bind
  simp only [newExc, newTuple]
  apply wpAny_bind
  refine wpAny_newObj_type ?_ (by size_fits)
  refine wpAny_bind (m := firstArgMember _ _) (wpAny_of_eq (a := Value.none) (by first | rfl | (simp only [firstArgMember]; rfl)) ?_)
  refine wpAny_newObj_type ?_ (by size_fits)
  have sb := Heap.SameBut.update s.heap it (Obj.mapFields (·.setIfInBounds 0 .none))
  refine raiseNew_hot ⟨hand, ho, hv, Heap.get?_push_of_some _ (Heap.get?_push_of_some _ ((sb.2 hx dif).trans gh)), dh, ch⟩ ?_ (Heap.get?_push_size _ rfl) rfl (by first | (simp; done) | (simp; omega) | (simp only [Array.size_append]; simp; omega)) ?_
  · exact Nat.ne_of_lt (Heap.lt_size (Heap.get?_push_of_some _ ((sb.2 hx dif).trans gh)))
  refine wpAny_bind (wpAny_isInstance (T := "StopIteration") (b := true) ⟨_, Heap.get?_update_self _ (Heap.get?_push_size _ rfl) rfl, rfl⟩ isSubtype_stop ?_)
  refine wpAny_pure (hQ _ fun b o nb e => ?_)
  have e1 := Heap.get?_push_of_some { cls := .type "tuple", data := .seq #[] } ((sb.2 b nb).trans e)
  rw [Heap.get?_update_other _ _ (Nat.ne_of_gt (Heap.lt_size e1))]
  exact Heap.get?_push_of_some _ e1
theorem tup_end_hot {it l hx : Addr} {i : Nat} {items : Array Value} {Q : Option Value → Shared → Prop} (hot : HotAt A hx s.heap) (dif : hx ≠ it) (hit : IsTupIter s.heap it l i) (hl : IsTup s.heap l items) (out : items[i]? = none)
    (hQ : ∀ h', Heap.ExtBut it s.heap h' → Q none { s with heap := h' }) : wpAny (model prog w) A (pyNext (.ref it)) Q E s := by
  have hit' := hit
  obtain ⟨io, gi, ci, di⟩ := hit'
  obtain ⟨lo, gl, _, nl, dl⟩ := hl
  obtain ⟨hand, ho, hv, gh, dh, ch⟩ := hot
  unfold pyNext
  refine wpAny_bind (wpAny_attempt (wpAny_callSpecial?_slot (name := Str.ofString "__next__") hit.typeIs slot_tupleiter_next (wpAny_call_entry slot_tupleiter_next hit.typeIs entry_tupleiter_next ?_ (args_tupleiter_next _))))
  change wpAny _ _ (field (.ref it) 0 >>= _) _ _ s
  apply wpAny_bind
  refine wpAny_field gi di (x := .ref l) rfl ?_
  change wpAny _ _ (if (Value.ref l == Value.none) = true then _ else _) _ _ s
  have notNone : ¬ ((Value.ref l == Value.none) = true) := Bool.false_ne_true
  rw [if_neg notNone]
  change wpAny _ _ (field (.ref it) 1 >>= _) _ _ s
  apply wpAny_bind
  refine wpAny_field gi di (x := .int i 0) rfl ?_
  change wpAny _ _ (seqItems? (.ref l) >>= _) _ _ s
  apply wpAny_bind
  refine wpAny_seqItems gl dl ?_
  simp only [Int.toNat_natCast, out]
  refine wpAny_bind (wpAny_rule (wpAny_bind (wpAny_setField gi di (by simp) ?_)))
  change wpAny _ _ (newExc (.type "StopIteration") [] >>= _) _ _ _
  apply wpAny_bind
  simp only [newExc, newTuple]
  apply wpAny_bind
  refine wpAny_newObj_type ?_ (by size_fits)
  refine wpAny_bind (m := firstArgMember _ _) (wpAny_of_eq (a := Value.none) (by first | rfl | (simp only [firstArgMember]; rfl)) ?_)
  refine wpAny_newObj_type ?_ (by size_fits)
  have sb := Heap.SameBut.update s.heap it (Obj.mapFields (·.setIfInBounds 0 .none))
  refine raiseNew_hot ⟨hand, ho, hv, Heap.get?_push_of_some _ (Heap.get?_push_of_some _ ((sb.2 hx dif).trans gh)), dh, ch⟩ ?_ (Heap.get?_push_size _ rfl) rfl (by first | (simp; done) | (simp; omega) | (simp only [Array.size_append]; simp; omega)) ?_
  · exact Nat.ne_of_lt (Heap.lt_size (Heap.get?_push_of_some _ ((sb.2 hx dif).trans gh)))
  refine wpAny_bind (wpAny_isInstance (T := "StopIteration") (b := true) ⟨_, Heap.get?_update_self _ (Heap.get?_push_size _ rfl) rfl, rfl⟩ isSubtype_stop ?_)
  refine wpAny_pure (hQ _ fun b o nb e => ?_)
  have e1 := Heap.get?_push_of_some { cls := .type "tuple", data := .seq #[] } ((sb.2 b nb).trans e)
  rw [Heap.get?_update_other _ _ (Nat.ne_of_gt (Heap.lt_size e1))]
  exact Heap.get?_push_of_some _ e1
theorem HotAt.past {hx b : Addr} {h h' : Heap} (k : HotAt A hx h) (n : hx ≠ b) (e : Heap.ExtBut b h h') : HotAt A hx h' := by
  obtain ⟨k1, o, vs, k2, k3, k4⟩ := k
  exact ⟨k1, o, vs, e hx o n k2, k3, k4⟩
theorem HotAt.lt {hx : Addr} {h : Heap} (k : HotAt A hx h) : hx < h.objs.size := by
  obtain ⟨_, _, _, k2, _⟩ := k
  exact Heap.lt_size k2
theorem unpackItems_hot {t hx : Addr} {items : Array Value} {Q : List Value → Shared → Prop} (hot : HotAt A hx s.heap) (ht : IsTup s.heap t items) (hQ : ∀ h', Heap.ExtBut s.heap.objs.size s.heap h' → Q items.toList { s with heap := h' }) :
    wpAny (model prog w) A (unpackItems (.ref t) items.size none) Q E s := by
  have tlt : t ≠ s.heap.objs.size := Nat.ne_of_lt ht.lt
  have xlt : hx ≠ s.heap.objs.size := Nat.ne_of_lt (HotAt.lt hot)
  unfold unpackItems
  apply wpAny_bind
  unfold notIterableAtAll
  apply wpAny_bind
  refine wpAny_specialOf ht.typeIs slot_tuple_iter.lookup ?_
  apply wpAny_pure
  simp only [Bool.false_eq_true, if_false]
  apply wpAny_bind
  refine wpAny_holding (iter_tuple ht ?_)
  apply wpAny_bind
  refine wpAny_holding (draw_tuple tlt items.size 0 _ _ ⟨_, Heap.get?_push_size _ rfl, rfl, rfl⟩ (ht.push _) (by omega) fun hp1 it1 same1 => ?_)
  have whole : List.take items.size (List.drop 0 items.toList) = items.toList := by
    rw [List.drop_zero]
    exact List.take_of_length_le (Nat.le_of_eq (by simp))
  rw [whole, if_neg (by simp)]
  have tup1 : IsTup hp1 t items := (ht.push _).extBut same1.extBut tlt
  have hot0 : HotAt A hx (s.heap.push { cls := .type "tuple_iterator", data := .fields #[.ref t, .int 0 0] }) := by
    obtain ⟨k1, o, vs, k2, k3, k4⟩ := hot
    exact ⟨k1, o, vs, Heap.get?_push_of_some _ k2, k3, k4⟩
  apply wpAny_bind
  refine wpAny_holding (tup_end_hot (HotAt.past hot0 xlt same1.extBut) xlt it1 tup1 (by simp) fun hp2 ext2 => ?_)
  simp only [Option.isSome_none, Bool.false_eq_true, if_false]
  exact wpAny_pure (hQ hp2 fun b o nb e => ext2 b o nb (same1.extBut b o nb (Heap.get?_push_of_some _ e)))
theorem assign_tup_hot {env : Env} {elts : List Expr} {k1} {pos : Pos} {t hx : Addr} {items : Array Value} {Q : Unit → Shared → Prop} (hot : HotAt A hx s.heap) (ht : IsTup s.heap t items) (hn : (assignEach elts env).length = items.size) (hstar : (assignEach elts env).findIdx? (·.1) = none)
    (h : ∀ h', Heap.ExtBut s.heap.objs.size s.heap h' → wpAny (model prog w) A (assignInOrder ((assignEach elts env).map (·.2)) items.toList) Q E { s with heap := h' }) : wpAny (model prog w) A (assign (.Tuple elts k1 pos) env (.ref t)) Q E s := by
  rw [assign_Tuple]
  refine wpAny_bind (wpAny_standAt ?_)
  unfold unpack
  rw [hn, hstar]
  exact wpAny_bind (wpAny_holding (unpackItems_hot hot ht h))
end
section
variable {X : Cx} {tg : Expr}
/-- (a, ..) as a target, while an exception is handled -/
theorem pg_tupH {es : List Expr} {kk : Nat} {pos : Pos} {t : TGs} {n : Nat} (hc : HotC X) (h : PGs X es t) (hn : (assignEach es X.env).length = n := by rfl) (hst : (assignEach es X.env).findIdx? (·.1) = none := by rfl) : PG X (.Tuple es kk pos) (gTup X.K n t) := by
  constructor
  intro pins s σ H v u Q I r want
  obtain ⟨a, xs, rfl, sq, len, more⟩ := want
  cases r
  obtain ⟨x1, hot⟩ := hc.at I
  obtain ⟨its, rv, tup, _⟩ := I.tuple sq
  refine assign_tup_hot hot tup (by simp [hn, ← len, rv.length]) hst fun hp ext => ?_
  have I1 : Inv X pins σ H { s with heap := hp } := I.kept (t' := s.toks) fun b o e => ext b o (Nat.ne_of_lt (Heap.lt_size e)) e
  exact h.run pins _ σ H xs _ Q I1 (by simpa using rv) more
theorem turn_listH {P : Program} {w : World} {K : PySem.W.Frag} (a it : Addr) : TurnH P w K tg (Itl K a) [it] it (fun i h => h.IsListIter it a i) where
  mem := (turn_list (P := P) (w := w) (K := K) (tg := tg) a it).mem
  obj := (turn_list (P := P) (w := w) (K := K) (tg := tg) a it).obj
  keep := (turn_list (P := P) (w := w) (K := K) (tg := tg) a it).keep
  self := (turn_list (P := P) (w := w) (K := K) (tg := tg) a it).self
  item := by
    rintro X rfl rfl rfl hc i pins s σ H E I free at_ ⟨xs, x, sq, hx⟩
    obtain ⟨its, rv, p, _⟩ := I.list sq
    obtain ⟨u, hu, ru⟩ := rv.get hx
    obtain ⟨g0, g1, g2, g3, g4, g5⟩ := free it (List.mem_singleton.mpr rfl)
    refine wpAny_pyNext_list_item at_ p.isList (x := u) (by simpa using hu) fun hp at1 sb => ?_
    have I1 : Inv X pins σ H { s with heap := hp } := I.turned (t' := s.toks) (fun b o nb e => (sb.2 b nb).trans e) g0 g1 g3 g4 g5
    have at2 := at1
    obtain ⟨o, e, c, d⟩ := at2
    exact ⟨u, rfl, go_of (s := { s with heap := hp }) e c d (by decide) ⟨x, H, I1, ru, ⟨rfl, fun ys hy => by rw [I.list_inj hy sq]; exact hx⟩, at1, fun b hb => (free b hb).1⟩⟩
  done := by
    rintro X rfl rfl rfl hc i pins s σ H E I free at_ ⟨xs, sq, hx⟩
    obtain ⟨its, rv, p, _⟩ := I.list sq
    obtain ⟨g0, g1, g2, g3, g4, g5⟩ := free it (List.mem_singleton.mpr rfl)
    have len := rv.length
    obtain ⟨q, hq1, hq2⟩ := hc
    obtain ⟨hd, vs, dv, cv⟩ := hq1
    have hot : HotAt X.A q.1 s.heap := ⟨hd, q.2, vs, (I.pin q (List.mem_append_left _ hq2)).1, dv, cv⟩
    have dif : q.1 ≠ it := g5 q (List.mem_append_left _ hq2)
    exact list_end_hot hot dif at_ p.isList (by simp; omega) fun hp ext => ⟨rfl, I.turned (t' := s.toks) (fun b o nb e => ext b o nb e) g0 g1 g3 g4 g5⟩
end
end KwX
set_option Elab.async false
set_option linter.all false
set_option maxRecDepth 100000
set_option maxHeartbeats 4000000
/-! a list comprehension while an exception is handled -/
namespace KwX
open PySem PySem.Spec PyProof.Rows L2 HotX L2H
/-- the context of the block, which still bears what is pinned -/
abbrev blkH (X : Cx) (s : Shared) (H : Hp) (scope : Scope) (cenv : Env) (fp : List Addr) : Cx := (X.blk s H scope cenv fp).tr X.pn (fun _ _ => False)
section
variable {X : Cx} {tg : Expr}
theorem pi_listH {l : Expr} {tl : TE} (hl : PE X l tl) : PIH X tg l (iList X.K tl) := by
  constructor
  intro pins s σ H R I want
  refine thn (hl.run pins s σ H _ I want) fun v s1 got => ?_
  obtain ⟨x, H1, I1, rel, a, rfl, ⟨xs, sq⟩, more⟩ := got
  cases rel
  obtain ⟨its, rv, p, _⟩ := I1.list sq
  refine wpAny_pyIter_list p.isList ?_
  have I2 := I1.kept (t' := s1.toks) (h' := s1.heap.push { cls := .type "list_iterator", data := .fields #[.ref a, .int 0 0] }) fun b o e => Heap.get?_push_of_some _ e
  exact ⟨s1.heap.objs.size, [s1.heap.objs.size], _, _, H1, rfl, I2, turn_listH a _, ⟨_, Heap.get?_push_size _ rfl, rfl, rfl⟩, fun b hb => by
    cases List.mem_singleton.mp hb
    exact I1.fpOk (Nat.le_refl _) (I1.hok.fresh (Nat.le_refl _)), more⟩
theorem blockH {pins : List (Addr × Obj)} {σ : L2.St} {H : Hp} {s : Shared} {scope : Scope} {own : List (Str × Nat)} {fp : List Addr} (I : Inv X pins σ H s) (ok : BlkOk X.N X.env.scope scope own) (nd : X.N.Nodup) (hfp : ∀ b ∈ fp, FpOk X pins H b ∧ b < s.heap.objs.size) :
    Inv (blkH X s H scope (compEnvC scope (cellsFrom (s.heap.objs.size + 1) scope.names (cloFrom X.env.cells scope.names [])) s.heap.objs.size X.env) fp) [] (wipe σ (own.map (·.2))) H { s with heap := pushCells (s.heap.push { cls := .type "dict", data := .dict #[] }) scope.names } := by
  have J := block_start I ok nd hfp
  refine ⟨J.ok.toTry _ _, J.os, J.bare, J.base, J.loc, J.cell, J.free, J.freeC, fun p hp => ?_, J.hok, J.len⟩
  have hp' : p ∈ X.pn := by
    have : p ∈ X.pn ++ [] := hp
    rw [List.append_nil] at this
    exact this
  obtain ⟨g1, g2, g3, g4, g5⟩ := I.pin p (List.mem_append_left _ hp')
  refine ⟨pushCells_keeps _ _ _ _ (Heap.get?_push_of_some _ g1), g2, Nat.ne_of_lt (Heap.lt_size g1), fun z => ?_, g5⟩
  rcases List.mem_cons.mp (I.stkSub _ z) with e | e
  · exact g3 e
  · exact g4 e
end
end KwX
set_option Elab.async false
set_option linter.all false
set_option maxRecDepth 100000
set_option maxHeartbeats 4000000
namespace KwX
open PySem PySem.Spec PyProof.Rows L2 HotX L2H
section
variable {X : Cx}
/-- [elt for tg in iter if ..] as a value, while an exception is handled -/
theorem pe_lcH {elt tg iter : Expr} {ifs : List Expr} {scope : Scope} {own : List (Str × Nat)} {pos : Pos} {wi : TI} {g : TG} {tt : TT} {te : TE} (hc : HotC X) (nd : X.N.Nodup) (hi : PIH X tg iter wi) (ok : BlkOk X.N X.env.scope scope own)
    (hg : ∀ (s : Shared) (H : Hp) (C : Addr) (cl : List (Str × Addr)) (fp : List Addr), PG (blkH X s H scope (compEnvC scope cl C X.env) fp) tg g) (ht : ∀ (s : Shared) (H : Hp) (C : Addr) (cl : List (Str × Addr)) (fp : List Addr), PTs (blkH X s H scope (compEnvC scope cl C X.env) fp) ifs tt)
    (he : ∀ (s : Shared) (H : Hp) (C : Addr) (cl : List (Str × Addr)) (fp : List Addr), PE (blkH X s H scope (compEnvC scope cl C X.env) fp) elt te) (hs : ∀ x, foldedSetIterable iter X.env x = pure x := by intro _; rfl) :
    PE X (.ListComp elt [⟨tg, iter, ifs, 0⟩] scope pos) (tLc wi g tt te (own.map (·.2))) := by
  constructor
  intro pins s0 σ H0 Q I want
  rw [eval_ListComp]
  have caught : ∀ y ∈ scope.names, y.2 = .free → ∃ c, X.env.cells.lookup y.1 = some c := by
    intro y hy e
    rcases ok.free y hy e with k | k
    · exact I.ok.has _ (.inl k)
    · exact I.ok.has _ (.inr k)
  refine wpAny_comprehension_free (use := none) rfl hs (closure_ok caught) ok.kind (fun y hy e => by rw [ok.uniq y hy, e]) (thn (hi.run pins s0 σ H0 _ I want) fun xv sa ha => thn ha fun itv sb hb => ?_)
  obtain ⟨it, fp, tn, J, Hb, rfl, Ib, T, tn0, free0, goal⟩ := hb
  refine wpAny_newObj_type (newEnv_comp ?_) (by show 0 ≤ sizeLine; decide)
  have newD : Hb sb.heap.objs.size = none := Ib.hok.fresh (Nat.le_refl _)
  obtain ⟨W, ⟨m0, w0⟩, turn⟩ := goal sb.heap.objs.size newD
  generalize eL : sb.heap.objs.size = L at newD w0 turn ⊢
  generalize eC : ({ sb with heap := sb.heap.push { cls := .type "list", data := .seq ([] : List Value).toArray } } : Shared) = sc
  have hpC : sc.heap = sb.heap.push { cls := .type "list", data := .seq ([] : List Value).toArray } := by rw [← eC]
  have Ic : Inv X pins σ (upd Hb L (.lst [])) sc := by
    rw [← eC]
    refine Ib.laid (t' := sb.toks) (fun b o e => Heap.get?_push_of_some _ e) (Nat.le_of_eq eL) ⟨Nat.zero_le _, [], 0, .nil, ?_⟩
    rw [← eL]
    exact Heap.get?_push_size _ rfl
  have small : ∀ b ∈ fp, b < sb.heap.objs.size := by
    intro b hb
    obtain ⟨o, e, _⟩ := T.obj _ _ tn0 b hb
    exact Heap.lt_size e
  have freeC : ∀ b ∈ fp, FpOk X pins (upd Hb L (.lst [])) b ∧ b < sc.heap.objs.size := by
    intro b hb
    have lt := small b hb
    refine ⟨⟨?_, (free0 b hb).2⟩, by rw [hpC, Heap.size_push]; exact Nat.lt_succ_of_lt lt⟩
    rw [upd_ne (by rw [← eL]; exact Nat.ne_of_lt lt)]
    exact (free0 b hb).1
  have tnC : tn 0 sc.heap := T.keep _ _ _ tn0 fun b _ o e => by
    rw [hpC]
    exact Heap.get?_push_of_some _ e
  have Id := blockH Ic ok nd freeC
  have pg := hg sc (upd Hb L (.lst [])) sc.heap.objs.size (cellsFrom (sc.heap.objs.size + 1) scope.names (cloFrom X.env.cells scope.names [])) fp
  have pt := ht sc (upd Hb L (.lst [])) sc.heap.objs.size (cellsFrom (sc.heap.objs.size + 1) scope.names (cloFrom X.env.cells scope.names [])) fp
  have pe := he sc (upd Hb L (.lst [])) sc.heap.objs.size (cellsFrom (sc.heap.objs.size + 1) scope.names (cloFrom X.env.cells scope.names [])) fp
  have none0 : ∀ b ∈ fp, (upd Hb L (.lst [])) b = none := fun b hb => (freeC b hb).1.1
  change codeAny _ _ (.compStart (.ListComp elt [⟨tg, iter, ifs, 0⟩] scope pos) 0 (.ref it) (.ref L) (compEnvC scope (cellsFrom (sc.heap.objs.size + 1) scope.names (cloFrom X.env.cells scope.names [])) sc.heap.objs.size X.env)) (compPost (model X.prog X.w) X.A X.xe none _ (.ref L) sc.heap.objs.size) { sc with heap := pushCells (sc.heap.push { cls := .type "dict", data := .dict #[] }) scope.names }
  generalize eE : compEnvC scope (cellsFrom (sc.heap.objs.size + 1) scope.names (cloFrom X.env.cells scope.names [])) sc.heap.objs.size X.env = ce at Id pg pt pe ⊢
  have locE : ce.locals = sc.heap.objs.size := by
    subst eE
    rfl
  generalize eH : upd Hb L (.lst []) = Hc at Ic Id pg pt pe w0 none0 freeC
  generalize eS : ({ sc with heap := pushCells (sc.heap.push { cls := .type "dict", data := .dict #[] }) scope.names } : Shared) = sd at Id ⊢
  have tnD : tn 0 sd.heap := T.keep _ _ _ tnC fun b _ o e => by
    rw [← eS]
    exact pushCells_keeps _ _ _ _ (Heap.get?_push_of_some _ e)
  have still : ∀ {τ : L2.St} {G : Hp} {sx : Shared}, Inv (blkH X sc Hc scope ce fp) [] τ G sx → (∀ b ∈ fp, G b = none) → ∀ b ∈ fp, FpOk (blkH X sc Hc scope ce fp) [] G b := by
    intro τ G sx Ix hn b hb
    refine ⟨hn b hb, (Ix.ok.exf b hb).1, Ix.ok.exfs b hb, .inl hb, fun x c e => (Ix.ok.exf b hb).2 x c e, fun p hp => ?_⟩
    have hp' : p ∈ X.pn ++ [] := hp
    rw [List.append_nil] at hp'
    exact (freeC b hb).1.2.2.2.2.2 p (List.mem_append_left _ hp')
  have loop : codeAny (model X.prog X.w) X.A (.compLoop (.ListComp elt [⟨tg, iter, ifs, 0⟩] scope pos) 0 (.ref it) (.ref L) ce) (compPost (model X.prog X.w) X.A X.xe none (fun v s1 => EP X pins σ Q v s1) (.ref L) sc.heap.objs.size) sd := by
    refine compLoop_any (fun n sx => ∃ i G, Inv (blkH X sc Hc scope ce fp) [] (wipe σ (own.map (·.2))) G sx ∧ tn i sx.heap ∧ (∀ b ∈ fp, G b = none) ∧ W i n G) ?_ m0 ⟨0, Hc, Id, tnD, none0, w0⟩
    rintro n s5 ⟨i, G5, I5, tn5, n5, w5⟩
    rcases turn i n G5 w5 with ⟨stop, fin⟩ | ⟨go, Nx, hNx, step⟩
    · refine thnF (T.done (blkH X sc Hc scope ce fp) rfl rfl rfl hc i [] s5 _ G5 (fun _ _ => False) I5 (still I5 n5) tn5 stop) fun r s6 got => ?_
      obtain ⟨rfl, I6⟩ := got
      have I7 : Inv X pins σ G5 s6 := Ic.call' (ch := fp) I6.os I6.base I6.hok I6.bare fun b hb => ⟨(freeC b hb).1.2.2.2.1, (freeC b hb).1.2.1, (freeC b hb).1.2.2.2.2.1, (freeC b hb).1.2.2.2.2.2⟩
      have noneC : G5 sc.heap.objs.size = none := by
        have z : G5 ce.locals = none := I6.free
        rw [locE] at z
        exact z
      obtain ⟨m, hn, _⟩ := I6.loc
      have hn' : s6.heap.Ns ce.locals m := hn
      rw [locE] at hn'
      refine ⟨m, hn', fun h'' sb' => ?_⟩
      obtain ⟨f0, f1, f2, f3, f4, f5⟩ := Ic.fpOk (Nat.le_refl _) noneC
      exact ⟨.ref L, G5, I7.turned (t' := s6.toks) (fun b o hb e => (sb'.2 b hb).trans e) f0 f1 f3 f4 f5, rfl, fin⟩
    · refine thnF (T.item (blkH X sc Hc scope ce fp) rfl rfl rfl hc i [] s5 _ G5 (fun _ _ => False) I5 (still I5 n5) tn5 go) fun r s6 got => ?_
      obtain ⟨u, rfl, h6⟩ := got
      refine thnF h6 fun _ s7 got7 => ?_
      obtain ⟨x, G7, I7, r7, y7, tn7, n7⟩ := got7
      have I7' := I7.pinned (still I7 n7) (T.obj _ _ tn7)
      refine thnF (pg.run _ s7 _ G7 x u _ I7' r7 (step x G7 y7)) fun _ s8 got8 => ?_
      obtain ⟨σ8, G8, I8, hw8, q8⟩ := got8
      refine thnF (pt.run _ s8 σ8 G8 _ I8 q8) fun b s9 got9 => ?_
      obtain ⟨G9, I9, q9⟩ := got9
      have over : ∀ {sx : Shared} {G : Hp}, Inv (blkH X sc Hc scope ce fp) ([] ++ pinsAt fp s7.heap) σ8 G sx → Nx G → ∃ m, m < n ∧ ∃ i G, Inv (blkH X sc Hc scope ce fp) [] (wipe σ (own.map (·.2))) G sx ∧ tn i sx.heap ∧ (∀ b ∈ fp, G b = none) ∧ W i m G := by
        intro sx G Ix nx
        obtain ⟨m', hm, w'⟩ := hNx G nx
        have held : ∀ b ∈ fp, ∀ o, s7.heap.get? b = some o → sx.heap.get? b = some o ∧ G b = none := fun b hb o e =>
          have z := Ix.pin (b, o) (List.mem_append_right _ (List.mem_append_right _ (mem_pinsAt hb e)))
          ⟨z.1, z.2.1⟩
        have len8 : (wipe σ (own.map (·.2))).length = σ8.length := by rw [← hw8, wipe_length]
        refine ⟨m', hm, i + 1, G, (Ix.unpinned (pins := [])).weak len8 (fun j v e => ?_), T.keep _ _ _ tn7 fun b hb o e => (held b hb o e).1, fun b hb => ?_, w'⟩
        · rw [← hw8] at e
          exact (wipe_some e).1
        · obtain ⟨o, e, _⟩ := T.obj _ _ tn7 b hb
          exact (held b hb o e).2
      cases b with
      | false =>
        simp only [Bool.false_eq_true, if_false] at q9 ⊢
        exact over I9 q9
      | true =>
        simp only [if_true] at q9 ⊢
        refine thnF (pe.run _ s9 σ8 G9 _ I9 q9) fun z s10 got10 => ?_
        obtain ⟨yv, G10, I10, r10, acc, hD10, hz10, nx⟩ := got10
        exact app_ok (X := blkH X sc Hc scope ce fp) I10 hD10 hz10 r10 fun s11 I11 => over I11 nx
  exact codeAny_compStart_list loop (T.self X.A 0 _ _ _ tnD loop)
end
end KwX
set_option Elab.async false
set_option linter.all false
set_option maxRecDepth 100000
set_option maxHeartbeats 4000000
/-! a lambda with parameters that captures nothing: made, handed on, called by a local name -/
namespace KwX
open PySem PySem.Spec PyProof.Rows L2 LamX NdefX
/-- the object at f is the lambda F (its words but the body), body b -/
def LamO (f : Addr) (F : NF) (b : Expr) : HO := .ext fun h => ∃ (od : Option Addr) (sl : Array (Option Value)) (pm ctv : Value), h.get? f = some (⟨.type "function", od, .func (PySem.W.kla_fn F.name F.qual F.params b F.scope F.cl pm (.ref F.c) ctv), sl⟩ : Obj)
theorem lamO_ne {f : Addr} {F : NF} {b : Expr} (ps : Array Value) : LamO f F b ≠ .tbl ps := fun z => by
  unfold LamO at z
  cases z
theorem lamO_at {P : Program} {w : World} {H : Hp} {h : Heap} {f : Addr} {F : NF} {b : Expr} (hok : HOk P w H h) (e : H f = some (LamO f F b)) :
    ∃ (od : Option Addr) (sl : Array (Option Value)) (pm ctv : Value), h.get? f = some (⟨.type "function", od, .func (PySem.W.kla_fn F.name F.qual F.params b F.scope F.cl pm (.ref F.c) ctv), sl⟩ : Obj) := (hok f _ e).1
section
variable {X : Cx} {pins : List (Addr × Obj)} {σ : L2.St} {H : Hp} {s : Shared}
theorem inv_lam {F : NF} {b : Expr} {o : Obj} {t' : Nat} {pm ctv : Value} (I : Inv X pins σ H s) (ho : o = { cls := .type "function", data := .func (PySem.W.kla_fn F.name F.qual F.params b F.scope F.cl pm (.ref F.c) ctv) }) :
    Inv X pins σ (upd H s.heap.objs.size (LamO s.heap.objs.size F b)) { s with heap := s.heap.push o, toks := t' } := by
  have at_ : (s.heap.push o).get? s.heap.objs.size = some o := Heap.get?_push_size _ (by rw [ho]; rfl)
  have at2 : (s.heap.push o).get? s.heap.objs.size = some { cls := .type "function", data := .func (PySem.W.kla_fn F.name F.qual F.params b F.scope F.cl pm (.ref F.c) ctv) } := by
    rw [at_, ho]
  exact I.laid (a := s.heap.objs.size) (fun c u e => Heap.get?_push_of_some _ e) (Nat.le_refl _) ⟨⟨_, _, pm, ctv, at2⟩, ⟨_, at2⟩, fun h1 h2 ⟨od, sl, p, t, z⟩ stay => ⟨od, sl, p, t, stay _ z⟩⟩
end
/-- lambda ..: body, as a value -/
def tLamV (T : List (Addr × Str)) (mk : Addr → NF) (b : Expr) : TE := fun σ H Q => Tabs T H ∧ ∀ (f c' : Addr) (H1 : Hp), ExtN H H1 → (∀ y, H1 y = none → H y = none) → Tabs T H1 → H f = none → H1 f = some (LamO f (mk c') b) → H1 c' = some (CodeO c' (mk c').qual) → Q (.ref f) H1
section
variable {X : Cx}
theorem pe_lamV {T : List (Addr × Str)} {c P : Addr} {params : Arguments} {body : Expr} {scope : Scope} {pos : Pos} (TB : TabB X.base X.mg c P) (hcode : X.env.code = .ref c) (hm : (P, X.env.qual ++ "<lambda>") ∈ T) (hu : ∀ p ∈ T, p.1 = P → p.2 = X.env.qual ++ "<lambda>")
    (hdef : defaultsOf params X.env = ([], [])) (nofree : ∀ y ∈ scope.names, y.2 ≠ .free) (hcl : ∀ cells, cloFrom cells scope.names [] = []) :
    PE X (.Lambda params body scope pos) (tLamV T (fun c' => ⟨"<lambda>", X.env.qual ++ "<lambda>", params, [], scope, [], c'⟩) body) := by
  constructor
  intro pins s σ H Q I want
  obtain ⟨tabs, k⟩ := want
  obtain ⟨ps, gP, tri, each⟩ := tabs _ hm
  refine PySem.W.kla_eval hdef ?_
  have clo : closureFor scope X.env = pure [] := by
    have := closure_ok (env := X.env) (scope := scope) (fun y hy e => absurd e (nofree y hy))
    rw [hcl] at this
    exact this
  have blt : s.heap.BuiltinsAt X.mg P := TB.bm.keeps I.bk
  have gP' : s.heap.get? P = some { cls := .none, data := .fields ps } := I.hok P _ gP
  cases found : codeAmong pos ps.toList with
  | some cv =>
    obtain ⟨c', rfl, hco⟩ := each pos cv found
    refine PySem.W.kla_makeFunctionHit (mg := X.mg) (c := c) (P := P) (ps := ps) clo I.ok.glob (I.mod.glob.keeps I.bk) hcode (TB.code.keeps I.bk) gP' tri found blt fun ctv hp tk keep _ => ?_
    have I1 : Inv X pins σ H { s with heap := hp, toks := tk } := I.kept keep
    have new1 : H hp.objs.size = none := I1.hok.fresh (Nat.le_refl _)
    have I2 := inv_lam (F := ⟨"<lambda>", X.env.qual ++ "<lambda>", params, [], scope, [], c'⟩) (b := body) (t' := tk) (pm := (X.mg "__name__").getD .none) (ctv := ctv) I1 rfl
    have past : ∀ b o, H b = some o → upd H hp.objs.size (LamO hp.objs.size ⟨"<lambda>", X.env.qual ++ "<lambda>", params, [], scope, [], c'⟩ body) b = some o := fun b o e => (upd_ne (ne_of_none e new1)).trans e
    exact ⟨.ref hp.objs.size, _, I2, rfl, k _ c' _ (ExtN.of past) (fun y e => upd_none e) (tabs.ext past) new1 upd_same (past _ _ hco)⟩
  | none =>
    refine PySem.W.kla_makeFunction (mg := X.mg) (c := c) (P := P) (ps := ps) clo I.ok.glob (I.mod.glob.keeps I.bk) hcode (TB.code.keeps I.bk) gP' tri found TB.gP blt fun c' ctv hp tk ext ge lt rec_ tab => ?_
    obtain ⟨c2, oc, vs, t, e2, hoc, hd, hv⟩ := rec_
    cases e2
    have newC : H c' = none := I.hok.fresh ge
    have I1 := inv_table (t' := tk) (more := #[rawInt pos.line, rawInt pos.col, .ref c']) (h' := hp) I gP (fun b o hb e => ext b o hb e) tab ge ⟨oc, vs, t, hoc, hd, hv⟩
    have past : ExtN H (upd (upd H P (.tbl (ps ++ #[rawInt pos.line, rawInt pos.col, .ref c']))) c' (CodeO c' (X.env.qual ++ "<lambda>"))) := by
      intro b o e n
      rw [upd_ne (ne_of_none e newC), upd_ne (fun z => n ps (Option.some.inj (e.symm.trans (by rw [z]; exact gP))))]
      exact e
    have app : (ps ++ #[rawInt pos.line, rawInt pos.col, .ref c']).toList = ps.toList ++ [rawInt pos.line, rawInt pos.col, .ref c'] := by simp
    have tabs1 : Tabs T (upd (upd H P (.tbl (ps ++ #[rawInt pos.line, rawInt pos.col, .ref c']))) c' (CodeO c' (X.env.qual ++ "<lambda>"))) := by
      intro p hp'
      by_cases same : p.1 = P
      · rw [hu p hp' same, same]
        refine ⟨_, by rw [upd_ne (ne_of_none gP newC), upd_same], by rw [app]; exact PySem.TriplesOk_snoc _ _ _ _ tri, fun p' cv hcv => ?_⟩
        rw [app] at hcv
        rcases among_app _ tri hcv with z | z
        · obtain ⟨c0, e1, e2⟩ := each p' cv z
          exact ⟨c0, e1, past _ _ e2 codeO_ne⟩
        · exact ⟨c', z, upd_same⟩
      · obtain ⟨ps', a1, a2, a3⟩ := tabs p hp'
        refine ⟨ps', by rw [upd_ne (ne_of_none a1 newC), upd_ne same]; exact a1, a2, fun p' cv hcv => ?_⟩
        obtain ⟨c0, e1, e2⟩ := a3 p' cv hcv
        exact ⟨c0, e1, past _ _ e2 codeO_ne⟩
    have newF := I1.hok.fresh (Nat.le_refl _)
    have I2 := inv_lam (F := ⟨"<lambda>", X.env.qual ++ "<lambda>", params, [], scope, [], c'⟩) (b := body) (t' := tk) (pm := (X.mg "__name__").getD .none) (ctv := ctv) I1 rfl
    refine ⟨.ref hp.objs.size, _, I2, rfl, k _ c' _ (fun b o e n => ?_) (fun b e => upd_none (upd_none (upd_none e))) (tabs1.ext fun b o e => ?_) (I.hok.fresh (Nat.le_trans ge (Nat.le_of_lt lt))) upd_same ?_⟩
    · have e1 := past b o e n
      exact (upd_ne (ne_of_none e1 newF)).trans e1
    · exact (upd_ne (ne_of_none e newF)).trans e
    · exact (upd_ne (Nat.ne_of_lt lt)).trans upd_same
end
/-- what a lambda of the words F, body b, promises wherever it lies -/
structure LOk (P : Program) (w : World) (K : PySem.W.Frag) (mg : Str → Option Value) (base : Heap) (CX : CXT) (k : Nat) (F : NF) (b : Expr) (ps : List Str) (sp : Sp) : Prop where
  len : ∀ vs H Q E, sp vs H Q E → vs.length = ps.length
  run : ∀ (f : Addr) (A : Around) (outer : List Env) (s : Shared) (H : Hp) (us : List Value) (vs : List V) (Q : VK) (E : XK), Room k A → Env0 P w K mg base A outer s H → H f = some (LamO f F b) → H F.c = some (CodeO F.c F.qual) → Vals vs us → sp vs H Q E →
    codeAny (model P w) A (.call (.ref f) ⟨us, []⟩) (CR CX outer P w H s Q E) s
section
variable {CX : CXT} {P : Program} {w : World} {K : PySem.W.Frag} {mg : Str → Option Value} {base : Heap} {N ps : List Str} {F : NF} {b : Expr} {k j : Nat} {sp : Sp}
theorem lok_of (S : NScope N ps [] F.scope) (cl0 : F.cl = []) (hb : ∀ (pm ctv : Value) (us : List Value), us.length = ps.length → bindArgs (PySem.W.kla_fn F.name F.qual F.params b F.scope F.cl pm (.ref F.c) ctv) ⟨us, []⟩ = pure (ps.zip us)) (len : ∀ vs H Q E, sp vs H Q E → vs.length = ps.length)
    (body : ∀ (f : Addr) (A : Around) (outer : List Env) (s : Shared) (H : Hp) (vs : List V) (Q : VK) (E : XK), Room k (A.deeper (envF F f s.heap.objs.size)) → sp vs H Q E → ∃ t, PE (ncx CX P w K mg base N F f A outer s H E) b t ∧ t (startF N vs []) H Q) : LOk P w K mg base CX (k + 1) F b ps sp := by
  refine ⟨len, fun f A outer s H us vs Q E hr e0 hf hc r hsp => ?_⟩
  have hl := len _ _ _ _ hsp
  have lim : s.heap.NoLimit := e0.mod.nolimit.keeps fun b o e => (e0.bs b o e).1
  obtain ⟨od, sl, pm, ctv, ho⟩ := lamO_at e0.hok hf
  refine PySem.W.kla_callFunE hr.depth ho rfl S.co S.gen rfl (codeO_at e0.hok hc) ?_
  rw [hb pm ctv us (by rw [← r.length]; exact hl)]
  refine wpAny_pure (wpAny_newFunctionEnv S.nocell (fun ⟨n, _⟩ hy => S.par n (List.of_mem_zip hy).1) (fun hp hns hsb => ⟨lim.fresh _ hsb, ?_⟩) S.kind)
  change codeAny _ _ (.expr b (envF F f s.heap.objs.size)) _ _
  have kp : ∀ b o, s.heap.get? b = some o → hp.get? b = some o := fun b o e => hsb.extBut b o (Nat.ne_of_lt (Heap.lt_size e)) (Heap.get?_push_of_some _ e)
  obtain ⟨t, ht, hq⟩ := body f A outer s H vs Q E (hr.deeper _) hsp
  have C : CellsAt F.cl [] [] s.heap H := by
    rw [cl0]
    exact ⟨rfl, (fun y c e => by cases e), (fun x y c e => by cases e), (fun i y e => by cases e)⟩
  have I : Inv (ncx CX P w K mg base N F f A outer s H E) [] (startF N vs []) H { s with heap := hp, toks := s.toks + (ps.zip us).length } := inv_startN S hr.hd e0 hl r C hns kp
  refine PySem.W.kla_codeExpr (wpAny_mono (ht.run [] _ _ H Q I hq) (fun v s' got => ?_) fun e s' got => got)
  obtain ⟨w', H', J, rv, q⟩ := got
  exact ⟨w', H', J.os, J.bare, J.base, J.hok, rv, q⟩
end
/-- x(e, ..), x a local name that holds a lambda of the words F c', body b -/
def tCallV (mk : Addr → NF) (b : Expr) (i : Nat) (sp : Sp) (E : L2.St → XK) (t : TA) : TE := fun σ H Q => ∃ f c', σ[i]? = some (some (.ref f)) ∧ H f = some (LamO f (mk c') b) ∧ t σ H fun vs H1 => H1 f = some (LamO f (mk c') b) ∧ H1 (mk c').c = some (CodeO (mk c').c (mk c').qual) ∧ sp vs H1 Q (E σ)
section
variable {X : Cx} {CX : CXT} {mk : Addr → NF} {b : Expr} {ps : List Str} {i j k : Nat} {x : Str} {sp : Sp} {E : L2.St → XK} {t : TA} {e : Expr} {es : List Expr} {p pos : Pos}
theorem lamAt_of {pins : List (Addr × Obj)} {σ : L2.St} {H : Hp} {s : Shared} {f : Addr} {F : NF} (I : Inv X pins σ H s) (e : H f = some (LamO f F b)) : PySem.W.FnAt f s.heap := by
  obtain ⟨od, sl, pm, ctv, ho⟩ := lamO_at I.hok e
  exact ⟨_, od, _, sl, ho⟩
theorem pe_callV (L : ∀ c', LOk X.prog X.w X.K X.mg X.base CX k (mk c') b ps sp) (hr : Room j X.A) (hk : k ≤ j) (hx : ∀ σ, PassesAt CX X σ (E σ)) (hN : X.N[i]? = some x) (hv : Vis X.env.scope x) (ha : PA X (e :: es) t)
    (hd : (x == ("__debug__" : Str)) = false := by decide) (hcd : (x == ("__classdict__" : Str)) = false := by decide)
    (he : starEach (e :: es) X.env = (false, eval e X.env) :: starEach es X.env := by rfl) (hpl : (backTo pos (starEach es X.env)).any (·.1) = false := by rfl) :
    PE X (.Call (.Name x p) (e :: es) [] pos) (tCallV mk b i sp E t) := by
  constructor
  intro pins s σ H Q I want
  obtain ⟨f, c', hs, hf, ht⟩ := want
  refine wpAny_Call_Name_kw (thn ((pe_var (pos := p) hN hv hd hcd).run pins s σ H (fun v H1 => v = .ref f ∧ H1 = H) I ⟨.ref f, hs, rfl, rfl⟩) fun u s1 got => ?_)
  obtain ⟨v, H1, I1, r1, ev, eH⟩ := got
  subst ev
  rw [eH] at I1
  obtain rfl : u = Value.ref f := r1
  refine PySem.W.callWith_F (first := []) (lamAt_of I1 hf) (thn (ha.run pos pins s1 σ H _ I1 ht) fun us s2 got2 => ?_) he hpl
  obtain ⟨vs, H2, I2, r, h1, h2, q⟩ := got2
  refine ⟨lamAt_of I2 h1, ?_⟩
  change wpAny _ _ (call (.ref f) us) _ _ _
  refine wpAny_call (codeAny_mono ((L c').run f X.A X.stack s2 H2 us vs Q (E σ) (hr.mono hk) I2.env0 h1 h2 r q) fun res s3 got3 => ?_)
  cases res with
  | error ev => exact hx σ pins H2 s2 ev s3 I2 got3
  | ok fl =>
    cases fl with
    | ret u => exact I2.after got3
    | next => exact False.elim got3
    | brk => exact False.elim got3
    | cont => exact False.elim got3
end
end KwX
set_option Elab.async false
set_option linter.all false
set_option maxRecDepth 100000
set_option maxHeartbeats 4000000
namespace Kw
open PySem PySem.Spec PyProof.Rows L2 Evl KwX NdefX LamX
/-- what an error class of the program, made of a text, must say -/
structure ExcT (K : PySem.W.Frag) (mg : Str → Option Value) (x : Str) (C : Addr) : Prop where
  g : mg x = some (.ref C)
  q : PySem.W.excIn K C [.type "ValueError", .type "Exception", .type "BaseException", .type "object"] "ValueError.__new__" = true
  k : PySem.W.keepIn K (.ref C) = true
  b : PySem.W.subIn K (.ref C) (.type "BaseException") = some true
  t : PySem.W.typeIn K (.ref C) = some (.type "type")
theorem keepN {H H' : Hp} (e : ExtN H H') : KeepT H H' := fun b xs r => by
  rcases r with h | ⟨o, h⟩
  · exact .inl (e b _ h fun ps z => by cases z)
  · exact .inr ⟨o, e b _ h fun ps z => by cases z⟩
theorem ExtN.ex {H H' : Hp} (e : Ex H H') : ExtN H H' := fun b o h _ => e b o h
section
variable {P : Program} {w : World} {K : PySem.W.Frag} {mg : Str → Option Value} {base : Heap}
/-- a def that may raise -/
theorem okN {x qual : Str} {st : Stmt} {f : Addr} {fd : FuncData} {N ps : List Str} {k : Nat} {sp : Sp} (F : Fun K x qual st f fd) (S : FnScope N ps (defScope st)) (len : ∀ vs H Q E, sp vs H Q E → vs.length = ps.length)
    (body : ∀ (cdv : Value) (A : Around) (outer : List Env) (s : Shared) (H : Hp) (vs : List V) (Q : VK) (E : XK), Room k (A.deeper (envOfC qual (defScope st) s.heap.objs.size f cdv)) → sp vs H Q E →
      ∃ t, PSs (cxOf (L2N.CX P w) P w K mg base N qual (defScope st) f cdv A outer s H E) (defBody st) t ∧ t { nx := fun _ H' => Q .non H', rt := Q } (start N vs) H) : FnOk P w K mg base (L2N.CX P w) (k + 1) f fd ps sp := by
  obtain ⟨oc, od, kV, doc, pm, an, cdv, ct, osl, rfl, lk, hcd⟩ := F.ex
  exact fn_of lk hcd S len fun A outer s H vs Q E hr hsp => body cdv A outer s H vs Q E hr hsp
/-- a def that makes lambdas: its code's table is known -/
theorem okT {x : Str} {st : Stmt} {f c : Addr} {N ps : List Str} {k : Nat} {sp : Sp} {kV doc pm ct oc : Value} {an od : Option Addr} {osl : Array (Option Value)} (lk : K.lookup f = some ⟨oc, od, .func (PySem.W.fnOf x x (defArgs st) (defBody st) (defScope st) .none kV doc pm an (.ref c) ct), osl⟩) (hcd : PySem.W.codeIn K (.ref c) x = true)
    (S : FnScope N ps (defScope st)) (len : ∀ vs H Q E, sp vs H Q E → vs.length = ps.length)
    (body : ∀ (A : Around) (outer : List Env) (s : Shared) (H : Hp) (vs : List V) (Q : VK) (E : XK), Room k (A.deeper (envOfC x (defScope st) s.heap.objs.size f (.ref c))) → sp vs H Q E →
      ∃ t, PSs (cxOf CX0 P w K mg base N x (defScope st) f (.ref c) A outer s H E).nox (defBody st) t ∧ t { nx := fun _ H' => Q .non H', rt := Q } (start N vs) H) : FnOk P w K mg base CX0 (k + 1) f (PySem.W.fnOf x x (defArgs st) (defBody st) (defScope st) .none kV doc pm an (.ref c) ct) ps sp :=
  fn_of lk hcd S len fun A outer s H vs Q E hr h => by
    obtain ⟨t, h1, h2⟩ := body A outer s H vs Q E hr h
    exact ⟨t, h1.nox, h2⟩
/-- lambda a, b, c: x(a, b) -/
def spLam2 (spX : Sp) : Sp := fun vs H Q E => ∃ (v y z : V), vs = [v, y, z] ∧ spX [v, y] H Q E
def spLam1 (spX : Sp) : Sp := fun vs H Q E => ∃ (v y z : V), vs = [v, y, z] ∧ spX [v] H Q E
theorem lok_2 {f : Addr} {fd : FuncData} {k : Nat} {F : NF} {x : Str} {st : Stmt} {ps : List Str} {spX : Sp} {pp p1 p2 pos : Pos} (S : NScope ["a", "b", "c"] ["a", "b", "c"] [] F.scope) (cl0 : F.cl = []) (gl : F.scope.names.lookup x = some NameKind.globalImplicit)
    (hb : ∀ (pm ctv : Value) (us : List Value), us.length = 3 → bindArgs (PySem.W.kla_fn F.name F.qual F.params (.Call (.Name x pp) [.Name "a" p1, .Name "b" p2] [] pos) F.scope F.cl pm (.ref F.c) ctv) ⟨us, []⟩ = pure ((["a", "b", "c"] : List Str).zip us))
    (DL : Df K mg x st ps f fd) (GL : FnOk P w K mg base (L2N.CX P w) k f fd ps spX) (hx : (x == ("__debug__" : Str)) = false := by decide) :
    LOk P w K mg base (L2N.CX P w) (k + 1) F (.Call (.Name x pp) [.Name "a" p1, .Name "b" p2] [] pos) ["a", "b", "c"] (spLam2 spX) := by
  refine lok_of S cl0 hb (fun vs H Q E h => ?_) (fun g A outer s H vs Q E hr h => ?_)
  · obtain ⟨v, x, z, rfl, _⟩ := h
    rfl
  · obtain ⟨v, y, z, rfl, h⟩ := h
    refine ⟨tCallS spX (fun σ => WE (fun cls d _ H => E cls d H) σ) (tCons (tVar 0) (tCons (tVar 1) tNil)), pe_callS GL hr gl DL.g DL.F.kp DL.b (fun σ => L2N.passAt (L2N.takes_of rfl rfl rfl rfl) σ) (pa_cons (pe_var (i := 0) rfl (.inl (S.par "a" (by decide +kernel)))) (pa_cons (pe_var (i := 1) rfl (.inl (S.par "b" (by decide +kernel)))) pa_nil)) hx, ?_⟩
    exact ⟨v, rfl, y, rfl, h⟩
theorem lok_1 {f : Addr} {fd : FuncData} {k : Nat} {F : NF} {x : Str} {st : Stmt} {ps : List Str} {spX : Sp} {pp p1 pos : Pos} (S : NScope ["a", "b", "c"] ["a", "b", "c"] [] F.scope) (cl0 : F.cl = []) (gl : F.scope.names.lookup x = some NameKind.globalImplicit)
    (hb : ∀ (pm ctv : Value) (us : List Value), us.length = 3 → bindArgs (PySem.W.kla_fn F.name F.qual F.params (.Call (.Name x pp) [.Name "a" p1] [] pos) F.scope F.cl pm (.ref F.c) ctv) ⟨us, []⟩ = pure ((["a", "b", "c"] : List Str).zip us))
    (DL : Df K mg x st ps f fd) (GL : FnOk P w K mg base (L2N.CX P w) k f fd ps spX) (hx : (x == ("__debug__" : Str)) = false := by decide) :
    LOk P w K mg base (L2N.CX P w) (k + 1) F (.Call (.Name x pp) [.Name "a" p1] [] pos) ["a", "b", "c"] (spLam1 spX) := by
  refine lok_of S cl0 hb (fun vs H Q E h => ?_) (fun g A outer s H vs Q E hr h => ?_)
  · obtain ⟨v, x, z, rfl, _⟩ := h
    rfl
  · obtain ⟨v, y, z, rfl, h⟩ := h
    refine ⟨tCallS spX (fun σ => WE (fun cls d _ H => E cls d H) σ) (tCons (tVar 0) tNil), pe_callS GL hr gl DL.g DL.F.kp DL.b (fun σ => L2N.passAt (L2N.takes_of rfl rfl rfl rfl) σ) (pa_cons (pe_var (i := 0) rfl (.inl (S.par "a" (by decide +kernel)))) pa_nil) hx, ?_⟩
    exact ⟨v, rfl, h⟩
end
/-! ### where the lambdas stand in a text -/
def stBody : Stmt → List Stmt
  | .For _ _ l _ _ => l
  | .If _ l _ _ => l
  | .While _ l _ _ => l
  | _ => []
def stEx : Stmt → Expr
  | .If t _ _ _ => t
  | .Assign _ e _ => e
  | .Return (some e) _ => e
  | .Expr e _ => e
  | _ => .Constant .none 0 ⟨0, 0, 0, 0⟩
def exLeft : Expr → Expr
  | .Compare l _ _ _ => l
  | .Subscript l _ _ => l
  | .UnaryOp _ l _ => l
  | e => e
def exArg (i : Nat) : Expr → Expr
  | .Call _ as _ _ => as.getD i (.Constant .none 0 ⟨0, 0, 0, 0⟩)
  | .BoolOp _ as _ => as.getD i (.Constant .none 0 ⟨0, 0, 0, 0⟩)
  | e => e
def lamPs : Expr → Arguments
  | .Lambda p _ _ _ => p
  | _ => ⟨[], [], none, [], [], none, []⟩
def lamBd : Expr → Expr
  | .Lambda _ b _ _ => b
  | e => e
def lamSc : Expr → Scope → Scope
  | .Lambda _ _ s _, _ => s
  | _, s => s
def mkLam (q : Str) (e : Expr) (s : Scope) (c' : Addr) : NF := ⟨"<lambda>", q ++ ".<locals>." ++ "<lambda>", lamPs e, [], lamSc e s, [], c'⟩
end Kw
set_option Elab.async false
set_option linter.all false
set_option maxRecDepth 100000
set_option maxHeartbeats 4000000
namespace Kw
open PySem PySem.Spec PyProof.Rows L2 Evl KwX NdefX LamX
abbrev sRef : Stmt := topS 51
theorem scRef : FnScope ["call", "one", "two", "three", "kin", "e", "words", "word", "there"] ["call", "one", "two", "three"] (defScope sRef) := ⟨rfl, rfl, rfl, by decide +kernel, rfl, by decide +kernel, by decide +kernel⟩
def cnames : List Str := ["NoHouse", "NoColour", "NoRow", "NoBoxes", "NoLaying", "NoNumber", "NoBox", "NoKey", "Locks", "Unlike", "Open", "Shut", "Full", "NothingLeft"]
def nmC (i : Nat) : Str := cnames.getD i default
def resV (bs : Nat → Bool) : List V := (((List.range 14).filter bs).map fun i => V.str (nmC i)) ++ [.bl true]
/-- what the names that _law_refused looks up are; C: the class that was raised -/
structure RefT (K : PySem.W.Frag) (mg : Str → Option Value) (C : Addr) (d : Nat → Addr) (bs : Nat → Bool) (dT dL dB : Addr) : Prop where
  mT : mg "TooMany" = some (.ref dT)
  mL : mg "Locked" = some (.ref dL)
  mB : mg "BoxError" = some (.ref dB)
  m : ∀ i, i < 14 → mg (nmC i) = some (.ref (d i))
  eT : PySem.W.exmOne K (.ref C) (.ref dT) = some false
  eL : PySem.W.exmOne K (.ref C) (.ref dL) = some false
  eB : PySem.W.exmOne K (.ref C) (.ref dB) = some true
  kit : ∀ i, i < 14 → PySem.W.kitOne K (.ref C) (.ref (d i)) = some (bs i)
  kitV : PySem.W.kitOne K (.ref C) (.type "ValueError") = some true
  ec : ExcC K C
  isi : mg "isinstance" = none
  ve : mg "ValueError" = none
theorem takes0N {X : Cx} : L2N.Takes X (fun _ _ _ _ => False) := fun _ _ x => by
  obtain ⟨_, _, _, _, _, _, _, _, _, _, _, _, _, _, _, _, z⟩ := x
  exact z.elim
theorem pss_pre {X : Cx} {l : List Stmt} {t : TS} {φ : Prop} (h : φ → PSs X l t) : PSs X l (fun D σ H => φ ∧ t D σ H) := ⟨fun pins s σ H D I w => (h w.1).run pins s σ H D I w.2⟩
theorem pss_no {X : Cx} {l : List Stmt} : PSs X l (fun _ _ _ => False) := ⟨fun _ _ _ _ _ _ w => False.elim w⟩
section
variable (K : PySem.W.Frag) (C a : Addr) (d : Nat → Addr)
def tIsC (v : V) : TE := tCB (rIsE K C a) (tCons (tVar 5) (tCons (tC v) tNil))
def tPr (i : Nat) : TE := tTup (tCons (tC (.str (nmC i))) (tCons (tIsC K C a (.ref (d i))) tNil))
def tW1 (i : Nat) : TS := tAsg (tOp rCat (tVar 6) (tLst (tCons (tPr K C a d i) tNil))) (gName 6)
def tW2 (i : Nat) : TS := tAsg (tOp rCat (tVar 6) (tLst (tCons (tPr K C a d i) (tCons (tPr K C a d (i + 1)) tNil)))) (gName 6)
def tKin : TS := tAsg (tOp rCat (tLc (iList K (tVar 6)) (gTup K 2 (gCons (gName 7) (gCons (gName 8) gNil))) (tB (tVar 8)) (tVar 7) [7, 8]) (tLst (tCons (tIsC K C a (.ty "ValueError")) tNil))) (gName 4)
def tSui : TS := tSeq (tAsg (tLst (tCons (tPr K C a d 0) (tCons (tPr K C a d 1) tNil))) (gName 6)) (tSeq (tW1 K C a d 2) (tSeq (tW2 K C a d 3) (tSeq (tW2 K C a d 5) (tSeq (tW2 K C a d 7) (tSeq (tW1 K C a d 9) (tSeq (tW2 K C a d 10) (tSeq (tW1 K C a d 12)
  (tSeq (tDrop (tBM K "list" rAppend (tVar 6) (tCons (tPr K C a d 13) tNil))) (tKin K C a)))))))))
end
theorem boot_ValueError : bootBuiltins "ValueError" = some (.type "ValueError") := by decide +kernel
def spRef (K : PySem.W.Frag) (mk : Addr → NF) (b : Expr) (spL : Sp) (C : Addr) (bs : Nat → Bool) : Sp := fun vs H Q _ => ∃ (f c' : Addr) (v1 v2 v3 : V), vs = [.ref f, v1, v2, v3] ∧ H f = some (LamO f (mk c') b) ∧ H (mk c').c = some (CodeO (mk c').c (mk c').qual) ∧
  (∀ H1, Ex H H1 → ∀ (Q' : VK) (E' : XK), (∀ H2, Ex H1 H2 → E' (.ref C) none H2) → spL [v1, v2, v3] H1 Q' E') ∧ ∀ p H2, H p = none → Ex H H2 → H2 p = some (.lst (resV bs)) → Q (.ref p) H2
section
variable {P : Program} {w : World} {K : PySem.W.Frag} {mg : Str → Option Value} {base : Heap}
def tRef (K : PySem.W.Frag) (mk : Addr → NF) (b : Expr) (spL : Sp) (C : Addr) (d : Nat → Addr) (dT dL dB : Addr) : TS :=
  tSeq (tAsg (tLst tNil) (gName 4)) (tSeq (fun D σ H => tDrop (tCallV mk b 0 spL (fun σ => WE (wAsM K 5 (fun _ _ _ _ => False) D [(.ref dT, fun _ _ _ => (fun _ _ _ => False)), (.ref dL, fun _ _ _ => (fun _ _ _ => False)), (.ref dB, fun a cls dd => fun D σ H => (cls = .ref C ∧ dd = none) ∧ tSui K C a d D σ H)]) σ)
    (tCons (tVar 1) (tCons (tVar 2) (tCons (tVar 3) tNil)))) D σ H) (tRet (tVar 4)))
theorem ok_ref' {f : Addr} {fd : FuncData} {k : Nat} {mk : Addr → NF} {b : Expr} {ps : List Str} {spL : Sp} {C dT dL dB : Addr} {d : Nat → Addr} {bs : Nat → Bool} (F : Fun K "_law_refused" "_law_refused" sRef f fd) (T : RefT K mg C d bs dT dL dB) (L : ∀ c', LOk P w K mg base (L2N.CX P w) k (mk c') b ps spL)
    (core : ∀ (f c' : Addr) (v1 v2 v3 : V) (H : Hp) (Q : VK) (nx bk ct : L2.St → Hp → Prop), H f = some (LamO f (mk c') b) → H (mk c').c = some (CodeO (mk c').c (mk c').qual) → ((∀ H1, Ex H H1 → ∀ (Q' : VK) (E' : XK), (∀ H2, Ex H1 H2 → E' (.ref C) none H2) → spL [v1, v2, v3] H1 Q' E')) → (∀ p H2, H p = none → Ex H H2 → H2 p = some (.lst (resV bs)) → Q (.ref p) H2) →
      tRef K mk b spL C d dT dL dB ⟨nx, Q, bk, ct⟩ [some (.ref f), some v1, some v2, some v3, none, none, none, none, none] H) : FnOk P w K mg base CX0 (k + 1) f fd ["call", "one", "two", "three"] (spRef K mk b spL C bs) := by
  refine F.ok scRef (fun vs H Q E h => ?_) (fun cdv A outer s H vs Q E hr h => ?_)
  · obtain ⟨f, c', v1, v2, v3, rfl, _⟩ := h
    rfl
  · obtain ⟨f, c', v1, v2, v3, rfl, hf, hc, q, qq⟩ := h
    refine ⟨tRef K mk b spL C d dT dL dB, pss_cons (ps_set (i := 4) scRef.nd rfl (.inl rfl) (pe_lst pa_nil))
      (pss_cons (ps_try_asM (j := 5) (n := "e") (Wo := fun _ _ _ _ => False) (tb := fun W => tDrop (tCallV mk b 0 spL (fun σ => WE W σ) (tCons (tVar 1) (tCons (tVar 2) (tCons (tVar 3) tNil))))) rfl rfl scRef.nd rfl rfl takes0N
        (fun W pp xe tk _ => pss_one (ps_expr (pe_callV (E := fun σ => WE W σ) (j := k) L hr (Nat.le_refl k) (fun σ => L2N.passAt tk σ) rfl (.inl rfl) (pa_cons (pv 1) (pa_cons (pv 2) (pa_cons (pv 3) pa_nil))))))
        (.cons ⟨rfl, by decide, .inl T.mT⟩ (fun _ _ _ _ _ _ _ => pss_no) (.cons ⟨rfl, by decide, .inl T.mL⟩ (fun _ _ _ _ _ _ _ => pss_no) (.cons ⟨rfl, by decide, .inl T.mB⟩ (fun a oe cls dd pn hz hfs => pss_pre fun hcd => ?_) .nil))))
      (pss_one (ps_ret (pv 4)))), core f c' v1 v2 v3 H _ _ _ _ hf hc q qq⟩
    obtain ⟨rfl, rfl⟩ := hcd
    have hot : ∀ X : Cx, L2H.HotC (X.suite a ((a, oe) :: pn)) := fun X => by
      obtain ⟨vs, hv⟩ := hfs
      exact ⟨(a, oe), ⟨rfl, vs, hv, hz.2.2 vs hv⟩, List.mem_cons_self⟩
    have isE := fun (X : Cx) (ec : ExcC X.K C) => call_isE (X := X) (a := a) (pn := pn) ec hz.zc hfs
    exact (pss_cons (ps_set (i := 6) scRef.nd rfl (.inl rfl) (pe_lst (pa_cons (pe_tup (pa_cons pe_str (pa_cons (pe_callB (isE _ T.ec) (by rfl) T.isi boot_isinstance (pa_cons (pv 5) (pa_cons (pe_glob (v := .ref (d 0)) (by rfl) (T.m 0 (by decide)) rfl) pa_nil))) pa_nil))) (pa_cons (pe_tup (pa_cons pe_str (pa_cons (pe_callB (isE _ T.ec) (by rfl) T.isi boot_isinstance (pa_cons (pv 5) (pa_cons (pe_glob (v := .ref (d 1)) (by rfl) (T.m 1 (by decide)) rfl) pa_nil))) pa_nil))) pa_nil))))
          (pss_cons (ps_set (i := 6) scRef.nd rfl (.inl rfl) (pe_op op_cat (pv 6) (pe_lst (pa_cons (pe_tup (pa_cons pe_str (pa_cons (pe_callB (isE _ T.ec) (by rfl) T.isi boot_isinstance (pa_cons (pv 5) (pa_cons (pe_glob (v := .ref (d 2)) (by rfl) (T.m 2 (by decide)) rfl) pa_nil))) pa_nil))) pa_nil))))
          (pss_cons (ps_set (i := 6) scRef.nd rfl (.inl rfl) (pe_op op_cat (pv 6) (pe_lst (pa_cons (pe_tup (pa_cons pe_str (pa_cons (pe_callB (isE _ T.ec) (by rfl) T.isi boot_isinstance (pa_cons (pv 5) (pa_cons (pe_glob (v := .ref (d 3)) (by rfl) (T.m 3 (by decide)) rfl) pa_nil))) pa_nil))) (pa_cons (pe_tup (pa_cons pe_str (pa_cons (pe_callB (isE _ T.ec) (by rfl) T.isi boot_isinstance (pa_cons (pv 5) (pa_cons (pe_glob (v := .ref (d 4)) (by rfl) (T.m 4 (by decide)) rfl) pa_nil))) pa_nil))) pa_nil)))))
          (pss_cons (ps_set (i := 6) scRef.nd rfl (.inl rfl) (pe_op op_cat (pv 6) (pe_lst (pa_cons (pe_tup (pa_cons pe_str (pa_cons (pe_callB (isE _ T.ec) (by rfl) T.isi boot_isinstance (pa_cons (pv 5) (pa_cons (pe_glob (v := .ref (d 5)) (by rfl) (T.m 5 (by decide)) rfl) pa_nil))) pa_nil))) (pa_cons (pe_tup (pa_cons pe_str (pa_cons (pe_callB (isE _ T.ec) (by rfl) T.isi boot_isinstance (pa_cons (pv 5) (pa_cons (pe_glob (v := .ref (d 6)) (by rfl) (T.m 6 (by decide)) rfl) pa_nil))) pa_nil))) pa_nil)))))
          (pss_cons (ps_set (i := 6) scRef.nd rfl (.inl rfl) (pe_op op_cat (pv 6) (pe_lst (pa_cons (pe_tup (pa_cons pe_str (pa_cons (pe_callB (isE _ T.ec) (by rfl) T.isi boot_isinstance (pa_cons (pv 5) (pa_cons (pe_glob (v := .ref (d 7)) (by rfl) (T.m 7 (by decide)) rfl) pa_nil))) pa_nil))) (pa_cons (pe_tup (pa_cons pe_str (pa_cons (pe_callB (isE _ T.ec) (by rfl) T.isi boot_isinstance (pa_cons (pv 5) (pa_cons (pe_glob (v := .ref (d 8)) (by rfl) (T.m 8 (by decide)) rfl) pa_nil))) pa_nil))) pa_nil)))))
          (pss_cons (ps_set (i := 6) scRef.nd rfl (.inl rfl) (pe_op op_cat (pv 6) (pe_lst (pa_cons (pe_tup (pa_cons pe_str (pa_cons (pe_callB (isE _ T.ec) (by rfl) T.isi boot_isinstance (pa_cons (pv 5) (pa_cons (pe_glob (v := .ref (d 9)) (by rfl) (T.m 9 (by decide)) rfl) pa_nil))) pa_nil))) pa_nil))))
          (pss_cons (ps_set (i := 6) scRef.nd rfl (.inl rfl) (pe_op op_cat (pv 6) (pe_lst (pa_cons (pe_tup (pa_cons pe_str (pa_cons (pe_callB (isE _ T.ec) (by rfl) T.isi boot_isinstance (pa_cons (pv 5) (pa_cons (pe_glob (v := .ref (d 10)) (by rfl) (T.m 10 (by decide)) rfl) pa_nil))) pa_nil))) (pa_cons (pe_tup (pa_cons pe_str (pa_cons (pe_callB (isE _ T.ec) (by rfl) T.isi boot_isinstance (pa_cons (pv 5) (pa_cons (pe_glob (v := .ref (d 11)) (by rfl) (T.m 11 (by decide)) rfl) pa_nil))) pa_nil))) pa_nil)))))
          (pss_cons (ps_set (i := 6) scRef.nd rfl (.inl rfl) (pe_op op_cat (pv 6) (pe_lst (pa_cons (pe_tup (pa_cons pe_str (pa_cons (pe_callB (isE _ T.ec) (by rfl) T.isi boot_isinstance (pa_cons (pv 5) (pa_cons (pe_glob (v := .ref (d 12)) (by rfl) (T.m 12 (by decide)) rfl) pa_nil))) pa_nil))) pa_nil))))
          (pss_cons (ps_expr (pe_bm PySem.F.plainAttrs_list PySem.F.slot_list_append PySem.F.type_list_append mt_append (pv 6) (pa_cons (pe_tup (pa_cons pe_str (pa_cons (pe_callB (isE _ T.ec) (by rfl) T.isi boot_isinstance (pa_cons (pv 5) (pa_cons (pe_glob (v := .ref (d 13)) (by rfl) (T.m 13 (by decide)) rfl) pa_nil))) pa_nil))) pa_nil)))
          (pss_one (ps_set (i := 4) scRef.nd rfl (.inl rfl) (pe_op op_cat (pe_lcH (own := [("word", 7), ("there", 8)]) (g := gTup K 2 (gCons (gName 7) (gCons (gName 8) gNil))) (tt := tB (tVar 8)) (te := tVar 7) (hot _) scRef.nd (pi_listH (pv 6)) (blkOk_by (N := ["call", "one", "two", "three", "kin", "e", "words", "word", "there"]) (sc := defScope sRef) (by decide +kernel))
          (fun _ _ _ _ _ => pg_tupH (hot _) (pgs_cons (pg_name (i := 7) scRef.nd rfl (.inl rfl)) (pgs_cons (pg_name (i := 8) scRef.nd rfl (.inl rfl)) pgs_nil))) (fun _ _ _ _ _ => pts_one (pt_val (pv 8))) (fun _ _ _ _ _ => pv 7))
          (pe_lst (pa_cons (pe_callB (isE _ T.ec) (by rfl) T.isi boot_isinstance (pa_cons (pv 5) (pa_cons (pe_bltn (v := .ty "ValueError") (by rfl) T.ve boot_ValueError rfl) pa_nil))) pa_nil))))))))))))))
end
end Kw
set_option Elab.async false
set_option linter.all false
set_option maxRecDepth 100000
set_option maxHeartbeats 4000000
namespace Kw
open PySem PySem.Spec PyProof.Rows L2 Evl KwX NdefX LamX
def PairAt (K : PySem.W.Frag) (bs : Nat → Bool) (H : Hp) (v : V) (i : Nat) : Prop := ∃ t, v = .ref t ∧ SqT K H t [.str (nmC i), .bl (bs i)]
def WdAt (K : PySem.W.Frag) (bs : Nat → Bool) (H : Hp) (l : Addr) (n : Nat) : Prop := ∃ vs, H l = some (.lst vs) ∧ Paired (PairAt K bs H) vs (List.range n)
section
variable {K : PySem.W.Frag} {mg : Str → Option Value} {C a dT dL dB : Addr} {d : Nat → Addr} {bs : Nat → Bool} {σ : L2.St} {H H' : Hp} {D : Ends} {tz : TS}
theorem PairAt.ex {v : V} {i : Nat} (e : Ex H H') (h : PairAt K bs H v i) : PairAt K bs H' v i := by
  obtain ⟨t, h1, h2⟩ := h
  exact ⟨t, h1, ex_t e h2⟩
theorem ev_isC (T : RefT K mg C d bs dT dL dB) (h5 : σ[5]? = some (some (.ref a))) {i : Nat} (hi : i < 14) : Ev (tIsC K C a (.ref (d i))) σ H (.bl (bs i)) := fun H1 e Q q =>
  ⟨.ref a, h5, .ref (d i), .ref (d i), bs i, rfl, fun u r => r, T.kit i hi, q H1 (Ex.refl H1)⟩
theorem ev_isV (T : RefT K mg C d bs dT dL dB) (h5 : σ[5]? = some (some (.ref a))) : Ev (tIsC K C a (.ty "ValueError")) σ H (.bl true) := fun H1 e Q q =>
  ⟨.ref a, h5, .ty "ValueError", .type "ValueError", true, rfl, fun u r => r, T.kitV, q H1 (Ex.refl H1)⟩
theorem eu_pr (T : RefT K mg C d bs dT dL dB) (h5 : σ[5]? = some (some (.ref a))) {i : Nat} (hi : i < 14) : EvU (tPr K C a d i) σ H [.str (nmC i), .bl (bs i)] :=
  eu_tup (ea_cons ev_c (ea_cons (ev_isC T h5 hi) ea_nil)) (by show 2 ≤ 100000; decide)
theorem q_cat1U {te : TE} {xs vs : List V} {i j : Nat} {l : Addr} (h : EvU te σ H xs) (hj : σ[j]? = some (some (.ref l))) (hl : H l = some (.lst vs)) (len : vs.length ≤ 1000) (k : ∀ r t H1, H r = none → Ex H H1 → H1 t = some (.tup xs) → H1 r = some (.lst (vs ++ [.ref t])) → tz D (σ.set i (some (.ref r))) H1) :
    tSeq (tAsg (tOp rCat (tVar j) (tLst (tCons te tNil))) (gName i)) tz D σ H := by
  refine ⟨.ref l, hj, h H (Ex.refl H) _ fun t H1 nt e1 ht => ⟨by show 1 ≤ sizeLine; decide, fun q hq => ⟨l, q, vs, [.ref t], rfl, rfl, (Ex.new hq) _ _ (e1 _ _ hl), upd_same, sz_of (by rw [List.length_singleton]; omega), fun r hr => ?_⟩⟩⟩
  have e2 := (Ex.new (o := .lst [.ref t]) hq).trans (Ex.new (o := .lst (vs ++ [.ref t])) hr)
  exact k r t _ (fresh_back (e1.trans (Ex.new hq)) hr) (e1.trans e2) (e2 _ _ ht) upd_same
theorem q_cat2U {te tu : TE} {xs ys vs : List V} {i j : Nat} {l : Addr} (h : EvU te σ H xs) (h' : ∀ H1, EvU tu σ H1 ys) (hj : σ[j]? = some (some (.ref l))) (hl : H l = some (.lst vs)) (len : vs.length ≤ 1000)
    (k : ∀ r t u H1, Ex H H1 → H1 t = some (.tup xs) → H1 u = some (.tup ys) → H1 r = some (.lst (vs ++ [.ref t, .ref u])) → tz D (σ.set i (some (.ref r))) H1) : tSeq (tAsg (tOp rCat (tVar j) (tLst (tCons te (tCons tu tNil)))) (gName i)) tz D σ H := by
  refine ⟨.ref l, hj, h H (Ex.refl H) _ fun t H1 nt e1 ht => h' H1 H1 (Ex.refl H1) _ fun u H2 nu e2 hu => ⟨by show 2 ≤ sizeLine; decide, fun q hq => ⟨l, q, vs, [.ref t, .ref u], rfl, rfl, (Ex.new hq) _ _ (e2 _ _ (e1 _ _ hl)), upd_same, sz_of (by show vs.length + 2 ≤ _; omega), fun r hr => ?_⟩⟩⟩
  have e3 := (Ex.new (o := .lst [.ref t, .ref u]) hq).trans (Ex.new (o := .lst (vs ++ [.ref t, .ref u])) hr)
  exact k r t u _ ((e1.trans e2).trans e3) (e3 _ _ (e2 _ _ ht)) (e3 _ _ hu) upd_same
theorem q_lst2U {te tu : TE} {xs ys : List V} {i : Nat} (h : EvU te σ H xs) (h' : ∀ H1, EvU tu σ H1 ys) (k : ∀ r t u H1, Ex H H1 → H1 t = some (.tup xs) → H1 u = some (.tup ys) → H1 r = some (.lst [.ref t, .ref u]) → tz D (σ.set i (some (.ref r))) H1) :
    tSeq (tAsg (tLst (tCons te (tCons tu tNil))) (gName i)) tz D σ H :=
  h H (Ex.refl H) _ fun t H1 nt e1 ht => h' H1 H1 (Ex.refl H1) _ fun u H2 nu e2 hu => ⟨by show 2 ≤ sizeLine; decide, fun q hq => k q t u _ ((e1.trans e2).trans (Ex.new hq)) ((Ex.new hq) _ _ (e2 _ _ ht)) ((Ex.new hq) _ _ hu) upd_same⟩
theorem q_appUt {te : TE} {xs vs : List V} {j : Nat} {l : Addr} (h : EvU te σ H xs) (hj : σ[j]? = some (some (.ref l))) (hl : H l = some (.lst vs)) (len : vs.length ≤ 1000) (k : ∀ t H1, Ex H H1 → H1 t = some (.tup xs) → H1 l = some (.lst vs) → tz D σ (upd H1 l (.lst (vs ++ [.ref t])))) :
    tSeq (tDrop (tBM K "list" rAppend (tVar j) (tCons te tNil))) tz D σ H :=
  ⟨.ref l, hj, .inl ⟨rfl, _, sq_of hl⟩, h H (Ex.refl H) _ fun t H1 nt e1 ht => ⟨l, vs, .ref t, rfl, rfl, e1 _ _ hl, sz_lt (by omega), k t H1 e1 ht (e1 _ _ hl)⟩⟩
theorem w1 (T : RefT K mg C d bs dT dL dB) (h5 : σ[5]? = some (some (.ref a))) {l : Addr} {n : Nat} (hn : n < 14) (h6 : σ[6]? = some (some (.ref l))) (hW : WdAt K bs H l n) (k : ∀ r H1, H r = none → Ex H H1 → WdAt K bs H1 r (n + 1) → tz D (σ.set 6 (some (.ref r))) H1) :
    tSeq (tW1 K C a d n) tz D σ H := by
  obtain ⟨vs, hl, hp⟩ := hW
  have len : vs.length = n := by rw [paired_len hp, List.length_range]
  refine q_cat1U (eu_pr T h5 hn) h6 hl (by omega) fun r t H1 nr e ht hr => k r H1 nr e ⟨vs ++ [.ref t], hr, ?_⟩
  rw [List.range_succ]
  exact paired_app (paired_imp hp fun _ _ x => x.ex e) ⟨t, rfl, st_of ht⟩
theorem w2 (T : RefT K mg C d bs dT dL dB) (h5 : σ[5]? = some (some (.ref a))) {l : Addr} {n : Nat} (hn : n + 1 < 14) (h6 : σ[6]? = some (some (.ref l))) (hW : WdAt K bs H l n) (k : ∀ r H1, Ex H H1 → WdAt K bs H1 r (n + 2) → tz D (σ.set 6 (some (.ref r))) H1) :
    tSeq (tW2 K C a d n) tz D σ H := by
  obtain ⟨vs, hl, hp⟩ := hW
  have len : vs.length = n := by rw [paired_len hp, List.length_range]
  refine q_cat2U (eu_pr T h5 (by omega)) (fun H1 => eu_pr T h5 hn) h6 hl (by omega) fun r t u H1 e ht hu hr => k r H1 e ⟨vs ++ [.ref t, .ref u], hr, ?_⟩
  rw [List.range_succ, List.range_succ, show vs ++ [V.ref t, V.ref u] = (vs ++ [.ref t]) ++ [.ref u] by simp]
  exact paired_app (paired_app (paired_imp hp fun _ _ x => x.ex e) ⟨t, rfl, st_of ht⟩) ⟨u, rfl, st_of hu⟩
theorem sui_ok (T : RefT K mg C d bs dT dL dB) {y0 y1 y2 y3 y4 : Option V} (k : ∀ p y6 y7 y8 H1, H p = none → Ex H H1 → H1 p = some (.lst (resV bs)) → D.nx [y0, y1, y2, y3, some (.ref p), some (.ref a), y6, y7, y8] H1) :
    tSui K C a d D [y0, y1, y2, y3, y4, some (.ref a), none, none, none] H := by
  refine q_lst2U (i := 6) (eu_pr T rfl (by decide)) (fun H1 => eu_pr T rfl (by decide)) fun q t u G0 f0 ht hu hq => ?_
  have g0 : WdAt K bs G0 q 2 := ⟨_, hq, .cons ⟨t, rfl, st_of ht⟩ (.cons ⟨u, rfl, st_of hu⟩ .nil)⟩
  refine w1 T rfl (by decide) rfl g0 fun q1 G1 _ f1 g1 => ?_
  refine w2 T rfl (by decide) rfl g1 fun q2 G2 f2 g2 => ?_
  refine w2 T rfl (by decide) rfl g2 fun q3 G3 f3 g3 => ?_
  refine w2 T rfl (by decide) rfl g3 fun q4 G4 f4 g4 => ?_
  refine w1 T rfl (by decide) rfl g4 fun q5 G5 _ f5 g5 => ?_
  refine w2 T rfl (by decide) rfl g5 fun q6 G6 f6 g6 => ?_
  refine w1 T rfl (by decide) rfl g6 fun q7 G7 n7 f7 g7 => ?_
  have eB := ((((((f0.trans f1).trans f2).trans f3).trans f4).trans f5).trans f6).trans f7
  obtain ⟨vs, hl, hp⟩ := g7
  have len : vs.length = 13 := by rw [paired_len hp, List.length_range]
  have nH : H q7 = none := fresh_back ((((((f0.trans f1).trans f2).trans f3).trans f4).trans f5).trans f6) n7
  refine q_appUt (K := K) (eu_pr T rfl (by decide)) rfl hl (by omega) fun t9 G8 e8 ht8 hl8 => ?_
  have kp := KeepT.lst (ys := vs ++ [.ref t9]) hl8
  have eC : Ex H (upd G8 q7 (.lst (vs ++ [.ref t9]))) := Ex.mut (eB.trans e8) nH
  have hq9 : upd G8 q7 (.lst (vs ++ [.ref t9])) q7 = some (.lst (vs ++ [.ref t9])) := upd_same
  have hp9 : Paired (PairAt K bs (upd G8 q7 (.lst (vs ++ [.ref t9])))) (vs ++ [.ref t9]) (List.range 14) := by
    rw [List.range_succ]
    refine paired_app (paired_imp hp fun _ _ x => ?_) ⟨t9, rfl, keep_t kp (st_of ht8)⟩
    obtain ⟨z, z1, z2⟩ := x
    exact ⟨z, z1, keep_t ((KeepT.ex e8).trans kp) z2⟩
  generalize upd G8 q7 (.lst (vs ++ [.ref t9])) = G at eC hq9 hp9
  have len9 : (vs ++ [V.ref t9]).length = 14 := by rw [List.length_append, List.length_singleton, len]
  refine s_asgL (i := 4) (xs := resV bs) (el_catN (el_lc (ew_list (K := K) (ev_var (v := .ref q7) rfl) (sq_of hq9)) (by omega) bs (fun i => .str (nmC i)) (by rw [len9]) (fun i x H1 H2 Q e hi hy kk => ?_)) (el_lst (ea_cons (ev_isV T rfl) ea_nil) (by show 1 ≤ 100000; decide)) ?_) fun p G9 np e9 hpp => k p _ _ _ G9 (fresh_back eC np) (eC.trans e9) hpp
  · obtain ⟨rfl, hx⟩ := hy
    obtain ⟨j, hj, t, rfl, ht⟩ := paired_get hp9 hx
    have hji : j = i := by
      rw [len9] at hi
      rw [List.getElem?_range hi] at hj
      exact (Option.some.inj hj).symm
    subst hji
    refine ⟨t, _, rfl, ex_t e ht, rfl, .str (nmC j), [.bl (bs j)], rfl, .bl (bs j), [], rfl, rfl, kk _ _ (Ex.refl _) rfl (et_B (ev_var rfl)) fun _ => ev_var rfl⟩
  · rw [List.length_map]
    have := List.length_filter_le bs (List.range 14)
    rw [List.length_range] at this
    show _ + 1 ≤ 100000
    omega
theorem ref_core {mk : Addr → NF} {b : Expr} {spL : Sp} (T : RefT K mg C d bs dT dL dB) {f c' : Addr} {v1 v2 v3 : V} {Q : VK} {nx bk ct : L2.St → Hp → Prop} (hf : H f = some (LamO f (mk c') b)) (hc : H (mk c').c = some (CodeO (mk c').c (mk c').qual))
    (q : ∀ H1, Ex H H1 → ∀ (Q' : VK) (E' : XK), (∀ H2, Ex H1 H2 → E' (.ref C) none H2) → spL [v1, v2, v3] H1 Q' E') (qq : ∀ p H2, H p = none → Ex H H2 → H2 p = some (.lst (resV bs)) → Q (.ref p) H2) :
    tRef K mk b spL C d dT dL dB ⟨nx, Q, bk, ct⟩ [some (.ref f), some v1, some v2, some v3, none, none, none, none, none] H := by
  refine q_asgL (i := 4) (xs := []) (el_lst ea_nil (by decide)) fun kp H1 n1 e1 hk => ?_
  refine ⟨f, c', rfl, e1 _ _ hf, v1, rfl, v2, rfl, v3, rfl, e1 _ _ hf, e1 _ _ hc, ?_⟩
  refine q H1 e1 _ _ fun H2 e2 => ?_
  refine ⟨false, T.eT, (fun h => by cases h), fun _ => ⟨false, T.eL, (fun h => by cases h), fun _ => ⟨true, T.eB, fun _ a na => ⟨⟨rfl, rfl⟩, ?_⟩, fun h => by cases h⟩⟩⟩
  refine sui_ok (a := a) T fun p y6 y7 y8 H3 np e3 hp => ?_
  exact ⟨.ref p, rfl, qq p H3 (fresh_back (e1.trans e2) np) ((e1.trans e2).trans e3) hp⟩
end
end Kw
set_option Elab.async false
set_option linter.all false
set_option maxRecDepth 100000
set_option maxHeartbeats 4000000
namespace Kw
open PySem PySem.Spec PyProof.Rows L2 Evl KwX NdefX LamX
/-- all but the bag at a and the tables stays -/
def XB (a : Addr) (H H' : Hp) : Prop := ∀ b o, b ≠ a → H b = some o → (∀ ps, o ≠ .tbl ps) → H' b = some o
theorem XB.refl (a : Addr) (H : Hp) : XB a H H := fun _ _ _ h _ => h
theorem XB.trans {a : Addr} {H H1 H2 : Hp} (x : XB a H H1) (y : XB a H1 H2) : XB a H H2 := fun b o n h t => y b o n (x b o n h t) t
theorem XB.b {a : Addr} {H H' : Hp} (e : ExB a H H') : XB a H H' := fun b o n h _ => e b o n h
theorem XB.n {a : Addr} {H H' : Hp} (e : ExtN H H') : XB a H H' := fun b o _ h t => e b o h t
theorem XB.ex {a : Addr} {H H' : Hp} (e : Ex H H') : XB a H H' := fun b o _ h _ => e b o h
theorem Bag.n {H H' : Hp} {a : Addr} (e : ExtN H H') (h : Bag H a) : Bag H' a := by
  obtain ⟨d, n, xs, h1, h2, h3⟩ := h
  exact ⟨d, n, xs, e _ _ h1 (fun ps z => by cases z), e _ _ h2 (fun ps z => by cases z), h3⟩
theorem Tabs.bag {T : List (Addr × Str)} {H H' : Hp} {a : Addr} (h : Bag H a) (e : ExB a H H') (t : Tabs T H) : Tabs T H' := fun p hp => by
  obtain ⟨d, n, xs, g1, _⟩ := h
  obtain ⟨ps, h1, h2, h3⟩ := t p hp
  have ne1 : p.1 ≠ a := fun z => by
    rw [z, g1] at h1
    cases h1
  refine ⟨ps, e _ _ ne1 h1, h2, fun pos cv hc => ?_⟩
  obtain ⟨c, e1, e2⟩ := h3 pos cv hc
  refine ⟨c, e1, e _ _ (fun z => ?_) e2⟩
  rw [z, g1] at e2
  unfold CodeO at e2
  cases e2
theorem Bag.otherX {H H' : Hp} {a b : Addr} (hb : Bag H b) (ha : Bag H a) (e : XB a H H') (ha' : Bag H' a) : Bag H' b := by
  by_cases hab : b = a
  · rw [hab]
    exact ha'
  · obtain ⟨d, n, xs, g1, g2, g3⟩ := hb
    obtain ⟨d', n', xs', f1, _⟩ := ha
    have hd : d ≠ a := fun z => by
      rw [z, f1] at g2
      have e := congrArg List.length (HO.lst.inj (Option.some.inj g2))
      rw [List.length_map, g3.1] at e
      cases e
    exact ⟨d, n, xs, e _ _ hab g1 (fun ps z => by cases z), e _ _ hd g2 (fun ps z => by cases z), g3⟩
theorem XB.keepT {H H' : Hp} {a : Addr} (h : Bag H a) (e : XB a H H') : KeepT H H' := fun b xs r => by
  obtain ⟨d, n, ys, h1, _⟩ := h
  have nb : b ≠ a := by
    rintro rfl
    rcases r with r | ⟨o, r⟩
    · rw [h1] at r; cases r
    · rw [h1] at r; cases r
  rcases r with r | ⟨o, r⟩
  · exact .inl (e _ _ nb r (fun ps z => by cases z))
  · exact .inr ⟨o, e _ _ nb r (fun ps z => by cases z)⟩
/-- the loop over the bags of a script, lambdas made on the way -/
theorem bags_forT {K : PySem.W.Frag} {T : List (Addr × Str)} {lim : Nat} {D : Ends} {body : TS} {σ : L2.St} {H : Hp} {a : Addr} {ns : List Int} (S : L2.St → Prop) (h0 : σ[0]? = some (some (.ref a))) (hS : SqL K H a (ns.map V.int)) (hl : ns.length ≤ 63) (hT : Tabs T H) (hs : S σ)
    (turn : ∀ b H1 σ' (N : L2.St → Hp → Prop), S σ' → Bag H1 b → Tabs T H1 → (∀ σ'' H'', S σ'' → XB b H1 H'' → Bag H'' b → Tabs T H'' → N σ'' H'') → body { D with nx := N, ct := N, bk := D.nx } (σ'.set 1 (some (.ref b))) H1)
    (done : ∀ σ' H', S σ' → Tabs T H' → D.nx σ' H') : tFor (iList K (tCall (spBags K lim) [] E0 (tCons (tVar 0) (tCons (tC (.int lim)) tNil)))) (gName 1) body D σ H := by
  refine ⟨.ref a, h0, a, ns, rfl, hS, by omega, fun p ys H1 np e1 hp hB hne hln => ⟨p, rfl, ⟨ys, sq_of hp⟩, ?_⟩⟩
  refine for_it (walk_list (K := K) (a := p) (xs := ys)) (fun _ σ' H' => S σ' ∧ H' p = some (.lst ys) ∧ BagsAt H' ys ∧ Tabs T H') ⟨hs, hp, hB, hT.ext e1⟩ (fun i σ' H' _ hP => sq_of hP.2.1) (fun i x σ' H2 H3 hi hP hy => ?_) (fun σ' H2 hP => done σ' H2 hP.1 hP.2.2.2)
  obtain ⟨s2, hp2, hB2, hT2⟩ := hP
  obtain ⟨rfl, hx⟩ := hy
  have hm := List.mem_of_getElem? hx
  obtain ⟨b, rfl, hb⟩ := hB2 x hm
  have hpb : p ≠ b := fun z => hne _ hm (by rw [z])
  exact turn b _ σ' _ s2 hb hT2 fun σ'' H'' hs x2 b2 t2 => ⟨hs, x2 _ _ hpb hp2 (fun ps z => by cases z), (fun y hy => by
    obtain ⟨b', rfl, hb'⟩ := hB2 y hy
    exact ⟨b', rfl, hb'.otherX hb x2 b2⟩), t2⟩
def spLawX (K : PySem.W.Frag) (T : List (Addr × Str)) : Sp := fun vs H Q _ => ∃ (a : Addr) (ns : List Int), vs = [.ref a] ∧ SqL K H a (ns.map V.int) ∧ ns.length ≤ 63 ∧ Tabs T H ∧ ∀ H', Q (.bl true) H'
section
variable {K : PySem.W.Frag} {T : List (Addr × Str)} {C : Addr} {σ : L2.St} {H : Hp} {D : Ends} {tu tz : TS} {ta : TA} {mk : Addr → NF} {b : Expr} {spL : Sp}
/-- a list of a text and True, beside the like -/
theorem rv_neSB {p q : Addr} {x y : Str} (sx : PyData.strOk x = true) (sy : PyData.strOk y = true) (h1 : SqL K H p [.str x, .bl true]) (h2 : SqL K H q [.str y, .bl true]) : RV (rNeD K) (.ref p) (.ref q) H (.bl (!decide (x = y))) := fun H1 e Q k =>
  ⟨.list [.str x, .bool true], .list [.str y, .bool true], .lst (ex_l e h1) (.cons (.str x) (.cons (.bl true) .nil)), .lst (ex_l e h2) (.cons (.str y) (.cons (.bl true) .nil)), by simp [SeqAt.shaped, PyData.canLayAll0, PyData.canLay0, PyData.depth, PyData.depthAll, sx], by simp [SeqAt.shaped, PyData.canLayAll0, PyData.canLay0, PyData.depth, PyData.depthAll, sy], by
    have : PyData.eqv (.list [.str x, .bool true]) (.list [.str y, .bool true]) = decide (x = y) := by
      simp [PyData.eqv, PyData.eqvAll, str_beq]
    rw [this]
    exact k H1 (Ex.refl H1)⟩
/-- if _law_refused(lambda .., ..) != ["X", True]: .. , where X is refused -/
theorem s_ref (j : Nat) {v1 v2 v3 : V} {nm : Str} (hnm : PyData.strOk nm = true) (hres : resV (fun i => decide (i = j)) = [.str nm, .bl true]) (hT : Tabs T H) (ha : ∀ H1, ExtN H H1 → EvA ta σ H1 [v1, v2, v3])
    (hL : ∀ H1, ExtN H H1 → ∀ (Q' : VK) (E' : XK), (∀ H2, Ex H1 H2 → E' (.ref C) none H2) → spL [v1, v2, v3] H1 Q' E') (k : ∀ H1, ExtN H H1 → Tabs T H1 → D.nx σ H1) (hmk : ∀ c', (mk c').c = c' := by intro _; rfl) :
    tIfS (tTest (tOp (rNeD K) (tCall (spRef K mk b spL C (fun i => decide (i = j))) [] E0 (tCons (tLamV T mk b) ta)) (tLst (tCons (tC (.str nm)) (tCons (tC (.bl true)) tNil))))) tu tNext D σ H := by
  refine ⟨hT, fun f c' H1 eN nn T1 nf hf hc => ha H1 eN H1 (Ex.refl H1) _ fun H2 e2 => ⟨f, c', v1, v2, v3, rfl, e2 _ _ hf, by rw [hmk]; exact e2 _ _ hc, fun H3 e Q' E' hE => hL H3 (fun b o hb n => (e2.trans e) _ _ (eN b o hb n)) Q' E' hE, fun p H3 np e3 hp => ?_⟩⟩
  refine ⟨by show 2 ≤ sizeLine; decide, fun q nq => ?_⟩
  rw [hres] at hp
  have e4 := Ex.new (o := .lst [.str nm, .bl true]) nq
  refine rv_neSB (K := K) (x := nm) (y := nm) hnm hnm (sq_of (e4 _ _ hp)) (sq_of upd_same) _ (Ex.refl _) _ fun H5 e5 => ⟨_, rfl, ?_⟩
  rw [decide_eq_true rfl]
  have eA := ((e2.trans e3).trans e4).trans e5
  exact k H5 (fun b o hb n => eA _ _ (eN b o hb n)) (T1.ext eA)
theorem q_ref (j : Nat) {v1 v2 v3 : V} {nm : Str} (hnm : PyData.strOk nm = true) (hres : resV (fun i => decide (i = j)) = [.str nm, .bl true]) (hT : Tabs T H) (ha : ∀ H1, ExtN H H1 → EvA ta σ H1 [v1, v2, v3])
    (hL : ∀ H1, ExtN H H1 → ∀ (Q' : VK) (E' : XK), (∀ H2, Ex H1 H2 → E' (.ref C) none H2) → spL [v1, v2, v3] H1 Q' E') (k : ∀ H1, ExtN H H1 → Tabs T H1 → tz D σ H1) (hmk : ∀ c', (mk c').c = c' := by intro _; rfl) :
    tSeq (tIfS (tTest (tOp (rNeD K) (tCall (spRef K mk b spL C (fun i => decide (i = j))) [] E0 (tCons (tLamV T mk b) ta)) (tLst (tCons (tC (.str nm)) (tCons (tC (.bl true)) tNil))))) tu tNext) tz D σ H :=
  s_ref (D := { D with nx := tz D }) j hnm hres hT ha hL k hmk
end
end Kw
set_option Elab.async false
set_option linter.all false
set_option maxRecDepth 100000
set_option maxHeartbeats 4000000
namespace Kw
open PySem PySem.Spec PyProof.Rows L2 Evl KwX NdefX LamX
section
variable {P : Program} {w : World} {K : PySem.W.Frag} {mg : Str → Option Value} {base : Heap}
/-! ### shut_with of what is no rising tuple of boxes -/
def spShWX (K : PySem.W.Frag) (C : Addr) : Sp := fun vs H _ E => ∃ (v x : V) (h : House) (d : PyData), vs = [v, x] ∧ HouseAt K H v h ∧ OkHouse h ∧ Dp K H x d ∧ boxesD h.1.length d = false ∧ ∀ H', Ex H H' → E (.ref C) none H'
theorem ok_shWX {f fChk fIsB : Addr} {fd fdChk fdIsB : FuncData} {k : Nat} (F : Fun K "shut_with" "shut_with" sShW f fd) (DChk : Df K mg "check_house" sChk ["house"] fChk fdChk) (DIsB : Df K mg "is_boxes" sIsB ["thing", "many"] fIsB fdIsB) (GChk : FnOk P w K mg base CX0 (k + 4) fChk fdChk ["house"] (spChk K)) (GIsB : FnOk P w K mg base CX0 (k + 2) fIsB fdIsB ["thing", "many"] (spIsB K)) {C : Addr} (T : ExcT K mg "NoBoxes" C) (B : Bu mg) : FnOk P w K mg base (L2N.CX P w) (k + 5) f fd ["house", "broken"] (spShWX K C) := by
  refine okN F scShW (fun vs H Q E h => ?_) (fun cdv A outer s H vs Q E hr h => ?_)
  · obtain ⟨v, x, h, d, rfl, _⟩ := h
    rfl
  · obtain ⟨v, x, h, d, rfl, hA, ho, hd, hbx, q⟩ := h
    have hA' := hA
    obtain ⟨a, bb, kk, rfl, ha, hb, hk⟩ := hA'
    refine ⟨_, (pss_cons (ps_expr (pcall DChk GChk (hr.mono (by omega)) (pa_cons (pv 0) pa_nil)))
      (pss_cons (ps_asg (pv 0) (pg_tup rfl (pgs_cons (pg_name (i := 2) scShW.nd rfl (.inl rfl)) (pgs_cons (pg_name (i := 3) scShW.nd rfl (.inl rfl)) pgs_nil))))
      (pss_cons (ps_if (pt_not (pt_val (pcall DIsB GIsB (hr.mono (by omega)) (pa_cons (pv 1) (pa_cons (pe_callB call_len_seq (by rfl) B.len PySem.boot_len (pa_cons (pv 2) pa_nil)) pa_nil))))) (pss_one (L2N.ps_raise rfl (L2N.takes_of rfl rfl rfl rfl) (L2N.pmk_own PySem.F.excBase_ValueError T.q T.g T.k (raises_own T.b T.t) (by exact rfl)))) pss_nil) pss_never))), ?_⟩
    refine q_drop (ev_call (z := .non) (ea_cons (ev_var rfl) ea_nil) (SpV.of fun H2 e2 Q q E => ⟨_, h, rfl, hA.keep (KeepT.ex e2), ho, q⟩)) fun H1 e1 => ?_
    refine ⟨.ref a, rfl, a, _, rfl, ex_t e1 ha, rfl, .ref bb, [.ref kk], rfl, .ref kk, [], rfl, rfl, ?_⟩
    have hBS : BoxesS K H1 bb h.1 := BoxesS.of (hb.keep (KeepT.ex e1))
    have hB1 : Ev (tCall (spIsB K) [] E0 (tCons (tVar 1) (tCons (tCB (rLenS K) (tCons (tVar 2) tNil)) tNil))) [some (.ref a), some x, some (.ref bb), some (.ref kk)] H1 (.bl false) :=
      ev_call (ea_cons (ev_var (v := x) rfl) (ea_cons (ev_lenB (K := K) (ev_var (v := .ref bb) rfl) hBS) ea_nil)) (SpV.of fun H2 e2 Q q E => ⟨x, d, h.1.length, rfl, dp_ex (e1.trans e2) _ _ hd, by rw [hbx]; exact q⟩)
    exact q_when (σ := [some (.ref a), some x, some (.ref bb), some (.ref kk)]) (H := H1) (b := true) (et_not (et_B hB1)) (tu := fun _ _ H => E (.ref C) none H) (tz := tNever) (fun _ H2 e2 => q H2 (e1.trans e2)) (fun hb => absurd hb (by decide))
/-! ### _law_right -/
def spRgt (K : PySem.W.Frag) : Sp := fun vs H Q _ => ∃ (v : V) (t : Addr) (h : House) (ls : List Nat), vs = [v, .ref t] ∧ HouseAt K H v h ∧ OkHouse h ∧ SqT K H t (ls.map vN) ∧ (∀ i ∈ ls, i < h.1.length) ∧ RisingN ls ∧ RetV (.bl true) H Q
theorem keptD_and {h : House} {ls : List Nat} (h1 : ∀ i ∈ ls, i < h.1.length) (h3 : RisingN ls) : keptD h (.tuple (encN ls)) = ((!decide (ls = [])) && keptB h.1 h.2 ls) := by
  unfold keptD
  rw [lotD_enc, boxesD_ok h1 h3]
  cases ls <;> rfl
theorem ok_rgt {f fIsK fKps fShW fLS : Addr} {fd fdIsK fdKps fdShW fdLS : FuncData} {k : Nat} (F : Fun K "_law_right" "_law_right" sRgt f fd) (DIsK : Df K mg "is_kept" sIsK ["house", "thing"] fIsK fdIsK) (DKps : Df K mg "_law_keeps" sKps ["house", "lot"] fKps fdKps) (DShW : Df K mg "shut_with" sShW ["house", "broken"] fShW fdShW) (DLS : Df K mg "_law_shut" sLS ["house", "broken"] fLS fdLS) (GIsK : FnOk P w K mg base CX0 (k + 5) fIsK fdIsK ["house", "thing"] (spIsK K)) (GKps : FnOk P w K mg base CX0 (k + 1) fKps fdKps ["house", "lot"] (spKps K)) (GShW : FnOk P w K mg base CX0 (k + 5) fShW fdShW ["house", "broken"] (spShW K)) (GLS : FnOk P w K mg base CX0 (k + 2) fLS fdLS ["house", "broken"] (spLS K)) (B : Bu mg) : FnOk P w K mg base CX0 (k + 6) f fd ["house", "lot"] (spRgt K) := by
  refine F.ok scRgt (fun vs H Q E h => ?_) (fun cdv A outer s H vs Q E hr h => ?_)
  · obtain ⟨v, t, h, br, rfl, _⟩ := h
    rfl
  · obtain ⟨v, t, h, ls, rfl, hA, ho, hT, hlt, hR, q⟩ := h
    have hu64 := hr.units
    have hl := rising_len hlt hR
    have h30 := ho.2.1
    have h6 := ho.2.2.2.1
    refine ⟨_, (pss_cons (ps_if (pt_cmpR op_ne (pe_callB cr_reprB (by rfl) B.rpr (by decide +kernel) (pa_cons (pcall DIsK GIsK (hr.mono (by omega)) (pa_cons (pv 0) (pa_cons (pv 1) pa_nil))) pa_nil)) (pe_callB cr_reprB (by rfl) B.rpr (by decide +kernel) (pa_cons (pe_and (pe_cmpR (op_neD hu64) (pv 1) (pe_tup pa_nil) (nomark _)) (pe_one (pcall DKps GKps (hr.mono (by omega)) (pa_cons (pv 0) (pa_cons (pv 1) pa_nil))))) pa_nil)) (nomark _)) (pss_one (ps_ret pe_bl)) pss_nil)
      (pss_one (ps_ret (pe_cmpR (op_eqD hu64) (pcall DShW GShW (hr.mono (by omega)) (pa_cons (pv 0) (pa_cons (pv 1) pa_nil))) (pcall DLS GLS (hr.mono (by omega)) (pa_cons (pv 0) (pa_cons (pv 1) pa_nil))) (nomark _))))), ?_⟩
    have t1 := ev_reprB (ev_call (E := E0) (z := .bl (keptD h (.tuple (encN ls)))) (σ := [some v, some (.ref t)]) (H := H) (ea_cons (ev_var (i := 0) (v := v) rfl) (ea_cons (ev_var (i := 1) (v := .ref t) rfl) ea_nil)) (SpV.of (sp := spIsK K) fun H1 e1 Q q E => ⟨v, .ref t, h, .tuple (encN ls), rfl, hA.keep (KeepT.ex e1), ho, dpT_nats (ex_t e1 hT), q⟩))
    have t2 : Ev (tAndV (tOp (rNeD K) (tVar 1) (tTup tNil)) (tCall (spKps K) [] E0 (tCons (tVar 0) (tCons (tVar 1) tNil)))) [some v, some (.ref t)] H (.bl ((!decide (ls = [])) && keptB h.1 h.2 ls)) :=
      ev_andV (ev_opU (xs := ([] : List Nat).map vN) (ev_var (v := .ref t) rfl) (eu_tup ea_nil (by decide)) fun p H2 hp e => rv_neTN (K := K) (ex_t e hT) (st_of hp)) fun _ => ev_call (ea_cons (ev_var (v := v) rfl) (ea_cons (ev_var (v := .ref t) rfl) ea_nil)) (SpV.of fun H1 e1 Q q E => ⟨v, t, h, ls, rfl, hA.keep (KeepT.ex e1), ho, ex_t e1 hT, hlt, q⟩)
    rw [keptD_and hlt hR] at t1
    refine q_when (b := false) (et_is (et_test (ev_op t1 (ev_reprB t2) (rv_ne rfl))) (by rw [decide_eq_true rfl]; rfl)) (fun hb => absurd hb (by decide)) (fun _ H1 e1 => ?_)
    refine s_ret (v := .bl true) (ev_opUU (xs := (shutOf h.1 h.2 ls).map vN) (ys := (lawShut h ls).map vN) (eu_call (ea_cons (ev_var (v := v) rfl) (ea_cons (ev_var (v := .ref t) rfl) ea_nil)) fun H2 e2 Q q E => ⟨v, t, h, ls, rfl, hA.keep (KeepT.ex (e1.trans e2)), ho, ex_t (e1.trans e2) hT, hlt, hR, q⟩) (eu_call (ea_cons (ev_var (v := v) rfl) (ea_cons (ev_var (v := .ref t) rfl) ea_nil)) fun H2 e2 Q q E => ⟨v, t, h, ls, rfl, hA.keep (KeepT.ex (e1.trans e2)), ho.few, by omega, ex_t (e1.trans e2) hT, hlt, by omega, q⟩) fun p1 p2 G hp1 hp2 eG => ?_) (fun H2 e2 => q H2 (e1.trans e2))
    have g := rv_eqTN (K := K) (st_of hp1) (st_of hp2)
    rw [lawShut_eq hlt, decide_eq_true rfl] at g
    exact g
end
end Kw
set_option Elab.async false
set_option linter.all false
set_option maxRecDepth 100000
set_option maxHeartbeats 4000000
namespace Kw
open PySem PySem.Spec PyProof.Rows L2 Evl KwX NdefX LamX
/-- a class of the program, as one that is asked for -/
structure ClsT (K : PySem.W.Frag) (mg : Str → Option Value) (x : Str) (C : Addr) : Prop where
  g : mg x = some (.ref C)
  i : PySem.W.isClsIn K C = true
  t : PySem.W.typeIn K (.ref C) = some (.type "type")
  b : PySem.W.subIn K (.ref C) (.type "BaseException") = some true
  h : PySem.W.hasDictIn K C = true
theorem kit_ref {K : PySem.W.Frag} {C : Addr} {t : Value} {b : Bool} (i : PySem.W.isClsIn K C = true) (ty : PySem.W.typeIn K (.ref C) = some (.type "type")) (s : PySem.W.subIn K t (.ref C) = some b) (n : b = true ∨ (t == .ref C) = false) : PySem.W.kitOne K t (.ref C) = some b := by
  unfold PySem.W.kitOne
  split
  · rename_i h
    rcases n with n | n
    · rw [n]
    · rw [n] at h; cases h
  · show (if ((PySem.W.clsIn K C).isSome && PySem.W.typeIn K (.ref C) == some (.type "type")) = true then _ else _) = _
    have i' : (PySem.W.clsIn K C).isSome = true := i
    rw [i', ty]
    rw [if_pos (by rfl)]
    exact s
theorem kit_val {K : PySem.W.Frag} {C : Addr} (s : PySem.W.subIn K (.ref C) (.type "ValueError") = some true) : PySem.W.kitOne K (.ref C) (.type "ValueError") = some true := by
  unfold PySem.W.kitOne
  split
  · rfl
  · show (if PySem.W.kitMeta "ValueError" = true then PySem.W.subIn K (.ref C) (.type "ValueError") else none) = _
    rw [if_pos (by decide +kernel)]
    exact s
/-- what a raised class says of itself -/
structure RaiseT (K : PySem.W.Frag) (C : Addr) : Prop where
  v : PySem.W.subIn K (.ref C) (.type "ValueError") = some true
  e : ExcC K C
  q : PySem.W.excIn K C [.type "ValueError", .type "Exception", .type "BaseException", .type "object"] "ValueError.__new__" = true
  k : PySem.W.keepIn K (.ref C) = true
theorem RaiseT.exc {K : PySem.W.Frag} {mg : Str → Option Value} {x : Str} {C : Addr} (r : RaiseT K C) (c : ClsT K mg x C) : ExcT K mg x C := ⟨c.g, r.q, r.k, c.b, c.t⟩
theorem refT_of {K : PySem.W.Frag} {mg : Str → Option Value} {C dT dL dB : Addr} {d : Nat → Addr} {bs : Nat → Bool} (r : RaiseT K C) (cT : ClsT K mg "TooMany" dT) (cL : ClsT K mg "Locked" dL) (cB : ClsT K mg "BoxError" dB) (c : ∀ i, i < 14 → ClsT K mg (nmC i) (d i))
    (sT : PySem.W.subIn K (.ref C) (.ref dT) = some false) (sL : PySem.W.subIn K (.ref C) (.ref dL) = some false) (sB : PySem.W.subIn K (.ref C) (.ref dB) = some true)
    (s : ∀ i, i < 14 → PySem.W.subIn K (.ref C) (.ref (d i)) = some (bs i) ∧ (bs i = true ∨ (Value.ref C == .ref (d i)) = false)) (isi : mg "isinstance" = none) (ve : mg "ValueError" = none) : RefT K mg C d bs dT dL dB :=
  ⟨cT.g, cL.g, cB.g, fun i hi => (c i hi).g, PySem.W.exm_ref cT.b cT.h cT.t sT, PySem.W.exm_ref cL.b cL.h cL.t sL, PySem.W.exm_ref cB.b cB.h cB.t sB, fun i hi => kit_ref (c i hi).i (c i hi).t (s i hi).1 (s i hi).2, kit_val r.v, r.e, isi, ve⟩
def codeVs (vs : Array Value) (c P : Addr) : Bool := (match (vs[11]? : Option Value) with | some (.ref P') => P' == P | _ => false) &&
      (match vs.getD 18 .none with | .str _ _ => true | _ => false) && (match vs.getD 7 .none with | .int _ _ => true | _ => false) &&
      (match vs.getD 9 .none with | .bool _ => true | _ => false) && (match vs.getD 10 .none with | .int _ _ => true | _ => false) && c != P
theorem codeHd_by {K : PySem.W.Frag} {c P : Addr} {od : Option Addr} {vs : Array Value} {sl : Array (Option Value)} (h : K.lookup c = some ⟨.type "code", od, .fields vs, sl⟩) (v : codeVs vs c P = true) : PySem.W.codeHdIn K c P = true := by
  unfold PySem.W.codeHdIn
  rw [h]
  exact v
theorem lookup_none {α β : Type} [BEq α] [LawfulBEq α] : ∀ {l : List (α × β)} {a : α}, a ∉ l.map (·.1) → l.lookup a = none
  | [], _, _ => rfl
  | (x, y) :: r, a, h => by
    rw [List.map_cons, List.mem_cons, not_or] at h
    rw [List.lookup_cons, show (a == x) = false from beq_eq_false_iff_ne.mpr h.1]
    exact lookup_none h.2
theorem km_none {K : Params → PySem.W.Frag} {as : List Addr} {e : ∀ P, as = (K P).map (·.1)} {ts : List Addr} {w : World} {h : Heap} (Y : (PySem.W.kmHook K as e ts).says w h) {n : Addr} (hn : as.contains n = false) : (K w.params).lookup n = none := by
  refine lookup_none ?_
  rw [← e w.params]
  intro z
  rw [List.contains_iff_mem.mpr z] at hn
  cases hn
end Kw
set_option Elab.async false
set_option linter.all false
set_option maxRecDepth 100000
set_option maxHeartbeats 4000000
namespace Kw
open PySem PySem.Spec PyProof.Rows L2 Evl KwX NdefX LamX
section
variable {K : PySem.W.Frag} {H H' : Hp}
theorem sqL_n {a : Addr} {xs : List V} (e : ExtN H H') (h : SqL K H a xs) : SqL K H' a xs := by
  rcases h with (h | ⟨o, h⟩) | h
  · exact .inl (.inl (e _ _ h fun ps z => by cases z))
  · exact .inl (.inr ⟨o, e _ _ h fun ps z => by cases z⟩)
  · exact .inr h
mutual
theorem dp_n (e : ExtN H H') : ∀ (d : PyData) (v : V), Dp K H v d → Dp K H' v d
  | .none, _, h => by cases h; exact .non
  | .bool b, _, h => by cases h; exact .bl b
  | .int i, _, h => by cases h; exact .int i
  | .str x, _, h => by cases h; exact .str x
  | .list ds, _, h => by
    cases h with
    | lst h a => exact .lst (sqL_n e h) (dpA_n e ds _ a)
  | .tuple ds, _, h => by
    cases h with
    | tup h a => exact .tup (keep_t (keepN e) h) (dpA_n e ds _ a)
  | .dict _, _, h => by cases h
theorem dpA_n (e : ExtN H H') : ∀ (ds : List PyData) (vs : List V), DpAll K H vs ds → DpAll K H' vs ds
  | [], _, h => by cases h; exact .nil
  | d :: ds, _, h => by
    cases h with
    | cons a b => exact .cons (dp_n e d _ a) (dpA_n e ds _ b)
end
end
/-! ### displays of data -/
def EvD (K : PySem.W.Frag) (te : TE) (σ : L2.St) (H : Hp) (d : PyData) : Prop := EvP te σ H (fun v H' => Dp K H' v d)
def EvDA (K : PySem.W.Frag) (ta : TA) (σ : L2.St) (H : Hp) (ds : List PyData) : Prop := ∀ H1, Ex H H1 → ∀ Q : List V → Hp → Prop, (∀ vs H2, Ex H1 H2 → DpAll K H2 vs ds → Q vs H2) → ta σ H1 Q
section
variable {K : PySem.W.Frag} {σ : L2.St} {H H' : Hp} {ta tb tc te tl : TE} {t u : TT} {x y z v : V} {r r' : R2} {d : PyData} {ds : List PyData} {D : Ends} {g : TG} {tu tz : TS}
theorem ed_of (h : Ev te σ H v) (hd : Dp K H v d) : EvD K te σ H d := fun H1 e Q q => h H1 e Q fun H2 e2 => q v H2 e2 (dp_ex (e.trans e2) _ _ hd)
theorem ed_non : EvD K (tC .non) σ H .none := ed_of ev_c .non
theorem ed_bl {b : Bool} : EvD K (tC (.bl b)) σ H (.bool b) := ed_of ev_c (.bl b)
theorem ed_int {i : Int} : EvD K (tC (.int i)) σ H (.int i) := ed_of ev_c (.int i)
theorem ed_str {s : Str} : EvD K (tC (.str s)) σ H (.str s) := ed_of ev_c (.str s)
theorem ed_neg {i : Int} : EvD K (tUn (rU fun i => .int (-i)) (tC (.int i))) σ H (.int (-i)) := ed_of (ev_un ev_c ru_neg) (.int _)
theorem ed_var {i : Nat} (h : σ[i]? = some (some v)) (hd : Dp K H v d) : EvD K (tVar i) σ H d := ed_of (ev_var h) hd
theorem da_nil : EvDA K tNil σ H [] := fun H1 _ Q q => q [] H1 (Ex.refl H1) .nil
theorem da_cons {ta : TA} (h : EvD K te σ H d) (hr : EvDA K ta σ H ds) : EvDA K (tCons te ta) σ H (d :: ds) := fun H1 e Q q =>
  h H1 e _ fun v H2 e2 hv => hr H2 (e.trans e2) _ fun vs H3 e3 hvs => q (v :: vs) H3 (e2.trans e3) (.cons (dp_ex e3 _ _ hv) hvs)
theorem ed_tup {ta : TA} (h : EvDA K ta σ H ds) (hl : ds.length ≤ 1000) : EvD K (tTup ta) σ H (.tuple ds) := fun H1 e Q q =>
  h H1 e _ fun vs H2 e2 hvs => ⟨sz_of (by rw [dpA_len hvs]; omega), fun p hp => q (.ref p) _ (e2.trans (Ex.new hp)) (.tup (st_of upd_same) (dpA_ex (Ex.new hp) _ _ hvs))⟩
theorem ed_lst {ta : TA} (h : EvDA K ta σ H ds) (hl : ds.length ≤ 1000) : EvD K (tLst ta) σ H (.list ds) := fun H1 e Q q =>
  h H1 e _ fun vs H2 e2 hvs => ⟨sz_of (by rw [dpA_len hvs]; omega), fun p hp => q (.ref p) _ (e2.trans (Ex.new hp)) (.lst (sq_of upd_same) (dpA_ex (Ex.new hp) _ _ hvs))⟩
/-- a for over a displayed tuple -/
theorem for_DT {ta : TA} (h : EvDA K ta σ H ds) (hl : ds.length ≤ 1000) (k : ∀ p vs H1, Ex H H1 → H1 p = some (.tup vs) → DpAll K H1 vs ds → tFor (fun _ H R => R (Itt K p) H) g tu D σ H1) : tFor (iTup K (tTup ta)) g tu D σ H :=
  h H (Ex.refl H) _ fun vs H2 e2 hvs => ⟨sz_of (by rw [dpA_len hvs]; omega), fun p hp => ⟨p, rfl, ⟨vs, st_of upd_same⟩, k p vs _ (e2.trans (Ex.new hp)) upd_same (dpA_ex (Ex.new hp) _ _ hvs)⟩⟩
theorem q_for_DT {ta : TA} (h : EvDA K ta σ H ds) (hl : ds.length ≤ 1000) (k : ∀ p vs H1, Ex H H1 → H1 p = some (.tup vs) → DpAll K H1 vs ds → tFor (fun _ H R => R (Itt K p) H) g tu { D with nx := tz D } σ H1) : tSeq (tFor (iTup K (tTup ta)) g tu) tz D σ H := for_DT h hl k
theorem for_src (h : tl σ H fun v H1 => ∃ a, v = .ref a ∧ (∃ xs, SqL K H1 a xs) ∧ tFor (fun _ H R => R (Itl K a) H) g tu D σ H1) : tFor (iList K tl) g tu D σ H := h
theorem q_for_src (h : tl σ H fun v H1 => ∃ a, v = .ref a ∧ (∃ xs, SqL K H1 a xs) ∧ tFor (fun _ H R => R (Itl K a) H) g tu { D with nx := tz D } σ H1) : tSeq (tFor (iList K tl) g tu) tz D σ H := h
theorem call_src {sp : Sp} {ta : TA} {E : XK} {vs : List V} {Q : VK} (h : EvA ta σ H vs) (k : ∀ H1, Ex H H1 → sp vs H1 Q E) : tCall sp [] E ta σ H Q := h H (Ex.refl H) _ fun H1 e => by
  rw [List.append_nil]
  exact k H1 e
end
end Kw
set_option Elab.async false
set_option linter.all false
set_option maxRecDepth 100000
set_option maxHeartbeats 4000000
namespace Kw
open PySem PySem.Spec PyProof.Rows L2 Evl KwX NdefX LamX
abbrev sLaw : Stmt := topS 53
theorem scLaw : FnScope ["script", "bag", "house", "lot", "many", "turn", "thing", "number"] ["script"] (defScope sLaw) := ⟨rfl, rfl, rfl, by decide +kernel, rfl, by decide +kernel, by decide +kernel⟩
def lamELaw0 : Expr := (exArg 0 (exLeft (stEx ((stBody ((stBody ((defBody sLaw).getD 0 (.Pass ⟨0, 0, 0, 0⟩))).getD 5 (.Pass ⟨0, 0, 0, 0⟩))).getD 1 (.Pass ⟨0, 0, 0, 0⟩)))))
def lamBLaw0 : Expr := lamBd lamELaw0
def lamMLaw0 : Addr → NF := mkLam "law" lamELaw0 (defScope sLaw)
theorem lamSLaw0 : nscB ["a", "b", "c"] ["a", "b", "c"] [] (lamSc lamELaw0 (defScope sLaw)) = true := by decide +kernel
section
variable {K : PySem.W.Frag} {σ : L2.St} {H H' : Hp} {ta tb tc te tl : TE} {t u : TT} {x y z v : V} {r r' : R2} {D : Ends} {g : TG} {tu tz : TS}
/-- [n for n in range(m) if _law_take(bag, 3) == 0] -/
theorem lc_drawn {a : Addr} {j : Nat} {m : Nat} {c : Int} {ta : TA} {Q : VK} (h : EvA ta σ H [vN m]) (hm : m ≤ 300) (hc : 0 < c) (hb : Bag H a) (hw : ∀ x, wipe ((wipe σ [j]).set j (some x)) [j] = wipe σ [j] ∧ ((wipe σ [j]).set j (some x))[j]? = some (some x) ∧ ((wipe σ [j]).set j (some x))[1]? = some (some (.ref a)))
    (q : ∀ p (ns : List Nat) H2, H p = none → ExB a H H2 → Bag H2 a → H2 p = some (.lst (ns.map vN)) → ns.Pairwise (· < ·) → (∀ i ∈ ns, i < m) → Q (.ref p) H2) :
    tLc (iRng1 ta) (gName j) (tTest (tOp rEq (tCall (spTake K) [] E0 (tCons (tVar 1) (tCons (tC (.int c)) tNil))) (tC (.int 0)))) (tVar j) [j] σ H Q := by
  refine h H (Ex.refl H) _ fun H1 e1 => ⟨(m : Int), rfl, by omega, by omega, fun Dl hD => ?_⟩
  rw [Int.toNat_natCast]
  have hDa : Dl ≠ a := fun z => by
    obtain ⟨d, n, xs, h1, _⟩ := hb.ex e1
    rw [z, h1] at hD
    cases hD
  refine lc_it (walk_rng0 (n := m)) (Pv := fun i H' => ExB a H H' ∧ Bag H' a ∧ ∃ ns : List Nat, H' Dl = some (.lst (ns.map vN)) ∧ ns.length ≤ i ∧ ns.Pairwise (· < ·) ∧ ∀ x ∈ ns, x < i) ⟨?_, (hb.ex e1).ex (Ex.new hD), [], upd_same, Nat.le_refl _, List.Pairwise.nil, by simp⟩
    (fun _ _ _ _ => trivial) (fun i x H' H2 hi p y => ?_) (fun H' p => ?_)
  · exact (ExB.of e1).trans (ExB.of (Ex.new hD))
  · obtain ⟨p1, p2, ns, p3, p4, p5, p6⟩ := p
    obtain ⟨rfl, rfl⟩ := y
    obtain ⟨w1, w2, w3⟩ := hw (vN i)
    refine ⟨w1, .ref a, w3, a, c, rfl, p2, hc, fun r H3 r0 r1 x3 b3 => ?_⟩
    have h3 : H3 Dl = some (.lst (ns.map vN)) := x3 _ _ hDa p3
    refine ⟨rfl, _, rfl, ?_⟩
    by_cases hr : V.int r = V.int 0
    · rw [decide_eq_true hr]
      refine iteT ?_
      refine ⟨vN i, w2, _, h3, sz_lt (by rw [List.length_map]; omega), ?_, ?_, ns ++ [i], ?_, by rw [List.length_append]; show _ + 1 ≤ _; omega, List.pairwise_append.mpr ⟨p5, List.pairwise_singleton _ _, fun a ha b hb => by rw [List.mem_singleton.mp hb]; exact p6 a ha⟩, fun x hx => ?_⟩
      · refine fun b' o nb hb' => ?_
        have := (p1.trans x3) b' o nb hb'
        rw [upd_ne (fun z => by rw [z] at hb'; rw [fresh_back e1 hD] at hb'; cases hb')]
        exact this
      · obtain ⟨d, n, xs, g1, g2, g3⟩ := b3
        exact ⟨d, n, xs, by rw [upd_ne hDa.symm]; exact g1, by rw [upd_ne (fun z => by rw [z, h3] at g2; have := HO.lst.inj (Option.some.inj g2); have e := congrArg List.length this; rw [List.length_map, List.length_map, g3.1] at e; omega)]; exact g2, g3⟩
      · rw [upd_same, List.map_append]
        rfl
      · rcases List.mem_append.mp hx with h | h
        · have := p6 x h; omega
        · rw [List.mem_singleton.mp h]; omega
    · rw [decide_eq_false hr]
      refine iteF ?_
      exact ⟨p1.trans x3, b3, ns, h3, by omega, p5, fun x hx => by have := p6 x hx; omega⟩
  · obtain ⟨p1, p2, ns, p3, p4, p5, p6⟩ := p
    exact q Dl ns H' (fresh_back e1 hD) p1 p2 p3 p5 p6
end
theorem res3 : resV (fun i => decide (i = 3)) = [.str "NoBoxes", .bl true] := by rfl
theorem tab_ext {T : List (Addr × Str)} {H H' : Hp} (t : Tabs T H) (e : Ex H H') : Tabs T H' := t.ext e
section
variable {P : Program} {w : World} {K : PySem.W.Frag} {mg : Str → Option Value} {base : Heap} {C3 : Addr}
theorem ok_law {f c Pt fRef fBags fHouse fTake fLots fRgt fIsK : Addr} {fdRef fdBags fdHouse fdTake fdLots fdRgt fdIsK : FuncData} {k : Nat} {kV doc pm ct oc : Value} {an od : Option Addr} {osl : Array (Option Value)} {T : List (Addr × Str)} (lk : K.lookup f = some ⟨oc, od, .func (PySem.W.fnOf "law" "law" (defArgs sLaw) (defBody sLaw) (defScope sLaw) .none kV doc pm an (.ref c) ct), osl⟩) (hcd : PySem.W.codeIn K (.ref c) "law" = true) (TB : TabB base mg c Pt) (hm : (Pt, ("law" : Str) ++ ".<locals>." ++ "<lambda>") ∈ T) (hu : ∀ p ∈ T, p.1 = Pt → p.2 = ("law" : Str) ++ ".<locals>." ++ "<lambda>") (DRef : Df K mg "_law_refused" sRef ["call", "one", "two", "three"] fRef fdRef) (DBags : Df K mg "_law_bags" sBags ["script", "limit"] fBags fdBags) (DHouse : Df K mg "_law_house" sHouse ["bag", "boxes", "locks", "wide"] fHouse fdHouse) (DTake : Df K mg "_law_take" sTake ["bag", "many"] fTake fdTake) (DLots : Df K mg "_law_lots" sLots ["many"] fLots fdLots) (DRgt : Df K mg "_law_right" sRgt ["house", "lot"] fRgt fdRgt) (DIsK : Df K mg "is_kept" sIsK ["house", "thing"] fIsK fdIsK) (GRefLaw0 : FnOk P w K mg base CX0 (k + 8) fRef fdRef ["call", "one", "two", "three"] (spRef K lamMLaw0 lamBLaw0 (spLam2 (spShWX K C3)) C3 (fun i => decide (i = 3)))) (GBags : FnOk P w K mg base CX0 (k + 3) fBags fdBags ["script", "limit"] (spBags K 8)) (GHouse : FnOk P w K mg base CX0 (k + 3) fHouse fdHouse ["bag", "boxes", "locks", "wide"] (spHs K)) (GTake : FnOk P w K mg base CX0 (k + 1) fTake fdTake ["bag", "many"] (spTake K)) (GLots : FnOk P w K mg base CX0 (k + 1) fLots fdLots ["many"] (spLots K)) (GRgt : FnOk P w K mg base CX0 (k + 6) fRgt fdRgt ["house", "lot"] (spRgt K)) (GIsK : FnOk P w K mg base CX0 (k + 5) fIsK fdIsK ["house", "thing"] (spIsK K)) (B : Bu mg) : FnOk P w K mg base CX0 (k + 9) f (PySem.W.fnOf "law" "law" (defArgs sLaw) (defBody sLaw) (defScope sLaw) .none kV doc pm an (.ref c) ct) ["script"] (spLawX K T) := by
  refine okT lk hcd scLaw (fun vs H Q E h => ?_) (fun A outer s H vs Q E hr h => ?_)
  · obtain ⟨a, ns, rfl, _⟩ := h
    rfl
  · obtain ⟨a, ns, rfl, hS, hl, hT, q⟩ := h
    have hu64 := hr.units
    refine ⟨_, (pss_cons (ps_for PassesOwn.never rfl (pi_list (pcall DBags GBags (hr.mono (by omega)) (pa_cons (pv 0) (pa_cons pe_int pa_nil)))) (pg_name (i := 1) scLaw.nd rfl (.inr rfl))
      (pss_cons (ps_set (i := 2) scLaw.nd rfl (.inl rfl) (pcall DHouse GHouse (hr.mono (by omega)) (pa_cons (pv 1) (pa_cons pe_int (pa_cons (pe_op op_add pe_int (pcall DTake GTake (hr.mono (by omega)) (pa_cons (pv 1) (pa_cons pe_int pa_nil)))) (pa_cons (pe_ix ix_list (pe_lst (pa_cons pe_int (pa_cons pe_int pa_nil))) (pcall DTake GTake (hr.mono (by omega)) (pa_cons (pv 1) (pa_cons pe_int pa_nil))) (fun _ _ => rfl)) pa_nil))))))
      (pss_cons (ps_for PassesOwn.never rfl (pi_list (pcall DLots GLots (hr.mono (by omega)) (pa_cons (pe_callB call_len_seq (by rfl) B.len PySem.boot_len (pa_cons (pe_ix ix_tup (pv 2) pe_int (fun _ _ => rfl)) pa_nil)) pa_nil))) (pg_name (i := 3) scLaw.nd rfl (.inl rfl))
      (pss_one (ps_if (pt_not (pt_val (pcall DRgt GRgt (hr.mono (by omega)) (pa_cons (pv 2) (pa_cons (pv 3) pa_nil))))) (pss_one (ps_ret pe_bl)) pss_nil)))
      (pss_cons (ps_set (i := 2) scLaw.nd rfl (.inl rfl) (pcall DHouse GHouse (hr.mono (by omega)) (pa_cons (pv 1) (pa_cons pe_int (pa_cons (pe_op op_add pe_int (pcall DTake GTake (hr.mono (by omega)) (pa_cons (pv 1) (pa_cons pe_int pa_nil)))) (pa_cons pe_int pa_nil))))))
      (pss_cons (ps_set (i := 4) scLaw.nd rfl (.inl rfl) (pe_callB call_len_seq (by rfl) B.len PySem.boot_len (pa_cons (pe_ix ix_tup (pv 2) pe_int (fun _ _ => rfl)) pa_nil)))
      (pss_cons (ps_for PassesOwn.never rfl (pi_range1 (by rfl) B.rng (pa_cons pe_int pa_nil)) (pg_name (i := 5) scLaw.nd rfl (.inl rfl))
      (pss_one (ps_if (pt_not (pt_val (pcall DRgt GRgt (hr.mono (by omega)) (pa_cons (pv 2) (pa_cons (pe_callTy call_tupOf (by rfl) B.tup boot_tuple (pa_cons (pe_lc (own := [("number", 7)]) (g := (gName 7)) (tt := (tTest (tOp rEq (tCall (spTake K) [] E0 (tCons (tVar 1) (tCons (tC (.int 3)) tNil))) (tC (.int 0))))) (te := (tVar 7)) rfl scLaw.nd (pi_range1 (by rfl) B.rng (pa_cons (pv 4) pa_nil)) (blkOk_by (N := ["script", "bag", "house", "lot", "many", "turn", "thing", "number"]) (sc := defScope sLaw) (by decide +kernel)) (fun _ _ _ _ _ => (pg_name (i := 7) scLaw.nd rfl (.inl rfl))) (fun _ _ _ _ _ => (pts_one (pt_cmpR op_eq (pcall DTake GTake (hr.mono (by omega)) (pa_cons (pv 1) (pa_cons pe_int pa_nil))) pe_int (nomark _)))) (fun _ _ _ _ _ => (pv 7))) pa_nil)) pa_nil))))) (pss_one (ps_ret pe_bl)) pss_nil)))
      (pss_one (ps_for PassesOwn.never rfl (pi_tup (pe_tup (pa_cons (pe_lst (pa_cons pe_int pa_nil)) (pa_cons (pe_tup (pa_cons (pv 4) pa_nil)) (pa_cons (pe_tup (pa_cons (pe_un un_neg pe_int) pa_nil)) (pa_cons (pe_tup (pa_cons pe_int (pa_cons pe_int pa_nil))) (pa_cons (pe_tup (pa_cons pe_int (pa_cons pe_int pa_nil))) (pa_cons (pe_tup (pa_cons pe_bl pa_nil)) (pa_cons pe_non (pa_cons pe_str (pa_cons (pe_tup (pa_cons (pe_tup (pa_cons pe_int pa_nil)) pa_nil)) (pa_cons pe_int pa_nil)))))))))))) (pg_name (i := 6) scLaw.nd rfl (.inl rfl))
      (pss_cons (ps_if (pt_cmpR op_notBl (pcall DIsK GIsK (hr.mono (by omega)) (pa_cons (pv 2) (pa_cons (pv 6) pa_nil))) pe_bl (nomark _)) (pss_one (ps_ret pe_bl)) pss_nil)
      (pss_one (ps_if (pt_cmpR (op_neD hu64) (pcall DRef GRefLaw0 (hr.mono (by omega)) (pa_cons (pe_lamV TB rfl hm hu rfl (by decide +kernel) (fun _ => rfl)) (pa_cons (pv 2) (pa_cons (pv 6) (pa_cons pe_int pa_nil))))) (pe_lst (pa_cons pe_str (pa_cons pe_bl pa_nil))) (nomark _)) (pss_one (ps_ret pe_bl)) pss_nil)))))))))))
      (pss_one (ps_ret pe_bl))), ?_⟩
    refine bags_forT (lim := 8) (SlotsN a 7) rfl hS hl hT ⟨_, rfl, rfl⟩ (fun b H1 σ' N hσ hb hT1 nx => ?_) (fun σ' H1 hσ _ => q H1)
    obtain ⟨ys, hys, rfl⟩ := hσ
    refine match ys, hys with | [y1, y2, y3, y4, y5, y6, y7], _ => ?_
    -- the first house
    refine ⟨.ref b, rfl, .ref b, rfl, b, 3, rfl, hb, by decide, fun r H2 r0 r1 x2 b2 => ⟨1, r, rfl, rfl, ?_⟩⟩
    refine menu (K := K) (cs := [3, 12]) (ea_cons ev_c (ea_cons ev_c ea_nil)) rfl (by decide) rfl b2 fun c2 H3 hc2 x3 b3 => ?_
    obtain ⟨j, rfl⟩ := Int.eq_ofNat_of_zero_le r0
    have hc2' : ∃ m : Nat, c2 = (m : Int) ∧ 1 ≤ m ∧ m ≤ 12 := by
      simp only [List.mem_cons, List.mem_singleton, List.not_mem_nil, or_false] at hc2
      rcases hc2 with rfl | rfl
      · exact ⟨3, rfl, by decide, by decide⟩
      · exact ⟨12, rfl, by decide, by decide⟩
    obtain ⟨m2, rfl, p3, p4⟩ := hc2'
    refine ⟨b, 8, 1 + j, m2, ?_, b3, by decide, by decide, by omega, p3, p4, fun v h H4 x4 b4 hA ho hl1 hl2 _ => ?_⟩
    · show [V.ref b, V.int 8, V.int (1 + (j : Int)), V.int (m2 : Int)] = [.ref b, .int ((8 : Nat) : Int), .int ((1 + j : Nat) : Int), .int (m2 : Int)]
      rw [Int.natCast_add]
      rfl
    have X4 := (x2.trans x3).trans x4
    have T4 := Tabs.bag hb X4 hT1
    -- all lots
    have hA' := hA
    obtain ⟨av, ab, ak, rfl, hav, ⟨vs, hvs, hpr⟩, hak⟩ := hA'
    have hvl : vs.length = h.1.length := paired_len hpr
    refine q_for_src (K := K) (σ := [some (.ref a), some (.ref b), some (.ref av), y3, y4, y5, y6, y7]) (call_src (vs := [vN h.1.length]) (ea_cons (ev_is (ev_lenT (K := K) (ev_op (ev_var (v := .ref av) rfl) ev_c (rv_ixT (K := K) hav at0)) hvs) (by rw [hvl])) ea_nil) fun H5 e5 => ⟨h.1.length, rfl, hl1, fun p zs rs H6 np e6 hp hTu hperm _ => ⟨p, rfl, ⟨zs, sq_of hp⟩, ?_⟩⟩)
    have e56 := e5.trans e6
    refine for_it (walk_list (K := K) (a := p) (xs := zs)) (fun _ σ' H' => Ex H6 H' ∧ ∃ y3, σ' = [some (.ref a), some (.ref b), some (.ref av), y3, y4, y5, y6, y7]) ⟨Ex.refl H6, y3, rfl⟩ (fun i σ' H' _ hP => sq_of (hP.1 _ _ hp)) (fun i x σ' H7 H8 hi hP hy => ?_) (fun σ' H7 hP => ?_)
    · obtain ⟨e7, y3, rfl⟩ := hP
      obtain ⟨rfl, hx⟩ := hy
      obtain ⟨ls, hls, t, rfl, ht⟩ := paired_get hTu hx
      have hlm := lotsAll_mem (hperm.mem_iff.mp (List.mem_of_getElem? hls))
      show tIfS _ _ _ _ [some (.ref a), some (.ref b), some (.ref av), some (.ref t), y4, y5, y6, y7] _
      exact s_when (b := false) (et_is (et_not (et_B (ev_call (z := .bl true) (ea_cons (ev_var (v := .ref av) rfl) (ea_cons (ev_var (v := .ref t) rfl) ea_nil)) (SpV.of fun H9 e9 Q q E => ⟨.ref av, t, h, ls, rfl, hA.keep (KeepT.ex ((e56.trans e7).trans e9)), ho, ex_t (e7.trans e9) ht, hlm.1, rising_pw hlm.2, q⟩)))) rfl) (fun hb => absurd hb (by decide)) (fun _ H9 e9 => ⟨e7.trans e9, _, rfl⟩)
    obtain ⟨e7, y3, rfl⟩ := hP
    have E7 := e56.trans e7
    clear hA ho hav hvs hpr hak hTu hperm hl1 hl2
    -- the second house
    refine ⟨.ref b, rfl, .ref b, rfl, b, 3, rfl, b4.ex E7, by decide, fun r H8 r0 r1 x8 b8 => ⟨1, r, rfl, rfl, ?_⟩⟩
    obtain ⟨j2, rfl⟩ := Int.eq_ofNat_of_zero_le r0
    refine ⟨b, 30, 1 + j2, 12, ?_, b8, by decide, by decide, by omega, by decide, by decide, fun v h H9 x9 b9 hA ho hl1 hl2 _ => ?_⟩
    · show [V.ref b, V.int 30, V.int (1 + (j2 : Int)), V.int 12] = [.ref b, .int ((30 : Nat) : Int), .int ((1 + j2 : Nat) : Int), .int ((12 : Nat) : Int)]
      rw [Int.natCast_add]
      rfl
    have X9 := X4.trans ((ExB.of E7).trans (x8.trans x9))
    have T9 := Tabs.bag hb X9 hT1
    have hA' := hA
    obtain ⟨av2, ab, ak, rfl, hav, ⟨vs, hvs, hpr⟩, hak⟩ := hA'
    have hvl : vs.length = h.1.length := paired_len hpr
    refine q_asg (σ := [some (.ref a), some (.ref b), some (.ref av2), y3, y4, y5, y6, y7]) (v := vN h.1.length) (ev_is (ev_lenT (K := K) (ev_op (ev_var (v := .ref av2) rfl) ev_c (rv_ixT (K := K) hav at0)) hvs) (by rw [hvl])) fun H10 e10 => ?_
    have hA10 := hA.keep (KeepT.ex e10)
    have b10 := b9.ex e10
    refine q_forR1 (σ := [some (.ref a), some (.ref b), some (.ref av2), y3, some (vN h.1.length), y5, y6, y7]) (n := 8) (ea_cons ev_c ea_nil) (by decide) (fun _ σ' H' => (∃ y5, σ' = [some (.ref a), some (.ref b), some (.ref av2), y3, some (vN h.1.length), y5, y6, y7]) ∧ ExB b H10 H' ∧ Bag H' b) (fun H11 e11 => ⟨⟨y5, rfl⟩, ExB.of e11, b10.ex e11⟩) (fun i σ' H' hi hP => ?_) (fun σ' H' hP => ?_)
    · obtain ⟨⟨y5, rfl⟩, x11, b11⟩ := hP
      refine ⟨.ref av2, rfl, ?_⟩
      refine cb1_to (lc_drawn (K := K) (a := b) (j := 7) (m := h.1.length) (σ := [some (.ref a), some (.ref b), some (.ref av2), y3, some (vN h.1.length), some (.int (i : Int)), y6, y7]) (ea_cons (ev_var rfl) ea_nil) (by have := ho.2.1; omega) (by decide) b11 (fun x => ⟨rfl, rfl, rfl⟩) fun p ns H12 np x12 b12 hp hpw hlt => ?_)
      refine ⟨p, _, rfl, .inl ⟨sq_of hp, fun t nt => ?_⟩⟩
      have e13 := Ex.new (o := .tup (ns.map vN)) nt
      have xx := (x11.trans x12).trans (ExB.of e13)
      refine ⟨.ref av2, t, h, ns, rfl, hA10.keep (b10.keepT xx), ho, st_of upd_same, hlt, rising_pw hpw, fun H14 e14 => ⟨true, rfl, ?_⟩⟩
      exact ⟨⟨_, rfl⟩, xx.trans (ExB.of e14), b12.ex (e13.trans e14)⟩
    obtain ⟨⟨y5, rfl⟩, x11, b11⟩ := hP
    have hA11 := hA10.keep (b10.keepT x11)
    have X11 := X9.trans ((ExB.of e10).trans x11)
    have T11 := Tabs.bag hb X11 hT1
    have h1n := ho.1
    -- what is no lot
    refine for_DT (K := K) (σ := [some (.ref a), some (.ref b), some (.ref av2), y3, some (vN h.1.length), y5, y6, y7]) (ds := [.list [.int 0], .tuple [.int (h.1.length : Nat)], .tuple [.int (-1)], .tuple [.int 0, .int 0], .tuple [.int 1, .int 0], .tuple [.bool true], .none, .str "0", .tuple [.tuple [.int 0]], .int 0])
      (da_cons (ed_lst (da_cons ed_int da_nil) (by decide)) (da_cons (ed_tup (da_cons (ed_var (v := vN h.1.length) rfl (.int _)) da_nil) (Nat.succ_le_succ (Nat.zero_le _))) (da_cons (ed_tup (da_cons ed_neg da_nil) (by decide)) (da_cons (ed_tup (da_cons ed_int (da_cons ed_int da_nil)) (by decide)) (da_cons (ed_tup (da_cons ed_int (da_cons ed_int da_nil)) (by decide)) (da_cons (ed_tup (da_cons ed_bl da_nil) (by decide)) (da_cons ed_non (da_cons ed_str (da_cons (ed_tup (da_cons (ed_tup (da_cons ed_int da_nil) (by decide)) da_nil) (by decide)) (da_cons ed_int da_nil)))))))))) (by show 10 ≤ 1000; decide) fun p vs2 G eG hp hAll => ?_
    have hodd : ∀ (x : V) (d : PyData), vs2.length = vs2.length → d ∈ ([.list [.int 0], .tuple [.int (h.1.length : Nat)], .tuple [.int (-1)], .tuple [.int 0, .int 0], .tuple [.int 1, .int 0], .tuple [.bool true], .none, .str "0", .tuple [.tuple [.int 0]], .int 0] : List PyData) → boxesD h.1.length d = false := by
      intro x d _ hd
      simp only [List.mem_cons, List.not_mem_nil, or_false] at hd
      rcases hd with rfl | rfl | rfl | rfl | rfl | rfl | rfl | rfl | rfl | rfl
      · rfl
      · show ((decide ((-1 : Int) < (h.1.length : Nat)) && decide (((h.1.length : Nat) : Int) < (h.1.length : Nat))) && _) = false
        rw [decide_eq_false (Int.lt_irrefl _), Bool.and_false]
        rfl
      · rfl
      · show ((decide ((-1 : Int) < 0) && decide ((0 : Int) < (h.1.length : Nat))) && ((decide ((0 : Int) < 0) && _) && _)) = false
        rw [decide_eq_false (Int.lt_irrefl 0)]
        simp
      · show ((decide ((-1 : Int) < 1) && decide ((1 : Int) < (h.1.length : Nat))) && ((decide ((1 : Int) < 0) && _) && _)) = false
        rw [decide_eq_false (show ¬ (1 : Int) < 0 by decide)]
        simp
      · rfl
      · rfl
      · rfl
      · rfl
      · rfl
    have hAG := hA11.keep (KeepT.ex eG)
    refine for_it (walk_tup (K := K) (a := p) (xs := vs2)) (fun _ σ' H' => (∃ y6, σ' = [some (.ref a), some (.ref b), some (.ref av2), y3, some (vN h.1.length), y5, y6, y7]) ∧ ExtN G H' ∧ Tabs T H') ⟨⟨y6, rfl⟩, ExtN.refl G, tab_ext T11 eG⟩ (fun i σ' H' _ hP => keep_t (keepN hP.2.1) (st_of hp)) (fun i x σ' H2 H3 hi hP hy => ?_) (fun σ' H2 hP => ?_)
    · obtain ⟨⟨y6, rfl⟩, eN, hT2⟩ := hP
      obtain ⟨rfl, hx⟩ := hy
      obtain ⟨d, hd, hDx⟩ := dpA_get hAll hx
      have hbx := hodd x d rfl (List.mem_of_getElem? hd)
      have hDx' := dp_n eN _ _ hDx
      have hA3 := hAG.keep (keepN eN)
      have hk : keptD h d = false := by unfold keptD; rw [hbx]; rfl
      refine q_when (σ := [some (.ref a), some (.ref b), some (.ref av2), y3, some (vN h.1.length), y5, some x, y7]) (b := false) (et_is (et_test (ev_op (ev_call (z := .bl (keptD h d)) (ea_cons (ev_var (v := .ref av2) rfl) (ea_cons (ev_var (v := x) rfl) ea_nil)) (SpV.of fun H4 e4 Q q E => ⟨.ref av2, x, h, d, rfl, hA3.keep (KeepT.ex e4), ho, dp_ex e4 _ _ hDx', q⟩)) ev_c (rv_val (z := .bl false) fun H4 e4 Q q => ⟨false, false, by rw [hk], rfl, q⟩))) rfl) (fun hb => absurd hb (by decide)) (fun _ H4 e4 => ?_)
      have eN4 := eN.trans (ExtN.ex e4)
      refine s_ref (K := K) (T := T) (mk := lamMLaw0) (b := lamBLaw0) (C := C3) (spL := spLam2 (spShWX K C3)) (σ := [some (.ref a), some (.ref b), some (.ref av2), y3, some (vN h.1.length), y5, some x, y7]) 3 (nm := "NoBoxes") (by decide +kernel) res3 (v1 := .ref av2) (v2 := x) (v3 := .int 0) (tab_ext hT2 e4) (fun H5 e5 => ea_cons (ev_var rfl) (ea_cons (ev_var rfl) (ea_cons ev_c ea_nil))) (fun H5 e5 Q' E' hE => ⟨.ref av2, x, .int 0, rfl, .ref av2, x, h, d, rfl, hAG.keep (keepN (eN4.trans e5)), ho, dp_n (eN4.trans e5) _ _ hDx, hbx, hE⟩) (fun H5 e5 t5 => ⟨⟨_, rfl⟩, eN4.trans e5, t5⟩)
    · obtain ⟨⟨y6, rfl⟩, eN, hT2⟩ := hP
      exact nx _ _ ⟨_, rfl, rfl⟩ ((XB.b (X11.trans (ExB.of eG))).trans (XB.n eN)) ((b11.ex eG).n eN) hT2
end
end Kw
set_option Elab.async false
set_option linter.all false
set_option maxRecDepth 100000
namespace Kw
open PySem PySem.Spec PyProof.Rows L2 KwX NdefX LamX
abbrev lamQ_Law : Str := ("law" : Str) ++ ".<locals>." ++ "<lambda>"
set_option maxHeartbeats 4000000 in
theorem all_mk {l : PySem.W.OpenLaw} {w : World} {K : PySem.W.Frag} {h : Heap} {mg : Str → Option Value} {fa f1 f2 f3 f4 f5 f6 f7 f8 f9 f10 f11 f12 f13 f14 f15 f16 f17 f18 f19 f20 f21 f22 f23 f24 f25 f26 f27 c_Law Pt_Law dT dL dB d0 d1 d2 d3 d4 d5 d6 d7 d8 d9 d10 d11 d12 d13 : Addr} (X : K.In h) (G : h.Ns mainGlobals mg) (hfa : mg "law" = some (.ref fa))
    (tab_Law : h.get? Pt_Law = some { cls := .none, data := .fields #[] })
    {od1 an1 od2 an2 od3 an3 od4 an4 od5 an5 od6 an6 od7 an7 od8 an8 od9 an9 od10 an10 od11 an11 od12 an12 od13 an13 od14 an14 od15 an15 od16 an16 od17 an17 od18 an18 od19 an19 od20 an20 od21 an21 od22 an22 od23 an23 od24 an24 od25 an25 od26 an26 od27 an27 : Option Addr} {sl1 sl2 sl3 sl4 sl5 sl6 sl7 sl8 sl9 sl10 sl11 sl12 sl13 sl14 sl15 sl16 sl17 sl18 sl19 sl20 sl21 sl22 sl23 sl24 sl25 sl26 sl27 : Array (Option Value)} {oc1 kV1 dc1 pm1 ct1 cd1 oc2 kV2 dc2 pm2 ct2 cd2 oc3 kV3 dc3 pm3 ct3 cd3 oc4 kV4 dc4 pm4 ct4 cd4 oc5 kV5 dc5 pm5 ct5 cd5 oc6 kV6 dc6 pm6 ct6 cd6 oc7 kV7 dc7 pm7 ct7 cd7 oc8 kV8 dc8 pm8 ct8 cd8 oc9 kV9 dc9 pm9 ct9 cd9 oc10 kV10 dc10 pm10 ct10 cd10 oc11 kV11 dc11 pm11 ct11 cd11 oc12 kV12 dc12 pm12 ct12 cd12 oc13 kV13 dc13 pm13 ct13 cd13 oc14 kV14 dc14 pm14 ct14 cd14 oc15 kV15 dc15 pm15 ct15 cd15 oc16 kV16 dc16 pm16 ct16 cd16 oc17 kV17 dc17 pm17 ct17 cd17 oc18 kV18 dc18 pm18 ct18 cd18 oc19 kV19 dc19 pm19 ct19 cd19 oc20 kV20 dc20 pm20 ct20 cd20 oc21 kV21 dc21 pm21 ct21 cd21 oc22 kV22 dc22 pm22 ct22 cd22 oc23 kV23 dc23 pm23 ct23 cd23 oc24 kV24 dc24 pm24 ct24 cd24 oc25 kV25 dc25 pm25 ct25 cd25 oc26 kV26 dc26 pm26 ct26 cd26 oc27 kV27 dc27 pm27 ct27 : Value} {t_MOST_LETTERS t_SMALL_LETTERS t_MOST_BOXES t_MOST_LOCKS t_MOST_KEYS : Tok} {tod_Law : Option Addr} {tvs_Law : Array Value} {tsl_Law : Array (Option Value)}
    (a1 : PySem.W.nsIn K mainGlobals "_law_cell_at" = some (some (.ref f1)))
    (l1 : K.lookup f1 = some ⟨oc1, od1, .func (PySem.W.fnOf "_law_cell_at" "_law_cell_at" (defArgs sCell) (defBody sCell) (defScope sCell) .none kV1 dc1 pm1 an1 cd1 ct1), sl1⟩)
    (c1 : PySem.W.codeIn K cd1 "_law_cell_at" = true)
    (k1 : PySem.W.keepIn K (.ref f1) = true)
    (a2 : PySem.W.nsIn K mainGlobals "_law_draws" = some (some (.ref f2)))
    (l2 : K.lookup f2 = some ⟨oc2, od2, .func (PySem.W.fnOf "_law_draws" "_law_draws" (defArgs sDraw) (defBody sDraw) (defScope sDraw) .none kV2 dc2 pm2 an2 cd2 ct2), sl2⟩)
    (c2 : PySem.W.codeIn K cd2 "_law_draws" = true)
    (k2 : PySem.W.keepIn K (.ref f2) = true)
    (a3 : PySem.W.nsIn K mainGlobals "_law_bag" = some (some (.ref f3)))
    (l3 : K.lookup f3 = some ⟨oc3, od3, .func (PySem.W.fnOf "_law_bag" "_law_bag" (defArgs sBag) (defBody sBag) (defScope sBag) .none kV3 dc3 pm3 an3 cd3 ct3), sl3⟩)
    (c3 : PySem.W.codeIn K cd3 "_law_bag" = true)
    (k3 : PySem.W.keepIn K (.ref f3) = true)
    (a4 : PySem.W.nsIn K mainGlobals "_law_bags" = some (some (.ref f4)))
    (l4 : K.lookup f4 = some ⟨oc4, od4, .func (PySem.W.fnOf "_law_bags" "_law_bags" (defArgs sBags) (defBody sBags) (defScope sBags) .none kV4 dc4 pm4 an4 cd4 ct4), sl4⟩)
    (c4 : PySem.W.codeIn K cd4 "_law_bags" = true)
    (k4 : PySem.W.keepIn K (.ref f4) = true)
    (a5 : PySem.W.nsIn K mainGlobals "_law_take" = some (some (.ref f5)))
    (l5 : K.lookup f5 = some ⟨oc5, od5, .func (PySem.W.fnOf "_law_take" "_law_take" (defArgs sTake) (defBody sTake) (defScope sTake) .none kV5 dc5 pm5 an5 cd5 ct5), sl5⟩)
    (c5 : PySem.W.codeIn K cd5 "_law_take" = true)
    (k5 : PySem.W.keepIn K (.ref f5) = true)
    (a6 : PySem.W.nsIn K mainGlobals "_law_some" = some (some (.ref f6)))
    (l6 : K.lookup f6 = some ⟨oc6, od6, .func (PySem.W.fnOf "_law_some" "_law_some" (defArgs sSome) (defBody sSome) (defScope sSome) .none kV6 dc6 pm6 an6 cd6 ct6), sl6⟩)
    (c6 : PySem.W.codeIn K cd6 "_law_some" = true)
    (k6 : PySem.W.keepIn K (.ref f6) = true)
    (a7 : PySem.W.nsIn K mainGlobals "_law_house" = some (some (.ref f7)))
    (l7 : K.lookup f7 = some ⟨oc7, od7, .func (PySem.W.fnOf "_law_house" "_law_house" (defArgs sHouse) (defBody sHouse) (defScope sHouse) .none kV7 dc7 pm7 an7 cd7 ct7), sl7⟩)
    (c7 : PySem.W.codeIn K cd7 "_law_house" = true)
    (k7 : PySem.W.keepIn K (.ref f7) = true)
    (a8 : PySem.W.nsIn K mainGlobals "_law_lots" = some (some (.ref f8)))
    (l8 : K.lookup f8 = some ⟨oc8, od8, .func (PySem.W.fnOf "_law_lots" "_law_lots" (defArgs sLots) (defBody sLots) (defScope sLots) .none kV8 dc8 pm8 an8 cd8 ct8), sl8⟩)
    (c8 : PySem.W.codeIn K cd8 "_law_lots" = true)
    (k8 : PySem.W.keepIn K (.ref f8) = true)
    (a9 : PySem.W.nsIn K mainGlobals "is_pair" = some (some (.ref f9)))
    (l9 : K.lookup f9 = some ⟨oc9, od9, .func (PySem.W.fnOf "is_pair" "is_pair" (defArgs sPair) (defBody sPair) (defScope sPair) .none kV9 dc9 pm9 an9 cd9 ct9), sl9⟩)
    (c9 : PySem.W.codeIn K cd9 "is_pair" = true)
    (k9 : PySem.W.keepIn K (.ref f9) = true)
    (a10 : PySem.W.nsIn K mainGlobals "is_colours" = some (some (.ref f10)))
    (l10 : K.lookup f10 = some ⟨oc10, od10, .func (PySem.W.fnOf "is_colours" "is_colours" (defArgs sCols) (defBody sCols) (defScope sCols) .none kV10 dc10 pm10 an10 cd10 ct10), sl10⟩)
    (c10 : PySem.W.codeIn K cd10 "is_colours" = true)
    (k10 : PySem.W.keepIn K (.ref f10) = true)
    (a11 : PySem.W.nsIn K mainGlobals "is_box" = some (some (.ref f11)))
    (l11 : K.lookup f11 = some ⟨oc11, od11, .func (PySem.W.fnOf "is_box" "is_box" (defArgs sBox) (defBody sBox) (defScope sBox) .none kV11 dc11 pm11 an11 cd11 ct11), sl11⟩)
    (c11 : PySem.W.codeIn K cd11 "is_box" = true)
    (k11 : PySem.W.keepIn K (.ref f11) = true)
    (a12 : PySem.W.nsIn K mainGlobals "is_house" = some (some (.ref f12)))
    (l12 : K.lookup f12 = some ⟨oc12, od12, .func (PySem.W.fnOf "is_house" "is_house" (defArgs sIsH) (defBody sIsH) (defScope sIsH) .none kV12 dc12 pm12 an12 cd12 ct12), sl12⟩)
    (c12 : PySem.W.codeIn K cd12 "is_house" = true)
    (k12 : PySem.W.keepIn K (.ref f12) = true)
    (a13 : PySem.W.nsIn K mainGlobals "check_house" = some (some (.ref f13)))
    (l13 : K.lookup f13 = some ⟨oc13, od13, .func (PySem.W.fnOf "check_house" "check_house" (defArgs sChk) (defBody sChk) (defScope sChk) .none kV13 dc13 pm13 an13 cd13 ct13), sl13⟩)
    (c13 : PySem.W.codeIn K cd13 "check_house" = true)
    (k13 : PySem.W.keepIn K (.ref f13) = true)
    (a14 : PySem.W.nsIn K mainGlobals "is_whole" = some (some (.ref f14)))
    (l14 : K.lookup f14 = some ⟨oc14, od14, .func (PySem.W.fnOf "is_whole" "is_whole" (defArgs sWho) (defBody sWho) (defScope sWho) .none kV14 dc14 pm14 an14 cd14 ct14), sl14⟩)
    (c14 : PySem.W.codeIn K cd14 "is_whole" = true)
    (k14 : PySem.W.keepIn K (.ref f14) = true)
    (a15 : PySem.W.nsIn K mainGlobals "is_boxes" = some (some (.ref f15)))
    (l15 : K.lookup f15 = some ⟨oc15, od15, .func (PySem.W.fnOf "is_boxes" "is_boxes" (defArgs sIsB) (defBody sIsB) (defScope sIsB) .none kV15 dc15 pm15 an15 cd15 ct15), sl15⟩)
    (c15 : PySem.W.codeIn K cd15 "is_boxes" = true)
    (k15 : PySem.W.keepIn K (.ref f15) = true)
    (a16 : PySem.W.nsIn K mainGlobals "keys_in" = some (some (.ref f16)))
    (l16 : K.lookup f16 = some ⟨oc16, od16, .func (PySem.W.fnOf "keys_in" "keys_in" (defArgs sKeys) (defBody sKeys) (defScope sKeys) .none kV16 dc16 pm16 an16 cd16 ct16), sl16⟩)
    (c16 : PySem.W.codeIn K cd16 "keys_in" = true)
    (k16 : PySem.W.keepIn K (.ref f16) = true)
    (a17 : PySem.W.nsIn K mainGlobals "fits" = some (some (.ref f17)))
    (l17 : K.lookup f17 = some ⟨oc17, od17, .func (PySem.W.fnOf "fits" "fits" (defArgs sFits) (defBody sFits) (defScope sFits) .none kV17 dc17 pm17 an17 cd17 ct17), sl17⟩)
    (c17 : PySem.W.codeIn K cd17 "fits" = true)
    (k17 : PySem.W.keepIn K (.ref f17) = true)
    (a18 : PySem.W.nsIn K mainGlobals "is_kept" = some (some (.ref f18)))
    (l18 : K.lookup f18 = some ⟨oc18, od18, .func (PySem.W.fnOf "is_kept" "is_kept" (defArgs sIsK) (defBody sIsK) (defScope sIsK) .none kV18 dc18 pm18 an18 cd18 ct18), sl18⟩)
    (c18 : PySem.W.codeIn K cd18 "is_kept" = true)
    (k18 : PySem.W.keepIn K (.ref f18) = true)
    (a19 : PySem.W.nsIn K mainGlobals "_law_keeps" = some (some (.ref f19)))
    (l19 : K.lookup f19 = some ⟨oc19, od19, .func (PySem.W.fnOf "_law_keeps" "_law_keeps" (defArgs sKps) (defBody sKps) (defScope sKps) .none kV19 dc19 pm19 an19 cd19 ct19), sl19⟩)
    (c19 : PySem.W.codeIn K cd19 "_law_keeps" = true)
    (k19 : PySem.W.keepIn K (.ref f19) = true)
    (a20 : PySem.W.nsIn K mainGlobals "opened_in_rounds" = some (some (.ref f20)))
    (l20 : K.lookup f20 = some ⟨oc20, od20, .func (PySem.W.fnOf "opened_in_rounds" "opened_in_rounds" (defArgs sOpn) (defBody sOpn) (defScope sOpn) .none kV20 dc20 pm20 an20 cd20 ct20), sl20⟩)
    (c20 : PySem.W.codeIn K cd20 "opened_in_rounds" = true)
    (k20 : PySem.W.keepIn K (.ref f20) = true)
    (a21 : PySem.W.nsIn K mainGlobals "shut_boxes" = some (some (.ref f21)))
    (l21 : K.lookup f21 = some ⟨oc21, od21, .func (PySem.W.fnOf "shut_boxes" "shut_boxes" (defArgs sShB) (defBody sShB) (defScope sShB) .none kV21 dc21 pm21 an21 cd21 ct21), sl21⟩)
    (c21 : PySem.W.codeIn K cd21 "shut_boxes" = true)
    (k21 : PySem.W.keepIn K (.ref f21) = true)
    (a22 : PySem.W.nsIn K mainGlobals "shut_with" = some (some (.ref f22)))
    (l22 : K.lookup f22 = some ⟨oc22, od22, .func (PySem.W.fnOf "shut_with" "shut_with" (defArgs sShW) (defBody sShW) (defScope sShW) .none kV22 dc22 pm22 an22 cd22 ct22), sl22⟩)
    (c22 : PySem.W.codeIn K cd22 "shut_with" = true)
    (k22 : PySem.W.keepIn K (.ref f22) = true)
    (a23 : PySem.W.nsIn K mainGlobals "_law_rounds" = some (some (.ref f23)))
    (l23 : K.lookup f23 = some ⟨oc23, od23, .func (PySem.W.fnOf "_law_rounds" "_law_rounds" (defArgs sLR) (defBody sLR) (defScope sLR) .none kV23 dc23 pm23 an23 cd23 ct23), sl23⟩)
    (c23 : PySem.W.codeIn K cd23 "_law_rounds" = true)
    (k23 : PySem.W.keepIn K (.ref f23) = true)
    (a24 : PySem.W.nsIn K mainGlobals "_law_shut" = some (some (.ref f24)))
    (l24 : K.lookup f24 = some ⟨oc24, od24, .func (PySem.W.fnOf "_law_shut" "_law_shut" (defArgs sLS) (defBody sLS) (defScope sLS) .none kV24 dc24 pm24 an24 cd24 ct24), sl24⟩)
    (c24 : PySem.W.codeIn K cd24 "_law_shut" = true)
    (k24 : PySem.W.keepIn K (.ref f24) = true)
    (a25 : PySem.W.nsIn K mainGlobals "_law_right" = some (some (.ref f25)))
    (l25 : K.lookup f25 = some ⟨oc25, od25, .func (PySem.W.fnOf "_law_right" "_law_right" (defArgs sRgt) (defBody sRgt) (defScope sRgt) .none kV25 dc25 pm25 an25 cd25 ct25), sl25⟩)
    (c25 : PySem.W.codeIn K cd25 "_law_right" = true)
    (k25 : PySem.W.keepIn K (.ref f25) = true)
    (a26 : PySem.W.nsIn K mainGlobals "_law_refused" = some (some (.ref f26)))
    (l26 : K.lookup f26 = some ⟨oc26, od26, .func (PySem.W.fnOf "_law_refused" "_law_refused" (defArgs sRef) (defBody sRef) (defScope sRef) .none kV26 dc26 pm26 an26 cd26 ct26), sl26⟩)
    (c26 : PySem.W.codeIn K cd26 "_law_refused" = true)
    (k26 : PySem.W.keepIn K (.ref f26) = true)
    (a27 : PySem.W.nsIn K mainGlobals "law" = some (some (.ref f27)))
    (l27 : K.lookup f27 = some ⟨oc27, od27, .func (PySem.W.fnOf "law" "law" (defArgs sLaw) (defBody sLaw) (defScope sLaw) .none kV27 dc27 pm27 an27 (.ref c_Law) ct27), sl27⟩)
    (c27 : PySem.W.codeIn K (.ref c_Law) "law" = true)
    (k27 : PySem.W.keepIn K (.ref f27) = true)
    (z_isi : PySem.W.nsIn K mainGlobals "isinstance" = some none)
    (z_tup : PySem.W.nsIn K mainGlobals "tuple" = some none)
    (z_lst : PySem.W.nsIn K mainGlobals "list" = some none)
    (z_str : PySem.W.nsIn K mainGlobals "str" = some none)
    (z_len : PySem.W.nsIn K mainGlobals "len" = some none)
    (z_all : PySem.W.nsIn K mainGlobals "all" = some none)
    (z_zip : PySem.W.nsIn K mainGlobals "zip" = some none)
    (z_rng : PySem.W.nsIn K mainGlobals "range" = some none)
    (z_int : PySem.W.nsIn K mainGlobals "int" = some none)
    (z_max : PySem.W.nsIn K mainGlobals "max" = some none)
    (z_min : PySem.W.nsIn K mainGlobals "min" = some none)
    (z_srt : PySem.W.nsIn K mainGlobals "sorted" = some none)
    (z_enu : PySem.W.nsIn K mainGlobals "enumerate" = some none)
    (z_sum : PySem.W.nsIn K mainGlobals "sum" = some none)
    (z_abs : PySem.W.nsIn K mainGlobals "abs" = some none)
    (z_rpr : PySem.W.nsIn K mainGlobals "repr" = some none)
    (z_set : PySem.W.nsIn K mainGlobals "set" = some none)
    (z_bool : PySem.W.nsIn K mainGlobals "bool" = some none)
    (z_ver : PySem.W.nsIn K mainGlobals "ValueError" = some none)
    (z_any : PySem.W.nsIn K mainGlobals "any" = some none)
    (m_MOST_LETTERS : PySem.W.nsIn K mainGlobals "MOST_LETTERS" = some (some (.int 8 t_MOST_LETTERS)))
    (m_SMALL_LETTERS : PySem.W.nsIn K mainGlobals "SMALL_LETTERS" = some (some (.str "abcdefghijklmnopqrstuvwxyz" t_SMALL_LETTERS)))
    (m_MOST_BOXES : PySem.W.nsIn K mainGlobals "MOST_BOXES" = some (some (.int 30 t_MOST_BOXES)))
    (m_MOST_LOCKS : PySem.W.nsIn K mainGlobals "MOST_LOCKS" = some (some (.int 3 t_MOST_LOCKS)))
    (m_MOST_KEYS : PySem.W.nsIn K mainGlobals "MOST_KEYS" = some (some (.int 6 t_MOST_KEYS)))
    (e_NoHouse : PySem.W.nsIn K mainGlobals "NoHouse" = some (some (.ref d0)))
    (i_NoHouse : PySem.W.isClsIn K d0 = true)
    (t_NoHouse : PySem.W.typeIn K (.ref d0) = some (.type "type"))
    (b_NoHouse : PySem.W.subIn K (.ref d0) (.type "BaseException") = some true)
    (h_NoHouse : PySem.W.hasDictIn K d0 = true)
    (e_NoColour : PySem.W.nsIn K mainGlobals "NoColour" = some (some (.ref d1)))
    (i_NoColour : PySem.W.isClsIn K d1 = true)
    (t_NoColour : PySem.W.typeIn K (.ref d1) = some (.type "type"))
    (b_NoColour : PySem.W.subIn K (.ref d1) (.type "BaseException") = some true)
    (h_NoColour : PySem.W.hasDictIn K d1 = true)
    (e_NoRow : PySem.W.nsIn K mainGlobals "NoRow" = some (some (.ref d2)))
    (i_NoRow : PySem.W.isClsIn K d2 = true)
    (t_NoRow : PySem.W.typeIn K (.ref d2) = some (.type "type"))
    (b_NoRow : PySem.W.subIn K (.ref d2) (.type "BaseException") = some true)
    (h_NoRow : PySem.W.hasDictIn K d2 = true)
    (e_NoBoxes : PySem.W.nsIn K mainGlobals "NoBoxes" = some (some (.ref d3)))
    (i_NoBoxes : PySem.W.isClsIn K d3 = true)
    (t_NoBoxes : PySem.W.typeIn K (.ref d3) = some (.type "type"))
    (b_NoBoxes : PySem.W.subIn K (.ref d3) (.type "BaseException") = some true)
    (h_NoBoxes : PySem.W.hasDictIn K d3 = true)
    (e_NoLaying : PySem.W.nsIn K mainGlobals "NoLaying" = some (some (.ref d4)))
    (i_NoLaying : PySem.W.isClsIn K d4 = true)
    (t_NoLaying : PySem.W.typeIn K (.ref d4) = some (.type "type"))
    (b_NoLaying : PySem.W.subIn K (.ref d4) (.type "BaseException") = some true)
    (h_NoLaying : PySem.W.hasDictIn K d4 = true)
    (e_NoNumber : PySem.W.nsIn K mainGlobals "NoNumber" = some (some (.ref d5)))
    (i_NoNumber : PySem.W.isClsIn K d5 = true)
    (t_NoNumber : PySem.W.typeIn K (.ref d5) = some (.type "type"))
    (b_NoNumber : PySem.W.subIn K (.ref d5) (.type "BaseException") = some true)
    (h_NoNumber : PySem.W.hasDictIn K d5 = true)
    (e_NoBox : PySem.W.nsIn K mainGlobals "NoBox" = some (some (.ref d6)))
    (i_NoBox : PySem.W.isClsIn K d6 = true)
    (t_NoBox : PySem.W.typeIn K (.ref d6) = some (.type "type"))
    (b_NoBox : PySem.W.subIn K (.ref d6) (.type "BaseException") = some true)
    (h_NoBox : PySem.W.hasDictIn K d6 = true)
    (e_NoKey : PySem.W.nsIn K mainGlobals "NoKey" = some (some (.ref d7)))
    (i_NoKey : PySem.W.isClsIn K d7 = true)
    (t_NoKey : PySem.W.typeIn K (.ref d7) = some (.type "type"))
    (b_NoKey : PySem.W.subIn K (.ref d7) (.type "BaseException") = some true)
    (h_NoKey : PySem.W.hasDictIn K d7 = true)
    (e_Locks : PySem.W.nsIn K mainGlobals "Locks" = some (some (.ref d8)))
    (i_Locks : PySem.W.isClsIn K d8 = true)
    (t_Locks : PySem.W.typeIn K (.ref d8) = some (.type "type"))
    (b_Locks : PySem.W.subIn K (.ref d8) (.type "BaseException") = some true)
    (h_Locks : PySem.W.hasDictIn K d8 = true)
    (e_Unlike : PySem.W.nsIn K mainGlobals "Unlike" = some (some (.ref d9)))
    (i_Unlike : PySem.W.isClsIn K d9 = true)
    (t_Unlike : PySem.W.typeIn K (.ref d9) = some (.type "type"))
    (b_Unlike : PySem.W.subIn K (.ref d9) (.type "BaseException") = some true)
    (h_Unlike : PySem.W.hasDictIn K d9 = true)
    (e_Open : PySem.W.nsIn K mainGlobals "Open" = some (some (.ref d10)))
    (i_Open : PySem.W.isClsIn K d10 = true)
    (t_Open : PySem.W.typeIn K (.ref d10) = some (.type "type"))
    (b_Open : PySem.W.subIn K (.ref d10) (.type "BaseException") = some true)
    (h_Open : PySem.W.hasDictIn K d10 = true)
    (e_Shut : PySem.W.nsIn K mainGlobals "Shut" = some (some (.ref d11)))
    (i_Shut : PySem.W.isClsIn K d11 = true)
    (t_Shut : PySem.W.typeIn K (.ref d11) = some (.type "type"))
    (b_Shut : PySem.W.subIn K (.ref d11) (.type "BaseException") = some true)
    (h_Shut : PySem.W.hasDictIn K d11 = true)
    (e_Full : PySem.W.nsIn K mainGlobals "Full" = some (some (.ref d12)))
    (i_Full : PySem.W.isClsIn K d12 = true)
    (t_Full : PySem.W.typeIn K (.ref d12) = some (.type "type"))
    (b_Full : PySem.W.subIn K (.ref d12) (.type "BaseException") = some true)
    (h_Full : PySem.W.hasDictIn K d12 = true)
    (e_NothingLeft : PySem.W.nsIn K mainGlobals "NothingLeft" = some (some (.ref d13)))
    (i_NothingLeft : PySem.W.isClsIn K d13 = true)
    (t_NothingLeft : PySem.W.typeIn K (.ref d13) = some (.type "type"))
    (b_NothingLeft : PySem.W.subIn K (.ref d13) (.type "BaseException") = some true)
    (h_NothingLeft : PySem.W.hasDictIn K d13 = true)
    (e_TooMany : PySem.W.nsIn K mainGlobals "TooMany" = some (some (.ref dT)))
    (i_TooMany : PySem.W.isClsIn K dT = true)
    (t_TooMany : PySem.W.typeIn K (.ref dT) = some (.type "type"))
    (b_TooMany : PySem.W.subIn K (.ref dT) (.type "BaseException") = some true)
    (h_TooMany : PySem.W.hasDictIn K dT = true)
    (e_Locked : PySem.W.nsIn K mainGlobals "Locked" = some (some (.ref dL)))
    (i_Locked : PySem.W.isClsIn K dL = true)
    (t_Locked : PySem.W.typeIn K (.ref dL) = some (.type "type"))
    (b_Locked : PySem.W.subIn K (.ref dL) (.type "BaseException") = some true)
    (h_Locked : PySem.W.hasDictIn K dL = true)
    (e_BoxError : PySem.W.nsIn K mainGlobals "BoxError" = some (some (.ref dB)))
    (i_BoxError : PySem.W.isClsIn K dB = true)
    (t_BoxError : PySem.W.typeIn K (.ref dB) = some (.type "type"))
    (b_BoxError : PySem.W.subIn K (.ref dB) (.type "BaseException") = some true)
    (h_BoxError : PySem.W.hasDictIn K dB = true)
    (v_NoBoxes : PySem.W.subIn K (.ref d3) (.type "ValueError") = some true)
    (s_NoBoxes_NoHouse : PySem.W.subIn K (.ref d3) (.ref d0) = some false)
    (n_NoBoxes_NoHouse : (Value.ref d3 == .ref d0) = false)
    (s_NoBoxes_NoColour : PySem.W.subIn K (.ref d3) (.ref d1) = some false)
    (n_NoBoxes_NoColour : (Value.ref d3 == .ref d1) = false)
    (s_NoBoxes_NoRow : PySem.W.subIn K (.ref d3) (.ref d2) = some false)
    (n_NoBoxes_NoRow : (Value.ref d3 == .ref d2) = false)
    (s_NoBoxes_NoBoxes : PySem.W.subIn K (.ref d3) (.ref d3) = some true)
    (s_NoBoxes_NoLaying : PySem.W.subIn K (.ref d3) (.ref d4) = some false)
    (n_NoBoxes_NoLaying : (Value.ref d3 == .ref d4) = false)
    (s_NoBoxes_NoNumber : PySem.W.subIn K (.ref d3) (.ref d5) = some false)
    (n_NoBoxes_NoNumber : (Value.ref d3 == .ref d5) = false)
    (s_NoBoxes_NoBox : PySem.W.subIn K (.ref d3) (.ref d6) = some false)
    (n_NoBoxes_NoBox : (Value.ref d3 == .ref d6) = false)
    (s_NoBoxes_NoKey : PySem.W.subIn K (.ref d3) (.ref d7) = some false)
    (n_NoBoxes_NoKey : (Value.ref d3 == .ref d7) = false)
    (s_NoBoxes_Locks : PySem.W.subIn K (.ref d3) (.ref d8) = some false)
    (n_NoBoxes_Locks : (Value.ref d3 == .ref d8) = false)
    (s_NoBoxes_Unlike : PySem.W.subIn K (.ref d3) (.ref d9) = some false)
    (n_NoBoxes_Unlike : (Value.ref d3 == .ref d9) = false)
    (s_NoBoxes_Open : PySem.W.subIn K (.ref d3) (.ref d10) = some false)
    (n_NoBoxes_Open : (Value.ref d3 == .ref d10) = false)
    (s_NoBoxes_Shut : PySem.W.subIn K (.ref d3) (.ref d11) = some false)
    (n_NoBoxes_Shut : (Value.ref d3 == .ref d11) = false)
    (s_NoBoxes_Full : PySem.W.subIn K (.ref d3) (.ref d12) = some false)
    (n_NoBoxes_Full : (Value.ref d3 == .ref d12) = false)
    (s_NoBoxes_NothingLeft : PySem.W.subIn K (.ref d3) (.ref d13) = some false)
    (n_NoBoxes_NothingLeft : (Value.ref d3 == .ref d13) = false)
    (s_NoBoxes_TooMany : PySem.W.subIn K (.ref d3) (.ref dT) = some false)
    (s_NoBoxes_Locked : PySem.W.subIn K (.ref d3) (.ref dL) = some false)
    (s_NoBoxes_BoxError : PySem.W.subIn K (.ref d3) (.ref dB) = some true)
    (w1_NoBoxes : PySem.W.findIn K (.ref d3) "__getattribute__" = some (some (.builtin "BaseException.__getattribute__")))
    (w2_NoBoxes : PySem.W.findIn K (.ref d3) "__getattr__" = some none)
    (w5_NoBoxes : PySem.W.findIn K (.ref d3) "__class__" = some (some (.builtin "object.__class__")))
    (w8_NoBoxes : PySem.W.mroIn K d3 (.type "object") = some true)
    (xq_NoBoxes : PySem.W.excIn K d3 [.type "ValueError", .type "Exception", .type "BaseException", .type "object"] "ValueError.__new__" = true)
    (xk_NoBoxes : PySem.W.keepIn K (.ref d3) = true)
    (w6 : PySem.W.specialIn K (.builtin "object.__class__") "__get__" = some (some (.builtin "getset_descriptor.__get__")))
    (w7 : PySem.W.takesIn K (.builtin "object.__class__") = some true)
    (tn_Law : K.lookup Pt_Law = none)
    (tl_Law : K.lookup c_Law = some ⟨.type "code", tod_Law, .fields tvs_Law, tsl_Law⟩)
    (th_Law : codeVs tvs_Law c_Law Pt_Law = true)
    : LawAtS l w K CX0 20 63 "script" mg fa h := by
  have e := hfa.symm.trans (PySem.W.mg_of X G a27)
  cases e
  have F1 := fun_mk (st := sCell) l1 c1 k1
  have D1 : Df K mg "_law_cell_at" sCell ["script", "k"] f1 _ := ⟨F1, PySem.W.mg_of X G a1, F1.binds fun _ _ _ _ _ _ us hl => match us, hl with | [_, _], _ => rfl⟩
  have F2 := fun_mk (st := sDraw) l2 c2 k2
  have D2 : Df K mg "_law_draws" sDraw ["cell", "many", "size"] f2 _ := ⟨F2, PySem.W.mg_of X G a2, F2.binds fun _ _ _ _ _ _ us hl => match us, hl with | [_, _, _], _ => rfl⟩
  have F3 := fun_mk (st := sBag) l3 c3 k3
  have D3 : Df K mg "_law_bag" sBag ["script", "k"] f3 _ := ⟨F3, PySem.W.mg_of X G a3, F3.binds fun _ _ _ _ _ _ us hl => match us, hl with | [_, _], _ => rfl⟩
  have F4 := fun_mk (st := sBags) l4 c4 k4
  have D4 : Df K mg "_law_bags" sBags ["script", "limit"] f4 _ := ⟨F4, PySem.W.mg_of X G a4, F4.binds fun _ _ _ _ _ _ us hl => match us, hl with | [_, _], _ => rfl⟩
  have F5 := fun_mk (st := sTake) l5 c5 k5
  have D5 : Df K mg "_law_take" sTake ["bag", "many"] f5 _ := ⟨F5, PySem.W.mg_of X G a5, F5.binds fun _ _ _ _ _ _ us hl => match us, hl with | [_, _], _ => rfl⟩
  have F6 := fun_mk (st := sSome) l6 c6 k6
  have D6 : Df K mg "_law_some" sSome ["bag", "most", "wide"] f6 _ := ⟨F6, PySem.W.mg_of X G a6, F6.binds fun _ _ _ _ _ _ us hl => match us, hl with | [_, _, _], _ => rfl⟩
  have F7 := fun_mk (st := sHouse) l7 c7 k7
  have D7 : Df K mg "_law_house" sHouse ["bag", "boxes", "locks", "wide"] f7 _ := ⟨F7, PySem.W.mg_of X G a7, F7.binds fun _ _ _ _ _ _ us hl => match us, hl with | [_, _, _, _], _ => rfl⟩
  have F8 := fun_mk (st := sLots) l8 c8 k8
  have D8 : Df K mg "_law_lots" sLots ["many"] f8 _ := ⟨F8, PySem.W.mg_of X G a8, F8.binds fun _ _ _ _ _ _ us hl => match us, hl with | [_], _ => rfl⟩
  have F9 := fun_mk (st := sPair) l9 c9 k9
  have D9 : Df K mg "is_pair" sPair ["thing"] f9 _ := ⟨F9, PySem.W.mg_of X G a9, F9.binds fun _ _ _ _ _ _ us hl => match us, hl with | [_], _ => rfl⟩
  have F10 := fun_mk (st := sCols) l10 c10 k10
  have D10 : Df K mg "is_colours" sCols ["thing", "most"] f10 _ := ⟨F10, PySem.W.mg_of X G a10, F10.binds fun _ _ _ _ _ _ us hl => match us, hl with | [_, _], _ => rfl⟩
  have F11 := fun_mk (st := sBox) l11 c11 k11
  have D11 : Df K mg "is_box" sBox ["thing"] f11 _ := ⟨F11, PySem.W.mg_of X G a11, F11.binds fun _ _ _ _ _ _ us hl => match us, hl with | [_], _ => rfl⟩
  have F12 := fun_mk (st := sIsH) l12 c12 k12
  have D12 : Df K mg "is_house" sIsH ["thing"] f12 _ := ⟨F12, PySem.W.mg_of X G a12, F12.binds fun _ _ _ _ _ _ us hl => match us, hl with | [_], _ => rfl⟩
  have F13 := fun_mk (st := sChk) l13 c13 k13
  have D13 : Df K mg "check_house" sChk ["house"] f13 _ := ⟨F13, PySem.W.mg_of X G a13, F13.binds fun _ _ _ _ _ _ us hl => match us, hl with | [_], _ => rfl⟩
  have F14 := fun_mk (st := sWho) l14 c14 k14
  have D14 : Df K mg "is_whole" sWho ["thing"] f14 _ := ⟨F14, PySem.W.mg_of X G a14, F14.binds fun _ _ _ _ _ _ us hl => match us, hl with | [_], _ => rfl⟩
  have F15 := fun_mk (st := sIsB) l15 c15 k15
  have D15 : Df K mg "is_boxes" sIsB ["thing", "many"] f15 _ := ⟨F15, PySem.W.mg_of X G a15, F15.binds fun _ _ _ _ _ _ us hl => match us, hl with | [_, _], _ => rfl⟩
  have F16 := fun_mk (st := sKeys) l16 c16 k16
  have D16 : Df K mg "keys_in" sKeys ["boxes", "some"] f16 _ := ⟨F16, PySem.W.mg_of X G a16, F16.binds fun _ _ _ _ _ _ us hl => match us, hl with | [_, _], _ => rfl⟩
  have F17 := fun_mk (st := sFits) l17 c17 k17
  have D17 : Df K mg "fits" sFits ["locks", "held"] f17 _ := ⟨F17, PySem.W.mg_of X G a17, F17.binds fun _ _ _ _ _ _ us hl => match us, hl with | [_, _], _ => rfl⟩
  have F18 := fun_mk (st := sIsK) l18 c18 k18
  have D18 : Df K mg "is_kept" sIsK ["house", "thing"] f18 _ := ⟨F18, PySem.W.mg_of X G a18, F18.binds fun _ _ _ _ _ _ us hl => match us, hl with | [_, _], _ => rfl⟩
  have F19 := fun_mk (st := sKps) l19 c19 k19
  have D19 : Df K mg "_law_keeps" sKps ["house", "lot"] f19 _ := ⟨F19, PySem.W.mg_of X G a19, F19.binds fun _ _ _ _ _ _ us hl => match us, hl with | [_, _], _ => rfl⟩
  have F20 := fun_mk (st := sOpn) l20 c20 k20
  have D20 : Df K mg "opened_in_rounds" sOpn ["boxes", "held", "closed"] f20 _ := ⟨F20, PySem.W.mg_of X G a20, F20.binds fun _ _ _ _ _ _ us hl => match us, hl with | [_, _, _], _ => rfl⟩
  have F21 := fun_mk (st := sShB) l21 c21 k21
  have D21 : Df K mg "shut_boxes" sShB ["boxes", "hand", "broken"] f21 _ := ⟨F21, PySem.W.mg_of X G a21, F21.binds fun _ _ _ _ _ _ us hl => match us, hl with | [_, _, _], _ => rfl⟩
  have F22 := fun_mk (st := sShW) l22 c22 k22
  have D22 : Df K mg "shut_with" sShW ["house", "broken"] f22 _ := ⟨F22, PySem.W.mg_of X G a22, F22.binds fun _ _ _ _ _ _ us hl => match us, hl with | [_, _], _ => rfl⟩
  have F23 := fun_mk (st := sLR) l23 c23 k23
  have D23 : Df K mg "_law_rounds" sLR ["boxes", "hand"] f23 _ := ⟨F23, PySem.W.mg_of X G a23, F23.binds fun _ _ _ _ _ _ us hl => match us, hl with | [_, _], _ => rfl⟩
  have F24 := fun_mk (st := sLS) l24 c24 k24
  have D24 : Df K mg "_law_shut" sLS ["house", "broken"] f24 _ := ⟨F24, PySem.W.mg_of X G a24, F24.binds fun _ _ _ _ _ _ us hl => match us, hl with | [_, _], _ => rfl⟩
  have F25 := fun_mk (st := sRgt) l25 c25 k25
  have D25 : Df K mg "_law_right" sRgt ["house", "lot"] f25 _ := ⟨F25, PySem.W.mg_of X G a25, F25.binds fun _ _ _ _ _ _ us hl => match us, hl with | [_, _], _ => rfl⟩
  have F26 := fun_mk (st := sRef) l26 c26 k26
  have D26 : Df K mg "_law_refused" sRef ["call", "one", "two", "three"] f26 _ := ⟨F26, PySem.W.mg_of X G a26, F26.binds fun _ _ _ _ _ _ us hl => match us, hl with | [_, _, _, _], _ => rfl⟩
  have F27 := fun_mk (st := sLaw) l27 c27 k27
  have B : Bu mg := ⟨PySem.W.mg_none_of X G z_isi, PySem.W.mg_none_of X G z_tup, PySem.W.mg_none_of X G z_lst, PySem.W.mg_none_of X G z_str, PySem.W.mg_none_of X G z_len, PySem.W.mg_none_of X G z_all, PySem.W.mg_none_of X G z_zip, PySem.W.mg_none_of X G z_rng, PySem.W.mg_none_of X G z_int, PySem.W.mg_none_of X G z_max, PySem.W.mg_none_of X G z_min, PySem.W.mg_none_of X G z_srt, PySem.W.mg_none_of X G z_enu, PySem.W.mg_none_of X G z_sum, PySem.W.mg_none_of X G z_abs, PySem.W.mg_none_of X G z_rpr, PySem.W.mg_none_of X G z_set, PySem.W.mg_none_of X G z_bool, PySem.W.mg_none_of X G z_ver, PySem.W.mg_none_of X G z_any⟩
  have n_MOST_LETTERS := PySem.W.mg_of X G m_MOST_LETTERS
  have n_SMALL_LETTERS := PySem.W.mg_of X G m_SMALL_LETTERS
  have n_MOST_BOXES := PySem.W.mg_of X G m_MOST_BOXES
  have n_MOST_LOCKS := PySem.W.mg_of X G m_MOST_LOCKS
  have n_MOST_KEYS := PySem.W.mg_of X G m_MOST_KEYS
  have C_NoHouse : ClsT K mg "NoHouse" d0 := ⟨PySem.W.mg_of X G e_NoHouse, i_NoHouse, t_NoHouse, b_NoHouse, h_NoHouse⟩
  have C_NoColour : ClsT K mg "NoColour" d1 := ⟨PySem.W.mg_of X G e_NoColour, i_NoColour, t_NoColour, b_NoColour, h_NoColour⟩
  have C_NoRow : ClsT K mg "NoRow" d2 := ⟨PySem.W.mg_of X G e_NoRow, i_NoRow, t_NoRow, b_NoRow, h_NoRow⟩
  have C_NoBoxes : ClsT K mg "NoBoxes" d3 := ⟨PySem.W.mg_of X G e_NoBoxes, i_NoBoxes, t_NoBoxes, b_NoBoxes, h_NoBoxes⟩
  have C_NoLaying : ClsT K mg "NoLaying" d4 := ⟨PySem.W.mg_of X G e_NoLaying, i_NoLaying, t_NoLaying, b_NoLaying, h_NoLaying⟩
  have C_NoNumber : ClsT K mg "NoNumber" d5 := ⟨PySem.W.mg_of X G e_NoNumber, i_NoNumber, t_NoNumber, b_NoNumber, h_NoNumber⟩
  have C_NoBox : ClsT K mg "NoBox" d6 := ⟨PySem.W.mg_of X G e_NoBox, i_NoBox, t_NoBox, b_NoBox, h_NoBox⟩
  have C_NoKey : ClsT K mg "NoKey" d7 := ⟨PySem.W.mg_of X G e_NoKey, i_NoKey, t_NoKey, b_NoKey, h_NoKey⟩
  have C_Locks : ClsT K mg "Locks" d8 := ⟨PySem.W.mg_of X G e_Locks, i_Locks, t_Locks, b_Locks, h_Locks⟩
  have C_Unlike : ClsT K mg "Unlike" d9 := ⟨PySem.W.mg_of X G e_Unlike, i_Unlike, t_Unlike, b_Unlike, h_Unlike⟩
  have C_Open : ClsT K mg "Open" d10 := ⟨PySem.W.mg_of X G e_Open, i_Open, t_Open, b_Open, h_Open⟩
  have C_Shut : ClsT K mg "Shut" d11 := ⟨PySem.W.mg_of X G e_Shut, i_Shut, t_Shut, b_Shut, h_Shut⟩
  have C_Full : ClsT K mg "Full" d12 := ⟨PySem.W.mg_of X G e_Full, i_Full, t_Full, b_Full, h_Full⟩
  have C_NothingLeft : ClsT K mg "NothingLeft" d13 := ⟨PySem.W.mg_of X G e_NothingLeft, i_NothingLeft, t_NothingLeft, b_NothingLeft, h_NothingLeft⟩
  have C_TooMany : ClsT K mg "TooMany" dT := ⟨PySem.W.mg_of X G e_TooMany, i_TooMany, t_TooMany, b_TooMany, h_TooMany⟩
  have C_Locked : ClsT K mg "Locked" dL := ⟨PySem.W.mg_of X G e_Locked, i_Locked, t_Locked, b_Locked, h_Locked⟩
  have C_BoxError : ClsT K mg "BoxError" dB := ⟨PySem.W.mg_of X G e_BoxError, i_BoxError, t_BoxError, b_BoxError, h_BoxError⟩
  have hC : ∀ i, i < 14 → ClsT K mg (nmC i) ([d0, d1, d2, d3, d4, d5, d6, d7, d8, d9, d10, d11, d12, d13].getD i d0) := fun i hi => match i, hi with | 0, _ => C_NoHouse | 1, _ => C_NoColour | 2, _ => C_NoRow | 3, _ => C_NoBoxes | 4, _ => C_NoLaying | 5, _ => C_NoNumber | 6, _ => C_NoBox | 7, _ => C_NoKey | 8, _ => C_Locks | 9, _ => C_Unlike | 10, _ => C_Open | 11, _ => C_Shut | 12, _ => C_Full | 13, _ => C_NothingLeft | i + 14, hi => absurd hi (by omega)
  have R_NoBoxes : RaiseT K d3 := ⟨v_NoBoxes, ⟨w1_NoBoxes, w2_NoBoxes, b_NoBoxes, h_NoBoxes, w5_NoBoxes, w6, w7, w8_NoBoxes⟩, xq_NoBoxes, xk_NoBoxes⟩
  have E_NoBoxes := R_NoBoxes.exc C_NoBoxes
  have T_NoBoxes : RefT K mg d3 (fun i => [d0, d1, d2, d3, d4, d5, d6, d7, d8, d9, d10, d11, d12, d13].getD i d0) (fun i => decide (i = 3)) dT dL dB := refT_of R_NoBoxes C_TooMany C_Locked C_BoxError hC s_NoBoxes_TooMany s_NoBoxes_Locked s_NoBoxes_BoxError (fun i hi => match i, hi with | 0, _ => ⟨s_NoBoxes_NoHouse, .inr n_NoBoxes_NoHouse⟩ | 1, _ => ⟨s_NoBoxes_NoColour, .inr n_NoBoxes_NoColour⟩ | 2, _ => ⟨s_NoBoxes_NoRow, .inr n_NoBoxes_NoRow⟩ | 3, _ => ⟨s_NoBoxes_NoBoxes, .inl rfl⟩ | 4, _ => ⟨s_NoBoxes_NoLaying, .inr n_NoBoxes_NoLaying⟩ | 5, _ => ⟨s_NoBoxes_NoNumber, .inr n_NoBoxes_NoNumber⟩ | 6, _ => ⟨s_NoBoxes_NoBox, .inr n_NoBoxes_NoBox⟩ | 7, _ => ⟨s_NoBoxes_NoKey, .inr n_NoBoxes_NoKey⟩ | 8, _ => ⟨s_NoBoxes_Locks, .inr n_NoBoxes_Locks⟩ | 9, _ => ⟨s_NoBoxes_Unlike, .inr n_NoBoxes_Unlike⟩ | 10, _ => ⟨s_NoBoxes_Open, .inr n_NoBoxes_Open⟩ | 11, _ => ⟨s_NoBoxes_Shut, .inr n_NoBoxes_Shut⟩ | 12, _ => ⟨s_NoBoxes_Full, .inr n_NoBoxes_Full⟩ | 13, _ => ⟨s_NoBoxes_NothingLeft, .inr n_NoBoxes_NothingLeft⟩ | i + 14, hi => absurd hi (by omega)) B.isi B.ver
  refine ⟨PySem.W.fnOf "law" "law" (defArgs sLaw) (defBody sLaw) (defScope sLaw) .none kV27 dc27 pm27 an27 (.ref c_Law) ct27, [(c_Law, Pt_Law)], spLawX K [(Pt_Law, lamQ_Law)], (fun p hp => ?_), (fun p hp => ?_), (fun p hp => ?_), fun s v => .of_eq rfl, (fun H a ns hl _ hH hS => ⟨a, ns, rfl, hS, hl, (fun p hp => ?_), fun _ => rfl⟩), fun base _ _ TB => ?_⟩
  ·
    rw [List.mem_singleton.mp hp]
    exact tab_Law
  ·
    rw [List.mem_singleton.mp hp]
    exact tn_Law
  ·
    rw [List.mem_singleton.mp hp]
    exact PySem.W.codeHd_of_K X (codeHd_by tl_Law th_Law)
  ·
    rw [List.mem_singleton.mp hp]
    exact TabS.nil (hH (c_Law, Pt_Law) (by simp))
  have TB_Law := TB (c_Law, Pt_Law) (by simp)
  have g1 : ∀ k : Nat, FnOk l.prog w K mg base CX0 (k + 1) f1 _ ["script", "k"] (spCell K) := fun k => ok_cell F1   B
  have g2 : ∀ k : Nat, FnOk l.prog w K mg base CX0 (k + 1) f2 _ ["cell", "many", "size"] (spDraw K) := fun k => ok_draw F2   B B
  have g3 : ∀ k : Nat, FnOk l.prog w K mg base CX0 (k + 2) f3 _ ["script", "k"] (spBag K) := fun k => ok_bag F3 D1 D2 (g1 k) (g2 k) 
  have g4 : ∀ k : Nat, FnOk l.prog w K mg base CX0 (k + 3) f4 _ ["script", "limit"] (spBags K 8) := fun k => ok_bags (by decide) F4 B B D3 (g3 k)
  have g5 : ∀ k : Nat, FnOk l.prog w K mg base CX0 (k + 1) f5 _ ["bag", "many"] (spTake K) := fun k => ok_take F5   B
  have g6 : ∀ k : Nat, FnOk l.prog w K mg base CX0 (k + 2) f6 _ ["bag", "most", "wide"] (spSome K) := fun k => ok_some F6 B B D5 (g5 k)
  have g7 : ∀ k : Nat, FnOk l.prog w K mg base CX0 (k + 3) f7 _ ["bag", "boxes", "locks", "wide"] (spHs K) := fun k => ok_hs F7 B D5 D6 (g5 k) (g6 k)
  have g8 : ∀ k : Nat, FnOk l.prog w K mg base CX0 (k + 1) f8 _ ["many"] (spLots K) := fun k => ok_lots F8   B
  have g9 : ∀ k : Nat, FnOk l.prog w K mg base CX0 (k + 1) f9 _ ["thing"] (spPair K) := fun k => ok_pair F9   B
  have g10 : ∀ k : Nat, FnOk l.prog w K mg base CX0 (k + 1) f10 _ ["thing", "most"] (spCols K) := fun k => ok_cols F10   B n_MOST_LETTERS n_SMALL_LETTERS
  have g11 : ∀ k : Nat, FnOk l.prog w K mg base CX0 (k + 2) f11 _ ["thing"] (spBox K) := fun k => ok_box F11 D9 D10 (g9 k) (g10 k) n_MOST_LOCKS n_MOST_KEYS
  have g12 : ∀ k : Nat, FnOk l.prog w K mg base CX0 (k + 3) f12 _ ["thing"] (spIsH K) := fun k => ok_isH F12 D9 D10 D11 (g9 k) (g10 k) (g11 k) B n_MOST_BOXES n_MOST_KEYS
  have g13 : ∀ k : Nat, FnOk l.prog w K mg base CX0 (k + 4) f13 _ ["house"] (spChk K) := fun k => ok_chk F13 D12 (g12 k) 
  have g14 : ∀ k : Nat, FnOk l.prog w K mg base CX0 (k + 1) f14 _ ["thing"] (spWho K) := fun k => ok_who F14   B
  have g15 : ∀ k : Nat, FnOk l.prog w K mg base CX0 (k + 2) f15 _ ["thing", "many"] (spIsB K) := fun k => ok_bxs F15 D14 (g14 k) B
  have g16 : ∀ k : Nat, FnOk l.prog w K mg base CX0 (k + 1) f16 _ ["boxes", "some"] (spKeys K) := fun k => ok_keys F16   
  have g17 : ∀ k : Nat, FnOk l.prog w K mg base CX0 (k + 1) f17 _ ["locks", "held"] (spFits K) := fun k => ok_fits F17   
  have g18 : ∀ k : Nat, FnOk l.prog w K mg base CX0 (k + 5) f18 _ ["house", "thing"] (spIsK K) := fun k => ok_kept F18 D13 D15 D16 D17 (g13 k) (g15 k) (g16 k) (g17 k) B
  have g19 : ∀ k : Nat, FnOk l.prog w K mg base CX0 (k + 1) f19 _ ["house", "lot"] (spKps K) := fun k => ok_kps F19   B
  have g20 : ∀ k : Nat, FnOk l.prog w K mg base CX0 (k + 2) f20 _ ["boxes", "held", "closed"] (spOpn K) := fun k => ok_opn F20 D16 D17 (g16 k) (g17 k) B
  have g21 : ∀ k : Nat, FnOk l.prog w K mg base CX0 (k + 3) f21 _ ["boxes", "hand", "broken"] (spShB K) := fun k => ok_shB F21 D16 D20 (g16 k) (g20 k) B
  have g22 : ∀ k : Nat, FnOk l.prog w K mg base CX0 (k + 5) f22 _ ["house", "broken"] (spShW K) := fun k => ok_shW F22 D13 D15 D21 (g13 k) (g15 k) (g21 k) B
  have g23 : ∀ k : Nat, FnOk l.prog w K mg base CX0 (k + 1) f23 _ ["boxes", "hand"] (spLR K) := fun k => ok_LR F23   B B.enu
  have g24 : ∀ k : Nat, FnOk l.prog w K mg base CX0 (k + 2) f24 _ ["house", "broken"] (spLS K) := fun k => ok_LS F24 B D23 (g23 k)
  have g25 : ∀ k : Nat, FnOk l.prog w K mg base CX0 (k + 6) f25 _ ["house", "lot"] (spRgt K) := fun k => ok_rgt F25 D18 D19 D22 D24 (g18 k) (g19 k) (g22 k) (g24 k) B
  have gShWX : ∀ k : Nat, FnOk l.prog w K mg base (L2N.CX l.prog w) (k + 5) f22 _ ["house", "broken"] (spShWX K d3) := fun k => ok_shWX F22 D13 D15 (g13 k) (g15 k) E_NoBoxes B
  have L0 : ∀ c', LOk l.prog w K mg base (L2N.CX l.prog w) 18 (lamMLaw0 c') lamBLaw0 ["a", "b", "c"] (spLam2 (spShWX K d3)) := fun c' => lok_2 (F := lamMLaw0 c') (nscope_by lamSLaw0) rfl rfl (fun pm ctv us hl => match us, hl with | [_, _, _], _ => rfl) D22 (gShWX 12)
  have gRef0 : FnOk l.prog w K mg base CX0 19 f26 _ ["call", "one", "two", "three"] (spRef K lamMLaw0 lamBLaw0 (spLam2 (spShWX K d3)) d3 (fun i => decide (i = 3))) := ok_ref' (k := 18) F26 T_NoBoxes L0 fun f c' v1 v2 v3 H Q nx bk ct hf hc q qq => ref_core T_NoBoxes hf hc q qq
  exact ok_law (k := 11) (T := [(Pt_Law, lamQ_Law)]) l27 c27 TB_Law (List.mem_singleton.mpr rfl) (fun p hp _ => by rw [List.mem_singleton.mp hp]) D26 D4 D7 D5 D8 D25 D18 gRef0 (g4 11) (g7 11) (g5 11) (g8 11) (g25 11) (g18 11) B
end Kw
open PySem PySem.W PyProof.Rows
set_option maxHeartbeats 0 in
theorem PySem.Challenge.cw_keyswithin_k04_lots_judged_and_broken_on_holds : PySem.Challenge.rw_keyswithin_k04_lots_judged_and_broken_on.Holds := by
  w_on; o_law; k_head; (case hw => w_witness2)
  k_fill
  refine LamX.walk_ofTs (l := PySem.Challenge.rw_keyswithin_k04_lots_judged_and_broken_on) (n := 63) (k := 20) (x := "script") (CX := fun _ => L2.CX0) rfl (by decide) rfl ⟨rfl, by decide, by decide⟩ (fun w h Y => PySem.W.km_in_of Y) ?F (fun _ _ _ _ _ h => h)
  case F =>
    intro w mg fa h Y KX G hmg
    refine' Kw.all_mk KX G hmg (PySem.W.km_tabs_of Y _ (List.mem_singleton.mpr rfl)) ?a1 ?l1 ?c1 ?k1 ?a2 ?l2 ?c2 ?k2 ?a3 ?l3 ?c3 ?k3 ?a4 ?l4 ?c4 ?k4 ?a5 ?l5 ?c5 ?k5 ?a6 ?l6 ?c6 ?k6 ?a7 ?l7 ?c7 ?k7 ?a8 ?l8 ?c8 ?k8 ?a9 ?l9 ?c9 ?k9 ?a10 ?l10 ?c10 ?k10 ?a11 ?l11 ?c11 ?k11 ?a12 ?l12 ?c12 ?k12 ?a13 ?l13 ?c13 ?k13 ?a14 ?l14 ?c14 ?k14 ?a15 ?l15 ?c15 ?k15 ?a16 ?l16 ?c16 ?k16 ?a17 ?l17 ?c17 ?k17 ?a18 ?l18 ?c18 ?k18 ?a19 ?l19 ?c19 ?k19 ?a20 ?l20 ?c20 ?k20 ?a21 ?l21 ?c21 ?k21 ?a22 ?l22 ?c22 ?k22 ?a23 ?l23 ?c23 ?k23 ?a24 ?l24 ?c24 ?k24 ?a25 ?l25 ?c25 ?k25 ?a26 ?l26 ?c26 ?k26 ?a27 ?l27 ?c27 ?k27 ?z_isi ?z_tup ?z_lst ?z_str ?z_len ?z_all ?z_zip ?z_rng ?z_int ?z_max ?z_min ?z_srt ?z_enu ?z_sum ?z_abs ?z_rpr ?z_set ?z_bool ?z_ver ?z_any ?m_MOST_LETTERS ?m_SMALL_LETTERS ?m_MOST_BOXES ?m_MOST_LOCKS ?m_MOST_KEYS ?e_NoHouse ?i_NoHouse ?t_NoHouse ?b_NoHouse ?h_NoHouse ?e_NoColour ?i_NoColour ?t_NoColour ?b_NoColour ?h_NoColour ?e_NoRow ?i_NoRow ?t_NoRow ?b_NoRow ?h_NoRow ?e_NoBoxes ?i_NoBoxes ?t_NoBoxes ?b_NoBoxes ?h_NoBoxes ?e_NoLaying ?i_NoLaying ?t_NoLaying ?b_NoLaying ?h_NoLaying ?e_NoNumber ?i_NoNumber ?t_NoNumber ?b_NoNumber ?h_NoNumber ?e_NoBox ?i_NoBox ?t_NoBox ?b_NoBox ?h_NoBox ?e_NoKey ?i_NoKey ?t_NoKey ?b_NoKey ?h_NoKey ?e_Locks ?i_Locks ?t_Locks ?b_Locks ?h_Locks ?e_Unlike ?i_Unlike ?t_Unlike ?b_Unlike ?h_Unlike ?e_Open ?i_Open ?t_Open ?b_Open ?h_Open ?e_Shut ?i_Shut ?t_Shut ?b_Shut ?h_Shut ?e_Full ?i_Full ?t_Full ?b_Full ?h_Full ?e_NothingLeft ?i_NothingLeft ?t_NothingLeft ?b_NothingLeft ?h_NothingLeft ?e_TooMany ?i_TooMany ?t_TooMany ?b_TooMany ?h_TooMany ?e_Locked ?i_Locked ?t_Locked ?b_Locked ?h_Locked ?e_BoxError ?i_BoxError ?t_BoxError ?b_BoxError ?h_BoxError ?v_NoBoxes ?s_NoBoxes_NoHouse ?n_NoBoxes_NoHouse ?s_NoBoxes_NoColour ?n_NoBoxes_NoColour ?s_NoBoxes_NoRow ?n_NoBoxes_NoRow ?s_NoBoxes_NoBoxes ?s_NoBoxes_NoLaying ?n_NoBoxes_NoLaying ?s_NoBoxes_NoNumber ?n_NoBoxes_NoNumber ?s_NoBoxes_NoBox ?n_NoBoxes_NoBox ?s_NoBoxes_NoKey ?n_NoBoxes_NoKey ?s_NoBoxes_Locks ?n_NoBoxes_Locks ?s_NoBoxes_Unlike ?n_NoBoxes_Unlike ?s_NoBoxes_Open ?n_NoBoxes_Open ?s_NoBoxes_Shut ?n_NoBoxes_Shut ?s_NoBoxes_Full ?n_NoBoxes_Full ?s_NoBoxes_NothingLeft ?n_NoBoxes_NothingLeft ?s_NoBoxes_TooMany ?s_NoBoxes_Locked ?s_NoBoxes_BoxError ?w1_NoBoxes ?w2_NoBoxes ?w5_NoBoxes ?w8_NoBoxes ?xq_NoBoxes ?xk_NoBoxes ?w6 ?w7 ?tn_Law ?tl_Law ?th_Law
    (case a1 => k_is)
    (case l1 => k_is)
    (case c1 => k_is)
    (case k1 => k_is)
    (case a2 => k_is)
    (case l2 => k_is)
    (case c2 => k_is)
    (case k2 => k_is)
    (case a3 => k_is)
    (case l3 => k_is)
    (case c3 => k_is)
    (case k3 => k_is)
    (case a4 => k_is)
    (case l4 => k_is)
    (case c4 => k_is)
    (case k4 => k_is)
    (case a5 => k_is)
    (case l5 => k_is)
    (case c5 => k_is)
    (case k5 => k_is)
    (case a6 => k_is)
    (case l6 => k_is)
    (case c6 => k_is)
    (case k6 => k_is)
    (case a7 => k_is)
    (case l7 => k_is)
    (case c7 => k_is)
    (case k7 => k_is)
    (case a8 => k_is)
    (case l8 => k_is)
    (case c8 => k_is)
    (case k8 => k_is)
    (case a9 => k_is)
    (case l9 => k_is)
    (case c9 => k_is)
    (case k9 => k_is)
    (case a10 => k_is)
    (case l10 => k_is)
    (case c10 => k_is)
    (case k10 => k_is)
    (case a11 => k_is)
    (case l11 => k_is)
    (case c11 => k_is)
    (case k11 => k_is)
    (case a12 => k_is)
    (case l12 => k_is)
    (case c12 => k_is)
    (case k12 => k_is)
    (case a13 => k_is)
    (case l13 => k_is)
    (case c13 => k_is)
    (case k13 => k_is)
    (case a14 => k_is)
    (case l14 => k_is)
    (case c14 => k_is)
    (case k14 => k_is)
    (case a15 => k_is)
    (case l15 => k_is)
    (case c15 => k_is)
    (case k15 => k_is)
    (case a16 => k_is)
    (case l16 => k_is)
    (case c16 => k_is)
    (case k16 => k_is)
    (case a17 => k_is)
    (case l17 => k_is)
    (case c17 => k_is)
    (case k17 => k_is)
    (case a18 => k_is)
    (case l18 => k_is)
    (case c18 => k_is)
    (case k18 => k_is)
    (case a19 => k_is)
    (case l19 => k_is)
    (case c19 => k_is)
    (case k19 => k_is)
    (case a20 => k_is)
    (case l20 => k_is)
    (case c20 => k_is)
    (case k20 => k_is)
    (case a21 => k_is)
    (case l21 => k_is)
    (case c21 => k_is)
    (case k21 => k_is)
    (case a22 => k_is)
    (case l22 => k_is)
    (case c22 => k_is)
    (case k22 => k_is)
    (case a23 => k_is)
    (case l23 => k_is)
    (case c23 => k_is)
    (case k23 => k_is)
    (case a24 => k_is)
    (case l24 => k_is)
    (case c24 => k_is)
    (case k24 => k_is)
    (case a25 => k_is)
    (case l25 => k_is)
    (case c25 => k_is)
    (case k25 => k_is)
    (case a26 => k_is)
    (case l26 => k_is)
    (case c26 => k_is)
    (case k26 => k_is)
    (case a27 => k_is)
    (case l27 => k_is)
    (case c27 => k_is)
    (case k27 => k_is)
    (case z_isi => k_is)
    (case z_tup => k_is)
    (case z_lst => k_is)
    (case z_str => k_is)
    (case z_len => k_is)
    (case z_all => k_is)
    (case z_zip => k_is)
    (case z_rng => k_is)
    (case z_int => k_is)
    (case z_max => k_is)
    (case z_min => k_is)
    (case z_srt => k_is)
    (case z_enu => k_is)
    (case z_sum => k_is)
    (case z_abs => k_is)
    (case z_rpr => k_is)
    (case z_set => k_is)
    (case z_bool => k_is)
    (case z_ver => k_is)
    (case z_any => k_is)
    (case m_MOST_LETTERS => k_is)
    (case m_SMALL_LETTERS => k_is)
    (case m_MOST_BOXES => k_is)
    (case m_MOST_LOCKS => k_is)
    (case m_MOST_KEYS => k_is)
    (case e_NoHouse => k_is)
    (case i_NoHouse => k_is)
    (case t_NoHouse => k_is)
    (case b_NoHouse => k_is)
    (case h_NoHouse => k_is)
    (case e_NoColour => k_is)
    (case i_NoColour => k_is)
    (case t_NoColour => k_is)
    (case b_NoColour => k_is)
    (case h_NoColour => k_is)
    (case e_NoRow => k_is)
    (case i_NoRow => k_is)
    (case t_NoRow => k_is)
    (case b_NoRow => k_is)
    (case h_NoRow => k_is)
    (case e_NoBoxes => k_is)
    (case i_NoBoxes => k_is)
    (case t_NoBoxes => k_is)
    (case b_NoBoxes => k_is)
    (case h_NoBoxes => k_is)
    (case e_NoLaying => k_is)
    (case i_NoLaying => k_is)
    (case t_NoLaying => k_is)
    (case b_NoLaying => k_is)
    (case h_NoLaying => k_is)
    (case e_NoNumber => k_is)
    (case i_NoNumber => k_is)
    (case t_NoNumber => k_is)
    (case b_NoNumber => k_is)
    (case h_NoNumber => k_is)
    (case e_NoBox => k_is)
    (case i_NoBox => k_is)
    (case t_NoBox => k_is)
    (case b_NoBox => k_is)
    (case h_NoBox => k_is)
    (case e_NoKey => k_is)
    (case i_NoKey => k_is)
    (case t_NoKey => k_is)
    (case b_NoKey => k_is)
    (case h_NoKey => k_is)
    (case e_Locks => k_is)
    (case i_Locks => k_is)
    (case t_Locks => k_is)
    (case b_Locks => k_is)
    (case h_Locks => k_is)
    (case e_Unlike => k_is)
    (case i_Unlike => k_is)
    (case t_Unlike => k_is)
    (case b_Unlike => k_is)
    (case h_Unlike => k_is)
    (case e_Open => k_is)
    (case i_Open => k_is)
    (case t_Open => k_is)
    (case b_Open => k_is)
    (case h_Open => k_is)
    (case e_Shut => k_is)
    (case i_Shut => k_is)
    (case t_Shut => k_is)
    (case b_Shut => k_is)
    (case h_Shut => k_is)
    (case e_Full => k_is)
    (case i_Full => k_is)
    (case t_Full => k_is)
    (case b_Full => k_is)
    (case h_Full => k_is)
    (case e_NothingLeft => k_is)
    (case i_NothingLeft => k_is)
    (case t_NothingLeft => k_is)
    (case b_NothingLeft => k_is)
    (case h_NothingLeft => k_is)
    (case e_TooMany => k_is)
    (case i_TooMany => k_is)
    (case t_TooMany => k_is)
    (case b_TooMany => k_is)
    (case h_TooMany => k_is)
    (case e_Locked => k_is)
    (case i_Locked => k_is)
    (case t_Locked => k_is)
    (case b_Locked => k_is)
    (case h_Locked => k_is)
    (case e_BoxError => k_is)
    (case i_BoxError => k_is)
    (case t_BoxError => k_is)
    (case b_BoxError => k_is)
    (case h_BoxError => k_is)
    (case v_NoBoxes => k_is)
    (case s_NoBoxes_NoHouse => k_is)
    (case n_NoBoxes_NoHouse => decide)
    (case s_NoBoxes_NoColour => k_is)
    (case n_NoBoxes_NoColour => decide)
    (case s_NoBoxes_NoRow => k_is)
    (case n_NoBoxes_NoRow => decide)
    (case s_NoBoxes_NoBoxes => k_is)
    (case s_NoBoxes_NoLaying => k_is)
    (case n_NoBoxes_NoLaying => decide)
    (case s_NoBoxes_NoNumber => k_is)
    (case n_NoBoxes_NoNumber => decide)
    (case s_NoBoxes_NoBox => k_is)
    (case n_NoBoxes_NoBox => decide)
    (case s_NoBoxes_NoKey => k_is)
    (case n_NoBoxes_NoKey => decide)
    (case s_NoBoxes_Locks => k_is)
    (case n_NoBoxes_Locks => decide)
    (case s_NoBoxes_Unlike => k_is)
    (case n_NoBoxes_Unlike => decide)
    (case s_NoBoxes_Open => k_is)
    (case n_NoBoxes_Open => decide)
    (case s_NoBoxes_Shut => k_is)
    (case n_NoBoxes_Shut => decide)
    (case s_NoBoxes_Full => k_is)
    (case n_NoBoxes_Full => decide)
    (case s_NoBoxes_NothingLeft => k_is)
    (case n_NoBoxes_NothingLeft => decide)
    (case s_NoBoxes_TooMany => k_is)
    (case s_NoBoxes_Locked => k_is)
    (case s_NoBoxes_BoxError => k_is)
    (case w1_NoBoxes => k_is)
    (case w2_NoBoxes => k_is)
    (case w5_NoBoxes => k_is)
    (case w8_NoBoxes => k_is)
    (case xq_NoBoxes => k_exc)
    (case xk_NoBoxes => k_is)
    (case w6 => k_is)
    (case w7 => k_is)
    (case tn_Law => exact Kw.km_none Y (by decide +kernel))
    (case tl_Law => k_is)
    (case th_Law => decide +kernel)
