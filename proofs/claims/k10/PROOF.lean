import PyProof.Rows.All
import Wide.All
import OpenK.AllK
import Wide.FinOn
import HandS.ForMost
import HandS.Evl
import HandS.Walk
import HandS.IsInst
import HandS.Zip
import HandS.TupAny
import HandS.Flow
import HandS.Style
import HandS.More
import HandS.Conv
import HandS.StrMore
import HandS.Text
import HandS.Wide
import PySem.Challenge.RW_keyswithin_k10_whole_counts_at_any_size
import HandS.Star
import KE.GoesEnum
set_option Elab.async false
set_option linter.all false
set_option maxRecDepth 100000
set_option maxHeartbeats 4000000
namespace Kw
open PySem PySem.Spec PyProof.Rows L2 Evl
/-! ### what stays: the tuples -/
def KeepT (H H' : Hp) : Prop := ∀ b xs, Rd H b (.tup xs) → Rd H' b (.tup xs)
theorem KeepT.refl (H : Hp) : KeepT H H := fun _ _ h => h
theorem KeepT.trans {H H1 H2 : Hp} (a : KeepT H H1) (b : KeepT H1 H2) : KeepT H H2 := fun c o h => b c o (a c o h)
theorem KeepT.ex {H H' : Hp} (e : Ex H H') : KeepT H H' := fun b xs h => ex_rd e h
theorem KeepT.lst {H : Hp} {p : Addr} {xs ys : List V} (h : H p = some (.lst xs)) : KeepT H (upd H p (.lst ys)) := fun b zs r => by
  have nb : b ≠ p := by
    rintro rfl
    rcases r with r | ⟨o, r⟩
    · rw [h] at r; cases r
    · rw [h] at r; cases r
  rcases r with r | ⟨o, r⟩
  · exact .inl (by rw [upd_ne nb]; exact r)
  · exact .inr ⟨o, by rw [upd_ne nb]; exact r⟩
theorem keep_t {K : PySem.W.Frag} {H H' : Hp} {a : Addr} {xs : List V} (e : KeepT H H') (h : SqT K H a xs) : SqT K H' a xs := by
  rcases h with h | h
  · exact Or.inl (e _ _ h)
  · exact Or.inr h
/-! ### readings -/
def EvP (te : TE) (σ : L2.St) (H : Hp) (Φ : V → Hp → Prop) : Prop := ∀ H1, Ex H H1 → ∀ Q : VK, (∀ v H2, Ex H1 H2 → Φ v H2 → Q v H2) → te σ H1 Q
def EvW (wi : TI) (σ : L2.St) (H : Hp) (n : Nat) (Y : Nat → Hp → V → Hp → Prop) : Prop :=
  ∀ H1, Ex H H1 → ∀ R : It → Hp → Prop, (∀ (J : It) (G : Hp → Prop) (H2 : Hp), Ex H1 H2 → Walk J n G Y → (∀ H3, Ex H2 H3 → G H3) → R J H2) → wi σ H1 R
section
variable {K : PySem.W.Frag} {σ : L2.St} {H H' : Hp} {ta tb te tl : TE} {t u : TT} {x y z v : V} {r : R2} {Φ : V → Hp → Prop}
theorem EvP.ev (h : Ev te σ H v) : EvP te σ H (fun x _ => x = v) := fun H1 e Q q => h H1 e Q fun H2 e2 => q v H2 e2 rfl
theorem EvP.to (h : EvP te σ H (fun x _ => x = v)) : Ev te σ H v := fun H1 e Q q => h H1 e Q fun x H2 e2 hx => by
  subst hx
  exact q H2 e2
theorem EvP.mono (e : Ex H H') (h : EvP te σ H Φ) : EvP te σ H' Φ := fun H1 a Q q => h H1 (e.trans a) Q q
theorem EvP.imp {Ψ : V → Hp → Prop} (h : EvP te σ H Φ) (i : ∀ v H1, Ex H H1 → Φ v H1 → Ψ v H1) : EvP te σ H Ψ := fun H1 e Q q => h H1 e Q fun v H2 e2 hv => q v H2 e2 (i v H2 (e.trans e2) hv)
theorem ep_var {i : Nat} (h : σ[i]? = some (some v)) (hv : ∀ H1, Ex H H1 → Φ v H1) : EvP (tVar i) σ H Φ := fun H1 e _ q => ⟨v, h, q v H1 (Ex.refl H1) (hv H1 e)⟩
theorem ew_tup {a : Addr} {xs : List V} (h : Ev tl σ H (.ref a)) (hx : SqT K H a xs) : EvW (iTup K tl) σ H xs.length (YAt xs) := fun H1 e R r => h H1 e _ fun H2 e2 => ⟨a, rfl, ⟨xs, ex_t (e.trans e2) hx⟩, r _ _ H2 e2 walk_tup fun H3 e3 => ex_t ((e.trans e2).trans e3) hx⟩
theorem ew_list {a : Addr} {xs : List V} (h : Ev tl σ H (.ref a)) (hx : SqL K H a xs) : EvW (iList K tl) σ H xs.length (YAt xs) := fun H1 e R r => h H1 e _ fun H2 e2 => ⟨a, rfl, ⟨xs, ex_l (e.trans e2) hx⟩, r _ _ H2 e2 walk_list fun H3 e3 => ex_l ((e.trans e2).trans e3) hx⟩
theorem ew_listN {xs : List V} (h : EvL tl σ H xs) : EvW (iList K tl) σ H xs.length (YAt xs) := fun H1 e R r => h H1 e _ fun a H2 _ e2 hx => ⟨a, rfl, ⟨xs, sq_of hx⟩, r _ _ H2 e2 walk_list fun H3 e3 => sq_of (e3 _ _ hx)⟩
theorem walk_rng0 {n : Nat} : Walk (Itr 0 n) n (fun _ => True) (YFn fun (i : Nat) => .int (i : Int)) := by
  have e : (fun i : Nat => V.int ((0 : Int) + (i : Int))) = fun (i : Nat) => V.int (i : Int) := by
    funext i
    rw [Int.zero_add]
  rw [← e]
  exact walk_range
theorem ew_rng1 {ta : TA} {n : Nat} (h : EvA ta σ H [.int n]) (hn : n ≤ 100000) : EvW (iRng1 ta) σ H n (YFn fun (i : Nat) => .int (i : Int)) := fun H1 e R r => h H1 e _ fun H2 e2 => ⟨n, rfl, by omega, by omega, r _ _ H2 e2 (by rw [Int.toNat_natCast]; exact walk_rng0) fun _ _ => trivial⟩
theorem ew_str {z : Str} (h : Ev te σ H (.str z)) : EvW (iStr te) σ H z.cps.size (fun i H v H' => H' = H ∧ ∃ c, z.cps[i]? = some c ∧ v = .str ⟨#[c]⟩) := fun H1 e R r => h H1 e _ fun H2 e2 => ⟨z, rfl, r _ _ H2 e2 walk_str fun _ _ => trivial⟩
theorem cw_none {D : Addr} {y : V} {ys : List V} (e : Ex H H') (hD : H D = none) : Ex H (upd H' D (.lst ys)) := Ex.mut e hD
/-- a comprehension: which turns give, and what is true of what they give -/
def EvC (te : TE) (σ : L2.St) (H : Hp) (n : Nat) (f : Nat → Bool) (Φ : Nat → V → Hp → Prop) : Prop :=
  ∀ H1, Ex H H1 → ∀ Q : VK, (∀ p ys H2, H1 p = none → Ex H1 H2 → H2 p = some (.lst ys) → Paired (fun i y => Φ i y H2) ((List.range n).filter f) ys → Q (.ref p) H2) → te σ H1 Q
theorem paired_imp {α β : Type} {F G : α → β → Prop} {xs : List α} {ys : List β} (h : Paired F xs ys) (i : ∀ a b, F a b → G a b) : Paired G xs ys := Paired.mapP h i
theorem paired_app {α β : Type} {F : α → β → Prop} : ∀ {xs : List α} {ys : List β} {a : α} {b : β}, Paired F xs ys → F a b → Paired F (xs ++ [a]) (ys ++ [b])
  | _, _, _, _, .nil, h => .cons h .nil
  | _, _, _, _, .cons r t, h => .cons r (paired_app t h)
theorem lc_gen {wi : TI} {g : TG} {vs : List Nat} {n : Nat} {Y : Nat → Hp → V → Hp → Prop} (hi : EvW wi σ H n Y) (hn : n ≤ 100000) (f : Nat → Bool) (Φ : Nat → V → Hp → Prop)
    (st : ∀ i y H H', KeepT H H' → Φ i y H → Φ i y H')
    (turn : ∀ i x H1 H2 (Q : L2.St → Hp → Prop), Ex H H1 → i < n → Y i H1 x H2 → (∀ σ2 H3, Ex H1 H3 → wipe σ2 vs = wipe σ vs → EvT t σ2 H3 (f i) → (f i = true → EvP te σ2 H3 (Φ i)) → Q σ2 H3) → g x (wipe σ vs) H2 Q) :
    EvC (tLc wi g t te vs) σ H n f Φ := by
  intro H0 e Q q
  refine hi H0 e _ fun J G H1 e1 w hG => ?_
  intro D hD
  refine lc_it w (Pv := fun i H' => Ex H1 H' ∧ ∃ ys, H' D = some (.lst ys) ∧ Paired (fun i y => Φ i y H') ((List.range i).filter f) ys) ⟨Ex.new hD, [], upd_same, .nil⟩
    (fun i H' _ p => hG H' p.1) (fun i x H' H2 hi' p y => ?_) (fun H' p => ?_)
  · obtain ⟨p1, ys, p2, p3⟩ := p
    refine turn i x H' H2 _ ((e.trans e1).trans p1) hi' y fun σ2 H3 e3 hw ht he => ⟨hw, ?_⟩
    refine ht H3 (Ex.refl H3) _ fun H4 e4 => ?_
    have hlen : ys.length ≤ i := by
      rw [← Paired.length p3]
      have := List.length_filter_le f (List.range i)
      rw [List.length_range] at this
      exact this
    have eD : H4 D = some (.lst ys) := e4 _ _ (e3 _ _ p2)
    cases hf : f i with
    | false =>
      show Ex H1 H4 ∧ _
      refine ⟨(p1.trans e3).trans e4, ys, eD, ?_⟩
      rw [List.range_succ, List.filter_append, List.filter_cons, if_neg (by rw [hf]; decide), List.filter_nil, List.append_nil]
      exact paired_imp p3 fun a b h => st a b _ _ (KeepT.ex (e3.trans e4)) h
    | true =>
      show te σ2 H4 _
      refine (he hf) H4 e4 _ fun y H5 e5 hy => ?_
      have eD5 : H5 D = some (.lst ys) := e5 _ _ eD
      refine ⟨ys, eD5, sz_lt (by omega), Ex.mut (((p1.trans e3).trans e4).trans e5) hD, ys ++ [y], upd_same, ?_⟩
      rw [List.range_succ, List.filter_append, List.filter_cons, if_pos hf, List.filter_nil]
      exact paired_app (paired_imp p3 fun a b h => st a b _ _ ((KeepT.ex ((e3.trans e4).trans e5)).trans (KeepT.lst eD5)) h) (st _ _ _ _ (KeepT.lst eD5) hy)
  · obtain ⟨p1, ys, p2, p3⟩ := p
    exact q D ys H' (fresh_back e1 hD) (e1.trans p1) p2 p3
theorem paired_map {α β : Type} {v : α → β} : ∀ {xs : List α} {ys : List β}, Paired (fun i y => y = v i) xs ys → ys = xs.map v
  | _, _, .nil => rfl
  | _, _, .cons r t => by rw [r, List.map_cons, paired_map t]
theorem EvC.val {n : Nat} {f : Nat → Bool} {v : Nat → V} (h : EvC te σ H n f (fun i y _ => y = v i)) : EvL te σ H (((List.range n).filter f).map v) := fun H1 e Q q =>
  h H1 e Q fun p ys H2 hp e2 h2 pr => q p H2 hp e2 (by rw [h2, paired_map pr])
theorem el_lc {wi : TI} {g : TG} {vs : List Nat} {n : Nat} {Y : Nat → Hp → V → Hp → Prop} (hi : EvW wi σ H n Y) (hn : n ≤ 100000) (f : Nat → Bool) (v : Nat → V) {xs : List V} (hx : ((List.range n).filter f).map v = xs)
    (turn : ∀ i x H1 H2 (Q : L2.St → Hp → Prop), Ex H H1 → i < n → Y i H1 x H2 → (∀ σ2 H3, Ex H1 H3 → wipe σ2 vs = wipe σ vs → EvT t σ2 H3 (f i) → (f i = true → Ev te σ2 H3 (v i)) → Q σ2 H3) → g x (wipe σ vs) H2 Q) :
    EvL (tLc wi g t te vs) σ H xs := by
  subst hx
  exact EvC.val (lc_gen hi hn f (fun i y _ => y = v i) (fun _ _ _ _ _ h => h) fun i x H1 H2 Q e hi' y k => turn i x H1 H2 Q e hi' y fun σ2 H3 e3 hw ht he => k σ2 H3 e3 hw ht fun hf => EvP.ev (he hf))
end
/-- the built-in names are what they were -/
structure Bu (mg : Str → Option Value) : Prop where
  isi : mg "isinstance" = none
  tup : mg "tuple" = none
  lst : mg "list" = none
  str : mg "str" = none
  len : mg "len" = none
  all : mg "all" = none
  zip : mg "zip" = none
  rng : mg "range" = none
  int : mg "int" = none
  max : mg "max" = none
  min : mg "min" = none
  srt : mg "sorted" = none
  enu : mg "enumerate" = none
  sum : mg "sum" = none
  abs : mg "abs" = none
  rpr : mg "repr" = none
  set : mg "set" = none
  bool : mg "bool" = none
  ver : mg "ValueError" = none
  any : mg "any" = none
section
variable {K : PySem.W.Frag} {σ : L2.St} {H H' : Hp} {ta tb tc te tl : TE} {t u : TT} {x y z v : V} {r r' : R2}
theorem ty_tup {K : PySem.W.Frag} {H : Hp} {a : Addr} {xs : List V} (h : SqT K H a xs) : TyX K H (.ref a) (.type "tuple") := by
  rcases h with (h | ⟨o, h⟩) | ⟨o, its, n, h1, h2, _⟩
  · exact .base (.tup h)
  · exact .fTuple h
  · exact .kTuple h1 h2
def IsT (K : PySem.W.Frag) (xs : List V) : V → Hp → Prop := fun v H => ∃ p, v = .ref p ∧ SqT K H p xs
theorem ep_slT {tl th : TO} {a : Addr} {xs : List V} {lo hi : Option Int} (h : Ev te σ H (.ref a)) (h1 : EvO tl σ H lo) (h2 : EvO th σ H hi) (hs : SqT K H a xs) : EvP (tSl (rSlA K) te tl th) σ H (IsT K (cutV xs lo hi)) := fun H1 e Q q =>
  h H1 e _ fun H2 e2 => h1 H2 (e.trans e2) _ fun H3 e3 => h2 H3 ((e.trans e2).trans e3) _ fun H4 e4 =>
    ⟨a, xs, rfl, ex_t (((e.trans e2).trans e3).trans e4) hs, fun hf => q _ H4 ((e2.trans e3).trans e4) ⟨a, rfl, by
      have : cutV xs lo hi = xs := by
        unfold cutV
        rw [hf.1, hf.2]
        simp
      rw [this]
      exact ex_t (((e.trans e2).trans e3).trans e4) hs⟩, fun hf p hp => q _ _ (((e2.trans e3).trans e4).trans (Ex.new hp)) ⟨p, rfl, st_of upd_same⟩⟩
theorem cut1 (xs : List V) : cutV xs (some 1) none = xs.drop 1 := by
  unfold cutV
  rw [show HT.sIx xs.length 0 (some 1) = min 1 xs.length from HT.sIx_nat xs.length 0 1, HT.sIx_none]
  cases xs with
  | nil => rfl
  | cons x r =>
    rw [show min 1 (x :: r).length = 1 by
      rw [List.length_cons]
      omega]
    show (List.take ((x :: r).length - 1) r) = r
    rw [List.length_cons, Nat.add_sub_cancel]
    exact List.take_length
theorem walk_zipT {a b : Addr} {xs ys : List V} {n : Nat} (hn : n = min xs.length ys.length) : Walk (RZ.ItzT K a b) n (fun H => SqT K H a xs ∧ SqT K H b ys) (YPair (fun i => xs[i]?) (fun i => ys[i]?)) := by
  subst hn
  refine ⟨fun i _ hi q => ?_, fun _ q => ⟨xs, ys, q.1, q.2, by omega⟩, fun i H v H' _ q y => ?_⟩
  · have h1 : i < xs.length := by omega
    have h2 : i < ys.length := by omega
    exact ⟨xs, ys, xs[i], ys[i], q.1, q.2, by simp [h1], by simp [h2]⟩
  · obtain ⟨T, x, z, h1, h2, h3, h4, h5⟩ := y
    exact ⟨T, x, z, h1, h2, h3, h4 xs q.1, h5 ys q.2⟩
theorem ew_zipT {a : Addr} {xs ys : List V} {n : Nat} (hn : n = min xs.length ys.length) (h : Ev ta σ H (.ref a)) (hx : SqT K H a xs) (hb : EvP tb σ H (IsT K ys)) : EvW (RZ.iZipA K (tCons ta (tCons tb tNil))) σ H n (YPair (fun i => xs[i]?) (fun i => ys[i]?)) := fun H1 e R r =>
  h H1 e _ fun H2 e2 => hb H2 (e.trans e2) _ fun v H3 e3 ⟨p, hv, hp⟩ => by
    subst hv
    exact ⟨a, p, xs, ys, rfl, .inr ⟨ex_t ((e.trans e2).trans e3) hx, hp, r _ _ H3 (e2.trans e3) (walk_zipT hn) fun H4 e4 => ⟨ex_t (((e.trans e2).trans e3).trans e4) hx, ex_t e4 hp⟩⟩⟩
theorem ev_all {bs : List Bool} (h : EvL te σ H (bs.map V.bl)) : Ev (tCB (rAll K) (tCons te tNil)) σ H (.bl (bs.all id)) := fun H1 e Q q =>
  h H1 e _ fun p H2 _ e2 hp => ⟨p, bs, rfl, sq_of hp, q H2 e2⟩
/-- a comprehension without a test -/
theorem filter_true {n : Nat} : (List.range n).filter (fun _ => true) = List.range n := List.filter_eq_self.mpr (fun _ _ => rfl)
theorem et_yes {σ : L2.St} {H : Hp} : EvT tYes σ H true := fun H1 _ Q q => q H1 (Ex.refl H1)
/-- a def of the text: where it stands, how it binds -/
structure Df (K : PySem.W.Frag) (mg : Str → Option Value) (x : Str) (st : Stmt) (ps : List Str) (f : Addr) (fd : FuncData) : Prop where
  F : Fun K x x st f fd
  g : mg x = some (.ref f)
  b : Binds K fd ps []
theorem pcall {X : Cx} {k : Nat} {f : Addr} {fd : FuncData} {ps : List Str} {sp : Sp} {x : Str} {st : Stmt} {p pos : Pos} {e : Expr} {es : List Expr} {t : TA} (D : Df X.K X.mg x st ps f fd) (G : FnOk X.prog X.w X.K X.mg X.base CX0 k f fd ps sp) (hr : Room k X.A) (ha : PA X (e :: es) t) (hg : Gl X x := by rfl)
    (h1 : (x == ("__debug__" : Str)) = false := by decide) (h2 : starEach (e :: es) X.env = (false, eval e X.env) :: starEach es X.env := by rfl) (h3 : (backTo pos (starEach es X.env)).any (·.1) = false := by rfl) :
    PE X (.Call (.Name x p) (e :: es) [] pos) (tCall sp [] E0 t) := pe_call G hr hg D.g D.F.kp D.b .nil pass0 ha h1 h2 h3
theorem SpV.of {sp : Sp} {vs : List V} {H : Hp} {z : V} (h : ∀ H1, Ex H H1 → ∀ Q : VK, RetV z H1 Q → ∀ E, sp vs H1 Q E) : SpV sp (vs ++ []) H z := by
  rw [List.append_nil]
  exact fun H1 e Q q E => h H1 e Q q E
theorem ev_chain {k l : Bool} (ha : Ev ta σ H x) (hb : Ev tb σ H y) (hc : Ev tc σ H z) (h1 : RV r x y H (.bl k)) (h2 : RV r' y z H (.bl l)) : Ev (tChain r r' ta tb tc) σ H (.bl (k && l)) := fun H1 e Q q =>
  ha H1 e _ fun H2 e2 => hb H2 (e.trans e2) _ fun H3 e3 => h1 H3 ((e.trans e2).trans e3) _ fun H4 e4 => ⟨k, rfl, by
    cases k with
    | true =>
      show tc σ H4 _
      exact hc H4 (((e.trans e2).trans e3).trans e4) _ fun H5 e5 => h2 H5 ((((e.trans e2).trans e3).trans e4).trans e5) Q fun H6 e6 => q H6 ((((e2.trans e3).trans e4).trans e5).trans e6)
    | false =>
      show Q (.bl false) H4
      exact q H4 ((e2.trans e3).trans e4)⟩
theorem ev_isi {T U : String} {b : Bool} (ha : Ev ta σ H x) (hb : Ev tb σ H (.ty U)) (ht : ∀ H1, Ex H H1 → TyX K H1 x (.type T)) (hk : kitB T U = some b) : Ev (tCB (rIsi K) (tCons ta (tCons tb tNil))) σ H (.bl b) := fun H1 e Q q =>
  ha H1 e _ fun H2 e2 => hb H2 (e.trans e2) _ fun H3 e3 => ⟨x, .ty U, _, _, b, rfl, .ty _, ht H3 ((e.trans e2).trans e3), kit_ty hk, q H3 (e2.trans e3)⟩
theorem rv_le {i j : Int} : RV (rI0 fun i j => .bl (decide (i ≤ j))) (.int i) (.int j) H (.bl (decide (i ≤ j))) := rv_I0
theorem range_map_get {α β : Type} (l : List α) (d : α) (g : α → β) : (List.range l.length).map (fun i => g (l.getD i d)) = l.map g := by
  apply List.ext_getElem
  · simp
  · intro i h1 h2
    simp only [List.getElem_map, List.getElem_range]
    congr 1
    rw [List.getD_eq_getElem?_getD, List.getElem?_eq_getElem (by simpa using h2)]
    rfl
theorem paired_get {α β : Type} {F : α → β → Prop} : ∀ {xs : List α} {ys : List β} {i : Nat} {x : α}, Paired F xs ys → xs[i]? = some x → ∃ y, ys[i]? = some y ∧ F x y
  | _, _, _, _, .nil, e => by simp at e
  | _, _, 0, _, .cons r _, e => by simp at e; subst e; exact ⟨_, rfl, r⟩
  | _, _, i + 1, x, .cons _ t, e => by
    obtain ⟨u, h1, h2⟩ := paired_get (i := i) (x := x) t (by simpa using e)
    exact ⟨u, by simpa using h1, h2⟩
theorem paired_len {α β : Type} {F : α → β → Prop} {xs : List α} {ys : List β} (h : Paired F xs ys) : xs.length = ys.length := Paired.length h
/-- all([f(x) for x in t]) where each is so -/
theorem ev_allT {vs : List Nat} {wi : TI} {n : Nat} {Y : Nat → Hp → V → Hp → Prop} {g : TG} (hi : EvW wi σ H n Y) (hn : n ≤ 100000)
    (turn : ∀ i x H1 H2 (Q : L2.St → Hp → Prop), Ex H H1 → i < n → Y i H1 x H2 → (∀ σ2 H3, Ex H1 H3 → wipe σ2 vs = wipe σ vs → Ev te σ2 H3 (.bl true) → Q σ2 H3) → g x (wipe σ vs) H2 Q) :
    Ev (tCB (rAll K) (tCons (tLc wi g tYes te vs) tNil)) σ H (.bl true) := by
  refine ev_is (ev_all (K := K) (bs := List.replicate n true) ?_) (by rw [List.all_replicate]; simp)
  refine el_lc hi hn (fun _ => true) (fun i => .bl true) (by rw [filter_true, List.map_replicate, List.map_const', List.length_range]) (fun i x H1 H2 Q e hi hy k => ?_)
  exact turn i x H1 H2 Q e hi hy fun σ2 H3 e3 hw he => k σ2 H3 e3 hw et_yes fun _ => he
theorem ev_lenT {p : Addr} {xs : List V} (ha : Ev ta σ H (.ref p)) (h : SqT K H p xs) : Ev (tCB (rLenS K) (tCons ta tNil)) σ H (.int (xs.length : Int)) := fun H1 e Q q =>
  ha H1 e _ fun H2 e2 => ⟨p, xs, rfl, Or.inr (ex_t (e.trans e2) h), q H2 e2⟩
theorem rv_gt {i j : Int} : RV (rI0 fun i j => .bl (decide (j < i))) (.int i) (.int j) H (.bl (decide (j < i))) := rv_I0
theorem at0 {x y : V} : atI [x, y] 0 = some x := atI_nat (j := 0) rfl
theorem at1 {x y : V} : atI [x, y] 1 = some y := atI_nat (j := 1) rfl
theorem yes_do {σ : L2.St} {H : Hp} {A B : Hp → Prop} (h : A H) : tYes σ H (fun b H => if b = true then A H else B H) := iteT (A := A H) (B := B H) h
/-- [y for x in .. for y in t], t a tuple -/
theorem el_lc2 {wi : TI} {g : TG} {vs vs1 : List Nat} {n j : Nat} {Y : Nat → Hp → V → Hp → Prop} (hi : EvW wi σ H n Y) (L : Nat → List V) (hn : ∀ i ≤ n, ((List.range i).flatMap L).length ≤ 100000) {xs : List V} (hx : (List.range n).flatMap L = xs)
    (turn : ∀ i x H1 H2 (Q : L2.St → Hp → Prop), Ex H H1 → i < n → Y i H1 x H2 → (∀ σ2 H3 a, Ex H1 H3 → wipe σ2 vs = wipe σ vs → Ev tl σ2 H3 (.ref a) → SqT K H3 a (L i) → (∀ y, wipe ((wipe σ2 vs1).set j (some y)) vs1 = wipe σ2 vs1 ∧ ((wipe σ2 vs1).set j (some y))[j]? = some (some y)) → Q σ2 H3) → g x (wipe σ vs) H2 Q) :
    EvL (tLc2 wi g tYes (iTup K tl) (gName j) tYes (tVar j) vs vs1) σ H xs := by
  subst hx
  intro H0 e Q q
  refine hi H0 e _ fun J G H1 e1 w hG => ?_
  intro D hD
  refine ⟨fun i m H' => m = n - i ∧ i ≤ n ∧ Ex H1 H' ∧ H' D = some (.lst ((List.range i).flatMap L)), ⟨n, by simp, Nat.zero_le _, Ex.new hD, upd_same⟩, ?_⟩
  rintro i m H' ⟨rfl, hi', p1, p2⟩
  by_cases hlt : i < n
  · refine .inr ⟨w.goes i H' hlt (hG H' p1), fun H'' => Ex H1 H'' ∧ H'' D = some (.lst ((List.range (i + 1)).flatMap L)), fun H'' p' => ⟨n - (i + 1), by omega, rfl, hlt, p'⟩, fun x H2 hy => ?_⟩
    refine turn i x H' H2 _ ((e.trans e1).trans p1) hlt (w.yields i H' x H2 hlt (hG H' p1) hy) fun σ2 H3 a e3 hw htl hL hset => ⟨hw, ?_⟩
    refine yes_do ?_
    refine htl H3 (Ex.refl H3) _ fun H4 e4 => ⟨a, rfl, ⟨_, ex_t e4 hL⟩, ?_⟩
    refine ⟨fun c m H5 => m = (L i).length - c ∧ c ≤ (L i).length ∧ SqT K H5 a (L i) ∧ Ex H1 H5 ∧ H5 D = some (.lst ((List.range i).flatMap L ++ (L i).take c)), ⟨_, rfl, Nat.zero_le _, ex_t e4 hL, (p1.trans e3).trans e4, by rw [List.take_zero, List.append_nil]; exact e4 _ _ (e3 _ _ p2)⟩, ?_⟩
    rintro c m H5 ⟨rfl, hc, g1, g2, g3⟩
    have hsum : (List.range (i + 1)).flatMap L = (List.range i).flatMap L ++ L i := by
      rw [List.range_succ, List.flatMap_append]
      simp
    by_cases hcl : c < (L i).length
    · refine .inr ⟨⟨_, _, g1, List.getElem?_eq_getElem hcl⟩, fun H6 => SqT K H6 a (L i) ∧ Ex H1 H6 ∧ H6 D = some (.lst ((List.range i).flatMap L ++ (L i).take (c + 1))), fun H6 ⟨r1, r2, r3⟩ => ⟨_, by omega, rfl, hcl, r1, r2, r3⟩, fun y H6 ⟨eH, hy2⟩ => ?_⟩
      subst eH
      have hy' : (L i)[c]? = some y := hy2 _ g1
      refine ⟨(hset y).1, ?_⟩
      refine yes_do ?_
      refine ⟨y, (hset y).2, _, g3, ?_, keep_t (KeepT.lst g3) g1, Ex.mut g2 hD, ?_⟩
      · refine sz_lt ?_
        have h1 := hn (i + 1) hlt
        rw [hsum, List.length_append] at h1
        rw [List.length_append, List.length_take]
        omega
      · rw [upd_same, List.append_assoc, List.take_add_one, hy']
        rfl
    · refine .inl ⟨⟨_, g1, by omega⟩, g2, ?_⟩
      rw [g3, hsum, List.take_of_length_le (by omega)]
  · have e' : i = n := by omega
    subst e'
    exact .inl ⟨w.stops H' (hG H' p1), q D H' (fresh_back e1 hD) (e1.trans p1) p2⟩
theorem str_beq (a b : Str) : (a == b) = decide (a = b) := by
  by_cases h : a = b
  · subst h
    simp
  · rw [decide_eq_false h]
    exact beq_eq_false_iff_ne.mpr h
theorem inV_str (c : Str) (hs : List Str) : inV (.str c) (hs.map V.str) = decide (c ∈ hs) := by
  induction hs with
  | nil => rfl
  | cons a r ih =>
    show (eqV (.str a) (.str c) || inV (.str c) (r.map V.str)) = _
    rw [ih]
    show ((a == c) || _) = _
    rw [str_beq]
    by_cases h : a = c
    · subst h
      simp
    · have h' : ¬ c = a := fun z => h z.symm
      simp [h, h']
theorem inV_int (c : Int) (hs : List Int) : inV (.int c) (hs.map V.int) = decide (c ∈ hs) := by
  induction hs with
  | nil => rfl
  | cons a r ih =>
    show (eqV (.int a) (.int c) || inV (.int c) (r.map V.int)) = _
    rw [ih]
    show ((a == c) || _) = _
    by_cases h : a = c
    · subst h
      simp
    · have h' : ¬ c = a := fun z => h z.symm
      simp [h, h']
theorem flat_strs (hs : List Str) : (hs.map V.str).all flatV = true := by
  rw [List.all_map]
  exact List.all_eq_true.mpr fun _ _ => rfl
abbrev vN (i : Nat) : V := .int (i : Int)
theorem flat_nats (hs : List Nat) : (hs.map vN).all flatV = true := by
  rw [List.all_map]
  exact List.all_eq_true.mpr fun _ _ => rfl
theorem inV_nat (c : Nat) (hs : List Nat) : inV (vN c) (hs.map vN) = decide (c ∈ hs) := by
  have e : hs.map vN = (hs.map fun (i : Nat) => (i : Int)).map V.int := by rw [List.map_map]; rfl
  rw [e]
  show inV (.int (c : Int)) _ = _
  rw [inV_int]
  congr 1
  rw [List.mem_map]
  apply propext
  constructor
  · rintro ⟨a, h1, h2⟩
    have : a = c := by omega
    subst this
    exact h1
  · exact fun h => ⟨c, h, rfl⟩
theorem rIx_seq {p : Addr} {xs : List V} {i : Int} (h : SqL K H p xs ∨ SqT K H p xs) (ha : atI xs i = some v) : RV (rIx K) (.ref p) (.int i) H v := fun H1 e Q q =>
  h.elim (fun h => .inl ⟨p, xs, i, v, rfl, rfl, ex_l e h, ha, q H1 (Ex.refl H1)⟩) (fun h => .inr (.inl ⟨p, xs, i, v, rfl, rfl, ex_t e h, ha, q H1 (Ex.refl H1)⟩))
theorem paired_get2 {α β : Type} {F : α → β → Prop} : ∀ {xs : List α} {ys : List β} {i : Nat} {y : β}, Paired F xs ys → ys[i]? = some y → ∃ x, xs[i]? = some x ∧ F x y
  | _, _, _, _, .nil, e => by simp at e
  | _, _, 0, _, .cons r _, e => by simp at e; subst e; exact ⟨_, rfl, r⟩
  | _, _, i + 1, x, .cons _ t, e => by
    obtain ⟨u, h1, h2⟩ := paired_get2 (i := i) (y := x) t (by simpa using e)
    exact ⟨u, by simpa using h1, h2⟩
theorem flatMap_range {α β : Type} (l : List α) (d : α) (g : α → List β) : (List.range l.length).flatMap (fun i => g (l.getD i d)) = l.flatMap g := by
  rw [List.flatMap_def, List.flatMap_def, range_map_get l d g]
theorem flatMap_take {α β : Type} (l : List α) (d : α) (g : α → List β) (i : Nat) (hi : i ≤ l.length) : (List.range i).flatMap (fun i => g (l.getD i d)) = (l.take i).flatMap g := by
  have h := flatMap_range (l.take i) d g
  rw [List.length_take, Nat.min_eq_left hi] at h
  rw [← h]
  rw [List.flatMap_def, List.flatMap_def]
  congr 1
  apply List.map_congr_left
  intro j hj
  have := List.mem_range.mp hj
  congr 1
  rw [List.getD_eq_getElem?_getD, List.getD_eq_getElem?_getD, List.getElem?_take_of_lt this]
theorem map_flatMap' {α β γ : Type} (l : List α) (f : β → γ) (g : α → List β) : l.flatMap (fun i => (g i).map f) = (l.flatMap g).map f := by
  induction l with
  | nil => rfl
  | cons a r ih => rw [List.flatMap_cons, List.flatMap_cons, List.map_append, ih]
def rTupOf (K : PySem.W.Frag) : List V → Hp → VK → Prop := fun xs H Q => ∃ p ys, xs = [.ref p] ∧ ((SqL K H p ys ∧ ∀ l, H l = none → Q (.ref l) (upd H l (.tup ys))) ∨ (SqT K H p ys ∧ Q (.ref p) H))
theorem call_tupOf {X : Cx} : CallR X (.type "tuple") (rTupOf X.K) := call_tuple_of
theorem eu_tupL {p : Addr} {xs : List V} (ha : Ev ta σ H (.ref p)) (h : SqL K H p xs) : EvU (tCB (rTupOf K) (tCons ta tNil)) σ H xs := fun H1 e Q q =>
  ha H1 e _ fun H2 e2 => ⟨p, xs, rfl, .inl ⟨ex_l (e.trans e2) h, fun l hl => q l _ (fresh_back e2 hl) (e2.trans (Ex.new hl)) upd_same⟩⟩
theorem eu_tupN {xs : List V} (ha : EvL ta σ H xs) : EvU (tCB (rTupOf K) (tCons ta tNil)) σ H xs := fun H1 e Q q =>
  ha H1 e _ fun p H2 _ e2 hp => ⟨p, xs, rfl, .inl ⟨sq_of hp, fun l hl => q l _ (fresh_back e2 hl) (e2.trans (Ex.new hl)) upd_same⟩⟩
theorem el_listT {p : Addr} {xs : List V} (ha : Ev ta σ H (.ref p)) (h : SqT K H p xs) : EvL (tCB (rListS K) (tCons ta tNil)) σ H xs := fun H1 e Q q =>
  ha H1 e _ fun H2 e2 => ⟨p, xs, rfl, Or.inr (ex_t (e.trans e2) h), fun l hl => q l _ (fresh_back e2 hl) (e2.trans (Ex.new hl)) upd_same⟩
theorem el_cat {l : Addr} {xs zs : List V} (ha : Ev ta σ H (.ref l)) (hl : H l = some (.lst xs)) (hb : EvL tb σ H zs) (hn : xs.length + zs.length ≤ 100000) : EvL (tOp rCat ta tb) σ H (xs ++ zs) := fun H1 e Q q =>
  ha H1 e _ fun H2 e2 => hb H2 (e.trans e2) _ fun b H3 _ e3 hb' => ⟨l, b, xs, zs, rfl, rfl, e3 _ _ (e2 _ _ (e _ _ hl)), hb', sz_of hn, fun p hp => q p _ (fresh_back (e2.trans e3) hp) ((e2.trans e3).trans (Ex.new hp)) upd_same⟩
theorem el_catN {xs zs : List V} (ha : EvL ta σ H xs) (hb : EvL tb σ H zs) (hn : xs.length + zs.length ≤ 100000) : EvL (tOp rCat ta tb) σ H (xs ++ zs) := fun H1 e Q q =>
  ha H1 e _ fun l H2 _ e2 hl => hb H2 (e.trans e2) _ fun b H3 _ e3 hb' => ⟨l, b, xs, zs, rfl, rfl, e3 _ _ hl, hb', sz_of hn, fun p hp => q p _ (fresh_back (e2.trans e3) hp) ((e2.trans e3).trans (Ex.new hp)) upd_same⟩
theorem et_truL {p : Addr} {xs : List V} (ha : Ev ta σ H (.ref p)) (h : SqL K H p xs) : EvT (fun σ H Q => ta σ H fun x H' => ∃ k, TruV K x H' k ∧ Q k H') σ H (!xs.isEmpty) := fun H1 e Q q =>
  ha H1 e _ fun H2 e2 => ⟨_, .inl ⟨xs, ex_l (e.trans e2) h, rfl⟩, q H2 e2⟩
theorem SpL.of {sp : Sp} {vs : List V} {H : Hp} {xs : List V} (h : ∀ H1, Ex H H1 → ∀ Q : VK, RetL xs H1 Q → ∀ E, sp vs H1 Q E) : SpL sp (vs ++ []) H xs := by
  rw [List.append_nil]
  exact fun H1 e Q q E => h H1 e Q q E
theorem filter_range_map {α β : Type} (l : List α) (d : α) (p : α → Bool) (g : α → β) : ((List.range l.length).filter (fun i => p (l.getD i d))).map (fun i => g (l.getD i d)) = (l.filter p).map g := by
  have e : (List.range l.length).map (fun i => l.getD i d) = l := by
    have := range_map_get l d id
    simpa using this
  conv => rhs; rw [← e, List.filter_map, List.map_map]
  rfl
theorem filter_both {α : Type} (l : List α) (p : α → Bool) : (l.filter p).length + (l.filter fun i => !p i).length = l.length := by
  induction l with
  | nil => rfl
  | cons a r ih =>
    cases h : p a with
    | true =>
      rw [List.filter_cons_of_pos h, List.filter_cons_of_neg (by rw [h]; decide), List.length_cons, List.length_cons]
      omega
    | false =>
      rw [List.filter_cons_of_neg (by rw [h]; decide), List.filter_cons_of_pos (by rw [h]; rfl), List.length_cons, List.length_cons]
      omega
/-- a list of tuples of box numbers -/
def TupsAt (K : PySem.W.Frag) (H : Hp) (ys : List V) (rs : List (List Nat)) : Prop := Paired (fun y r => ∃ a, y = .ref a ∧ SqT K H a (r.map vN)) ys rs
theorem TupsAt.keep {K : PySem.W.Frag} {H H' : Hp} {ys : List V} {rs : List (List Nat)} (e : KeepT H H') (h : TupsAt K H ys rs) : TupsAt K H' ys rs := paired_imp h fun _ _ ⟨a, h1, h2⟩ => ⟨a, h1, keep_t e h2⟩
def YTup (K : PySem.W.Frag) (rs : List (List Nat)) : Nat → Hp → V → Hp → Prop := fun i H x H' => H' = H ∧ ∃ a r, rs[i]? = some r ∧ x = .ref a ∧ SqT K H a (r.map vN)
/-- a new list of tuples of numbers -/
def EvR (K : PySem.W.Frag) (te : TE) (σ : L2.St) (H : Hp) (rs : List (List Nat)) : Prop := ∀ H1, Ex H H1 → ∀ Q : VK, (∀ p ys H2, H1 p = none → Ex H1 H2 → H2 p = some (.lst ys) → TupsAt K H2 ys rs → Q (.ref p) H2) → te σ H1 Q
theorem ew_tups {rs : List (List Nat)} (h : EvR K tl σ H rs) : EvW (iList K tl) σ H rs.length (YTup K rs) := fun H1 e R r => h H1 e _ fun p ys H2 hp e2 h2 hT => by
  refine ⟨p, rfl, ⟨ys, sq_of h2⟩, r _ (fun H => SqL K H p ys ∧ TupsAt K H ys rs) H2 e2 ?_ fun H3 e3 => ⟨sq_of (e3 _ _ h2), hT.keep (KeepT.ex e3)⟩⟩
  have w : Walk (Itl K p) ys.length (fun H => SqL K H p ys) (YAt ys) := walk_list
  rw [show ys.length = rs.length from paired_len hT] at w
  refine w.mono (fun H h => h.1) fun i H x H' hi hg hy => ?_
  obtain ⟨rfl, hx⟩ := hy
  obtain ⟨r, hr, a, rfl, ha⟩ := paired_get hg.2 hx
  exact ⟨rfl, a, r, hr, rfl, ha⟩
theorem flatten_take_le {α : Type} : ∀ (l : List (List α)) (i : Nat), (l.take i).flatten.length ≤ l.flatten.length
  | [], i => by simp
  | a :: r, 0 => by simp
  | a :: r, i + 1 => by
    have := flatten_take_le r i
    rw [List.take_succ_cons, List.flatten_cons, List.flatten_cons, List.length_append, List.length_append]
    omega
/-- a new tuple -/
def RetU (xs : List V) (H : Hp) (Q : VK) : Prop := ∀ p H2, H p = none → Ex H H2 → H2 p = some (.tup xs) → Q (.ref p) H2
def SpU (sp : Sp) (vs : List V) (H : Hp) (xs : List V) : Prop := ∀ H1, Ex H H1 → ∀ Q : VK, (∀ p H2, H1 p = none → Ex H1 H2 → H2 p = some (.tup xs) → Q (.ref p) H2) → ∀ E : XK, sp vs H1 Q E
theorem eu_call {σ : L2.St} {H : Hp} {sp : Sp} {vs xs : List V} {E : XK} {ta : TA} (h : EvA ta σ H vs) (hs : ∀ H1, Ex H H1 → ∀ Q : VK, RetU xs H1 Q → ∀ E, sp vs H1 Q E) : EvU (tCall sp [] E ta) σ H xs := fun H1 e Q q =>
  h H1 e _ fun H2 e2 => by
    rw [List.append_nil]
    exact hs H2 (e.trans e2) Q (fun p H3 hp e3 h3 => q p H3 (fresh_back e2 hp) (e2.trans e3) h3) E
theorem er_call {σ : L2.St} {H : Hp} {sp : Sp} {vs : List V} {rs : List (List Nat)} {E : XK} {ta : TA} (h : EvA ta σ H vs) (hs : ∀ H1, Ex H H1 → ∀ Q : VK, (∀ p ys H2, H1 p = none → Ex H1 H2 → H2 p = some (.lst ys) → TupsAt K H2 ys rs → Q (.ref p) H2) → ∀ E, sp vs H1 Q E) : EvR K (tCall sp [] E ta) σ H rs := fun H1 e Q q =>
  h H1 e _ fun H2 e2 => by
    rw [List.append_nil]
    exact hs H2 (e.trans e2) Q (fun p ys H3 hp e3 h3 hT => q p ys H3 (fresh_back e2 hp) (e2.trans e3) h3 hT) E
theorem rgV_nat (n : Nat) : rgV 0 (n : Int) = (List.range n).map vN := by
  unfold rgV
  rw [Int.sub_zero, Int.toNat_natCast]
  apply List.map_congr_left
  intro i _
  rw [Int.zero_add]
theorem el_listR {n : Nat} (ha : Ev ta σ H (.int n)) (hn : n ≤ 100000) : EvL (tLstRg (tRg1 ta)) σ H ((List.range n).map vN) := fun H1 e Q q =>
  ha H1 e _ fun H2 e2 => ⟨n, rfl, RgOk.of_le (by omega) (by omega) (by omega) (by omega), fun p hp => q p _ (fresh_back e2 hp) (e2.trans (Ex.new hp)) (by rw [rgV_nat]; exact upd_same)⟩
theorem paired_flip {α β γ : Type} {F : β → γ → Prop} {g : α → γ} : ∀ {xs : List α} {ys : List β}, Paired (fun i y => F y (g i)) xs ys → Paired F ys (xs.map g)
  | _, _, .nil => .nil
  | _, _, .cons r t => .cons r (paired_flip t)
theorem q_asgC {te : TE} {σ : L2.St} {H : Hp} {D : Ends} {tz : TS} {i n : Nat} {f : Nat → Bool} {Φ : Nat → V → Hp → Prop} (h : EvC te σ H n f Φ) (k : ∀ p ys H1, H p = none → Ex H H1 → H1 p = some (.lst ys) → Paired (fun i y => Φ i y H1) ((List.range n).filter f) ys → tz D (σ.set i (some (.ref p))) H1) :
    tSeq (tAsg te (gName i)) tz D σ H := h H (Ex.refl H) _ k
end
end Kw
set_option Elab.async false
set_option linter.all false
set_option maxRecDepth 100000
set_option maxHeartbeats 4000000
namespace Kw
open PySem PySem.Spec PyProof.Rows L2 Evl
def topS (i : Nat) : Stmt := PySem.Challenge.pw_keyswithin_k10_whole_counts_at_any_size.main.body.getD i (.Pass ⟨0, 0, 0, 0⟩)
end Kw
set_option Elab.async false
set_option linter.all false
set_option maxRecDepth 100000
set_option maxHeartbeats 4000000
namespace Kw
open PySem PySem.Spec PyProof.Rows L2 Evl
abbrev sWho : Stmt := topS 4
theorem scWho : FnScope ["thing"] ["thing"] (defScope sWho) := ⟨rfl, rfl, rfl, by decide +kernel, rfl, by decide +kernel, by decide +kernel⟩
abbrev sCkN : Stmt := topS 7
theorem scCkN : FnScope ["thing", "least", "most"] ["thing", "least", "most"] (defScope sCkN) := ⟨rfl, rfl, rfl, by decide +kernel, rfl, by decide +kernel, by decide +kernel⟩
abbrev sCkW : Stmt := topS 8
theorem scCkW : FnScope ["thing"] ["thing"] (defScope sCkW) := ⟨rfl, rfl, rfl, by decide +kernel, rfl, by decide +kernel, by decide +kernel⟩
abbrev sAllL : Stmt := topS 9
theorem scAllL : FnScope ["boxes", "many", "box"] ["boxes"] (defScope sAllL) := ⟨rfl, rfl, rfl, by decide +kernel, rfl, by decide +kernel, by decide +kernel⟩
abbrev sCbR : Stmt := topS 10
theorem scCbR : FnScope ["boxes", "counts", "before", "alone", "between", "many", "one", "other"] ["boxes"] (defScope sCbR) := ⟨rfl, rfl, rfl, by decide +kernel, rfl, by decide +kernel, by decide +kernel⟩
theorem ip_mulW {X : Cx} : PIp X .Mult (fun x y H Q => ∃ i j, x = .int i ∧ y = .int j ∧ CMulW i j ∧ Q (.int (i * j)) H) := by
  intro pins s σ H x y v u Q I r1 r2 h
  obtain ⟨i, j, e1, e2, hc, q⟩ := h
  subst e1; subst e2
  obtain ⟨t, rfl⟩ := r1
  obtain ⟨t', rfl⟩ := r2
  exact imul_int ⟨.int _, H, I.tok _, ⟨_, rfl⟩, q⟩ hc.ok
section
variable {P : Program} {w : World} {K : PySem.W.Frag} {mg : Str → Option Value} {base : Heap}
def spWho (K : PySem.W.Frag) : Sp := fun vs H Q _ => ∃ (x : V) (T : String) (b1 b2 : Bool), vs = [x] ∧ (∀ H1, Ex H H1 → TyX K H1 x (.type T)) ∧ kitB T "int" = some b1 ∧ kitB T "bool" = some b2 ∧ RetV (.bl (b1 && !b2)) H Q
theorem ok_who {f  : Addr} {fd  : FuncData} {k : Nat} (F : Fun K "is_whole" "is_whole" sWho f fd) (B : Bu mg) : FnOk P w K mg base CX0 (k + 1) f fd ["thing"] (spWho K) := by
  refine F.ok scWho (fun vs H Q E h => ?_) (fun cdv A outer s H vs Q E hr h => ?_)
  · obtain ⟨x, T, b1, b2, rfl, _⟩ := h
    rfl
  · obtain ⟨x, T, b1, b2, rfl, hT, h1, h2, q⟩ := h
    refine ⟨_, (pss_one (ps_ret (pe_and (pe_callB call_isi (by rfl) B.isi boot_isinstance (pa_cons (pv 0) (pa_cons (pe_bltn (v := .ty "int") (by rfl) B.int boot_int rfl) pa_nil))) (pe_one (pe_not (pe_callB call_isi (by rfl) B.isi boot_isinstance (pa_cons (pv 0) (pa_cons (pe_bltn (v := .ty "bool") (by rfl) B.bool (by decide +kernel) rfl) pa_nil)))))))), ?_⟩
    exact s_ret (v := .bl (b1 && !b2)) (ev_andV (ev_isi (K := K) (ev_var (v := x) rfl) ev_c hT h1) fun _ => ev_notV (ev_isi (K := K) (ev_var (v := x) rfl) ev_c hT h2)) (fun H1 e1 => q H1 e1)
theorem who_int {H : Hp} {i : Int} {Q : VK} {E : XK} (q : RetV (.bl true) H Q) : spWho K [.int i] H Q E := ⟨.int i, "int", true, false, rfl, fun H1 _ => .base (.int i), by decide +kernel, by decide +kernel, q⟩
def spCkN (K : PySem.W.Frag) : Sp := fun vs H Q _ => ∃ (i a b : Int), vs = [.int i, .int a, .int b] ∧ a ≤ i ∧ i ≤ b ∧ RetV .non H Q
theorem ok_ckn {f fWho : Addr} {fd fdWho : FuncData} {k : Nat} (F : Fun K "check_number" "check_number" sCkN f fd) (DWho : Df K mg "is_whole" sWho ["thing"] fWho fdWho) (GWho : FnOk P w K mg base CX0 (k + 1) fWho fdWho ["thing"] (spWho K)) : FnOk P w K mg base CX0 (k + 2) f fd ["thing", "least", "most"] (spCkN K) := by
  refine F.ok scCkN (fun vs H Q E h => ?_) (fun cdv A outer s H vs Q E hr h => ?_)
  · obtain ⟨i, a, b, rfl, _⟩ := h
    rfl
  · obtain ⟨i, a, b, rfl, h1, h2, q⟩ := h
    refine ⟨_, (pss_one (ps_if (PW.pt (pw_or (pt_not (pt_val (pcall DWho GWho (hr.mono (by omega)) (pa_cons (pv 0) pa_nil)))) (pw_or1 (pt_not (pt_chain op_le op_le (pv 1) (pv 0) (pv 2)))))) pss_never pss_nil)), ?_⟩
    refine s_when (b := false) (et_is (et_or (et_not (et_B (ev_call (z := .bl true) (ea_cons (ev_var rfl) ea_nil) (SpV.of fun H1 e1 Q q E => who_int q)))) fun _ => et_not (et_test (ev_chain (ev_var (v := .int a) rfl) (ev_var (v := .int i) rfl) (ev_var (v := .int b) rfl) rv_le rv_le))) ?_) (fun hb => absurd hb (by decide)) (fun _ H1 e1 => q H1 e1)
    rw [decide_eq_true h1, decide_eq_true h2]
    rfl
def spCkW (K : PySem.W.Frag) : Sp := fun vs H Q _ => ∃ (i : Int), vs = [.int i] ∧ RetV .non H Q
theorem ok_ckw {f fWho : Addr} {fd fdWho : FuncData} {k : Nat} (F : Fun K "check_whole" "check_whole" sCkW f fd) (DWho : Df K mg "is_whole" sWho ["thing"] fWho fdWho) (GWho : FnOk P w K mg base CX0 (k + 1) fWho fdWho ["thing"] (spWho K)) : FnOk P w K mg base CX0 (k + 2) f fd ["thing"] (spCkW K) := by
  refine F.ok scCkW (fun vs H Q E h => ?_) (fun cdv A outer s H vs Q E hr h => ?_)
  · obtain ⟨i, rfl, _⟩ := h
    rfl
  · obtain ⟨i, rfl, q⟩ := h
    refine ⟨_, (pss_one (ps_if (pt_not (pt_val (pcall DWho GWho (hr.mono (by omega)) (pa_cons (pv 0) pa_nil)))) pss_never pss_nil)), ?_⟩
    exact s_when (b := false) (et_is (et_not (et_B (ev_call (z := .bl true) (ea_cons (ev_var rfl) ea_nil) (SpV.of fun H1 e1 Q q E => who_int q)))) rfl) (fun hb => absurd hb (by decide)) (fun _ H1 e1 => q H1 e1)
/-! ### how many layings -/
def fact : Nat → Nat
  | 0 => 1
  | n + 1 => fact n * (n + 1)
theorem fact_small : ∀ n ≤ 40, fact n < 2 ^ 200 := by decide +kernel
def spAllL (K : PySem.W.Frag) : Sp := fun vs H Q _ => ∃ (n : Nat), vs = [.int n] ∧ n ≤ 40 ∧ RetV (.int (fact n)) H Q
theorem ok_allL {f  : Addr} {fd  : FuncData} {k : Nat} (F : Fun K "all_layings" "all_layings" sAllL f fd) (B : Bu mg) : FnOk P w K mg base CX0 (k + 1) f fd ["boxes"] (spAllL K) := by
  refine F.ok scAllL (fun vs H Q E h => ?_) (fun cdv A outer s H vs Q E hr h => ?_)
  · obtain ⟨n, rfl, _⟩ := h
    rfl
  · obtain ⟨n, rfl, hn, q⟩ := h
    refine ⟨_, (pss_cons (ps_set (i := 1) scAllL.nd rfl (.inl rfl) pe_int)
      (pss_cons (ps_for PassesOwn.never rfl (pi_range1 (by rfl) B.rng (pa_cons (pv 0) pa_nil)) (pg_name (i := 2) scAllL.nd rfl (.inl rfl))
      (pss_one (ps_aug (i := 1) scAllL.nd rfl (.inl rfl) (pe_op op_add (pv 2) pe_int) ip_mulW)))
      (pss_one (ps_ret (pv 1))))), ?_⟩
    refine q_asg (v := .int 1) ev_c fun H1 e1 => ?_
    refine q_forR1 (n := n) (ea_cons (ev_var (v := .int n) rfl) ea_nil) ⟨by omega, by omega⟩ (fun i σ' H' => Ex H H' ∧ ∃ y, σ' = [some (.int n), some (.int (fact i)), y]) (fun H2 e2 => ⟨e1.trans e2, none, rfl⟩) (fun i σ' H' hi hP => ?_) (fun σ' H' hP => ?_)
    · obtain ⟨eH, y, rfl⟩ := hP
      have hs := fact_small i (by omega)
      refine ⟨.int (fact i), rfl, .int i, rfl, _, _, rfl, rfl, _, _, rfl, rfl, wide_mul (a := 200) (b := 64) (by omega) ?_ (by decide) (by decide) (by decide), eH, some (.int i), ?_⟩
      · rw [show ((i : Int) + 1).natAbs = i + 1 by omega]
        exact Nat.lt_of_lt_of_le (show i + 1 < 64 by omega) (by decide)
      · show [some (V.int n), some (V.int ((fact i : Int) * ((i : Int) + 1))), some (V.int i)] = _
        rw [show fact (i + 1) = fact i * (i + 1) from rfl, Int.natCast_mul]
        rfl
    · obtain ⟨eH, y, rfl⟩ := hP
      rw [Int.toNat_natCast]
      exact ⟨_, rfl, q _ eH⟩
end
end Kw
set_option Elab.async false
set_option linter.all false
set_option maxRecDepth 100000
set_option maxHeartbeats 4000000
namespace Kw
open PySem PySem.Spec PyProof.Rows L2 Evl
section
variable {K : PySem.W.Frag} {σ : L2.St} {H H' : Hp} {ta tb tc te tl : TE} {t u : TT} {x y z v : V} {r r' : R2}
theorem ew_zipL {a b : Addr} {xs ys : List V} {n : Nat} (hn : n = min xs.length ys.length) (h : Ev ta σ H (.ref a)) (hb : Ev tb σ H (.ref b)) (hx : SqL K H a xs) (hy : SqL K H b ys) : EvW (iZip K (tCons ta (tCons tb tNil))) σ H n (YPair (fun i => xs[i]?) (fun i => ys[i]?)) := fun H1 e R r =>
  h H1 e _ fun H2 e2 => hb H2 (e.trans e2) _ fun H3 e3 => ⟨a, b, xs, ys, rfl, ex_l ((e.trans e2).trans e3) hx, ex_l ((e.trans e2).trans e3) hy, r _ _ H3 (e2.trans e3) (walk_zip hn) fun H4 e4 => ⟨ex_l (((e.trans e2).trans e3).trans e4) hx, ex_l (((e.trans e2).trans e3).trans e4) hy⟩⟩
theorem ew_enumL {a : Addr} {xs : List V} (h : Ev ta σ H (.ref a)) (hx : SqL K H a xs) : EvW (iEnum K (tCons ta tNil)) σ H xs.length (YPair (fun i => some (.int (i : Nat))) (fun i => xs[i]?)) := fun H1 e R r =>
  h H1 e _ fun H2 e2 => ⟨a, xs, rfl, ex_l (e.trans e2) hx, r _ _ H2 e2 walk_enum fun H3 e3 => ex_l ((e.trans e2).trans e3) hx⟩
/-- [x, *xs] -/
theorem el_star1 {p : Addr} {xs : List V} (ha : Ev ta σ H x) (hb : Ev tb σ H (.ref p)) (h : SqL K H p xs ∨ SqT K H p xs) (hn : xs.length < 100000) : EvL (tLst (tCons ta (StX.tStar K tb tNil))) σ H (x :: xs) := fun H1 e Q q =>
  ha H1 e _ fun H2 e2 => hb H2 (e.trans e2) _ fun H3 e3 => ⟨p, xs, rfl, h.elim (fun h => .inr (ex_l ((e.trans e2).trans e3) h)) (fun h => .inl (ex_t ((e.trans e2).trans e3) h)), by
    show (x :: (xs ++ [])).length ≤ sizeLine ∧ ∀ p, H3 p = none → Q (.ref p) (upd H3 p (.lst (x :: (xs ++ []))))
    rw [List.append_nil]
    exact ⟨sz_of (by rw [List.length_cons]; omega), fun l hl => q l _ (fresh_back (e2.trans e3) hl) ((e2.trans e3).trans (Ex.new hl)) upd_same⟩⟩
theorem ev_sum {ns : List Int} (ha : EvL ta σ H (ns.map V.int)) : Ev (tCB (rSum K) (tCons ta tNil)) σ H (.int ns.sum) := fun H1 e Q q =>
  ha H1 e _ fun p H2 _ e2 h2 => ⟨p, ns, rfl, sq_of h2, q H2 e2⟩
theorem ev_sumV {p : Addr} {ns : List Int} (ha : Ev ta σ H (.ref p)) (h : SqL K H p (ns.map V.int)) : Ev (tCB (rSum K) (tCons ta tNil)) σ H (.int ns.sum) := fun H1 e Q q =>
  ha H1 e _ fun H2 e2 => ⟨p, ns, rfl, ex_l (e.trans e2) h, q H2 e2⟩
theorem nats_int (ns : List Nat) : ns.map vN = (ns.map fun (i : Nat) => (i : Int)).map V.int := by rw [List.map_map]; rfl
theorem sum_nats (ns : List Nat) : (ns.map fun (i : Nat) => (i : Int)).sum = (ns.sum : Nat) := by
  induction ns with
  | nil => rfl
  | cons a r ih => rw [List.map_cons, List.sum_cons, List.sum_cons, ih, Int.natCast_add]
/-- xs[i] of a new list -/
theorem ev_ixN {xs : List V} {i : Int} (ha : EvL ta σ H xs) (hb : Ev tb σ H (.int i)) (hv : atI xs i = some v) : Ev (tOp (rIxL K) ta tb) σ H v :=
  ev_opL1 ha (fun H1 e1 => hb.mono e1) fun p H1 hp _ => rv_ixL (sq_of hp) hv
theorem ew_rng2 {ta : TA} {a n : Nat} (h : EvA ta σ H [.int a, .int (n + a : Nat)]) (hn : n + a ≤ 100000) : EvW (iRng2 ta) σ H n (YFn fun (i : Nat) => .int ((a + i : Nat) : Int)) := fun H1 e R r => h H1 e _ fun H2 e2 => ⟨a, (n + a : Nat), rfl, ⟨by omega, by omega, by omega, by omega⟩, r _ _ H2 e2 (by
  have e : (fun i : Nat => V.int (((a : Nat) : Int) + (i : Int))) = fun (i : Nat) => V.int ((a + i : Nat) : Int) := by
    funext i
    rw [Int.natCast_add]
  rw [← e, show (((n + a : Nat) : Int) - (a : Int)).toNat = n by omega]
  exact walk_range) fun _ _ => trivial⟩
end
theorem getD_eq {α : Type} {l : List α} {i : Nat} {d x : α} (h : l[i]? = some x) : l.getD i d = x := by
  rw [List.getD_eq_getElem?_getD, h]
  rfl
theorem get_map {α : Type} {l : List α} {f : α → V} {i : Nat} {x : V} (d : α) (h : (l.map f)[i]? = some x) : x = f (l.getD i d) ∧ i < l.length ∧ l[i]? = some (l.getD i d) := by
  rw [List.getElem?_map] at h
  cases e : l[i]? with
  | none => rw [e] at h; cases h
  | some a =>
    rw [e] at h
    have hl : i < l.length := (List.getElem?_eq_some_iff.mp e).1
    rw [getD_eq e]
    exact ⟨(Option.some.inj h).symm, hl, rfl⟩
end Kw
set_option Elab.async false
set_option linter.all false
set_option maxRecDepth 100000
set_option maxHeartbeats 4000000
namespace Kw
open PySem PySem.Spec PyProof.Rows L2 Evl
abbrev sWR : Stmt := topS 11
theorem scWR : FnScope ["boxes", "many"] ["boxes", "many"] (defScope sWR) := ⟨rfl, rfl, rfl, by decide +kernel, rfl, by decide +kernel, by decide +kernel⟩
abbrev sWS : Stmt := topS 12
theorem scWS : FnScope ["boxes", "many"] ["boxes", "many"] (defScope sWS) := ⟨rfl, rfl, rfl, by decide +kernel, rfl, by decide +kernel, by decide +kernel⟩
abbrev sTog : Stmt := topS 13
theorem scTog : FnScope ["boxes", "many"] ["boxes", "many"] (defScope sTog) := ⟨rfl, rfl, rfl, by decide +kernel, rfl, by decide +kernel, by decide +kernel⟩
/-! ### layings by their rounds -/
def cbrS (n : Nat) (cs : List Nat) : List Nat := List.zipWith (· + ·) (0 :: cs) (cs.map (n * ·) ++ [0])
def cbr : Nat → List Nat
  | 0 => [1]
  | n + 1 => cbrS n (cbr n)
theorem cbr_len : ∀ n, (cbr n).length = n + 1
  | 0 => rfl
  | n + 1 => by
    show (cbrS n (cbr n)).length = _
    unfold cbrS
    rw [List.length_zipWith, List.length_cons, List.length_append, List.length_map, cbr_len n, List.length_singleton]
    omega
theorem cbr_small : ∀ n ≤ 40, ∀ x ∈ cbr n, x < 2 ^ 200 := by decide +kernel
theorem mul_small {n i : Nat} (hn : n < 64) (hi : i < 2 ^ 200) : CMulW (n : Int) (i : Int) := wide_mul (a := 6) (b := 200) (by rw [Int.natAbs_natCast]; exact hn) (by rw [Int.natAbs_natCast]; exact hi) (by decide) (by decide) (by decide)
section
variable {P : Program} {w : World} {K : PySem.W.Frag} {mg : Str → Option Value} {base : Heap}
def spCbR (K : PySem.W.Frag) : Sp := fun vs H Q _ => ∃ (n : Nat), vs = [.int n] ∧ n ≤ 40 ∧ RetL ((cbr n).map vN) H Q
theorem ok_cbr {f  : Addr} {fd  : FuncData} {k : Nat} (F : Fun K "counts_by_rounds" "counts_by_rounds" sCbR f fd) (B : Bu mg) : FnOk P w K mg base CX0 (k + 1) f fd ["boxes"] (spCbR K) := by
  refine F.ok scCbR (fun vs H Q E h => ?_) (fun cdv A outer s H vs Q E hr h => ?_)
  · obtain ⟨n, rfl, _⟩ := h
    rfl
  · obtain ⟨n, rfl, hn, q⟩ := h
    refine ⟨_, (pss_cons (ps_set (i := 1) scCbR.nd rfl (.inl rfl) (pe_lst (pa_cons pe_int pa_nil)))
      (pss_cons (ps_for PassesOwn.never rfl (pi_range1 (by rfl) B.rng (pa_cons (pv 0) pa_nil)) (pg_name (i := 2) scCbR.nd rfl (.inr rfl))
      (pss_cons (ps_set (i := 3) scCbR.nd rfl (.inl rfl) (pe_lst (pa_cons pe_int (StX.pa_star (pv 1) pa_nil))))
      (pss_cons (ps_set (i := 4) scCbR.nd rfl (.inl rfl) (pe_op op_cat (pe_lc (own := [("many", 5)]) (g := (gName 5)) (tt := tYes) (te := (tOp (rI CMulW fun i j => .int (i * j)) (tVar 2) (tVar 5))) rfl scCbR.nd (pi_list (pv 1)) (blkOk_by (N := ["boxes", "counts", "before", "alone", "between", "many", "one", "other"]) (sc := defScope sCbR) (by decide +kernel)) (fun _ _ _ _ _ => (pg_name (i := 5) scCbR.nd rfl (.inl rfl))) (fun _ _ _ _ _ => pts_nil) (fun _ _ _ _ _ => (pe_op op_mulW (pv 2) (pv 5)))) (pe_lst (pa_cons pe_int pa_nil))))
      (pss_one (ps_setLc (i := 1) (own := [("one", 6), ("other", 7)]) (g := (gTup K 2 (gCons (gName 6) (gCons (gName 7) gNil)))) (tt := tYes) (te := (tOp (rI0 fun i j => .int (i + j)) (tVar 6) (tVar 7))) rfl scCbR.nd rfl rfl (sw_true rfl rfl rfl (by decide +kernel)) (pi_zip (by rfl) B.zip (pa_cons (pv 3) (pa_cons (pv 4) pa_nil))) (blkOk_by (N := ["boxes", "counts", "before", "alone", "between", "many", "one", "other"]) (sc := defScope sCbR) (by decide +kernel)) (fun _ _ _ _ _ => (pg_tup rfl (pgs_cons (pg_name (i := 6) scCbR.nd rfl (.inl rfl)) (pgs_cons (pg_name (i := 7) scCbR.nd rfl (.inl rfl)) pgs_nil)))) (fun _ _ _ _ _ => pts_nil) (fun _ _ _ _ _ => (pe_op op_add (pv 6) (pv 7))))))))
      (pss_one (ps_ret (pv 1))))), ?_⟩
    refine q_asgL (xs := [.int 1]) (el_lst (ea_cons ev_c ea_nil) (by decide)) fun p H1 np e1 hp => ?_
    refine q_forR1 (n := n) (ea_cons (ev_var (v := .int n) rfl) ea_nil) ⟨by omega, by omega⟩ (fun i σ' H' => Ex H H' ∧ ∃ c y2 y3 y4 y5 y6 y7, H c = none ∧ H' c = some (.lst ((cbr i).map vN)) ∧ σ' = [some (.int n), some (.ref c), y2, y3, y4, y5, y6, y7]) (fun H2 e2 => ⟨e1.trans e2, p, none, none, none, none, none, none, np, e2 _ _ hp, rfl⟩) (fun i σ' H' hi hP => ?_) (fun σ' H' hP => ?_)
    · obtain ⟨eH, c, y2, y3, y4, y5, y6, y7, nc, hc, rfl⟩ := hP
      have hl := cbr_len i
      have hlm : ((cbr i).map vN).length = i + 1 := by rw [List.length_map, hl]
      refine q_asgL (xs := .int 0 :: (cbr i).map vN) (el_star1 (K := K) ev_c (ev_var (v := .ref c) rfl) (.inl (sq_of hc)) (by omega)) fun a H2 na e2 ha => ?_
      refine q_asgL (xs := ((cbr i).map (i * ·)).map vN ++ [.int 0]) (el_catN (el_lc (ew_list (K := K) (ev_var (v := .ref c) rfl) (sq_of (e2 _ _ hc))) (by omega) (fun _ => true) (fun j => vN (i * (cbr i).getD j 0)) ?_ (fun j x H3 H4 Q e hj hy k => ?_)) (el_lst (ea_cons ev_c ea_nil) (by decide)) ?_) fun b H3 nb e3 hb => ?_
      · rw [filter_true, List.length_map, range_map_get (cbr i) 0 (fun x => vN (i * x)), List.map_map]
        rfl
      · obtain ⟨rfl, hx⟩ := hy
        obtain ⟨rfl, hjl, hget⟩ := get_map 0 hx
        refine k _ _ (Ex.refl _) rfl et_yes fun _ => ?_
        have hm := cbr_small i (by omega) _ (List.mem_of_getElem? hget)
        refine ev_is (ev_op (ev_var (v := .int i) rfl) (ev_var (v := vN ((cbr i).getD j 0)) rfl) (rv_I (mul_small (by omega) hm))) ?_
        show V.int _ = V.int _
        rw [Int.natCast_mul]
      · rw [List.length_map, List.length_map]
        show (cbr i).length + 1 ≤ _
        omega
      · refine s_asgL (xs := (cbr (i + 1)).map vN) ?_ fun d H4 nd e4 hd => ⟨((eH.trans e2).trans e3).trans e4, d, _, _, _, _, _, _, fresh_back ((eH.trans e2).trans e3) nd, hd, rfl⟩
        have lx : (V.int 0 :: (cbr i).map vN) = (0 :: cbr i).map vN := rfl
        have ly : ((cbr i).map (i * ·)).map vN ++ [V.int 0] = ((cbr i).map (i * ·) ++ [0]).map vN := by rw [List.map_append]; rfl
        rw [lx] at ha
        rw [ly] at hb
        have e0 : cbr (i + 1) = List.zipWith (· + ·) (0 :: cbr i) ((cbr i).map (i * ·) ++ [0]) := rfl
        have z1 : ((0 :: cbr i).map vN).length = i + 2 := by rw [List.length_map, List.length_cons, hl]
        have z2 : (((cbr i).map (i * ·) ++ [0]).map vN).length = i + 2 := by rw [List.length_map, List.length_append, List.length_map, hl]; rfl
        refine el_lc (ew_zipL (K := K) (n := i + 2) (by omega) (ev_var (v := .ref a) rfl) (ev_var (v := .ref b) rfl) (sq_of (e3 _ _ ha)) (sq_of hb)) (by omega) (fun _ => true) (fun j => vN ((0 :: cbr i).getD j 0 + ((cbr i).map (i * ·) ++ [0]).getD j 0)) ?_ (fun j x H4 H5 Q e hj hy k => ?_)
        · rw [filter_true, e0]
          apply List.ext_getElem
          · rw [List.length_map, List.length_range, List.length_map, List.length_zipWith]
            rw [List.length_map] at z1 z2
            omega
          · intro j h1 h2
            rw [List.length_map, List.length_range] at h1
            rw [List.length_map] at z1 z2
            simp only [List.getElem_map, List.getElem_range, List.getElem_zipWith]
            rw [List.getD_eq_getElem?_getD, List.getD_eq_getElem?_getD, List.getElem?_eq_getElem (by omega), List.getElem?_eq_getElem (by omega)]
            rfl
        · obtain ⟨T, x1, x2, rfl, nT, rfl, h1, h2⟩ := hy
          obtain ⟨rfl, _, _⟩ := get_map 0 h1
          obtain ⟨rfl, _, _⟩ := get_map 0 h2
          refine ⟨T, _, rfl, st_of upd_same, rfl, _, _, rfl, _, _, rfl, rfl, ?_⟩
          refine k _ _ (Ex.new nT) rfl et_yes fun _ => ?_
          refine ev_is (ev_op (ev_var rfl) (ev_var rfl) rv_I0) ?_
          show V.int _ = V.int _
          rw [Int.natCast_add]
    · obtain ⟨eH, c, y2, y3, y4, y5, y6, y7, nc, hc, rfl⟩ := hP
      rw [Int.toNat_natCast] at hc
      exact ⟨_, rfl, q c H' nc eH hc⟩
/-! ### with_rounds, with_size, together -/
def wr (n : Nat) (m : Int) : Nat := if 0 ≤ m ∧ m ≤ n then (cbr n).getD m.toNat 0 else 0
def spWR (K : PySem.W.Frag) : Sp := fun vs H Q _ => ∃ (n : Nat) (m : Int), vs = [.int n, .int m] ∧ n ≤ 40 ∧ RetV (vN (wr n m)) H Q
theorem ok_wr {f fCkN fCkW fCbR : Addr} {fd fdCkN fdCkW fdCbR : FuncData} {k : Nat} (F : Fun K "with_rounds" "with_rounds" sWR f fd) (DCkN : Df K mg "check_number" sCkN ["thing", "least", "most"] fCkN fdCkN) (DCkW : Df K mg "check_whole" sCkW ["thing"] fCkW fdCkW) (DCbR : Df K mg "counts_by_rounds" sCbR ["boxes"] fCbR fdCbR) (GCkN : FnOk P w K mg base CX0 (k + 2) fCkN fdCkN ["thing", "least", "most"] (spCkN K)) (GCkW : FnOk P w K mg base CX0 (k + 2) fCkW fdCkW ["thing"] (spCkW K)) (GCbR : FnOk P w K mg base CX0 (k + 1) fCbR fdCbR ["boxes"] (spCbR K)) {t40 : Tok} (m_MOST_COUNTED : mg "MOST_COUNTED" = some (.int 40 t40)) : FnOk P w K mg base CX0 (k + 3) f fd ["boxes", "many"] (spWR K) := by
  refine F.ok scWR (fun vs H Q E h => ?_) (fun cdv A outer s H vs Q E hr h => ?_)
  · obtain ⟨n, m, rfl, _⟩ := h
    rfl
  · obtain ⟨n, m, rfl, hn, q⟩ := h
    refine ⟨_, (pss_cons (ps_expr (pcall DCkN GCkN (hr.mono (by omega)) (pa_cons (pv 0) (pa_cons pe_int (pa_cons (pe_glob (v := .int 40) (by rfl) m_MOST_COUNTED ⟨_, rfl⟩) pa_nil)))))
      (pss_cons (ps_expr (pcall DCkW GCkW (hr.mono (by omega)) (pa_cons (pv 1) pa_nil)))
      (pss_cons (ps_if (pt_not (pt_chain op_le op_le pe_int (pv 1) (pv 0))) (pss_one (ps_ret pe_int)) pss_nil)
      (pss_one (ps_ret (pe_ix ix_list (pcall DCbR GCbR (hr.mono (by omega)) (pa_cons (pv 0) pa_nil)) (pv 1) (fun _ _ => rfl))))))), ?_⟩
    refine q_drop (ev_call (z := .non) (ea_cons (ev_var (v := .int n) rfl) (ea_cons ev_c (ea_cons ev_c ea_nil))) (SpV.of fun H1 e1 Q q E => ⟨_, _, _, rfl, by omega, by omega, q⟩)) fun H1 e1 => ?_
    refine q_drop (ev_call (z := .non) (ea_cons (ev_var (v := .int m) rfl) ea_nil) (SpV.of fun H1 e1 Q q E => ⟨_, rfl, q⟩)) fun H2 e2 => ?_
    refine q_when (et_not (et_test (ev_chain ev_c (ev_var (v := .int m) rfl) (ev_var (v := .int n) rfl) rv_le rv_le))) (fun hb H3 e3 => ?_) (fun hb H3 e3 => ?_)
    · have hw : wr n m = 0 := by
        unfold wr
        rw [if_neg]
        rintro ⟨h1, h2⟩
        rw [decide_eq_true h1, decide_eq_true h2] at hb
        cases hb
      rw [hw] at q
      exact q _ ((e1.trans e2).trans e3)
    · have hb' : 0 ≤ m ∧ m ≤ n := by
        have h1 : (decide (0 ≤ m) && decide (m ≤ n)) = true := by
          cases h : (decide (0 ≤ m) && decide (m ≤ n)) with
          | true => rfl
          | false => rw [h] at hb; cases hb
        rw [Bool.and_eq_true] at h1
        exact ⟨of_decide_eq_true h1.1, of_decide_eq_true h1.2⟩
      have hw : wr n m = (cbr n).getD m.toNat 0 := by
        unfold wr
        rw [if_pos hb']
      rw [hw] at q
      obtain ⟨j, rfl⟩ := Int.eq_ofNat_of_zero_le hb'.1
      have hj : j < (cbr n).length := by rw [cbr_len]; omega
      refine s_ret (ev_ixN (K := K) (el_call (xs := (cbr n).map vN) (ea_cons (ev_var (v := .int n) rfl) ea_nil) (SpL.of fun H1 e1 Q q E => ⟨n, rfl, hn, q⟩)) (ev_var (v := .int (j : Int)) rfl) (atI_nat (v := vN ((cbr n).getD j 0)) ?_)) fun H4 e4 => q _ (((e1.trans e2).trans e3).trans e4)
      rw [List.getElem?_map, List.getElem?_eq_getElem hj, List.getD_eq_getElem?_getD, List.getElem?_eq_getElem hj]
      rfl
def ws (n : Nat) (m : Int) : Nat := if 1 ≤ m ∧ m ≤ n then fact (n - 1) else 0
def spWS (K : PySem.W.Frag) : Sp := fun vs H Q _ => ∃ (n : Nat) (m : Int), vs = [.int n, .int m] ∧ 1 ≤ n ∧ n ≤ 40 ∧ RetV (vN (ws n m)) H Q
theorem ok_ws {f fCkN fCkW fAllL : Addr} {fd fdCkN fdCkW fdAllL : FuncData} {k : Nat} (F : Fun K "with_size" "with_size" sWS f fd) (DCkN : Df K mg "check_number" sCkN ["thing", "least", "most"] fCkN fdCkN) (DCkW : Df K mg "check_whole" sCkW ["thing"] fCkW fdCkW) (DAllL : Df K mg "all_layings" sAllL ["boxes"] fAllL fdAllL) (GCkN : FnOk P w K mg base CX0 (k + 2) fCkN fdCkN ["thing", "least", "most"] (spCkN K)) (GCkW : FnOk P w K mg base CX0 (k + 2) fCkW fdCkW ["thing"] (spCkW K)) (GAllL : FnOk P w K mg base CX0 (k + 1) fAllL fdAllL ["boxes"] (spAllL K)) {t40 : Tok} (m_MOST_COUNTED : mg "MOST_COUNTED" = some (.int 40 t40)) : FnOk P w K mg base CX0 (k + 3) f fd ["boxes", "many"] (spWS K) := by
  refine F.ok scWS (fun vs H Q E h => ?_) (fun cdv A outer s H vs Q E hr h => ?_)
  · obtain ⟨n, m, rfl, _⟩ := h
    rfl
  · obtain ⟨n, m, rfl, h1, hn, q⟩ := h
    refine ⟨_, (pss_cons (ps_expr (pcall DCkN GCkN (hr.mono (by omega)) (pa_cons (pv 0) (pa_cons pe_int (pa_cons (pe_glob (v := .int 40) (by rfl) m_MOST_COUNTED ⟨_, rfl⟩) pa_nil)))))
      (pss_cons (ps_expr (pcall DCkW GCkW (hr.mono (by omega)) (pa_cons (pv 1) pa_nil)))
      (pss_cons (ps_if (pt_not (pt_chain op_le op_le pe_int (pv 1) (pv 0))) (pss_one (ps_ret pe_int)) pss_nil)
      (pss_one (ps_ret (pcall DAllL GAllL (hr.mono (by omega)) (pa_cons (pe_op op_sub (pv 0) pe_int) pa_nil))))))), ?_⟩
    refine q_drop (ev_call (z := .non) (ea_cons (ev_var (v := .int n) rfl) (ea_cons ev_c (ea_cons ev_c ea_nil))) (SpV.of fun H1 e1 Q q E => ⟨_, _, _, rfl, by omega, by omega, q⟩)) fun H1 e1 => ?_
    refine q_drop (ev_call (z := .non) (ea_cons (ev_var (v := .int m) rfl) ea_nil) (SpV.of fun H1 e1 Q q E => ⟨_, rfl, q⟩)) fun H2 e2 => ?_
    refine q_when (et_not (et_test (ev_chain ev_c (ev_var (v := .int m) rfl) (ev_var (v := .int n) rfl) rv_le rv_le))) (fun hb H3 e3 => ?_) (fun hb H3 e3 => ?_)
    · have hw : ws n m = 0 := by
        unfold ws
        rw [if_neg]
        rintro ⟨h1, h2⟩
        rw [decide_eq_true h1, decide_eq_true h2] at hb
        cases hb
      rw [hw] at q
      exact q _ ((e1.trans e2).trans e3)
    · have hb' : 1 ≤ m ∧ m ≤ n := by
        have h1 : (decide (1 ≤ m) && decide (m ≤ n)) = true := by
          cases h : (decide (1 ≤ m) && decide (m ≤ n)) with
          | true => rfl
          | false => rw [h] at hb; cases hb
        rw [Bool.and_eq_true] at h1
        exact ⟨of_decide_eq_true h1.1, of_decide_eq_true h1.2⟩
      have hw : ws n m = fact (n - 1) := by
        unfold ws
        rw [if_pos hb']
      rw [hw] at q
      refine s_ret (ev_call (z := vN (fact (n - 1))) (ea_cons (ev_op (ev_var (v := .int n) rfl) ev_c rv_I0) ea_nil) (SpV.of fun H1 e1 Q q E => ⟨n - 1, ?_, by omega, q⟩)) fun H4 e4 => q _ (((e1.trans e2).trans e3).trans e4)
      show [V.int ((n : Int) - 1)] = _
      rw [show ((n : Int) - 1) = ((n - 1 : Nat) : Int) by omega]
def spTog (K : PySem.W.Frag) : Sp := fun vs H Q _ => ∃ (n m : Nat), vs = [.int n, .int m] ∧ 1 ≤ m ∧ m ≤ n ∧ n ≤ 40 ∧ RetV (vN (fact n / m)) H Q
theorem ok_tog {f fCkN fAllL : Addr} {fd fdCkN fdAllL : FuncData} {k : Nat} (F : Fun K "together" "together" sTog f fd) (DCkN : Df K mg "check_number" sCkN ["thing", "least", "most"] fCkN fdCkN) (DAllL : Df K mg "all_layings" sAllL ["boxes"] fAllL fdAllL) (GCkN : FnOk P w K mg base CX0 (k + 2) fCkN fdCkN ["thing", "least", "most"] (spCkN K)) (GAllL : FnOk P w K mg base CX0 (k + 1) fAllL fdAllL ["boxes"] (spAllL K)) {t40 : Tok} (m_MOST_COUNTED : mg "MOST_COUNTED" = some (.int 40 t40)) : FnOk P w K mg base CX0 (k + 3) f fd ["boxes", "many"] (spTog K) := by
  refine F.ok scTog (fun vs H Q E h => ?_) (fun cdv A outer s H vs Q E hr h => ?_)
  · obtain ⟨n, m, rfl, _⟩ := h
    rfl
  · obtain ⟨n, m, rfl, h1, h2, hn, q⟩ := h
    refine ⟨_, (pss_cons (ps_expr (pcall DCkN GCkN (hr.mono (by omega)) (pa_cons (pv 0) (pa_cons pe_int (pa_cons (pe_glob (v := .int 40) (by rfl) m_MOST_COUNTED ⟨_, rfl⟩) pa_nil)))))
      (pss_cons (ps_expr (pcall DCkN GCkN (hr.mono (by omega)) (pa_cons (pv 1) (pa_cons pe_int (pa_cons (pv 0) pa_nil)))))
      (pss_one (ps_ret (pe_op op_fdivW (pcall DAllL GAllL (hr.mono (by omega)) (pa_cons (pv 0) pa_nil)) (pv 1)))))), ?_⟩
    refine q_drop (ev_call (z := .non) (ea_cons (ev_var (v := .int n) rfl) (ea_cons ev_c (ea_cons ev_c ea_nil))) (SpV.of fun H1 e1 Q q E => ⟨_, _, _, rfl, by omega, by omega, q⟩)) fun H1 e1 => ?_
    refine q_drop (ev_call (z := .non) (ea_cons (ev_var (v := .int m) rfl) (ea_cons ev_c (ea_cons (ev_var (v := .int n) rfl) ea_nil))) (SpV.of fun H1 e1 Q q E => ⟨_, _, _, rfl, by omega, by omega, q⟩)) fun H2 e2 => ?_
    refine s_ret (ev_is (ev_op (ev_call (z := vN (fact n)) (ea_cons (ev_var (v := .int n) rfl) ea_nil) (SpV.of fun H1 e1 Q q E => ⟨n, rfl, hn, q⟩)) (ev_var (v := .int m) rfl) (rv_I (wide_div (b := 6) (by omega) (by rw [Int.natAbs_natCast]; exact Nat.lt_of_le_of_lt h2 (by omega)) (by decide) (by decide)))) ?_) fun H4 e4 => q _ ((e1.trans e2).trans e4)
    show V.int _ = V.int _
    rw [Int.natCast_ediv]
end
end Kw
set_option Elab.async false
set_option linter.all false
set_option maxRecDepth 100000
set_option maxHeartbeats 4000000
namespace Kw
open PySem PySem.Spec PyProof.Rows L2 Evl
abbrev sCell : Stmt := topS 15
theorem scCell : FnScope ["script", "k"] ["script", "k"] (defScope sCell) := ⟨rfl, rfl, rfl, by decide +kernel, rfl, by decide +kernel, by decide +kernel⟩
abbrev sDraw : Stmt := topS 16
theorem scDraw : FnScope ["cell", "many", "size", "found", "rest", "stirred", "k"] ["cell", "many", "size"] (defScope sDraw) := ⟨rfl, rfl, rfl, by decide +kernel, rfl, by decide +kernel, by decide +kernel⟩
abbrev sBag : Stmt := topS 17
theorem scBag : FnScope ["script", "k"] ["script", "k"] (defScope sBag) := ⟨rfl, rfl, rfl, by decide +kernel, rfl, by decide +kernel, by decide +kernel⟩
abbrev sBags : Stmt := topS 18
theorem scBags : FnScope ["script", "limit", "k"] ["script", "limit"] (defScope sBags) := ⟨rfl, rfl, rfl, by decide +kernel, rfl, by decide +kernel, by decide +kernel⟩
abbrev sTake : Stmt := topS 19
theorem scTake : FnScope ["bag", "many"] ["bag", "many"] (defScope sTake) := ⟨rfl, rfl, rfl, by decide +kernel, rfl, by decide +kernel, by decide +kernel⟩
abbrev BuL (mg : Str → Option Value) : Prop := Bu mg
def DrawsOk (xs : List Int) : Prop := xs.length = 400 ∧ ∀ x ∈ xs, 0 ≤ x ∧ x < 1000
def Bag (H : Hp) (a : Addr) : Prop := ∃ (d : Addr) (n : Int) (xs : List Int), H a = some (.lst [.ref d, .int n]) ∧ H d = some (.lst (xs.map V.int)) ∧ DrawsOk xs
/-- all stays but what lies at a -/
def ExB (a : Addr) (H H' : Hp) : Prop := ∀ b o, b ≠ a → H b = some o → H' b = some o
theorem ExB.refl (a : Addr) (H : Hp) : ExB a H H := fun _ _ _ h => h
theorem ExB.trans {a : Addr} {H H1 H2 : Hp} (x : ExB a H H1) (y : ExB a H1 H2) : ExB a H H2 := fun b o n h => y b o n (x b o n h)
theorem ExB.of {a : Addr} {H H' : Hp} (e : Ex H H') : ExB a H H' := fun b o _ h => e b o h
theorem Bag.ex {H H' : Hp} {a : Addr} (e : Ex H H') (h : Bag H a) : Bag H' a := by
  obtain ⟨d, n, xs, h1, h2, h3⟩ := h
  exact ⟨d, n, xs, e _ _ h1, e _ _ h2, h3⟩
theorem Bag.keepT {H H' : Hp} {a : Addr} (h : Bag H a) (e : ExB a H H') : KeepT H H' := fun b xs r => by
  obtain ⟨d, n, ys, h1, _⟩ := h
  have nb : b ≠ a := by
    rintro rfl
    rcases r with r | ⟨o, r⟩
    · rw [h1] at r; cases r
    · rw [h1] at r; cases r
  rcases r with r | ⟨o, r⟩
  · exact .inl (e _ _ nb r)
  · exact .inr ⟨o, e _ _ nb r⟩
section
variable {P : Program} {w : World} {K : PySem.W.Frag} {mg : Str → Option Value} {base : Heap}
/-! ### _law_cell_at -/
def spCell (K : PySem.W.Frag) : Sp := fun vs H Q _ => ∃ (a : Addr) (ns : List Int) (k : Nat), vs = [.ref a, vN k] ∧ SqL K H a (ns.map V.int) ∧ ∀ c H2, Ex H H2 → Q (.int c) H2
theorem ok_cell {f : Addr} {fd : FuncData} {k : Nat} (F : Fun K "_law_cell_at" "_law_cell_at" sCell f fd) (B : Bu mg) : FnOk P w K mg base CX0 (k + 1) f fd ["script", "k"] (spCell K) := by
  refine F.ok scCell (fun vs H Q E h => ?_) (fun cdv A outer s H vs Q E hr h => ?_)
  · obtain ⟨a, ns, k, rfl, _⟩ := h
    rfl
  · obtain ⟨a, ns, k, rfl, hS, q⟩ := h
    refine ⟨_, pss_cons (ps_if (pt_cmpR op_lt (pv 1) (pe_callB call_len_seq (by rfl) B.len PySem.boot_len (pa_cons (pv 0) pa_nil)) (nomark _)) (pss_one (ps_ret (pe_ix ix_list (pv 0) (pv 1) (fun _ _ => rfl)))) pss_nil) (pss_one (ps_ret pe_int)), ?_⟩
    refine q_when (b := decide ((k : Int) < ((ns.map V.int).length : Nat))) (et_test (ev_op (ev_var (v := vN k) rfl) (ev_len (K := K) (ev_var (v := .ref a) rfl) hS) rv_I0)) (fun hb H1 e1 => ?_) (fun hb H1 e1 => q 0 H1 e1)
    have hk : k < ns.length := by
      have := of_decide_eq_true hb
      rw [List.length_map] at this
      omega
    exact s_ret (ev_op (ev_var (v := .ref a) rfl) (ev_var (v := vN k) rfl) (rv_ixL (v := .int ns[k]) (ex_l e1 hS) (atI_nat (by rw [List.getElem?_map, List.getElem?_eq_getElem hk]; rfl)))) fun H2 e2 => q _ H2 (e1.trans e2)
/-! ### _law_draws -/
def DrawI (H : Hp) (p : Addr) (c : Int) (i : Nat) (σ' : L2.St) (H' : Hp) : Prop := ∃ (rest st : Int) (y : Option V) (xs : List Int), σ' = [some (.int c), some (.int 400), some (.int 1000), some (.ref p), some (.int rest), some (.int st), y] ∧ Ex H H' ∧ H' p = some (.lst (xs.map V.int)) ∧ xs.length = i - 3 ∧ (∀ x ∈ xs, 0 ≤ x ∧ x < 1000) ∧ 0 ≤ st ∧ st < 2305843009213693951
theorem DrawI.grow {H H' : Hp} {p : Addr} {c rest st v : Int} {i : Nat} {y : Option V} {xs : List Int} (np : H p = none) (e : Ex H H') (h2 : 2 < i) (hl : xs.length = i - 3) (hall : ∀ x ∈ xs, 0 ≤ x ∧ x < 1000) (v0 : 0 ≤ v) (v1 : v < 1000) (s0 : 0 ≤ st) (s1 : st < 2305843009213693951) :
    DrawI H p c (i + 1) [some (.int c), some (.int 400), some (.int 1000), some (.ref p), some (.int rest), some (.int st), y] (upd H' p (.lst (xs.map V.int ++ [.int v]))) := by
  refine ⟨rest, st, y, xs ++ [v], rfl, Ex.mut e np, ?_, by rw [List.length_append, List.length_singleton]; omega, fun x hx => ?_, s0, s1⟩
  · rw [upd_same, List.map_append]
    rfl
  · rcases List.mem_append.mp hx with h | h
    · exact hall x h
    · rw [List.mem_singleton.mp h]
      exact ⟨v0, v1⟩
def spDraw (K : PySem.W.Frag) : Sp := fun vs H Q _ => ∃ c : Int, vs = [.int c, .int 400, .int 1000] ∧ ∀ p xs H2, H p = none → Ex H H2 → H2 p = some (.lst (xs.map V.int)) → DrawsOk xs → Q (.ref p) H2
theorem ok_draw {f : Addr} {fd : FuncData} {k : Nat} (F : Fun K "_law_draws" "_law_draws" sDraw f fd) (B : Bu mg) (BL : BuL mg) : FnOk P w K mg base CX0 (k + 1) f fd ["cell", "many", "size"] (spDraw K) := by
  refine F.ok scDraw (fun vs H Q E h => ?_) (fun cdv A outer s H vs Q E hr h => ?_)
  · obtain ⟨c, rfl, _⟩ := h
    rfl
  · obtain ⟨c, rfl, q⟩ := h
    refine ⟨_, pss_cons (ps_set (i := 3) scDraw.nd rfl (.inl rfl) (pe_lst pa_nil))
      (pss_cons (ps_set (i := 4) scDraw.nd rfl (.inl rfl) (pe_op op_mul (pv 0) (pe_callTy call_int1 (by rfl) BL.int PyProof.Rows.boot_int (pa_cons (pe_cmpR op_ge (pv 0) (pe_op op_pow pe_int pe_int) (nomark _)) pa_nil))))
      (pss_cons (ps_set (i := 5) scDraw.nd rfl (.inl rfl) (pe_op op_mod (pv 0) pe_int))
      (pss_cons (ps_for PassesOwn.never rfl (pi_range1 (by rfl) B.rng (pa_cons (pe_op op_add (pv 1) pe_int) pa_nil)) (pg_name (i := 6) scDraw.nd rfl (.inl rfl))
        (pss_cons (ps_set (i := 5) scDraw.nd rfl (.inl rfl) (pe_op op_mod (pe_op op_add (pe_op op_add (pe_op op_add (pe_op op_mul (pv 5) (pv 5)) (pe_op op_mul pe_int (pv 5))) (pv 6)) pe_int) pe_int))
        (pss_one (ps_if (pw_and (pt_cmpR op_gt (pv 6) pe_int (nomark _)) (pw_and1 (pt_cmpR op_gt (pv 4) pe_int (nomark _)))).pt
          (pss_cons (ps_expr (pe_bm PySem.F.plainAttrs_list PySem.F.slot_list_append PySem.F.type_list_append mt_append (pv 3) (pa_cons (pe_op op_mod (pv 4) (pv 2)) pa_nil)))
            (pss_one (ps_set (i := 4) scDraw.nd rfl (.inl rfl) (pe_op op_fdiv (pv 4) (pv 2)))))
          (pss_one (ps_if (pt_cmpR op_gt (pv 6) pe_int (nomark _)) (pss_one (ps_expr (pe_bm PySem.F.plainAttrs_list PySem.F.slot_list_append PySem.F.type_list_append mt_append (pv 3) (pa_cons (pe_op op_mod (pe_op op_fdiv (pv 5) pe_int) (pv 2)) pa_nil)))) pss_nil))))))
      (pss_one (ps_ret (pv 3)))))), ?_⟩
    refine q_asgL (xs := []) (el_lst ea_nil (by decide)) fun p H1 np e1 hp => ?_
    have t10 : ∀ {σ : L2.St} {H : Hp}, Ev (tOp (rI CPow fun i j => .int (i ^ j.toNat)) (tC (.int 10)) (tC (.int 18))) σ H (.int ((10 : Int) ^ (18 : Int).toNat)) := fun {σ H} => ev_op ev_c ev_c (rv_I ⟨by decide, by decide, by decide⟩)
    refine q_asg (v := .int (c * (if decide ((10 : Int) ^ (18 : Int).toNat ≤ c) then 1 else 0))) (ev_op (ev_var (v := .int c) rfl) (ev_cb (ea_cons (ev_op (ev_var (v := .int c) rfl) t10 rv_I0) ea_nil) (z := .int (if decide ((10 : Int) ^ (18 : Int).toNat ≤ c) then 1 else 0)) (fun H2 _ Q q => .inr ⟨_, rfl, q H2 (Ex.refl H2)⟩)) (rv_I (.inr ?_))) fun H2 e2 => ?_
    · split <;> exact ⟨by decide, by decide⟩
    refine q_asg (v := .int (c % 2305843009213693951)) (ev_op (ev_var (v := .int c) rfl) ev_c (rv_I (by decide))) fun H3 e3 => ?_
    refine q_forR1 (n := 403) (ea_cons (ev_op (ev_var (v := .int 400) rfl) ev_c rv_I0) ea_nil) (by decide) (DrawI H p c)
      (fun H4 e4 => ⟨_, _, none, [], rfl, ((e1.trans e2).trans e3).trans e4, ((e2.trans e3).trans e4) _ _ hp, rfl, by simp, Int.emod_nonneg _ (by decide), Int.emod_lt_of_pos _ (by decide)⟩) (fun i σ' H' hi hP => ?_) (fun σ' H' hP => ?_)
    · obtain ⟨rest, st, y, xs, rfl, eH, hp', hlen, hall, s0, s1⟩ := hP
      refine q_asg (v := .int ((st * st + 48271 * st + (i : Int) + 1) % 2305843009213693951)) (ev_op (ev_op (ev_op (ev_op (ev_op (ev_var (v := .int st) rfl) (ev_var (v := .int st) rfl) (rv_I (.inl ⟨by omega, by omega⟩))) (ev_op ev_c (ev_var (v := .int st) rfl) (rv_I (.inl ⟨by decide, by decide⟩))) rv_I0) (ev_var (v := .int (i : Int)) rfl) rv_I0) ev_c rv_I0) ev_c (rv_I (by decide))) fun H5 e5 => ?_
      generalize hst : (st * st + 48271 * st + (i : Int) + 1) % 2305843009213693951 = st2
      have z0 : 0 ≤ st2 := by rw [← hst]; exact Int.emod_nonneg _ (by decide)
      have z1 : st2 < 2305843009213693951 := by rw [← hst]; exact Int.emod_lt_of_pos _ (by decide)
      have hxl : (xs.map V.int).length < 100000 := by
        rw [List.length_map]
        omega
      refine s_if (b := decide ((2 : Int) < (i : Int)) && decide (0 < rest)) (et_and (et_test (ev_op (ev_var (v := .int (i : Int)) rfl) ev_c rv_gt)) fun _ => et_test (ev_op (ev_var (v := .int rest) rfl) ev_c rv_gt)) (fun hb H6 e6 => ?_) (fun hb H6 e6 => ?_)
      · have hb' := Bool.and_eq_true_iff.mp hb
        have h2 : 2 < i := by
          have := of_decide_eq_true hb'.1
          omega
        refine q_app (K := K) (l := p) ((e5.trans e6) _ _ hp') (ev_var (v := .ref p) rfl) (v := .int (rest % 1000)) (ev_op (ev_var (v := .int rest) rfl) (ev_var (v := .int 1000) rfl) (rv_I (by decide))) hxl fun H7 e7 => ?_
        refine s_asg (v := .int (rest / 1000)) (ev_op (ev_var (v := .int rest) rfl) (ev_var (v := .int 1000) rfl) (rv_I ⟨by decide, by decide⟩)) fun H8 e8 => ?_
        have g := DrawI.grow (c := c) (rest := rest / 1000) (y := some (.int (i : Int))) np (((eH.trans e5).trans e6).trans e7) h2 hlen hall (Int.emod_nonneg rest (by decide : (1000 : Int) ≠ 0)) (Int.emod_lt_of_pos rest (by decide : (0 : Int) < 1000)) z0 z1
        obtain ⟨r', s', y', xs', g1, g2, g3, g4⟩ := g
        exact ⟨r', s', y', xs', g1, g2.trans e8, e8 _ _ g3, g4⟩
      · refine s_when (b := decide ((2 : Int) < (i : Int))) (et_test (ev_op (ev_var (v := .int (i : Int)) rfl) ev_c rv_gt)) (fun hb2 H7 e7 => ?_) (fun hb2 H7 e7 => ?_)
        · have h2 : 2 < i := by
            have := of_decide_eq_true hb2
            omega
          refine s_app (K := K) (l := p) (((e5.trans e6).trans e7) _ _ hp') (ev_var (v := .ref p) rfl) (v := .int (st2 / 4096 % 1000)) (ev_op (ev_op (ev_var (v := .int st2) rfl) ev_c (rv_I ⟨by decide, by decide⟩)) (ev_var (v := .int 1000) rfl) (rv_I (by decide))) hxl fun H8 e8 => ?_
          exact DrawI.grow np ((((eH.trans e5).trans e6).trans e7).trans e8) h2 hlen hall (Int.emod_nonneg _ (by decide : (1000 : Int) ≠ 0)) (Int.emod_lt_of_pos _ (by decide : (0 : Int) < 1000)) z0 z1
        · have h2 : ¬ 2 < i := by
            have := of_decide_eq_false hb2
            omega
          exact ⟨rest, st2, _, xs, rfl, (((eH.trans e5).trans e6).trans e7), ((e5.trans e6).trans e7) _ _ hp', by omega, hall, z0, z1⟩
    · obtain ⟨rest, st, y, xs, rfl, eH, hp', hlen, hall, s0, s1⟩ := hP
      exact ⟨.ref p, rfl, q p xs H' np eH hp' ⟨hlen, hall⟩⟩
end
end Kw
set_option Elab.async false
set_option linter.all false
set_option maxRecDepth 100000
set_option maxHeartbeats 4000000
namespace Kw
open PySem PySem.Spec PyProof.Rows L2 Evl
section
variable {P : Program} {w : World} {K : PySem.W.Frag} {mg : Str → Option Value} {base : Heap}
/-! ### _law_bag -/
def spBag (K : PySem.W.Frag) : Sp := fun vs H Q _ => ∃ (a : Addr) (ns : List Int) (k : Nat), vs = [.ref a, vN k] ∧ SqL K H a (ns.map V.int) ∧ ∀ p d xs H2, H p = none → H d = none → Ex H H2 → H2 p = some (.lst [.ref d, .int 0]) → H2 d = some (.lst (xs.map V.int)) → DrawsOk xs → Q (.ref p) H2
theorem ok_bag {f fC fD : Addr} {fd fdC fdD : FuncData} {k : Nat} (F : Fun K "_law_bag" "_law_bag" sBag f fd) (DC : Df K mg "_law_cell_at" sCell ["script", "k"] fC fdC) (DD : Df K mg "_law_draws" sDraw ["cell", "many", "size"] fD fdD)
    (GC : FnOk P w K mg base CX0 (k + 1) fC fdC ["script", "k"] (spCell K)) (GD : FnOk P w K mg base CX0 (k + 1) fD fdD ["cell", "many", "size"] (spDraw K)) : FnOk P w K mg base CX0 (k + 2) f fd ["script", "k"] (spBag K) := by
  refine F.ok scBag (fun vs H Q E h => ?_) (fun cdv A outer s H vs Q E hr h => ?_)
  · obtain ⟨a, ns, k, rfl, _⟩ := h
    rfl
  · obtain ⟨a, ns, k, rfl, hS, q⟩ := h
    refine ⟨_, pss_one (ps_ret (pe_lst (pa_cons (pcall DD GD hr (pa_cons (pcall DC GC hr (pa_cons (pv 0) (pa_cons (pv 1) pa_nil))) (pa_cons pe_int (pa_cons pe_int pa_nil)))) (pa_cons pe_int pa_nil)))), ?_⟩
    refine ⟨.ref a, rfl, vN k, rfl, a, ns, k, rfl, hS, fun c H2 e2 => ?_⟩
    refine ⟨c, rfl, fun p xs H3 np e3 h3 ho => ⟨by show 2 ≤ sizeLine; decide, fun b nb => ?_⟩⟩
    have e4 := Ex.new (o := .lst [.ref p, .int 0]) nb
    exact q b p xs _ (fresh_back (e2.trans e3) nb) (fresh_back e2 np) ((e2.trans e3).trans e4) upd_same (e4 _ _ h3) ho
/-! ### _law_bags -/
def BagsAt (H : Hp) (ys : List V) : Prop := ∀ y ∈ ys, ∃ a, y = .ref a ∧ Bag H a
theorem BagsAt.ex {H H' : Hp} {ys : List V} (e : Ex H H') (h : BagsAt H ys) : BagsAt H' ys := fun y hy => by
  obtain ⟨a, h1, h2⟩ := h y hy
  exact ⟨a, h1, h2.ex e⟩
def spBags (K : PySem.W.Frag) (lim : Nat) : Sp := fun vs H Q _ => ∃ (a : Addr) (ns : List Int), vs = [.ref a, vN lim] ∧ SqL K H a (ns.map V.int) ∧ ns.length ≤ 1000 ∧ ∀ p ys H2, H p = none → Ex H H2 → H2 p = some (.lst ys) → BagsAt H2 ys → (∀ y ∈ ys, y ≠ .ref p) → ys.length ≤ lim → Q (.ref p) H2
/-- the lists made on the way stay apart from the list that is made of them -/
theorem ok_bags {f fB : Addr} {fd fdB : FuncData} {k lim : Nat} (hlim : 1 ≤ lim ∧ lim ≤ 1000) (F : Fun K "_law_bags" "_law_bags" sBags f fd) (B : Bu mg) (BL : BuL mg) (DB : Df K mg "_law_bag" sBag ["script", "k"] fB fdB)
    (GB : FnOk P w K mg base CX0 (k + 2) fB fdB ["script", "k"] (spBag K)) : FnOk P w K mg base CX0 (k + 3) f fd ["script", "limit"] (spBags K lim) := by
  refine F.ok scBags (fun vs H Q E h => ?_) (fun cdv A outer s H vs Q E hr h => ?_)
  · obtain ⟨a, ns, rfl, _⟩ := h
    rfl
  · obtain ⟨a, ns, rfl, hS, hl, q⟩ := h
    refine ⟨_, pss_one (ps_ret (pe_lc (own := [("k", 2)]) (g := gName 2) (tt := tYes) (te := tCall (spBag K) [] E0 (tCons (tVar 0) (tCons (tVar 2) tNil))) rfl scBags.nd
        (pi_range1 (by rfl) B.rng (pa_cons (pe_callB (call_max2 rfl) (by rfl) BL.max PyProof.Rows.boot_max (pa_cons pe_int (pa_cons (pe_callB (call_min2 rfl) (by rfl) BL.min PyProof.Rows.boot_min (pa_cons (pv 1) (pa_cons (pe_callB call_len_seq (by rfl) B.len PySem.boot_len (pa_cons (pv 0) pa_nil)) pa_nil))) pa_nil))) pa_nil))
        (blkOk_by (N := ["script", "limit", "k"]) (sc := defScope sBags) (by decide +kernel)) (fun _ _ _ _ _ => pg_name (i := 2) scBags.nd rfl (.inl rfl)) (fun _ _ _ _ _ => pts_nil) (fun _ _ _ _ _ => pcall DB GB hr (pa_cons (pv 0) (pa_cons (pv 2) pa_nil))))), ?_⟩
    have hn : ∃ n : Nat, n ≤ lim ∧ (if (if ((ns.map V.int).length : Int) < (lim : Int) then ((ns.map V.int).length : Int) else (lim : Int)) > 1 then (if ((ns.map V.int).length : Int) < (lim : Int) then ((ns.map V.int).length : Int) else (lim : Int)) else 1) = (n : Int) := by
      split <;> split
      · exact ⟨(ns.map V.int).length, by omega, rfl⟩
      · exact ⟨1, by omega, rfl⟩
      · exact ⟨lim, by omega, rfl⟩
      · exact ⟨1, by omega, rfl⟩
    obtain ⟨n, hn1, hn2⟩ := hn
    refine ⟨vN lim, rfl, .ref a, rfl, a, _, rfl, .inl hS, (lim : Int), _, rfl, 1, _, rfl, _, rfl, ?_⟩
    rw [hn2]
    refine ⟨by omega, by omega, fun D hD => ?_⟩
    rw [Int.toNat_natCast]
    refine lc_it (walk_rng0 (n := n)) (Pv := fun i H' => Ex H H' ∧ ∃ ys : List V, H' D = some (.lst ys) ∧ ys.length = i ∧ ∀ y ∈ ys, ∃ a d n xs, y = .ref a ∧ a ≠ D ∧ d ≠ D ∧ H' a = some (.lst [.ref d, .int n]) ∧ H' d = some (.lst (xs.map V.int)) ∧ DrawsOk xs) ⟨Ex.new hD, [], upd_same, rfl, by simp⟩
      (fun _ _ _ _ => trivial) (fun i x H' H2 hi p y => ?_) (fun H' p => ?_)
    · obtain ⟨p1, ys, p2, p3, p4⟩ := p
      obtain ⟨rfl, rfl⟩ := y
      refine ⟨rfl, yes_do ?_⟩
      refine ⟨.ref a, rfl, vN i, rfl, a, ns, i, rfl, ex_l p1 hS, fun p d xs H3 np nd e3 h3 h3' ho => ?_⟩
      have hD3 : H3 D = some (.lst ys) := e3 _ _ p2
      have npD : p ≠ D := fun z => by
        rw [z, p2] at np
        cases np
      have ndD : d ≠ D := fun z => by
        rw [z, p2] at nd
        cases nd
      refine ⟨ys, hD3, sz_lt (by omega), Ex.mut (p1.trans e3) hD, ys ++ [.ref p], upd_same, by rw [List.length_append, List.length_singleton, p3], fun y hy => ?_⟩
      rcases List.mem_append.mp hy with h | h
      · obtain ⟨a', d', n', xs', r1, r2, r3, r4, r5, r6⟩ := p4 y h
        exact ⟨a', d', n', xs', r1, r2, r3, by rw [upd_ne r2]; exact e3 _ _ r4, by rw [upd_ne r3]; exact e3 _ _ r5, r6⟩
      · rw [List.mem_singleton.mp h]
        exact ⟨p, d, 0, xs, rfl, npD, ndD, by rw [upd_ne npD]; exact h3, by rw [upd_ne ndD]; exact h3', ho⟩
    · obtain ⟨p1, ys, p2, p3, p4⟩ := p
      refine q D ys H' hD p1 p2 (fun y hy => ?_) (fun y hy z => ?_) (by omega)
      · obtain ⟨a', d', n', xs', r1, r2, r3, r4, r5, r6⟩ := p4 y hy
        exact ⟨a', r1, d', n', xs', r4, r5, r6⟩
      · obtain ⟨a', d', n', xs', r1, r2, r3, r4, r5, r6⟩ := p4 y hy
        rw [r1] at z
        exact r2 (V.ref.inj z)
theorem ExB.back {a : Addr} {H H' : Hp} (e : ExB a H H') (h : Bag H' a) {b : Addr} (hb : H' b = none) : H b = none := by
  obtain ⟨d, n, xs, h1, _⟩ := h
  cases q : H b with
  | none => rfl
  | some o =>
    have nb : b ≠ a := fun z => by
      rw [z, h1] at hb
      cases hb
    rw [e b o nb q] at hb
    cases hb
/-! ### _law_take -/
def spTake (K : PySem.W.Frag) : Sp := fun vs H Q _ => ∃ (a : Addr) (m : Int), vs = [.ref a, .int m] ∧ Bag H a ∧ 0 < m ∧ ∀ r H', 0 ≤ r → r < m → ExB a H H' → Bag H' a → Q (.int r) H'
theorem ok_take {f : Addr} {fd : FuncData} {k : Nat} (F : Fun K "_law_take" "_law_take" sTake f fd) (B : Bu mg) : FnOk P w K mg base CX0 (k + 1) f fd ["bag", "many"] (spTake K) := by
  refine F.ok scTake (fun vs H Q E h => ?_) (fun cdv A outer s H vs Q E hr h => ?_)
  · obtain ⟨a, m, rfl, _⟩ := h
    rfl
  · obtain ⟨a, m, rfl, ⟨d, n, xs, h1, h2, h3⟩, hm, q⟩ := h
    refine ⟨_, pss_cons (ps_asg (pe_op op_add (pe_ix ix_list (pv 0) pe_int (fun _ _ => rfl)) pe_int) (pg_sub (pv 0) pe_int set_list))
      (pss_one (ps_ret (pe_op op_mod (pe_ix ix_list (pe_ix ix_list (pv 0) pe_int (fun _ _ => rfl)) (pe_op op_mod (pe_ix ix_list (pv 0) pe_int (fun _ _ => rfl)) (pe_callB call_len_seq (by rfl) B.len PySem.boot_len (pa_cons (pe_ix ix_list (pv 0) pe_int (fun _ _ => rfl)) pa_nil))) (fun _ _ => rfl)) (pv 1)))), ?_⟩
    have nad : d ≠ a := fun z => by
      rw [z, h1] at h2
      have := HO.lst.inj (Option.some.inj h2)
      have := congrArg List.length this
      rw [List.length_map, h3.1] at this
      simp at this
    refine q_setL (l := a) (xs := [.ref d, .int n]) (j := 1) (v := .int (n + 1)) h1 (ev_op (ev_op (ev_var (v := .ref a) rfl) ev_c (rv_ixL (K := K) (sq_of h1) at1)) ev_c rv_I0) (ev_var rfl) ev_c (by show 1 < 2; decide) fun H1 e1 => ?_
    have g1 : upd H1 a (.lst ([V.ref d, .int n].set 1 (.int (n + 1)))) a = some (.lst [.ref d, .int (n + 1)]) := upd_same
    have g2 : upd H1 a (.lst ([V.ref d, .int n].set 1 (.int (n + 1)))) d = some (.lst (xs.map V.int)) := by
      rw [upd_ne nad]
      exact e1 _ _ h2
    have g3 : ExB a H (upd H1 a (.lst ([V.ref d, .int n].set 1 (.int (n + 1))))) := fun b o nb hb => by
      rw [upd_ne nb]
      exact e1 _ _ hb
    generalize upd H1 a (.lst ([V.ref d, .int n].set 1 (.int (n + 1)))) = G at g1 g2 g3
    have hlen : (xs.map V.int).length = 400 := by rw [List.length_map, h3.1]
    have r0 : 0 ≤ (n + 1) % 400 := Int.emod_nonneg _ (by decide)
    have r1 : (n + 1) % 400 < 400 := Int.emod_lt_of_pos _ (by decide)
    obtain ⟨j, hj⟩ := Int.eq_ofNat_of_zero_le r0
    have hj' : j < xs.length := by
      rw [h3.1]
      omega
    have ed : Ev (tOp (rIxL K) (tVar 0) (tC (.int 0))) [some (.ref a), some (.int m)] G (.ref d) := ev_op (ev_var (v := .ref a) rfl) ev_c (rv_ixL (K := K) (sq_of g1) at0)
    refine s_ret (v := .int (xs[j] % m)) (ev_op (ev_op ed (ev_is (w := .int (j : Int)) (ev_op (ev_op (ev_var (v := .ref a) rfl) ev_c (rv_ixL (K := K) (sq_of g1) at1)) (ev_len (K := K) ed (sq_of g2)) (rv_I ?_)) ?_) (rv_ixL (K := K) (v := .int xs[j]) (sq_of g2) (atI_nat (by rw [List.getElem?_map, List.getElem?_eq_getElem hj']; rfl)))) (ev_var (v := .int m) rfl) (rv_I hm)) fun H2 e2 => ?_
    · rw [hlen]
      decide
    · rw [hlen]
      show V.int ((n + 1) % 400) = _
      rw [hj]
    · exact q _ H2 (Int.emod_nonneg _ (by omega)) (Int.emod_lt_of_pos _ hm) (g3.trans (ExB.of e2)) ⟨d, n + 1, xs, e2 _ _ g1, e2 _ _ g2, h3⟩
end
end Kw
set_option Elab.async false
set_option linter.all false
set_option maxRecDepth 100000
set_option maxHeartbeats 4000000
namespace Kw
open PySem PySem.Spec PyProof.Rows L2 Evl
/-! ### enumerate of a tuple -/
def itO (l : Addr) : Obj := { cls := .type "tuple_iterator", data := .fields #[.ref l, .int 0 0] }
def enO (i : Addr) : Obj := { cls := .type "enumerate", data := .fields #[.none, .bool false, .ref i, rawInt 0, .none, .none] }
open AutoSeq1 (wpAny_loadPart') in
theorem meets_enT (l : Addr) (xs : Array Value) (n : Nat) (dd : Option Addr) (ss : Array (Option Value)) : Meets (Builtin.«enumerate.__new__» ⟨[.type "enumerate", .ref l], []⟩)
    (fun _ R s => s.heap.get? l = some { cls := .type "tuple", dict := dd, data := .seq xs n, slots := ss } ∧ R (.ok (.ret (.ref (s.heap.push (itO l)).objs.size))) { s with heap := (s.heap.push (itO l)).push (enO s.heap.objs.size) }) := by
  refine .of_wp fun prog w A R st hyp => ?_
  obtain ⟨h0, g0, d0, t0, o0⟩ := st
  obtain ⟨ho, hR⟩ := hyp
  have sb := sub_enumerate
  have hT : Heap.IsTuple (Shared.heap ⟨h0, g0, d0, t0, o0⟩) l xs := ⟨_, ho, rfl, n, rfl⟩
  wp_walk using wpAny_loadPart' ho
  refine wpAny_stack_any fun stk => (wpAny_pure ?_)
  split
  · rename_i cc _ _ _ _ _
    cases (cc == Value.type "enumerate") <;> (wp_walk using wpAny_loadPart' ho, wpAny_pyIter_tuple hT) <;> exact ⟨_, rfl, hR⟩
  · wp_walk using wpAny_loadPart' ho, wpAny_pyIter_tuple hT
    exact (⟨_, rfl, hR⟩)
theorem call_enumT {prog : Program} {w : World} {A : Around} {E : Value → Shared → Prop} {s : Shared} {l : Addr} {xs : Array Value} {Q : Value → Shared → Prop} (hT : s.heap.IsTuple l xs)
    (h : ∀ h', IsEnum h' (s.heap.objs.size + 1) s.heap.objs.size 0 .none → h'.IsTupleIter s.heap.objs.size l 0 → (∀ b o, s.heap.get? b = some o → h'.get? b = some o) → Q (.ref (s.heap.objs.size + 1)) { s with heap := h' }) :
    wpAny (model prog w) A (call (.type "enumerate") [.ref l]) Q E s := by
  obtain ⟨⟨c, dd, dt, ss⟩, ho, hc, n, hd⟩ := hT
  cases (show c = .type "tuple" from hc)
  cases (show dt = .seq xs n from hd)
  refine callType_new F.called_enumerate (by decide) (F.typeCall_enumerate_1 _) (F.newCall_enumerate_1 _) (fun ob => F.args_object_init_2 ob _) F.entry_enumerate_new (meets_enT l xs n dd ss) ⟨ho, ?_⟩
  have z1 : (s.heap.push (itO l)).objs.size = s.heap.objs.size + 1 := Heap.size_push ..
  have he : IsEnum ((s.heap.push (itO l)).push (enO s.heap.objs.size)) (s.heap.objs.size + 1) s.heap.objs.size 0 .none := by
    have q := Heap.get?_push_size (s.heap.push (itO l)) (o := enO s.heap.objs.size) rfl
    rw [z1] at q
    exact q
  show _ ∧ _
  rw [z1]
  exact ⟨⟨_, he, rfl⟩, h _ he ⟨_, Heap.get?_push_of_some _ (Heap.get?_push_size _ rfl), rfl, rfl⟩ fun b o x => Heap.get?_push_of_some _ (Heap.get?_push_of_some _ x)⟩
/-- the tuple at a, each item in a new pair with its number -/
def IteT (K : PySem.W.Frag) (a : Addr) : It where
  go := fun i H => ∃ (xs : List V) (x : V), SqT K H a xs ∧ xs[i]? = some x
  yld := fun i H v H' => ∃ T x, v = .ref T ∧ H T = none ∧ H' = upd H T (.tup [.int (i : Nat), x]) ∧ ∀ xs, SqT K H a xs → xs[i]? = some x
  stop := fun i H => ∃ xs : List V, SqT K H a xs ∧ xs.length = i
theorem turn_enT {P : Program} {w : World} {K : PySem.W.Frag} {es : List Expr} {kk : Nat} {tp : Pos} {a e it : Addr} (n1 : e ≠ it) (n2 : a ≠ it) (n3 : e ≠ a) :
    Turn P w K (.Tuple es kk tp) (IteT K a) [e, it] e (fun i h => (∃ old, IsEnum h e it ((i : Nat) : Int) old) ∧ h.IsTupleIter it a i) where
  mem := List.mem_cons_self ..
  obj := fun i h st b hb => by
    obtain ⟨⟨old, he⟩, ⟨o, ho, _, hd⟩⟩ := st
    rcases List.mem_cons.mp hb with rfl | hb
    · exact ⟨_, he, fun v q => nomatch q⟩
    · rw [List.mem_singleton.mp hb]
      exact ⟨o, ho, fun v q => by rw [hd] at q; cases q⟩
  keep := fun i h h' st k => by
    obtain ⟨⟨old, he⟩, hi⟩ := st
    exact ⟨⟨old, k e (by simp) _ he⟩, hi.at fun o q => k it (by simp) o q⟩
  item := by
    intro X hP hw hK hc i pins s σ H E I hf st hg
    cases hP
    cases hw
    cases hK
    obtain ⟨⟨old, he⟩, hit⟩ := st
    obtain ⟨xs, x, hq, hx⟩ := hg
    obtain ⟨us, rv, p, _⟩ := I.tuple hq
    obtain ⟨u, hu, ru⟩ := rv.get hx
    have le1 : e < s.heap.objs.size := Heap.lt_size he
    have le2 : it < s.heap.objs.size := by
      obtain ⟨_, z, _⟩ := hit
      exact Heap.lt_size z
    have hlt : i < us.toArray.size := by
      have := (List.getElem?_eq_some_iff.mp hu).1
      simpa using this
    refine wpAny_pyNext_enum_itemD (Draws.tuple (A := X.A.in1) (I.ok.hd hc) it a n2 us.toArray) he ⟨hit, p⟩ hlt n1 (by simp [n1, n3]) fun y h1 tk hy ho hs hT hz hk => ?_
    have ey : y = u := by
      have : us[i]? = some y := by simpa using hy
      rw [hu] at this
      exact (Option.some.inj this).symm
    subst ey
    refine ⟨_, rfl, wpAny_letOwnedTupleGo_enum (s := { s with heap := h1, toks := tk + 1 }) ho fun h2 he2 sb => ?_⟩
    have hT2 : h2.get? s.heap.objs.size = some { cls := .type "tuple", data := .seq #[.int i tk, y] } := (sb.2 _ (Nat.ne_of_gt le1)).trans hT
    have nw : ObjOk X.prog X.w (upd H s.heap.objs.size (.tup [.int (i : Nat), x])) h2 s.heap.objs.size (.tup [.int (i : Nat), x]) := ⟨by show 2 ≤ sizeLine; decide, [.int i tk, y], .cons ⟨_, rfl⟩ (.cons ru .nil), ⟨_, hT2, rfl, _, rfl⟩⟩
    have I1 : Inv X pins σ (upd H s.heap.objs.size (.tup [.int (i : Nat), x])) { s with heap := h2, toks := tk + 1 } :=
      I.turnedNew (ch := [e, it]) (fun b ob hb q => (sb.2 b (fun z => hb (by rw [z]; simp))).trans (hk b ob (fun z => hb (by rw [z]; simp)) (fun z => hb (by rw [z]; simp)) q)) hf (Nat.le_refl _) nw
    refine ⟨.ref s.heap.objs.size, _, I1, rfl, ⟨_, x, rfl, I.hok.fresh (Nat.le_refl _), rfl, fun zs hz => by rw [I.tuple_inj hz hq]; exact hx⟩, ⟨⟨y, ?_⟩, hs.1.at fun o q => (sb.2 it (Ne.symm n1)).trans q⟩, fun b hb => ?_⟩
    · rw [show ((i + 1 : Nat) : Int) = (i : Int) + 1 by omega]
      exact he2
    · have hb' : b < s.heap.objs.size := by
        rcases List.mem_cons.mp hb with rfl | hb
        · exact le1
        · rw [List.mem_singleton.mp hb]
          exact le2
      rw [upd_ne (Nat.ne_of_lt hb')]
      exact (hf b hb).1
  done := by
    intro X hP hw hK hc i pins s σ H E I hf st hg
    cases hP
    cases hw
    cases hK
    obtain ⟨⟨old, he⟩, hit⟩ := st
    obtain ⟨xs, hq, hx⟩ := hg
    obtain ⟨us, rv, p, _⟩ := I.tuple hq
    have hz : us.toArray.size = i := by
      rw [← hx, rv.length]
      simp
    obtain ⟨f0, f1, f2, f3, f4, f5⟩ := hf it (by simp)
    exact wpAny_pyNext_enum_endD (Draws.tuple (A := X.A.in1) (I.ok.hd hc) it a n2 us.toArray) he ⟨by rw [hz]; exact hit, p⟩ fun h1 eb => ⟨rfl, I.turned (t' := s.toks) (fun b o hb q => eb b o hb q) f0 f1 f3 f4 f5⟩
  self := fun A i s Q E st h => by
    obtain ⟨⟨_, he⟩, _⟩ := st
    exact wpAny_pyIter_enum he h
def iEnT (K : PySem.W.Frag) (ta : TA) : TI := fun σ H R => ta σ H fun vs H1 => ∃ a xs, vs = [.ref a] ∧ SqT K H1 a xs ∧ R (IteT K a) H1
theorem pi_enT {X : Cx} {e : Expr} {ta : TA} {p pos tp : Pos} {es : List Expr} {kk : Nat} (hg : Gl X "enumerate") (hm : X.mg "enumerate" = none) (ha : PA X [e] ta) (hs : starEach [e] X.env = [(false, eval e X.env)] := by rfl) :
    PI X (.Tuple es kk tp) (.Call (.Name "enumerate" p) [e] [] pos) (iEnT X.K ta) := by
  refine ⟨fun pins s σ H R I h => Call_ (ld_blt I hg hm PyProof.Rows.boot_enumerate (PyProof.Rows.callWith_type1 (thn (ha.run pos pins s σ H _ I h) fun us s1 ⟨vs, H1, I1, r1, q1⟩ => ?_) hs rfl))⟩
  obtain ⟨a, xs, rfl, hq, q⟩ := q1
  cases r1 with
  | cons r rr =>
    cases rr
    cases r
    obtain ⟨us, rv, pt, _⟩ := I1.tuple hq
    obtain ⟨oa, hoa, _⟩ := id pt
    have la : a < s1.heap.objs.size := Heap.lt_size hoa
    refine call_enumT pt fun h' he hit hk => wpAny_pyIter_enum he ⟨s1.heap.objs.size + 1, [s1.heap.objs.size + 1, s1.heap.objs.size], _, _, H1, rfl, I1.kept (t' := s1.toks) hk, turn_enT (Nat.succ_ne_self _) (Nat.ne_of_lt la) (Nat.ne_of_gt (Nat.lt_succ_of_lt la)), ⟨⟨.none, he⟩, hit⟩, fun b hb => ?_, q⟩
    have hle : s1.heap.objs.size ≤ b := by
      rcases List.mem_cons.mp hb with rfl | hb
      · exact Nat.le_succ _
      · rw [List.mem_singleton.mp hb]
        exact Nat.le_refl _
    exact I1.fpOk hle (I1.hok.fresh hle)
theorem walk_enT {K : PySem.W.Frag} {a : Addr} {xs : List V} : Walk (IteT K a) xs.length (fun H => SqT K H a xs) (YPair (fun i => some (.int (i : Nat))) (fun i => xs[i]?)) where
  goes := fun i _ hi q => ⟨xs, xs[i], q, List.getElem?_eq_getElem hi⟩
  stops := fun _ q => ⟨xs, q, rfl⟩
  yields := fun i H v H' _ q y => by
    obtain ⟨T, x, h1, h2, h3, h4⟩ := y
    exact ⟨T, _, x, h1, h2, h3, rfl, h4 xs q⟩
end Kw
set_option Elab.async false
set_option linter.all false
set_option maxRecDepth 100000
set_option maxHeartbeats 4000000
namespace Kw
open PySem PySem.Spec PyProof.Rows L2 Evl
/-! ### data compared -/
def dN (ns : List Nat) : List PyData := ns.map fun (i : Nat) => PyData.int (i : Int)
def dR (rs : List (List Nat)) : List PyData := rs.map fun r => PyData.tuple (dN r)
theorem lay_dN : ∀ ns : List Nat, PyData.canLayAll0 (dN ns) = true
  | [] => by simp [dN, PyData.canLayAll0]
  | a :: r => by
    have := lay_dN r
    simp only [dN, List.map_cons, PyData.canLayAll0, PyData.canLay0, Bool.true_and] at this ⊢
    exact this
theorem depth_dN : ∀ ns : List Nat, PyData.depthAll (dN ns) ≤ 1
  | [] => by simp [dN, PyData.depthAll]
  | a :: r => by
    have := depth_dN r
    simp only [dN, List.map_cons, PyData.depthAll, PyData.depth] at this ⊢
    omega
theorem lay_dR : ∀ rs : List (List Nat), PyData.canLayAll0 (dR rs) = true
  | [] => by simp [dR, PyData.canLayAll0]
  | a :: r => by
    have := lay_dR r
    have h2 := lay_dN a
    simp only [dR, List.map_cons, PyData.canLayAll0, PyData.canLay0, Bool.and_eq_true] at this ⊢
    exact ⟨h2, this⟩
theorem depth_dR : ∀ rs : List (List Nat), PyData.depthAll (dR rs) ≤ 2
  | [] => by simp [dR, PyData.depthAll]
  | a :: r => by
    have := depth_dR r
    have h2 := depth_dN a
    simp only [dR, List.map_cons, PyData.depthAll, PyData.depth] at this ⊢
    omega
theorem shaped_lN (ns : List Nat) : SeqAt.shaped (.list (dN ns)) = true := by
  have h1 := depth_dN ns
  refine Bool.and_eq_true_iff.mpr ⟨?_, decide_eq_true ?_⟩
  · rw [PyData.canLay0]
    exact lay_dN ns
  · rw [PyData.depth]
    omega
theorem shaped_tN (ns : List Nat) : SeqAt.shaped (.tuple (dN ns)) = true := by
  have h1 := depth_dN ns
  refine Bool.and_eq_true_iff.mpr ⟨?_, decide_eq_true ?_⟩
  · rw [PyData.canLay0]
    exact lay_dN ns
  · rw [PyData.depth]
    omega
theorem shaped_lR (rs : List (List Nat)) : SeqAt.shaped (.list (dR rs)) = true := by
  have h1 := depth_dR rs
  refine Bool.and_eq_true_iff.mpr ⟨?_, decide_eq_true ?_⟩
  · rw [PyData.canLay0]
    exact lay_dR rs
  · rw [PyData.depth]
    omega
theorem eqv_dN : ∀ a b : List Nat, PyData.eqvAll (dN a) (dN b) = decide (a = b)
  | [], [] => by simp [dN, PyData.eqvAll]
  | [], _ :: _ => by simp [dN, PyData.eqvAll]
  | _ :: _, [] => by simp [dN, PyData.eqvAll]
  | x :: r, y :: t => by
    have ih := eqv_dN r t
    simp only [dN, List.map_cons, PyData.eqvAll, PyData.eqv] at ih ⊢
    rw [ih]
    by_cases h1 : x = y
    · subst h1
      by_cases h2 : r = t
      · subst h2
        simp
      · simp [h2]
    · have : ((x : Int) == (y : Int)) = false := by
        apply beq_eq_false_iff_ne.mpr
        omega
      rw [this]
      simp [h1]
theorem eqv_dR : ∀ a b : List (List Nat), PyData.eqvAll (dR a) (dR b) = decide (a = b)
  | [], [] => by simp [dR, PyData.eqvAll]
  | [], _ :: _ => by simp [dR, PyData.eqvAll]
  | _ :: _, [] => by simp [dR, PyData.eqvAll]
  | x :: r, y :: t => by
    have ih := eqv_dR r t
    have e := eqv_dN x y
    simp only [dR, List.map_cons, PyData.eqvAll, PyData.eqv] at ih ⊢
    rw [ih, e]
    by_cases h1 : x = y
    · subst h1
      by_cases h2 : r = t
      · subst h2
        simp
      · simp [h2]
    · simp [h1]
section
variable {K : PySem.W.Frag} {H H' : Hp} {σ : L2.St} {ta tb : TE}
theorem dp_nats : ∀ ns : List Nat, DpAll K H (ns.map vN) (dN ns)
  | [] => .nil
  | a :: r => .cons (.int _) (dp_nats r)
theorem dp_tups : ∀ {ys : List V} {rs : List (List Nat)}, TupsAt K H ys rs → DpAll K H ys (dR rs)
  | _, _, .nil => .nil
  | _, _, .cons h t => by
    obtain ⟨a, rfl, ha⟩ := h
    exact .cons (.tup ha (dp_nats _)) (dp_tups t)
theorem rv_eqLN {p q : Addr} {a b : List Nat} (h1 : SqL K H p (a.map vN)) (h2 : SqL K H q (b.map vN)) : RV (rEqD K) (.ref p) (.ref q) H (.bl (decide (a = b))) := fun H1 e Q k =>
  ⟨_, _, .lst (ex_l e h1) (dp_nats a), .lst (ex_l e h2) (dp_nats b), shaped_lN a, shaped_lN b, by
    rw [show PyData.eqv (.list (dN a)) (.list (dN b)) = decide (a = b) by rw [PyData.eqv, eqv_dN]]
    exact k H1 (Ex.refl H1)⟩
theorem rv_neLN {p q : Addr} {a b : List Nat} (h1 : SqL K H p (a.map vN)) (h2 : SqL K H q (b.map vN)) : RV (rNeD K) (.ref p) (.ref q) H (.bl (!decide (a = b))) := fun H1 e Q k =>
  ⟨_, _, .lst (ex_l e h1) (dp_nats a), .lst (ex_l e h2) (dp_nats b), shaped_lN a, shaped_lN b, by
    rw [show PyData.eqv (.list (dN a)) (.list (dN b)) = decide (a = b) by rw [PyData.eqv, eqv_dN]]
    exact k H1 (Ex.refl H1)⟩
theorem rv_neTN {p q : Addr} {a b : List Nat} (h1 : SqT K H p (a.map vN)) (h2 : SqT K H q (b.map vN)) : RV (rNeD K) (.ref p) (.ref q) H (.bl (!decide (a = b))) := fun H1 e Q k =>
  ⟨_, _, .tup (ex_t e h1) (dp_nats a), .tup (ex_t e h2) (dp_nats b), shaped_tN a, shaped_tN b, by
    rw [show PyData.eqv (.tuple (dN a)) (.tuple (dN b)) = decide (a = b) by rw [PyData.eqv, eqv_dN]]
    exact k H1 (Ex.refl H1)⟩
theorem rv_eqTN {p q : Addr} {a b : List Nat} (h1 : SqT K H p (a.map vN)) (h2 : SqT K H q (b.map vN)) : RV (rEqD K) (.ref p) (.ref q) H (.bl (decide (a = b))) := fun H1 e Q k =>
  ⟨_, _, .tup (ex_t e h1) (dp_nats a), .tup (ex_t e h2) (dp_nats b), shaped_tN a, shaped_tN b, by
    rw [show PyData.eqv (.tuple (dN a)) (.tuple (dN b)) = decide (a = b) by rw [PyData.eqv, eqv_dN]]
    exact k H1 (Ex.refl H1)⟩
theorem rv_neLR {p q : Addr} {ys zs : List V} {a b : List (List Nat)} (h1 : SqL K H p ys) (t1 : TupsAt K H ys a) (h2 : SqL K H q zs) (t2 : TupsAt K H zs b) : RV (rNeD K) (.ref p) (.ref q) H (.bl (!decide (a = b))) := fun H1 e Q k =>
  ⟨_, _, .lst (ex_l e h1) (dp_tups (t1.keep (KeepT.ex e))), .lst (ex_l e h2) (dp_tups (t2.keep (KeepT.ex e))), shaped_lR a, shaped_lR b, by
    rw [show PyData.eqv (.list (dR a)) (.list (dR b)) = decide (a = b) by rw [PyData.eqv, eqv_dR]]
    exact k H1 (Ex.refl H1)⟩
end
end Kw
set_option Elab.async false
set_option linter.all false
set_option maxRecDepth 100000
set_option maxHeartbeats 4000000
namespace Kw
open PySem PySem.Spec PyProof.Rows L2 Evl
theorem Bag.other {H H' : Hp} {a b : Addr} (hb : Bag H b) (ha : Bag H a) (e : ExB a H H') (ha' : Bag H' a) : Bag H' b := by
  by_cases hab : b = a
  · rw [hab]
    exact ha'
  · obtain ⟨d, n, xs, g1, g2, g3⟩ := hb
    obtain ⟨d', n', xs', f1, _⟩ := ha
    have hd : d ≠ a := fun z => by
      rw [z, f1] at g2
      have e := congrArg List.length (HO.lst.inj (Option.some.inj g2))
      rw [List.length_map, g3.1] at e
      cases e
    exact ⟨d, n, xs, e _ _ hab g1, e _ _ hd g2, g3⟩
/-- the loop over the bags of a script -/
theorem bags_for {K : PySem.W.Frag} {lim : Nat} {D : Ends} {body : TS} {σ : L2.St} {H : Hp} {a : Addr} {ns : List Int} (S : L2.St → Prop) (h0 : σ[0]? = some (some (.ref a))) (hS : SqL K H a (ns.map V.int)) (hl : ns.length ≤ 63) (hs : S σ)
    (turn : ∀ b H1 σ' (N : L2.St → Hp → Prop), S σ' → Bag H1 b → (∀ σ'' H'', S σ'' → ExB b H1 H'' → Bag H'' b → N σ'' H'') → body { D with nx := N, ct := N, bk := D.nx } (σ'.set 1 (some (.ref b))) H1)
    (done : ∀ σ' H', S σ' → D.nx σ' H') : tFor (iList K (tCall (spBags K lim) [] E0 (tCons (tVar 0) (tCons (tC (.int lim)) tNil)))) (gName 1) body D σ H := by
  refine ⟨.ref a, h0, a, ns, rfl, hS, by omega, fun p ys H1 np e1 hp hB hne hln => ⟨p, rfl, ⟨ys, sq_of hp⟩, ?_⟩⟩
  refine for_it (walk_list (K := K) (a := p) (xs := ys)) (fun _ σ' H' => S σ' ∧ H' p = some (.lst ys) ∧ BagsAt H' ys) ⟨hs, hp, hB⟩ (fun i σ' H' _ hP => sq_of hP.2.1) (fun i x σ' H2 H3 hi hP hy => ?_) (fun σ' H2 hP => done σ' H2 hP.1)
  obtain ⟨s2, hp2, hB2⟩ := hP
  obtain ⟨rfl, hx⟩ := hy
  have hm := List.mem_of_getElem? hx
  obtain ⟨b, rfl, hb⟩ := hB2 x hm
  have hpb : p ≠ b := fun z => hne _ hm (by rw [z])
  exact turn b _ σ' _ s2 hb fun σ'' H'' hs x2 b2 => ⟨hs, x2 _ _ hpb hp2, (fun y hy => by
    obtain ⟨b', rfl, hb'⟩ := hB2 y hy
    exact ⟨b', rfl, hb'.other hb x2 b2⟩)⟩
def spLaw (K : PySem.W.Frag) : Sp := fun vs H Q _ => ∃ (a : Addr) (ns : List Int), vs = [.ref a] ∧ SqL K H a (ns.map V.int) ∧ ns.length ≤ 63 ∧ ∀ H', Q (.bl true) H'
/-- the slots of a law: the script's, then n others -/
def SlotsN (a : Addr) (n : Nat) (σ : L2.St) : Prop := ∃ ys : List (Option V), ys.length = n ∧ σ = some (.ref a) :: ys
end Kw
set_option Elab.async false
set_option linter.all false
set_option maxRecDepth 100000
set_option maxHeartbeats 4000000
namespace Kw
open PySem PySem.Spec PyProof.Rows L2 Evl
abbrev sLaw : Stmt := topS 20
theorem scLaw : FnScope ["script", "bag", "boxes", "every", "one", "rows", "many", "due", "sizes", "ways", "size"] ["script"] (defScope sLaw) := ⟨rfl, rfl, rfl, by decide +kernel, rfl, by decide +kernel, by decide +kernel⟩
/-! ### numbers -/
theorem f1 : ∀ n ≤ 40, (cbr n).sum = fact n ∧ wr n n = 1 ∧ wr n (-1) = 0 := by decide +kernel
theorem f2 : ∀ n ≤ 40, ((List.range (n + 1)).map fun m => m * (cbr n).getD m 0).sum = ((List.range n).map fun i => fact n / (1 + i)).sum := by decide +kernel
theorem f3 : ∀ n ≤ 39, ∀ m : Nat, m ≤ 42 → wr (n + 1) m = wr n ((m : Int) - 1) + n * wr n m := by decide +kernel
theorem f4 : ∀ n ≤ 39, (List.range (n + 3)).map (fun s : Nat => ws (n + 1) s) = 0 :: (List.replicate (n + 1) (fact (n + 1) / (n + 1)) ++ [0]) := by decide +kernel
theorem f5 : ∀ n ≤ 40, ∀ m ≤ 40, 1 ≤ m → m ≤ n → fact n / m * m = fact n := by decide +kernel
theorem f6 : ∀ n ≤ 39, fact (n + 1) / (n + 1) = wr (n + 1) 1 ∧ ((List.range (n + 3)).map (fun s : Nat => ws (n + 1) s)).sum = fact (n + 1) := by decide +kernel
theorem wr_small : ∀ n ≤ 40, ∀ m : Int, wr n m < 2 ^ 200 := fun n hn m => by
  unfold wr
  split
  · rw [List.getD_eq_getElem?_getD]
    cases e : (cbr n)[m.toNat]? with
    | none => exact Nat.pow_pos (by decide)
    | some x => exact cbr_small n hn x (List.mem_of_getElem? e)
  · exact Nat.pow_pos (by decide)
theorem rows_eq (n : Nat) : (List.range (n + 1)).map (fun m : Nat => vN (wr n m)) = (cbr n).map vN := by
  rw [← range_map_get (cbr n) 0 vN, cbr_len]
  apply List.map_congr_left
  intro m hm
  have := List.mem_range.mp hm
  unfold wr
  rw [if_pos ⟨by omega, by omega⟩, Int.toNat_natCast]
section
variable {K : PySem.W.Frag} {σ : L2.St} {H H' : Hp} {ta tb tc te tl : TE} {t u : TT} {x y z v : V} {r r' : R2}
theorem rv_neI {i j : Nat} (h : i = j) : RV rNe (vN i) (vN j) H (.bl false) := by
  have e := rv_ne (H := H) (x := vN i) (y := vN j) rfl
  rw [h, decide_eq_true rfl] at e
  rw [h]
  exact e
theorem rv_eqI {i j : Nat} (h : i = j) : RV rEq (vN i) (vN j) H (.bl true) := by
  have e := rv_eq (H := H) (x := vN i) (y := vN j) rfl
  rw [h, decide_eq_true rfl] at e
  rw [h]
  exact e
theorem rep_flat {α : Type} (x : α) : ∀ k : Nat, (List.replicate k [x]).flatten = List.replicate k x
  | 0 => rfl
  | k + 1 => by
    rw [List.replicate_succ, List.flatten_cons, List.replicate_succ, rep_flat x k]
    rfl
theorem el_rep1 {k : Nat} (ha : EvL ta σ H [x]) (hb : Ev tb σ H (.int k)) (hk : k ≤ 10000) : EvL (tOp rRep ta tb) σ H (List.replicate k x) := fun H1 e Q q =>
  ha H1 e _ fun p H2 _ e2 hp => hb H2 (e.trans e2) _ fun H3 e3 => ⟨p, k, [x], rfl, rfl, e3 _ _ hp, by omega, by omega, sz_of (by show 1 * _ ≤ _; rw [Int.toNat_natCast]; omega), fun l hl => q l _ (fresh_back (e2.trans e3) hl) ((e2.trans e3).trans (Ex.new hl)) (by
    rw [upd_same, Int.toNat_natCast, rep_flat])⟩
end
section
variable {P : Program} {w : World} {K : PySem.W.Frag} {mg : Str → Option Value} {base : Heap}
theorem ev_wr {σ : L2.St} {H : Hp} {ta tb : TE} {n : Nat} {m : Int} (ha : Ev ta σ H (vN n)) (hb : Ev tb σ H (.int m)) (hn : n ≤ 40) : Ev (tCall (spWR K) [] E0 (tCons ta (tCons tb tNil))) σ H (vN (wr n m)) :=
  ev_call (ea_cons ha (ea_cons hb ea_nil)) (SpV.of fun H1 e1 Q q E => ⟨n, m, rfl, hn, q⟩)
theorem ev_ws {σ : L2.St} {H : Hp} {ta tb : TE} {n : Nat} {m : Int} (ha : Ev ta σ H (vN n)) (hb : Ev tb σ H (.int m)) (h1 : 1 ≤ n) (hn : n ≤ 40) : Ev (tCall (spWS K) [] E0 (tCons ta (tCons tb tNil))) σ H (vN (ws n m)) :=
  ev_call (ea_cons ha (ea_cons hb ea_nil)) (SpV.of fun H1 e1 Q q E => ⟨n, m, rfl, h1, hn, q⟩)
theorem ev_tog {σ : L2.St} {H : Hp} {ta tb : TE} {n m : Nat} (ha : Ev ta σ H (vN n)) (hb : Ev tb σ H (vN m)) (h1 : 1 ≤ m) (h2 : m ≤ n) (hn : n ≤ 40) : Ev (tCall (spTog K) [] E0 (tCons ta (tCons tb tNil))) σ H (vN (fact n / m)) :=
  ev_call (ea_cons ha (ea_cons hb ea_nil)) (SpV.of fun H1 e1 Q q E => ⟨n, m, rfl, h1, h2, hn, q⟩)
theorem ok_law {f fBags fTake fWR fWS fTog : Addr} {fd fdBags fdTake fdWR fdWS fdTog : FuncData} {k : Nat} (F : Fun K "law" "law" sLaw f fd) (DBags : Df K mg "_law_bags" sBags ["script", "limit"] fBags fdBags) (DTake : Df K mg "_law_take" sTake ["bag", "many"] fTake fdTake) (DWR : Df K mg "with_rounds" sWR ["boxes", "many"] fWR fdWR) (DWS : Df K mg "with_size" sWS ["boxes", "many"] fWS fdWS) (DTog : Df K mg "together" sTog ["boxes", "many"] fTog fdTog) (GBags : FnOk P w K mg base CX0 (k + 3) fBags fdBags ["script", "limit"] (spBags K 8)) (GTake : FnOk P w K mg base CX0 (k + 1) fTake fdTake ["bag", "many"] (spTake K)) (GWR : FnOk P w K mg base CX0 (k + 3) fWR fdWR ["boxes", "many"] (spWR K)) (GWS : FnOk P w K mg base CX0 (k + 3) fWS fdWS ["boxes", "many"] (spWS K)) (GTog : FnOk P w K mg base CX0 (k + 3) fTog fdTog ["boxes", "many"] (spTog K)) (B : Bu mg) : FnOk P w K mg base CX0 (k + 9) f fd ["script"] (spLaw K) := by
  refine F.ok scLaw (fun vs H Q E h => ?_) (fun cdv A outer s H vs Q E hr h => ?_)
  · obtain ⟨a, ns, rfl, _⟩ := h
    rfl
  · obtain ⟨a, ns, rfl, hS, hl, q⟩ := h
    have hu64 := hr.units
    refine ⟨_, (pss_cons (ps_for PassesOwn.never rfl (pi_list (pcall DBags GBags (hr.mono (by omega)) (pa_cons (pv 0) (pa_cons pe_int pa_nil)))) (pg_name (i := 1) scLaw.nd rfl (.inl rfl))
      (pss_cons (ps_set (i := 2) scLaw.nd rfl (.inr rfl) (pcall DTake GTake (hr.mono (by omega)) (pa_cons (pv 1) (pa_cons pe_int pa_nil))))
      (pss_cons (ps_set (i := 3) scLaw.nd rfl (.inr rfl) pe_int)
      (pss_cons (ps_for PassesOwn.never rfl (pi_range2 (by rfl) B.rng (pa_cons pe_int (pa_cons (pe_op op_add (pv 2) pe_int) pa_nil))) (pg_name (i := 4) scLaw.nd rfl (.inl rfl))
      (pss_one (ps_set (i := 3) scLaw.nd rfl (.inr rfl) (pe_op op_mulW (pv 3) (pv 4)))))
      (pss_cons (ps_setLc (i := 5) (own := [("many", 6)]) (g := (gName 6)) (tt := tYes) (te := (tCall (spWR K) [] E0 (tCons (tVar 2) (tCons (tVar 6) tNil)))) rfl scLaw.nd rfl rfl (sw_true rfl rfl rfl (by decide +kernel)) (pi_range1 (by rfl) B.rng (pa_cons (pe_op op_add (pv 2) pe_int) pa_nil)) (blkOk_by (N := ["script", "bag", "boxes", "every", "one", "rows", "many", "due", "sizes", "ways", "size"]) (sc := defScope sLaw) (by decide +kernel)) (fun _ _ _ _ _ => (pg_name (i := 6) scLaw.nd rfl (.inl rfl))) (fun _ _ _ _ _ => pts_nil) (fun _ _ _ _ _ => (pcall DWR GWR (hr.mono (by omega)) (pa_cons (pv 2) (pa_cons (pv 6) pa_nil)))))
      (pss_cons (ps_if (PW.pt (pw_or (pt_cmpR op_ne (pe_callB (cr_sum rfl) (by rfl) B.sum (by decide +kernel) (pa_cons (pv 5) pa_nil)) (pv 3) (nomark _)) (pw_or (pt_cmpR op_ne (pcall DWR GWR (hr.mono (by omega)) (pa_cons (pv 2) (pa_cons (pv 2) pa_nil))) pe_int (nomark _)) (pw_or1 (pt_cmpR op_ne (pcall DWR GWR (hr.mono (by omega)) (pa_cons (pv 2) (pa_cons (pe_un un_neg pe_int) pa_nil))) pe_int (nomark _)))))) (pss_one (ps_ret pe_bl)) pss_nil)
      (pss_cons (ps_if (pt_cmpR op_ne (pe_callB (cr_sum rfl) (by rfl) B.sum (by decide +kernel) (pa_cons (pe_lc (own := [("many", 6), ("ways", 9)]) (g := (gTup K 2 (gCons (gName 6) (gCons (gName 9) gNil)))) (tt := tYes) (te := (tOp (rI CMulW fun i j => .int (i * j)) (tVar 6) (tVar 9))) rfl scLaw.nd (pi_enum (by rfl) B.enu (pa_cons (pv 5) pa_nil)) (blkOk_by (N := ["script", "bag", "boxes", "every", "one", "rows", "many", "due", "sizes", "ways", "size"]) (sc := defScope sLaw) (by decide +kernel)) (fun _ _ _ _ _ => (pg_tup rfl (pgs_cons (pg_name (i := 6) scLaw.nd rfl (.inl rfl)) (pgs_cons (pg_name (i := 9) scLaw.nd rfl (.inl rfl)) pgs_nil)))) (fun _ _ _ _ _ => pts_nil) (fun _ _ _ _ _ => (pe_op op_mulW (pv 6) (pv 9)))) pa_nil)) (pe_callB (cr_sum rfl) (by rfl) B.sum (by decide +kernel) (pa_cons (pe_lc (own := [("size", 10)]) (g := (gName 10)) (tt := tYes) (te := (tOp (rI CDivW fun i j => .int (i / j)) (tVar 3) (tVar 10))) rfl scLaw.nd (pi_range2 (by rfl) B.rng (pa_cons pe_int (pa_cons (pe_op op_add (pv 2) pe_int) pa_nil))) (blkOk_by (N := ["script", "bag", "boxes", "every", "one", "rows", "many", "due", "sizes", "ways", "size"]) (sc := defScope sLaw) (by decide +kernel)) (fun _ _ _ _ _ => (pg_name (i := 10) scLaw.nd rfl (.inl rfl))) (fun _ _ _ _ _ => pts_nil) (fun _ _ _ _ _ => (pe_op op_fdivW (pv 3) (pv 10)))) pa_nil)) (nomark _)) (pss_one (ps_ret pe_bl)) pss_nil)
      (pss_one (ps_if (pt_cmpR op_gt (pv 2) pe_int (nomark _)) (pss_cons (ps_set (i := 6) scLaw.nd rfl (.inl rfl) (pcall DTake GTake (hr.mono (by omega)) (pa_cons (pv 1) (pa_cons (pe_op op_add (pv 2) pe_int) pa_nil))))
      (pss_cons (ps_set (i := 7) scLaw.nd rfl (.inl rfl) (pe_op op_add (pcall DWR GWR (hr.mono (by omega)) (pa_cons (pe_op op_sub (pv 2) pe_int) (pa_cons (pe_op op_sub (pv 6) pe_int) pa_nil))) (pe_op op_mulW (pe_op op_sub (pv 2) pe_int) (pcall DWR GWR (hr.mono (by omega)) (pa_cons (pe_op op_sub (pv 2) pe_int) (pa_cons (pv 6) pa_nil))))))
      (pss_cons (ps_if (pt_cmpR op_ne (pcall DWR GWR (hr.mono (by omega)) (pa_cons (pv 2) (pa_cons (pv 6) pa_nil))) (pv 7) (nomark _)) (pss_one (ps_ret pe_bl)) pss_nil)
      (pss_cons (ps_setLc (i := 8) (own := [("size", 10)]) (g := (gName 10)) (tt := tYes) (te := (tCall (spWS K) [] E0 (tCons (tVar 2) (tCons (tVar 10) tNil)))) rfl scLaw.nd rfl rfl (sw_true rfl rfl rfl (by decide +kernel)) (pi_range1 (by rfl) B.rng (pa_cons (pe_op op_add (pv 2) pe_int) pa_nil)) (blkOk_by (N := ["script", "bag", "boxes", "every", "one", "rows", "many", "due", "sizes", "ways", "size"]) (sc := defScope sLaw) (by decide +kernel)) (fun _ _ _ _ _ => (pg_name (i := 10) scLaw.nd rfl (.inl rfl))) (fun _ _ _ _ _ => pts_nil) (fun _ _ _ _ _ => (pcall DWS GWS (hr.mono (by omega)) (pa_cons (pv 2) (pa_cons (pv 10) pa_nil)))))
      (pss_cons (ps_if (PW.pt (pw_or (pt_cmpR op_ne (pe_callB (cr_sum rfl) (by rfl) B.sum (by decide +kernel) (pa_cons (pv 8) pa_nil)) (pv 3) (nomark _)) (pw_or1 (pt_cmpR (op_neD hu64) (pv 8) (pe_op op_cat (pe_op op_cat (pe_lst (pa_cons pe_int pa_nil)) (pe_op op_rep (pe_lst (pa_cons (pe_op op_fdivW (pv 3) (pv 2)) pa_nil)) (pv 2))) (pe_lst (pa_cons pe_int pa_nil))) (nomark _))))) (pss_one (ps_ret pe_bl)) pss_nil)
      (pss_cons (ps_set (i := 6) scLaw.nd rfl (.inl rfl) (pe_op op_add pe_int (pcall DTake GTake (hr.mono (by omega)) (pa_cons (pv 1) (pa_cons (pv 2) pa_nil)))))
      (pss_one (ps_if (PW.pt (pw_or (pt_cmpR op_ne (pe_op op_mulW (pcall DTog GTog (hr.mono (by omega)) (pa_cons (pv 2) (pa_cons (pv 6) pa_nil))) (pv 6)) (pv 3) (nomark _)) (pw_or1 (pt_cmpR op_ne (pcall DTog GTog (hr.mono (by omega)) (pa_cons (pv 2) (pa_cons (pv 2) pa_nil))) (pcall DWR GWR (hr.mono (by omega)) (pa_cons (pv 2) (pa_cons pe_int pa_nil))) (nomark _))))) (pss_one (ps_ret pe_bl)) pss_nil)))))))) pss_nil)))))))))
      (pss_one (ps_ret (pe_and (pe_cmpR op_eq (pcall DWR GWR (hr.mono (by omega)) (pa_cons pe_int (pa_cons pe_int pa_nil))) pe_int (nomark _)) (pe_and (pe_cmpR op_eq (pcall DTog GTog (hr.mono (by omega)) (pa_cons pe_int (pa_cons pe_int pa_nil))) pe_int (nomark _)) (pe_one (pe_cmpR op_eq (pcall DWS GWS (hr.mono (by omega)) (pa_cons pe_int (pa_cons pe_int pa_nil))) pe_int (nomark _)))))))), ?_⟩
    refine bags_for (lim := 8) (SlotsN a 10) rfl hS hl ⟨_, rfl, rfl⟩ (fun b H1 σ' N hσ hb nx => ?_) (fun σ' H1 hσ => ?_)
    · obtain ⟨ys, hys, rfl⟩ := hσ
      refine match ys, hys with | [y1, y2, y3, y4, y5, y6, y7, y8, y9, y10], _ => ?_
      refine ⟨.ref b, rfl, b, 41, rfl, hb, by decide, fun r H2 r0 r1 x2 b2 => ?_⟩
      obtain ⟨n, rfl⟩ := Int.eq_ofNat_of_zero_le r0
      have hn : n ≤ 40 := by omega
      refine q_asg (v := .int 1) ev_c fun H3 e3 => ?_
      refine q_forR2 (lo := 2) (n := (n : Int) + 1) (ea_cons ev_c (ea_cons (ev_op (ev_var (v := vN n) rfl) ev_c rv_I0) ea_nil)) ⟨by decide, by decide, by omega, by omega⟩
        (fun i σ' H' => Ex H3 H' ∧ ∃ z, σ' = [some (.ref a), some (.ref b), some (vN n), some (vN (fact (i + 1))), z, y5, y6, y7, y8, y9, y10]) (fun H4 e4 => ⟨e4, y4, rfl⟩) (fun i σ' H' hi hP => ?_) (fun σ' H4 hP => ?_)
      · obtain ⟨e4, z, rfl⟩ := hP
        have hs := fact_small (i + 1) (by omega)
        refine s_asg (v := vN (fact (i + 1 + 1))) (ev_is (ev_op (ev_var (v := vN (fact (i + 1))) rfl) (ev_var (v := .int (2 + (i : Int))) rfl) (rv_I (wide_mul (a := 200) (b := 6) (by rw [Int.natAbs_natCast]; exact hs) (by omega) (by decide) (by decide) (by decide)))) ?_) fun H5 e5 => ⟨e4.trans e5, _, rfl⟩
        show V.int _ = V.int ((fact (i + 1) * (i + 1 + 1) : Nat) : Int)
        rw [Int.natCast_mul]
        congr 2
        omega
      · obtain ⟨e4, z, rfl⟩ := hP
        have hf : fact (((n : Int) + 1 - 2).toNat + 1) = fact n := by
          cases n with
          | zero => rfl
          | succ m => rw [show (((m + 1 : Nat) : Int) + 1 - 2).toNat = m by omega]
        rw [hf]
        clear hf
        refine q_asgL (xs := (cbr n).map vN) ?_ fun rw_ H5 n5 e5 hrw => ?_
        · refine el_lc (ew_rng1 (n := n + 1) (ea_cons (ev_is (ev_op (ev_var (v := vN n) rfl) ev_c rv_I0) (by show V.int _ = V.int _; rw [Int.natCast_add]; rfl)) ea_nil) (by omega)) (by omega) (fun _ => true) (fun m => vN (wr n m)) (by rw [filter_true]; exact rows_eq n) (fun i x H6 H7 Q e hi hy k => ?_)
          obtain ⟨rfl, rfl⟩ := hy
          exact k _ _ (Ex.refl _) rfl et_yes fun _ => ev_wr (ev_var (v := vN n) rfl) (ev_var (v := .int i) rfl) hn
        have g1 := f1 n hn
        refine q_when (b := false) (et_is (et_or (b := false) (et_test (ev_op (ev_is (w := vN (fact n)) (ev_sumV (K := K) (ev_var (v := .ref rw_) rfl) (by rw [← nats_int]; exact sq_of hrw)) (by rw [sum_nats, g1.1])) (ev_var (v := vN (fact n)) rfl) (rv_neI rfl))) fun _ => et_is (et_or (et_test (ev_op (ev_wr (ev_var (v := vN n) rfl) (ev_var (v := vN n) rfl) hn) (ev_c (v := vN 1)) (rv_neI g1.2.1))) fun _ => et_test (ev_op (ev_wr (ev_var (v := vN n) rfl) (ev_un ev_c ru_neg) hn) (ev_c (v := vN 0)) (rv_neI g1.2.2))) rfl) rfl) (fun hb => absurd hb (by decide)) (fun _ H6 e6 => ?_)
        have hlen : ((cbr n).map vN).length = n + 1 := by rw [List.length_map, cbr_len]
        refine q_when (b := false) (et_test (ev_op (x := vN ((List.range (n + 1)).map fun m => m * (cbr n).getD m 0).sum) (y := vN ((List.range n).map fun i => fact n / (1 + i)).sum) (ev_is (ev_sum (K := K) (ns := ((List.range (n + 1)).map fun m => m * (cbr n).getD m 0).map fun (i : Nat) => (i : Int)) ?_) (by rw [sum_nats])) (ev_is (ev_sum (K := K) (ns := ((List.range n).map fun i => fact n / (1 + i)).map fun (i : Nat) => (i : Int)) ?_) (by rw [sum_nats])) (rv_neI (f2 n hn)))) (fun hb => absurd hb (by decide)) (fun _ H7 e7 => ?_)
        · rw [← nats_int]
          refine el_lc (ew_enumL (K := K) (ev_var (v := .ref rw_) rfl) (sq_of (e6 _ _ hrw))) (by omega) (fun _ => true) (fun m => vN (m * (cbr n).getD m 0)) (by rw [filter_true, hlen, List.map_map]; rfl) (fun i x H8 H9 Q e hi hy k => ?_)
          obtain ⟨T, x1, x2, rfl, nT, rfl, h1, h2⟩ := hy
          have h1 := Option.some.inj h1
          subst h1
          obtain ⟨rfl, _, hget⟩ := get_map 0 h2
          refine ⟨T, _, rfl, st_of upd_same, rfl, _, _, rfl, _, _, rfl, rfl, ?_⟩
          refine k _ _ (Ex.new nT) rfl et_yes fun _ => ?_
          refine ev_is (ev_op (ev_var rfl) (ev_var rfl) (rv_I (mul_small (n := i) (by omega) (cbr_small n hn _ (List.mem_of_getElem? hget))))) ?_
          show V.int _ = V.int _
          rw [Int.natCast_mul]
        · rw [← nats_int]
          refine el_lc (ew_rng2 (a := 1) (n := n) (ea_cons ev_c (ea_cons (ev_is (ev_op (ev_var (v := vN n) rfl) ev_c rv_I0) (by show V.int _ = V.int _; rw [Int.natCast_add]; rfl)) ea_nil)) (by omega)) (by omega) (fun _ => true) (fun i => vN (fact n / (1 + i))) (by rw [filter_true, List.map_map]; rfl) (fun i x H8 H9 Q e hi hy k => ?_)
          obtain ⟨rfl, rfl⟩ := hy
          refine k _ _ (Ex.refl _) rfl et_yes fun _ => ?_
          refine ev_is (ev_op (ev_var (v := vN (fact n)) rfl) (ev_var (v := vN (1 + i)) rfl) (rv_I (wide_div (b := 6) (by omega) (by rw [Int.natAbs_natCast]; show 1 + i < 64; omega) (by decide) (by decide)))) ?_
          show V.int _ = V.int _
          rw [Int.natCast_ediv]
        have eX := (((e3.trans e4).trans e5).trans e6).trans e7
        refine s_when (b := decide ((0 : Int) < n)) (et_test (ev_op (ev_var (v := vN n) rfl) ev_c rv_gt)) (fun hb H8 e8 => ?_) (fun hb H8 e8 => nx _ _ ⟨_, rfl, rfl⟩ (x2.trans (ExB.of (eX.trans e8))) (b2.ex (eX.trans e8)))
        have n0 := of_decide_eq_true hb
        have eY := eX.trans e8
        refine ⟨.ref b, rfl, .int n, rfl, _, _, rfl, rfl, b, (n : Int) + 2, rfl, b2.ex eY, by omega, fun r3 H9 s0 s1 x9 b9 => ?_⟩
        obtain ⟨m, rfl⟩ := Int.eq_ofNat_of_zero_le s0
        obtain ⟨n, rfl⟩ : ∃ k, n = k + 1 := ⟨n - 1, by omega⟩
        have g3 := f3 n (by omega) m (by omega)
        have en : ∀ {σ : L2.St} {H : Hp}, σ[2]? = some (some (vN (n + 1))) → Ev (tOp (rI0 fun i j => .int (i - j)) (tVar 2) (tC (.int 1))) σ H (vN n) := fun {σ H} h => ev_is (ev_op (ev_var h) ev_c rv_I0) (by show V.int _ = V.int _; congr 1; omega)
        refine q_asg (v := vN (wr n ((m : Int) - 1) + n * wr n m)) (ev_is (ev_op (ev_wr (en rfl) (ev_op (ev_var (v := vN m) rfl) ev_c rv_I0) (by omega)) (ev_op (en rfl) (ev_wr (m := (m : Int)) (en rfl) (ev_var rfl) (by omega)) (rv_I (mul_small (by omega) (wr_small n (by omega) _)))) rv_I0) (by show V.int _ = V.int _; rw [Int.natCast_add, Int.natCast_mul])) fun H10 e10 => ?_
        refine q_when (b := false) (et_test (ev_op (ev_wr (m := (m : Int)) (ev_var (v := vN (n + 1)) rfl) (ev_var rfl) (by omega)) (ev_var rfl) (rv_neI g3))) (fun hb => absurd hb (by decide)) (fun _ H11 e11 => ?_)
        refine q_asgL (xs := ((List.range (n + 3)).map fun s : Nat => ws (n + 1) s).map vN) ?_ fun sz H12 n12 e12 hsz => ?_
        · refine el_lc (ew_rng1 (n := n + 1 + 2) (ea_cons (ev_is (ev_op (ev_var (v := vN (n + 1)) rfl) ev_c rv_I0) (by show V.int _ = V.int _; rw [Int.natCast_add (n + 1) 2]; rfl)) ea_nil) (by omega)) (by omega) (fun _ => true) (fun m => vN (ws (n + 1) m)) (by rw [filter_true, List.map_map]; rfl) (fun i x H6 H7 Q e hi hy k => ?_)
          obtain ⟨rfl, rfl⟩ := hy
          exact k _ _ (Ex.refl _) rfl et_yes fun _ => ev_ws (ev_var (v := vN (n + 1)) rfl) (ev_var (v := .int i) rfl) (by omega) hn
        have g4 := f4 n (by omega)
        have g6 := f6 n (by omega)
        refine q_when (b := false) (et_is (et_or (b := false) (et_test (ev_op (ev_is (w := vN (fact (n + 1))) (ev_sumV (K := K) (ev_var (v := .ref sz) rfl) (by rw [← nats_int]; exact sq_of hsz)) (by rw [sum_nats, g6.2])) (ev_var (v := vN (fact (n + 1))) rfl) (rv_neI rfl))) fun _ =>
          et_test (ev_opL (xs := (0 :: (List.replicate (n + 1) (fact (n + 1) / (n + 1)) ++ [0])).map vN) (ev_var (v := .ref sz) rfl) ?_ fun p H13 hp e => ?_)) rfl) (fun hb => absurd hb (by decide)) (fun _ H13 e13 => ?_)
        · have e1 : (0 :: (List.replicate (n + 1) (fact (n + 1) / (n + 1)) ++ [0])).map vN = ([V.int 0] ++ List.replicate (n + 1) (vN (fact (n + 1) / (n + 1)))) ++ [V.int 0] := by
            rw [List.map_cons, List.map_append, List.map_replicate]
            rfl
          rw [e1]
          refine el_catN (el_catN (el_lst (ea_cons ev_c ea_nil) (by decide)) (el_rep1 (el_lst (ea_cons (ev_is (ev_op (ev_var (v := vN (fact (n + 1))) rfl) (ev_var (v := vN (n + 1)) rfl) (rv_I (wide_div (b := 6) (by omega) (by rw [Int.natAbs_natCast]; show n + 1 < 64; omega) (by decide) (by decide)))) (by show V.int _ = V.int _; rw [Int.natCast_ediv])) ea_nil) (by show 1 ≤ 100000; decide)) (ev_var (v := vN (n + 1)) rfl) (by omega)) (by rw [List.length_replicate]; show 1 + _ ≤ _; omega)) (el_lst (ea_cons ev_c ea_nil) (by decide)) (by rw [List.length_append, List.length_replicate]; show (1 + _) + 1 ≤ _; omega)
        · have g := rv_neLN (K := K) (sq_of (e _ _ hsz)) (sq_of hp)
          rw [g4, decide_eq_true rfl] at g
          exact g
        have eZ := ((e10.trans e11).trans e12).trans e13
        refine ⟨.ref b, rfl, .int (n + 1 : Nat), rfl, b, ((n + 1 : Nat) : Int), rfl, b9.ex eZ, by omega, fun r4 H14 t0 t1 x14 b14 => ?_⟩
        obtain ⟨m2, rfl⟩ := Int.eq_ofNat_of_zero_le t0
        refine ⟨_, _, rfl, rfl, ?_⟩
        have g5 := f5 (n + 1) hn (1 + m2) (by omega) (by omega) (by omega)
        have ep : ((1 : Int) + (m2 : Int)) = ((1 + m2 : Nat) : Int) := by omega
        have tot : ExB b H1 H14 := ((x2.trans (ExB.of eY)).trans x9).trans ((ExB.of eZ).trans x14)
        refine s_when (b := false) (et_is (et_or (b := false) (et_test (ev_op (ev_is (w := vN (fact (n + 1) / (1 + m2) * (1 + m2))) (ev_op (ev_tog (ev_var (v := vN (n + 1)) rfl) (ev_var (v := vN (1 + m2)) (by show some (some (V.int ((1 : Int) + (m2 : Int)))) = some (some (V.int ((1 + m2 : Nat) : Int))); rw [ep])) (by omega) (by omega) hn) (ev_var (v := vN (1 + m2)) (by show some (some (V.int ((1 : Int) + (m2 : Int)))) = some (some (V.int ((1 + m2 : Nat) : Int))); rw [ep])) (rv_I (wide_mul (a := 200) (b := 6) ?_ (by rw [Int.natAbs_natCast]; show 1 + m2 < 64; omega) (by decide) (by decide) (by decide)))) (by show V.int _ = V.int _; rw [Int.natCast_mul])) (ev_var (v := vN (fact (n + 1))) rfl) (rv_neI g5))) fun _ =>
          et_test (ev_op (ev_tog (ev_var (v := vN (n + 1)) rfl) (ev_var (v := vN (n + 1)) rfl) (by omega) (by omega) hn) (ev_wr (ev_var (v := vN (n + 1)) rfl) ev_c hn) (rv_neI g6.1))) rfl) (fun hb => absurd hb (by decide)) (fun _ H15 e15 => nx _ _ ⟨_, rfl, rfl⟩ (tot.trans (ExB.of e15)) (b14.ex e15))
        rw [Int.natAbs_natCast]
        exact Nat.lt_of_le_of_lt (Nat.div_le_self _ _) (fact_small (n + 1) hn)
    · refine s_ret (v := .bl true) (ev_is (ev_andV (b := true && true) (ev_op (ev_wr (K := K) (n := 4) (m := 2) ev_c ev_c (by decide)) (ev_c (v := vN 11)) (rv_eqI (by decide +kernel))) fun _ => ev_andV (b := true) (ev_op (ev_tog (n := 5) (m := 2) ev_c ev_c (by decide) (by decide) (by decide)) (ev_c (v := vN 60)) (rv_eqI (by decide +kernel))) fun _ => ev_op (ev_ws (n := 6) (m := 3) ev_c ev_c (by decide) (by decide)) (ev_c (v := vN 120)) (rv_eqI (by decide +kernel))) rfl) fun H2 e2 => q H2
end
end Kw
set_option Elab.async false
set_option linter.all false
set_option maxRecDepth 100000
namespace Kw
open PySem PySem.Spec PyProof.Rows L2
set_option maxHeartbeats 4000000 in
theorem all_mk {l : PySem.W.OpenLaw} {w : World} {K : PySem.W.Frag} {h : Heap} {mg : Str → Option Value} {fa f1 f2 f3 f4 f5 f6 f7 f8 f9 f10 f11 f12 f13 f14 : Addr} (X : K.In h) (G : h.Ns mainGlobals mg) (hfa : mg "law" = some (.ref fa))
    {od1 an1 od2 an2 od3 an3 od4 an4 od5 an5 od6 an6 od7 an7 od8 an8 od9 an9 od10 an10 od11 an11 od12 an12 od13 an13 od14 an14 : Option Addr} {sl1 sl2 sl3 sl4 sl5 sl6 sl7 sl8 sl9 sl10 sl11 sl12 sl13 sl14 : Array (Option Value)} {oc1 kV1 dc1 pm1 cd1 ct1 oc2 kV2 dc2 pm2 cd2 ct2 oc3 kV3 dc3 pm3 cd3 ct3 oc4 kV4 dc4 pm4 cd4 ct4 oc5 kV5 dc5 pm5 cd5 ct5 oc6 kV6 dc6 pm6 cd6 ct6 oc7 kV7 dc7 pm7 cd7 ct7 oc8 kV8 dc8 pm8 cd8 ct8 oc9 kV9 dc9 pm9 cd9 ct9 oc10 kV10 dc10 pm10 cd10 ct10 oc11 kV11 dc11 pm11 cd11 ct11 oc12 kV12 dc12 pm12 cd12 ct12 oc13 kV13 dc13 pm13 cd13 ct13 oc14 kV14 dc14 pm14 cd14 ct14 : Value} {t_MOST_COUNTED : Tok}
    (a1 : PySem.W.nsIn K mainGlobals "_law_cell_at" = some (some (.ref f1))) (l1 : K.lookup f1 = some ⟨oc1, od1, .func (PySem.W.fnOf "_law_cell_at" "_law_cell_at" (defArgs sCell) (defBody sCell) (defScope sCell) .none kV1 dc1 pm1 an1 cd1 ct1), sl1⟩) (c1 : PySem.W.codeIn K cd1 "_law_cell_at" = true) (k1 : PySem.W.keepIn K (.ref f1) = true)
    (a2 : PySem.W.nsIn K mainGlobals "_law_draws" = some (some (.ref f2))) (l2 : K.lookup f2 = some ⟨oc2, od2, .func (PySem.W.fnOf "_law_draws" "_law_draws" (defArgs sDraw) (defBody sDraw) (defScope sDraw) .none kV2 dc2 pm2 an2 cd2 ct2), sl2⟩) (c2 : PySem.W.codeIn K cd2 "_law_draws" = true) (k2 : PySem.W.keepIn K (.ref f2) = true)
    (a3 : PySem.W.nsIn K mainGlobals "_law_bag" = some (some (.ref f3))) (l3 : K.lookup f3 = some ⟨oc3, od3, .func (PySem.W.fnOf "_law_bag" "_law_bag" (defArgs sBag) (defBody sBag) (defScope sBag) .none kV3 dc3 pm3 an3 cd3 ct3), sl3⟩) (c3 : PySem.W.codeIn K cd3 "_law_bag" = true) (k3 : PySem.W.keepIn K (.ref f3) = true)
    (a4 : PySem.W.nsIn K mainGlobals "_law_bags" = some (some (.ref f4))) (l4 : K.lookup f4 = some ⟨oc4, od4, .func (PySem.W.fnOf "_law_bags" "_law_bags" (defArgs sBags) (defBody sBags) (defScope sBags) .none kV4 dc4 pm4 an4 cd4 ct4), sl4⟩) (c4 : PySem.W.codeIn K cd4 "_law_bags" = true) (k4 : PySem.W.keepIn K (.ref f4) = true)
    (a5 : PySem.W.nsIn K mainGlobals "_law_take" = some (some (.ref f5))) (l5 : K.lookup f5 = some ⟨oc5, od5, .func (PySem.W.fnOf "_law_take" "_law_take" (defArgs sTake) (defBody sTake) (defScope sTake) .none kV5 dc5 pm5 an5 cd5 ct5), sl5⟩) (c5 : PySem.W.codeIn K cd5 "_law_take" = true) (k5 : PySem.W.keepIn K (.ref f5) = true)
    (a6 : PySem.W.nsIn K mainGlobals "is_whole" = some (some (.ref f6))) (l6 : K.lookup f6 = some ⟨oc6, od6, .func (PySem.W.fnOf "is_whole" "is_whole" (defArgs sWho) (defBody sWho) (defScope sWho) .none kV6 dc6 pm6 an6 cd6 ct6), sl6⟩) (c6 : PySem.W.codeIn K cd6 "is_whole" = true) (k6 : PySem.W.keepIn K (.ref f6) = true)
    (a7 : PySem.W.nsIn K mainGlobals "check_number" = some (some (.ref f7))) (l7 : K.lookup f7 = some ⟨oc7, od7, .func (PySem.W.fnOf "check_number" "check_number" (defArgs sCkN) (defBody sCkN) (defScope sCkN) .none kV7 dc7 pm7 an7 cd7 ct7), sl7⟩) (c7 : PySem.W.codeIn K cd7 "check_number" = true) (k7 : PySem.W.keepIn K (.ref f7) = true)
    (a8 : PySem.W.nsIn K mainGlobals "check_whole" = some (some (.ref f8))) (l8 : K.lookup f8 = some ⟨oc8, od8, .func (PySem.W.fnOf "check_whole" "check_whole" (defArgs sCkW) (defBody sCkW) (defScope sCkW) .none kV8 dc8 pm8 an8 cd8 ct8), sl8⟩) (c8 : PySem.W.codeIn K cd8 "check_whole" = true) (k8 : PySem.W.keepIn K (.ref f8) = true)
    (a9 : PySem.W.nsIn K mainGlobals "counts_by_rounds" = some (some (.ref f9))) (l9 : K.lookup f9 = some ⟨oc9, od9, .func (PySem.W.fnOf "counts_by_rounds" "counts_by_rounds" (defArgs sCbR) (defBody sCbR) (defScope sCbR) .none kV9 dc9 pm9 an9 cd9 ct9), sl9⟩) (c9 : PySem.W.codeIn K cd9 "counts_by_rounds" = true) (k9 : PySem.W.keepIn K (.ref f9) = true)
    (a10 : PySem.W.nsIn K mainGlobals "with_rounds" = some (some (.ref f10))) (l10 : K.lookup f10 = some ⟨oc10, od10, .func (PySem.W.fnOf "with_rounds" "with_rounds" (defArgs sWR) (defBody sWR) (defScope sWR) .none kV10 dc10 pm10 an10 cd10 ct10), sl10⟩) (c10 : PySem.W.codeIn K cd10 "with_rounds" = true) (k10 : PySem.W.keepIn K (.ref f10) = true)
    (a11 : PySem.W.nsIn K mainGlobals "all_layings" = some (some (.ref f11))) (l11 : K.lookup f11 = some ⟨oc11, od11, .func (PySem.W.fnOf "all_layings" "all_layings" (defArgs sAllL) (defBody sAllL) (defScope sAllL) .none kV11 dc11 pm11 an11 cd11 ct11), sl11⟩) (c11 : PySem.W.codeIn K cd11 "all_layings" = true) (k11 : PySem.W.keepIn K (.ref f11) = true)
    (a12 : PySem.W.nsIn K mainGlobals "with_size" = some (some (.ref f12))) (l12 : K.lookup f12 = some ⟨oc12, od12, .func (PySem.W.fnOf "with_size" "with_size" (defArgs sWS) (defBody sWS) (defScope sWS) .none kV12 dc12 pm12 an12 cd12 ct12), sl12⟩) (c12 : PySem.W.codeIn K cd12 "with_size" = true) (k12 : PySem.W.keepIn K (.ref f12) = true)
    (a13 : PySem.W.nsIn K mainGlobals "together" = some (some (.ref f13))) (l13 : K.lookup f13 = some ⟨oc13, od13, .func (PySem.W.fnOf "together" "together" (defArgs sTog) (defBody sTog) (defScope sTog) .none kV13 dc13 pm13 an13 cd13 ct13), sl13⟩) (c13 : PySem.W.codeIn K cd13 "together" = true) (k13 : PySem.W.keepIn K (.ref f13) = true)
    (a14 : PySem.W.nsIn K mainGlobals "law" = some (some (.ref f14))) (l14 : K.lookup f14 = some ⟨oc14, od14, .func (PySem.W.fnOf "law" "law" (defArgs sLaw) (defBody sLaw) (defScope sLaw) .none kV14 dc14 pm14 an14 cd14 ct14), sl14⟩) (c14 : PySem.W.codeIn K cd14 "law" = true) (k14 : PySem.W.keepIn K (.ref f14) = true)
    (z_isi : PySem.W.nsIn K mainGlobals "isinstance" = some none)    (z_tup : PySem.W.nsIn K mainGlobals "tuple" = some none)    (z_lst : PySem.W.nsIn K mainGlobals "list" = some none)    (z_str : PySem.W.nsIn K mainGlobals "str" = some none)    (z_len : PySem.W.nsIn K mainGlobals "len" = some none)    (z_all : PySem.W.nsIn K mainGlobals "all" = some none)    (z_zip : PySem.W.nsIn K mainGlobals "zip" = some none)    (z_rng : PySem.W.nsIn K mainGlobals "range" = some none)    (z_int : PySem.W.nsIn K mainGlobals "int" = some none)    (z_max : PySem.W.nsIn K mainGlobals "max" = some none)    (z_min : PySem.W.nsIn K mainGlobals "min" = some none)    (z_srt : PySem.W.nsIn K mainGlobals "sorted" = some none)    (z_enu : PySem.W.nsIn K mainGlobals "enumerate" = some none)    (z_sum : PySem.W.nsIn K mainGlobals "sum" = some none)    (z_abs : PySem.W.nsIn K mainGlobals "abs" = some none)    (z_rpr : PySem.W.nsIn K mainGlobals "repr" = some none)    (z_set : PySem.W.nsIn K mainGlobals "set" = some none)    (z_bool : PySem.W.nsIn K mainGlobals "bool" = some none)    (z_ver : PySem.W.nsIn K mainGlobals "ValueError" = some none)    (z_any : PySem.W.nsIn K mainGlobals "any" = some none)
    (m_MOST_COUNTED : PySem.W.nsIn K mainGlobals "MOST_COUNTED" = some (some (.int 40 t_MOST_COUNTED))) :
    ∃ fd : FuncData, (∀ (s : Shared) (v : Value), BindsTo s fd ⟨[v], []⟩ [("script", v)]) ∧ ∀ base : Heap, K.In base → base.Ns mainGlobals mg → FnOk l.prog w K mg base CX0 20 fa fd ["script"] (spLaw K) := by
  have e := hfa.symm.trans (PySem.W.mg_of X G a14)
  cases e
  have F1 := fun_mk (st := sCell) l1 c1 k1
  have D1 : Df K mg "_law_cell_at" sCell ["script", "k"] f1 _ := ⟨F1, PySem.W.mg_of X G a1, F1.binds fun _ _ _ _ _ _ us hl => match us, hl with | [_, _], _ => rfl⟩
  have F2 := fun_mk (st := sDraw) l2 c2 k2
  have D2 : Df K mg "_law_draws" sDraw ["cell", "many", "size"] f2 _ := ⟨F2, PySem.W.mg_of X G a2, F2.binds fun _ _ _ _ _ _ us hl => match us, hl with | [_, _, _], _ => rfl⟩
  have F3 := fun_mk (st := sBag) l3 c3 k3
  have D3 : Df K mg "_law_bag" sBag ["script", "k"] f3 _ := ⟨F3, PySem.W.mg_of X G a3, F3.binds fun _ _ _ _ _ _ us hl => match us, hl with | [_, _], _ => rfl⟩
  have F4 := fun_mk (st := sBags) l4 c4 k4
  have D4 : Df K mg "_law_bags" sBags ["script", "limit"] f4 _ := ⟨F4, PySem.W.mg_of X G a4, F4.binds fun _ _ _ _ _ _ us hl => match us, hl with | [_, _], _ => rfl⟩
  have F5 := fun_mk (st := sTake) l5 c5 k5
  have D5 : Df K mg "_law_take" sTake ["bag", "many"] f5 _ := ⟨F5, PySem.W.mg_of X G a5, F5.binds fun _ _ _ _ _ _ us hl => match us, hl with | [_, _], _ => rfl⟩
  have F6 := fun_mk (st := sWho) l6 c6 k6
  have D6 : Df K mg "is_whole" sWho ["thing"] f6 _ := ⟨F6, PySem.W.mg_of X G a6, F6.binds fun _ _ _ _ _ _ us hl => match us, hl with | [_], _ => rfl⟩
  have F7 := fun_mk (st := sCkN) l7 c7 k7
  have D7 : Df K mg "check_number" sCkN ["thing", "least", "most"] f7 _ := ⟨F7, PySem.W.mg_of X G a7, F7.binds fun _ _ _ _ _ _ us hl => match us, hl with | [_, _, _], _ => rfl⟩
  have F8 := fun_mk (st := sCkW) l8 c8 k8
  have D8 : Df K mg "check_whole" sCkW ["thing"] f8 _ := ⟨F8, PySem.W.mg_of X G a8, F8.binds fun _ _ _ _ _ _ us hl => match us, hl with | [_], _ => rfl⟩
  have F9 := fun_mk (st := sCbR) l9 c9 k9
  have D9 : Df K mg "counts_by_rounds" sCbR ["boxes"] f9 _ := ⟨F9, PySem.W.mg_of X G a9, F9.binds fun _ _ _ _ _ _ us hl => match us, hl with | [_], _ => rfl⟩
  have F10 := fun_mk (st := sWR) l10 c10 k10
  have D10 : Df K mg "with_rounds" sWR ["boxes", "many"] f10 _ := ⟨F10, PySem.W.mg_of X G a10, F10.binds fun _ _ _ _ _ _ us hl => match us, hl with | [_, _], _ => rfl⟩
  have F11 := fun_mk (st := sAllL) l11 c11 k11
  have D11 : Df K mg "all_layings" sAllL ["boxes"] f11 _ := ⟨F11, PySem.W.mg_of X G a11, F11.binds fun _ _ _ _ _ _ us hl => match us, hl with | [_], _ => rfl⟩
  have F12 := fun_mk (st := sWS) l12 c12 k12
  have D12 : Df K mg "with_size" sWS ["boxes", "many"] f12 _ := ⟨F12, PySem.W.mg_of X G a12, F12.binds fun _ _ _ _ _ _ us hl => match us, hl with | [_, _], _ => rfl⟩
  have F13 := fun_mk (st := sTog) l13 c13 k13
  have D13 : Df K mg "together" sTog ["boxes", "many"] f13 _ := ⟨F13, PySem.W.mg_of X G a13, F13.binds fun _ _ _ _ _ _ us hl => match us, hl with | [_, _], _ => rfl⟩
  have F14 := fun_mk (st := sLaw) l14 c14 k14
  have B : Bu mg := ⟨PySem.W.mg_none_of X G z_isi, PySem.W.mg_none_of X G z_tup, PySem.W.mg_none_of X G z_lst, PySem.W.mg_none_of X G z_str, PySem.W.mg_none_of X G z_len, PySem.W.mg_none_of X G z_all, PySem.W.mg_none_of X G z_zip, PySem.W.mg_none_of X G z_rng, PySem.W.mg_none_of X G z_int, PySem.W.mg_none_of X G z_max, PySem.W.mg_none_of X G z_min, PySem.W.mg_none_of X G z_srt, PySem.W.mg_none_of X G z_enu, PySem.W.mg_none_of X G z_sum, PySem.W.mg_none_of X G z_abs, PySem.W.mg_none_of X G z_rpr, PySem.W.mg_none_of X G z_set, PySem.W.mg_none_of X G z_bool, PySem.W.mg_none_of X G z_ver, PySem.W.mg_none_of X G z_any⟩
  have n_MOST_COUNTED := PySem.W.mg_of X G m_MOST_COUNTED
  refine ⟨PySem.W.fnOf "law" "law" (defArgs sLaw) (defBody sLaw) (defScope sLaw) .none kV14 dc14 pm14 an14 cd14 ct14, fun s v => .of_eq rfl, fun base _ _ => ?_⟩
  have g1 : ∀ k : Nat, FnOk l.prog w K mg base CX0 (k + 1) f1 _ ["script", "k"] (spCell K) := fun k => ok_cell F1   B
  have g2 : ∀ k : Nat, FnOk l.prog w K mg base CX0 (k + 1) f2 _ ["cell", "many", "size"] (spDraw K) := fun k => ok_draw F2   B B
  have g3 : ∀ k : Nat, FnOk l.prog w K mg base CX0 (k + 2) f3 _ ["script", "k"] (spBag K) := fun k => ok_bag F3 D1 D2 (g1 k) (g2 k) 
  have g4 : ∀ k : Nat, FnOk l.prog w K mg base CX0 (k + 3) f4 _ ["script", "limit"] (spBags K 8) := fun k => ok_bags (by decide) F4 B B D3 (g3 k)
  have g5 : ∀ k : Nat, FnOk l.prog w K mg base CX0 (k + 1) f5 _ ["bag", "many"] (spTake K) := fun k => ok_take F5   B
  have g6 : ∀ k : Nat, FnOk l.prog w K mg base CX0 (k + 1) f6 _ ["thing"] (spWho K) := fun k => ok_who F6   B
  have g7 : ∀ k : Nat, FnOk l.prog w K mg base CX0 (k + 2) f7 _ ["thing", "least", "most"] (spCkN K) := fun k => ok_ckn F7 D6 (g6 k) 
  have g8 : ∀ k : Nat, FnOk l.prog w K mg base CX0 (k + 2) f8 _ ["thing"] (spCkW K) := fun k => ok_ckw F8 D6 (g6 k) 
  have g9 : ∀ k : Nat, FnOk l.prog w K mg base CX0 (k + 1) f9 _ ["boxes"] (spCbR K) := fun k => ok_cbr F9   B
  have g10 : ∀ k : Nat, FnOk l.prog w K mg base CX0 (k + 3) f10 _ ["boxes", "many"] (spWR K) := fun k => ok_wr F10 D7 D8 D9 (g7 k) (g8 k) (g9 k) n_MOST_COUNTED
  have g11 : ∀ k : Nat, FnOk l.prog w K mg base CX0 (k + 1) f11 _ ["boxes"] (spAllL K) := fun k => ok_allL F11   B
  have g12 : ∀ k : Nat, FnOk l.prog w K mg base CX0 (k + 3) f12 _ ["boxes", "many"] (spWS K) := fun k => ok_ws F12 D7 D8 D11 (g7 k) (g8 k) (g11 k) n_MOST_COUNTED
  have g13 : ∀ k : Nat, FnOk l.prog w K mg base CX0 (k + 3) f13 _ ["boxes", "many"] (spTog K) := fun k => ok_tog F13 D7 D11 (g7 k) (g11 k) n_MOST_COUNTED
  exact ok_law (k := 11) F14 D4 D5 D10 D12 D13 (g4 11) (g5 11) (g10 11) (g12 11) (g13 11) B
end Kw
open PySem PySem.W PyProof.Rows
set_option maxHeartbeats 0 in
theorem PySem.Challenge.cw_keyswithin_k10_whole_counts_at_any_size_holds : PySem.Challenge.rw_keyswithin_k10_whole_counts_at_any_size.Holds := by
  w_on; o_law; k_head; (case hw => w_witness2)
  k_fill
  refine L2.walk_of (l := PySem.Challenge.rw_keyswithin_k10_whole_counts_at_any_size) (n := 63) (k := 20) (x := "script") (CX := fun _ => L2.CX0) (sp := fun w => Kw.spLaw _) rfl (by decide) rfl ⟨rfl, by decide, by decide⟩ (fun w h Y => PySem.W.kIn_of Y) ?F (fun _ _ a ns hl _ hS => ⟨a, ns, rfl, hS, hl, fun _ => rfl⟩) (fun _ _ _ _ _ h => h)
  case F =>
    intro w mg fa h KX G hmg
    refine' Kw.all_mk KX G hmg ?a1 ?l1 ?c1 ?k1 ?a2 ?l2 ?c2 ?k2 ?a3 ?l3 ?c3 ?k3 ?a4 ?l4 ?c4 ?k4 ?a5 ?l5 ?c5 ?k5 ?a6 ?l6 ?c6 ?k6 ?a7 ?l7 ?c7 ?k7 ?a8 ?l8 ?c8 ?k8 ?a9 ?l9 ?c9 ?k9 ?a10 ?l10 ?c10 ?k10 ?a11 ?l11 ?c11 ?k11 ?a12 ?l12 ?c12 ?k12 ?a13 ?l13 ?c13 ?k13 ?a14 ?l14 ?c14 ?k14 ?z_isi ?z_tup ?z_lst ?z_str ?z_len ?z_all ?z_zip ?z_rng ?z_int ?z_max ?z_min ?z_srt ?z_enu ?z_sum ?z_abs ?z_rpr ?z_set ?z_bool ?z_ver ?z_any ?m_MOST_COUNTED
    (case a1 => k_is)
    (case l1 => k_is)
    (case c1 => k_is)
    (case k1 => k_is)
    (case a2 => k_is)
    (case l2 => k_is)
    (case c2 => k_is)
    (case k2 => k_is)
    (case a3 => k_is)
    (case l3 => k_is)
    (case c3 => k_is)
    (case k3 => k_is)
    (case a4 => k_is)
    (case l4 => k_is)
    (case c4 => k_is)
    (case k4 => k_is)
    (case a5 => k_is)
    (case l5 => k_is)
    (case c5 => k_is)
    (case k5 => k_is)
    (case a6 => k_is)
    (case l6 => k_is)
    (case c6 => k_is)
    (case k6 => k_is)
    (case a7 => k_is)
    (case l7 => k_is)
    (case c7 => k_is)
    (case k7 => k_is)
    (case a8 => k_is)
    (case l8 => k_is)
    (case c8 => k_is)
    (case k8 => k_is)
    (case a9 => k_is)
    (case l9 => k_is)
    (case c9 => k_is)
    (case k9 => k_is)
    (case a10 => k_is)
    (case l10 => k_is)
    (case c10 => k_is)
    (case k10 => k_is)
    (case a11 => k_is)
    (case l11 => k_is)
    (case c11 => k_is)
    (case k11 => k_is)
    (case a12 => k_is)
    (case l12 => k_is)
    (case c12 => k_is)
    (case k12 => k_is)
    (case a13 => k_is)
    (case l13 => k_is)
    (case c13 => k_is)
    (case k13 => k_is)
    (case a14 => k_is)
    (case l14 => k_is)
    (case c14 => k_is)
    (case k14 => k_is)
    (case z_isi => k_is)
    (case z_tup => k_is)
    (case z_lst => k_is)
    (case z_str => k_is)
    (case z_len => k_is)
    (case z_all => k_is)
    (case z_zip => k_is)
    (case z_rng => k_is)
    (case z_int => k_is)
    (case z_max => k_is)
    (case z_min => k_is)
    (case z_srt => k_is)
    (case z_enu => k_is)
    (case z_sum => k_is)
    (case z_abs => k_is)
    (case z_rpr => k_is)
    (case z_set => k_is)
    (case z_bool => k_is)
    (case z_ver => k_is)
    (case z_any => k_is)
    (case m_MOST_COUNTED => k_is)
