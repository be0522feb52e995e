import PyProof.Rows.All
import Wide.All
import OpenK.AllK
import Wide.FinOn
import HandS.ForMost
import HandS.Evl
import HandS.Walk
import HandS.IsInst
import HandS.Zip
import HandS.TupAny
import HandS.Flow
import HandS.Style
import HandS.More
import HandS.Conv
import HandS.StrMore
import HandS.Text
import HandS.Wide
import PySem.Challenge.RW_keyswithin_k03_whole_no_order_matters
import HandS.Star
import KE.GoesEnum
import HandS.SetFor
import HandS.SetKeys
import HandS.SortInts
set_option Elab.async false
set_option linter.all false
set_option maxRecDepth 100000
set_option maxHeartbeats 4000000
namespace Kw
open PySem PySem.Spec PyProof.Rows L2 Evl
/-! ### what stays: the tuples -/
def KeepT (H H' : Hp) : Prop := ∀ b xs, Rd H b (.tup xs) → Rd H' b (.tup xs)
theorem KeepT.refl (H : Hp) : KeepT H H := fun _ _ h => h
theorem KeepT.trans {H H1 H2 : Hp} (a : KeepT H H1) (b : KeepT H1 H2) : KeepT H H2 := fun c o h => b c o (a c o h)
theorem KeepT.ex {H H' : Hp} (e : Ex H H') : KeepT H H' := fun b xs h => ex_rd e h
theorem KeepT.lst {H : Hp} {p : Addr} {xs ys : List V} (h : H p = some (.lst xs)) : KeepT H (upd H p (.lst ys)) := fun b zs r => by
  have nb : b ≠ p := by
    rintro rfl
    rcases r with r | ⟨o, r⟩
    · rw [h] at r; cases r
    · rw [h] at r; cases r
  rcases r with r | ⟨o, r⟩
  · exact .inl (by rw [upd_ne nb]; exact r)
  · exact .inr ⟨o, by rw [upd_ne nb]; exact r⟩
theorem keep_t {K : PySem.W.Frag} {H H' : Hp} {a : Addr} {xs : List V} (e : KeepT H H') (h : SqT K H a xs) : SqT K H' a xs := by
  rcases h with h | h
  · exact Or.inl (e _ _ h)
  · exact Or.inr h
/-! ### readings -/
def EvP (te : TE) (σ : L2.St) (H : Hp) (Φ : V → Hp → Prop) : Prop := ∀ H1, Ex H H1 → ∀ Q : VK, (∀ v H2, Ex H1 H2 → Φ v H2 → Q v H2) → te σ H1 Q
def EvW (wi : TI) (σ : L2.St) (H : Hp) (n : Nat) (Y : Nat → Hp → V → Hp → Prop) : Prop :=
  ∀ H1, Ex H H1 → ∀ R : It → Hp → Prop, (∀ (J : It) (G : Hp → Prop) (H2 : Hp), Ex H1 H2 → Walk J n G Y → (∀ H3, Ex H2 H3 → G H3) → R J H2) → wi σ H1 R
section
variable {K : PySem.W.Frag} {σ : L2.St} {H H' : Hp} {ta tb te tl : TE} {t u : TT} {x y z v : V} {r : R2} {Φ : V → Hp → Prop}
theorem EvP.ev (h : Ev te σ H v) : EvP te σ H (fun x _ => x = v) := fun H1 e Q q => h H1 e Q fun H2 e2 => q v H2 e2 rfl
theorem EvP.to (h : EvP te σ H (fun x _ => x = v)) : Ev te σ H v := fun H1 e Q q => h H1 e Q fun x H2 e2 hx => by
  subst hx
  exact q H2 e2
theorem EvP.mono (e : Ex H H') (h : EvP te σ H Φ) : EvP te σ H' Φ := fun H1 a Q q => h H1 (e.trans a) Q q
theorem EvP.imp {Ψ : V → Hp → Prop} (h : EvP te σ H Φ) (i : ∀ v H1, Ex H H1 → Φ v H1 → Ψ v H1) : EvP te σ H Ψ := fun H1 e Q q => h H1 e Q fun v H2 e2 hv => q v H2 e2 (i v H2 (e.trans e2) hv)
theorem ep_var {i : Nat} (h : σ[i]? = some (some v)) (hv : ∀ H1, Ex H H1 → Φ v H1) : EvP (tVar i) σ H Φ := fun H1 e _ q => ⟨v, h, q v H1 (Ex.refl H1) (hv H1 e)⟩
theorem ew_tup {a : Addr} {xs : List V} (h : Ev tl σ H (.ref a)) (hx : SqT K H a xs) : EvW (iTup K tl) σ H xs.length (YAt xs) := fun H1 e R r => h H1 e _ fun H2 e2 => ⟨a, rfl, ⟨xs, ex_t (e.trans e2) hx⟩, r _ _ H2 e2 walk_tup fun H3 e3 => ex_t ((e.trans e2).trans e3) hx⟩
theorem ew_list {a : Addr} {xs : List V} (h : Ev tl σ H (.ref a)) (hx : SqL K H a xs) : EvW (iList K tl) σ H xs.length (YAt xs) := fun H1 e R r => h H1 e _ fun H2 e2 => ⟨a, rfl, ⟨xs, ex_l (e.trans e2) hx⟩, r _ _ H2 e2 walk_list fun H3 e3 => ex_l ((e.trans e2).trans e3) hx⟩
theorem ew_listN {xs : List V} (h : EvL tl σ H xs) : EvW (iList K tl) σ H xs.length (YAt xs) := fun H1 e R r => h H1 e _ fun a H2 _ e2 hx => ⟨a, rfl, ⟨xs, sq_of hx⟩, r _ _ H2 e2 walk_list fun H3 e3 => sq_of (e3 _ _ hx)⟩
theorem walk_rng0 {n : Nat} : Walk (Itr 0 n) n (fun _ => True) (YFn fun (i : Nat) => .int (i : Int)) := by
  have e : (fun i : Nat => V.int ((0 : Int) + (i : Int))) = fun (i : Nat) => V.int (i : Int) := by
    funext i
    rw [Int.zero_add]
  rw [← e]
  exact walk_range
theorem ew_rng1 {ta : TA} {n : Nat} (h : EvA ta σ H [.int n]) (hn : n ≤ 100000) : EvW (iRng1 ta) σ H n (YFn fun (i : Nat) => .int (i : Int)) := fun H1 e R r => h H1 e _ fun H2 e2 => ⟨n, rfl, by omega, by omega, r _ _ H2 e2 (by rw [Int.toNat_natCast]; exact walk_rng0) fun _ _ => trivial⟩
theorem ew_str {z : Str} (h : Ev te σ H (.str z)) : EvW (iStr te) σ H z.cps.size (fun i H v H' => H' = H ∧ ∃ c, z.cps[i]? = some c ∧ v = .str ⟨#[c]⟩) := fun H1 e R r => h H1 e _ fun H2 e2 => ⟨z, rfl, r _ _ H2 e2 walk_str fun _ _ => trivial⟩
theorem cw_none {D : Addr} {y : V} {ys : List V} (e : Ex H H') (hD : H D = none) : Ex H (upd H' D (.lst ys)) := Ex.mut e hD
/-- a comprehension: which turns give, and what is true of what they give -/
def EvC (te : TE) (σ : L2.St) (H : Hp) (n : Nat) (f : Nat → Bool) (Φ : Nat → V → Hp → Prop) : Prop :=
  ∀ H1, Ex H H1 → ∀ Q : VK, (∀ p ys H2, H1 p = none → Ex H1 H2 → H2 p = some (.lst ys) → Paired (fun i y => Φ i y H2) ((List.range n).filter f) ys → Q (.ref p) H2) → te σ H1 Q
theorem paired_imp {α β : Type} {F G : α → β → Prop} {xs : List α} {ys : List β} (h : Paired F xs ys) (i : ∀ a b, F a b → G a b) : Paired G xs ys := Paired.mapP h i
theorem paired_app {α β : Type} {F : α → β → Prop} : ∀ {xs : List α} {ys : List β} {a : α} {b : β}, Paired F xs ys → F a b → Paired F (xs ++ [a]) (ys ++ [b])
  | _, _, _, _, .nil, h => .cons h .nil
  | _, _, _, _, .cons r t, h => .cons r (paired_app t h)
theorem lc_gen {wi : TI} {g : TG} {vs : List Nat} {n : Nat} {Y : Nat → Hp → V → Hp → Prop} (hi : EvW wi σ H n Y) (hn : n ≤ 100000) (f : Nat → Bool) (Φ : Nat → V → Hp → Prop)
    (st : ∀ i y H H', KeepT H H' → Φ i y H → Φ i y H')
    (turn : ∀ i x H1 H2 (Q : L2.St → Hp → Prop), Ex H H1 → i < n → Y i H1 x H2 → (∀ σ2 H3, Ex H1 H3 → wipe σ2 vs = wipe σ vs → EvT t σ2 H3 (f i) → (f i = true → EvP te σ2 H3 (Φ i)) → Q σ2 H3) → g x (wipe σ vs) H2 Q) :
    EvC (tLc wi g t te vs) σ H n f Φ := by
  intro H0 e Q q
  refine hi H0 e _ fun J G H1 e1 w hG => ?_
  intro D hD
  refine lc_it w (Pv := fun i H' => Ex H1 H' ∧ ∃ ys, H' D = some (.lst ys) ∧ Paired (fun i y => Φ i y H') ((List.range i).filter f) ys) ⟨Ex.new hD, [], upd_same, .nil⟩
    (fun i H' _ p => hG H' p.1) (fun i x H' H2 hi' p y => ?_) (fun H' p => ?_)
  · obtain ⟨p1, ys, p2, p3⟩ := p
    refine turn i x H' H2 _ ((e.trans e1).trans p1) hi' y fun σ2 H3 e3 hw ht he => ⟨hw, ?_⟩
    refine ht H3 (Ex.refl H3) _ fun H4 e4 => ?_
    have hlen : ys.length ≤ i := by
      rw [← Paired.length p3]
      have := List.length_filter_le f (List.range i)
      rw [List.length_range] at this
      exact this
    have eD : H4 D = some (.lst ys) := e4 _ _ (e3 _ _ p2)
    cases hf : f i with
    | false =>
      show Ex H1 H4 ∧ _
      refine ⟨(p1.trans e3).trans e4, ys, eD, ?_⟩
      rw [List.range_succ, List.filter_append, List.filter_cons, if_neg (by rw [hf]; decide), List.filter_nil, List.append_nil]
      exact paired_imp p3 fun a b h => st a b _ _ (KeepT.ex (e3.trans e4)) h
    | true =>
      show te σ2 H4 _
      refine (he hf) H4 e4 _ fun y H5 e5 hy => ?_
      have eD5 : H5 D = some (.lst ys) := e5 _ _ eD
      refine ⟨ys, eD5, sz_lt (by omega), Ex.mut (((p1.trans e3).trans e4).trans e5) hD, ys ++ [y], upd_same, ?_⟩
      rw [List.range_succ, List.filter_append, List.filter_cons, if_pos hf, List.filter_nil]
      exact paired_app (paired_imp p3 fun a b h => st a b _ _ ((KeepT.ex ((e3.trans e4).trans e5)).trans (KeepT.lst eD5)) h) (st _ _ _ _ (KeepT.lst eD5) hy)
  · obtain ⟨p1, ys, p2, p3⟩ := p
    exact q D ys H' (fresh_back e1 hD) (e1.trans p1) p2 p3
theorem paired_map {α β : Type} {v : α → β} : ∀ {xs : List α} {ys : List β}, Paired (fun i y => y = v i) xs ys → ys = xs.map v
  | _, _, .nil => rfl
  | _, _, .cons r t => by rw [r, List.map_cons, paired_map t]
theorem EvC.val {n : Nat} {f : Nat → Bool} {v : Nat → V} (h : EvC te σ H n f (fun i y _ => y = v i)) : EvL te σ H (((List.range n).filter f).map v) := fun H1 e Q q =>
  h H1 e Q fun p ys H2 hp e2 h2 pr => q p H2 hp e2 (by rw [h2, paired_map pr])
theorem el_lc {wi : TI} {g : TG} {vs : List Nat} {n : Nat} {Y : Nat → Hp → V → Hp → Prop} (hi : EvW wi σ H n Y) (hn : n ≤ 100000) (f : Nat → Bool) (v : Nat → V) {xs : List V} (hx : ((List.range n).filter f).map v = xs)
    (turn : ∀ i x H1 H2 (Q : L2.St → Hp → Prop), Ex H H1 → i < n → Y i H1 x H2 → (∀ σ2 H3, Ex H1 H3 → wipe σ2 vs = wipe σ vs → EvT t σ2 H3 (f i) → (f i = true → Ev te σ2 H3 (v i)) → Q σ2 H3) → g x (wipe σ vs) H2 Q) :
    EvL (tLc wi g t te vs) σ H xs := by
  subst hx
  exact EvC.val (lc_gen hi hn f (fun i y _ => y = v i) (fun _ _ _ _ _ h => h) fun i x H1 H2 Q e hi' y k => turn i x H1 H2 Q e hi' y fun σ2 H3 e3 hw ht he => k σ2 H3 e3 hw ht fun hf => EvP.ev (he hf))
end
/-- the built-in names are what they were -/
structure Bu (mg : Str → Option Value) : Prop where
  isi : mg "isinstance" = none
  tup : mg "tuple" = none
  lst : mg "list" = none
  str : mg "str" = none
  len : mg "len" = none
  all : mg "all" = none
  zip : mg "zip" = none
  rng : mg "range" = none
  int : mg "int" = none
  max : mg "max" = none
  min : mg "min" = none
  srt : mg "sorted" = none
  enu : mg "enumerate" = none
  sum : mg "sum" = none
  abs : mg "abs" = none
  rpr : mg "repr" = none
  set : mg "set" = none
  bool : mg "bool" = none
  ver : mg "ValueError" = none
  any : mg "any" = none
section
variable {K : PySem.W.Frag} {σ : L2.St} {H H' : Hp} {ta tb tc te tl : TE} {t u : TT} {x y z v : V} {r r' : R2}
theorem ty_tup {K : PySem.W.Frag} {H : Hp} {a : Addr} {xs : List V} (h : SqT K H a xs) : TyX K H (.ref a) (.type "tuple") := by
  rcases h with (h | ⟨o, h⟩) | ⟨o, its, n, h1, h2, _⟩
  · exact .base (.tup h)
  · exact .fTuple h
  · exact .kTuple h1 h2
def IsT (K : PySem.W.Frag) (xs : List V) : V → Hp → Prop := fun v H => ∃ p, v = .ref p ∧ SqT K H p xs
theorem ep_slT {tl th : TO} {a : Addr} {xs : List V} {lo hi : Option Int} (h : Ev te σ H (.ref a)) (h1 : EvO tl σ H lo) (h2 : EvO th σ H hi) (hs : SqT K H a xs) : EvP (tSl (rSlA K) te tl th) σ H (IsT K (cutV xs lo hi)) := fun H1 e Q q =>
  h H1 e _ fun H2 e2 => h1 H2 (e.trans e2) _ fun H3 e3 => h2 H3 ((e.trans e2).trans e3) _ fun H4 e4 =>
    ⟨a, xs, rfl, ex_t (((e.trans e2).trans e3).trans e4) hs, fun hf => q _ H4 ((e2.trans e3).trans e4) ⟨a, rfl, by
      have : cutV xs lo hi = xs := by
        unfold cutV
        rw [hf.1, hf.2]
        simp
      rw [this]
      exact ex_t (((e.trans e2).trans e3).trans e4) hs⟩, fun hf p hp => q _ _ (((e2.trans e3).trans e4).trans (Ex.new hp)) ⟨p, rfl, st_of upd_same⟩⟩
theorem cut1 (xs : List V) : cutV xs (some 1) none = xs.drop 1 := by
  unfold cutV
  rw [show HT.sIx xs.length 0 (some 1) = min 1 xs.length from HT.sIx_nat xs.length 0 1, HT.sIx_none]
  cases xs with
  | nil => rfl
  | cons x r =>
    rw [show min 1 (x :: r).length = 1 by
      rw [List.length_cons]
      omega]
    show (List.take ((x :: r).length - 1) r) = r
    rw [List.length_cons, Nat.add_sub_cancel]
    exact List.take_length
theorem walk_zipT {a b : Addr} {xs ys : List V} {n : Nat} (hn : n = min xs.length ys.length) : Walk (RZ.ItzT K a b) n (fun H => SqT K H a xs ∧ SqT K H b ys) (YPair (fun i => xs[i]?) (fun i => ys[i]?)) := by
  subst hn
  refine ⟨fun i _ hi q => ?_, fun _ q => ⟨xs, ys, q.1, q.2, by omega⟩, fun i H v H' _ q y => ?_⟩
  · have h1 : i < xs.length := by omega
    have h2 : i < ys.length := by omega
    exact ⟨xs, ys, xs[i], ys[i], q.1, q.2, by simp [h1], by simp [h2]⟩
  · obtain ⟨T, x, z, h1, h2, h3, h4, h5⟩ := y
    exact ⟨T, x, z, h1, h2, h3, h4 xs q.1, h5 ys q.2⟩
theorem ew_zipT {a : Addr} {xs ys : List V} {n : Nat} (hn : n = min xs.length ys.length) (h : Ev ta σ H (.ref a)) (hx : SqT K H a xs) (hb : EvP tb σ H (IsT K ys)) : EvW (RZ.iZipA K (tCons ta (tCons tb tNil))) σ H n (YPair (fun i => xs[i]?) (fun i => ys[i]?)) := fun H1 e R r =>
  h H1 e _ fun H2 e2 => hb H2 (e.trans e2) _ fun v H3 e3 ⟨p, hv, hp⟩ => by
    subst hv
    exact ⟨a, p, xs, ys, rfl, .inr ⟨ex_t ((e.trans e2).trans e3) hx, hp, r _ _ H3 (e2.trans e3) (walk_zipT hn) fun H4 e4 => ⟨ex_t (((e.trans e2).trans e3).trans e4) hx, ex_t e4 hp⟩⟩⟩
theorem ev_all {bs : List Bool} (h : EvL te σ H (bs.map V.bl)) : Ev (tCB (rAll K) (tCons te tNil)) σ H (.bl (bs.all id)) := fun H1 e Q q =>
  h H1 e _ fun p H2 _ e2 hp => ⟨p, bs, rfl, sq_of hp, q H2 e2⟩
/-- a comprehension without a test -/
theorem filter_true {n : Nat} : (List.range n).filter (fun _ => true) = List.range n := List.filter_eq_self.mpr (fun _ _ => rfl)
theorem et_yes {σ : L2.St} {H : Hp} : EvT tYes σ H true := fun H1 _ Q q => q H1 (Ex.refl H1)
/-- a def of the text: where it stands, how it binds -/
structure Df (K : PySem.W.Frag) (mg : Str → Option Value) (x : Str) (st : Stmt) (ps : List Str) (f : Addr) (fd : FuncData) : Prop where
  F : Fun K x x st f fd
  g : mg x = some (.ref f)
  b : Binds K fd ps []
theorem pcall {X : Cx} {k : Nat} {f : Addr} {fd : FuncData} {ps : List Str} {sp : Sp} {x : Str} {st : Stmt} {p pos : Pos} {e : Expr} {es : List Expr} {t : TA} (D : Df X.K X.mg x st ps f fd) (G : FnOk X.prog X.w X.K X.mg X.base CX0 k f fd ps sp) (hr : Room k X.A) (ha : PA X (e :: es) t) (hg : Gl X x := by rfl)
    (h1 : (x == ("__debug__" : Str)) = false := by decide) (h2 : starEach (e :: es) X.env = (false, eval e X.env) :: starEach es X.env := by rfl) (h3 : (backTo pos (starEach es X.env)).any (·.1) = false := by rfl) :
    PE X (.Call (.Name x p) (e :: es) [] pos) (tCall sp [] E0 t) := pe_call G hr hg D.g D.F.kp D.b .nil pass0 ha h1 h2 h3
theorem SpV.of {sp : Sp} {vs : List V} {H : Hp} {z : V} (h : ∀ H1, Ex H H1 → ∀ Q : VK, RetV z H1 Q → ∀ E, sp vs H1 Q E) : SpV sp (vs ++ []) H z := by
  rw [List.append_nil]
  exact fun H1 e Q q E => h H1 e Q q E
theorem ev_chain {k l : Bool} (ha : Ev ta σ H x) (hb : Ev tb σ H y) (hc : Ev tc σ H z) (h1 : RV r x y H (.bl k)) (h2 : RV r' y z H (.bl l)) : Ev (tChain r r' ta tb tc) σ H (.bl (k && l)) := fun H1 e Q q =>
  ha H1 e _ fun H2 e2 => hb H2 (e.trans e2) _ fun H3 e3 => h1 H3 ((e.trans e2).trans e3) _ fun H4 e4 => ⟨k, rfl, by
    cases k with
    | true =>
      show tc σ H4 _
      exact hc H4 (((e.trans e2).trans e3).trans e4) _ fun H5 e5 => h2 H5 ((((e.trans e2).trans e3).trans e4).trans e5) Q fun H6 e6 => q H6 ((((e2.trans e3).trans e4).trans e5).trans e6)
    | false =>
      show Q (.bl false) H4
      exact q H4 ((e2.trans e3).trans e4)⟩
theorem ev_isi {T U : String} {b : Bool} (ha : Ev ta σ H x) (hb : Ev tb σ H (.ty U)) (ht : ∀ H1, Ex H H1 → TyX K H1 x (.type T)) (hk : kitB T U = some b) : Ev (tCB (rIsi K) (tCons ta (tCons tb tNil))) σ H (.bl b) := fun H1 e Q q =>
  ha H1 e _ fun H2 e2 => hb H2 (e.trans e2) _ fun H3 e3 => ⟨x, .ty U, _, _, b, rfl, .ty _, ht H3 ((e.trans e2).trans e3), kit_ty hk, q H3 (e2.trans e3)⟩
theorem rv_le {i j : Int} : RV (rI0 fun i j => .bl (decide (i ≤ j))) (.int i) (.int j) H (.bl (decide (i ≤ j))) := rv_I0
theorem range_map_get {α β : Type} (l : List α) (d : α) (g : α → β) : (List.range l.length).map (fun i => g (l.getD i d)) = l.map g := by
  apply List.ext_getElem
  · simp
  · intro i h1 h2
    simp only [List.getElem_map, List.getElem_range]
    congr 1
    rw [List.getD_eq_getElem?_getD, List.getElem?_eq_getElem (by simpa using h2)]
    rfl
theorem paired_get {α β : Type} {F : α → β → Prop} : ∀ {xs : List α} {ys : List β} {i : Nat} {x : α}, Paired F xs ys → xs[i]? = some x → ∃ y, ys[i]? = some y ∧ F x y
  | _, _, _, _, .nil, e => by simp at e
  | _, _, 0, _, .cons r _, e => by simp at e; subst e; exact ⟨_, rfl, r⟩
  | _, _, i + 1, x, .cons _ t, e => by
    obtain ⟨u, h1, h2⟩ := paired_get (i := i) (x := x) t (by simpa using e)
    exact ⟨u, by simpa using h1, h2⟩
theorem paired_len {α β : Type} {F : α → β → Prop} {xs : List α} {ys : List β} (h : Paired F xs ys) : xs.length = ys.length := Paired.length h
/-- all([f(x) for x in t]) where each is so -/
theorem ev_allT {vs : List Nat} {wi : TI} {n : Nat} {Y : Nat → Hp → V → Hp → Prop} {g : TG} (hi : EvW wi σ H n Y) (hn : n ≤ 100000)
    (turn : ∀ i x H1 H2 (Q : L2.St → Hp → Prop), Ex H H1 → i < n → Y i H1 x H2 → (∀ σ2 H3, Ex H1 H3 → wipe σ2 vs = wipe σ vs → Ev te σ2 H3 (.bl true) → Q σ2 H3) → g x (wipe σ vs) H2 Q) :
    Ev (tCB (rAll K) (tCons (tLc wi g tYes te vs) tNil)) σ H (.bl true) := by
  refine ev_is (ev_all (K := K) (bs := List.replicate n true) ?_) (by rw [List.all_replicate]; simp)
  refine el_lc hi hn (fun _ => true) (fun i => .bl true) (by rw [filter_true, List.map_replicate, List.map_const', List.length_range]) (fun i x H1 H2 Q e hi hy k => ?_)
  exact turn i x H1 H2 Q e hi hy fun σ2 H3 e3 hw he => k σ2 H3 e3 hw et_yes fun _ => he
theorem ev_lenT {p : Addr} {xs : List V} (ha : Ev ta σ H (.ref p)) (h : SqT K H p xs) : Ev (tCB (rLenS K) (tCons ta tNil)) σ H (.int (xs.length : Int)) := fun H1 e Q q =>
  ha H1 e _ fun H2 e2 => ⟨p, xs, rfl, Or.inr (ex_t (e.trans e2) h), q H2 e2⟩
theorem rv_gt {i j : Int} : RV (rI0 fun i j => .bl (decide (j < i))) (.int i) (.int j) H (.bl (decide (j < i))) := rv_I0
theorem at0 {x y : V} : atI [x, y] 0 = some x := atI_nat (j := 0) rfl
theorem at1 {x y : V} : atI [x, y] 1 = some y := atI_nat (j := 1) rfl
theorem yes_do {σ : L2.St} {H : Hp} {A B : Hp → Prop} (h : A H) : tYes σ H (fun b H => if b = true then A H else B H) := iteT (A := A H) (B := B H) h
/-- [y for x in .. for y in t], t a tuple -/
theorem el_lc2 {wi : TI} {g : TG} {vs vs1 : List Nat} {n j : Nat} {Y : Nat → Hp → V → Hp → Prop} (hi : EvW wi σ H n Y) (L : Nat → List V) (hn : ∀ i ≤ n, ((List.range i).flatMap L).length ≤ 100000) {xs : List V} (hx : (List.range n).flatMap L = xs)
    (turn : ∀ i x H1 H2 (Q : L2.St → Hp → Prop), Ex H H1 → i < n → Y i H1 x H2 → (∀ σ2 H3 a, Ex H1 H3 → wipe σ2 vs = wipe σ vs → Ev tl σ2 H3 (.ref a) → SqT K H3 a (L i) → (∀ y, wipe ((wipe σ2 vs1).set j (some y)) vs1 = wipe σ2 vs1 ∧ ((wipe σ2 vs1).set j (some y))[j]? = some (some y)) → Q σ2 H3) → g x (wipe σ vs) H2 Q) :
    EvL (tLc2 wi g tYes (iTup K tl) (gName j) tYes (tVar j) vs vs1) σ H xs := by
  subst hx
  intro H0 e Q q
  refine hi H0 e _ fun J G H1 e1 w hG => ?_
  intro D hD
  refine ⟨fun i m H' => m = n - i ∧ i ≤ n ∧ Ex H1 H' ∧ H' D = some (.lst ((List.range i).flatMap L)), ⟨n, by simp, Nat.zero_le _, Ex.new hD, upd_same⟩, ?_⟩
  rintro i m H' ⟨rfl, hi', p1, p2⟩
  by_cases hlt : i < n
  · refine .inr ⟨w.goes i H' hlt (hG H' p1), fun H'' => Ex H1 H'' ∧ H'' D = some (.lst ((List.range (i + 1)).flatMap L)), fun H'' p' => ⟨n - (i + 1), by omega, rfl, hlt, p'⟩, fun x H2 hy => ?_⟩
    refine turn i x H' H2 _ ((e.trans e1).trans p1) hlt (w.yields i H' x H2 hlt (hG H' p1) hy) fun σ2 H3 a e3 hw htl hL hset => ⟨hw, ?_⟩
    refine yes_do ?_
    refine htl H3 (Ex.refl H3) _ fun H4 e4 => ⟨a, rfl, ⟨_, ex_t e4 hL⟩, ?_⟩
    refine ⟨fun c m H5 => m = (L i).length - c ∧ c ≤ (L i).length ∧ SqT K H5 a (L i) ∧ Ex H1 H5 ∧ H5 D = some (.lst ((List.range i).flatMap L ++ (L i).take c)), ⟨_, rfl, Nat.zero_le _, ex_t e4 hL, (p1.trans e3).trans e4, by rw [List.take_zero, List.append_nil]; exact e4 _ _ (e3 _ _ p2)⟩, ?_⟩
    rintro c m H5 ⟨rfl, hc, g1, g2, g3⟩
    have hsum : (List.range (i + 1)).flatMap L = (List.range i).flatMap L ++ L i := by
      rw [List.range_succ, List.flatMap_append]
      simp
    by_cases hcl : c < (L i).length
    · refine .inr ⟨⟨_, _, g1, List.getElem?_eq_getElem hcl⟩, fun H6 => SqT K H6 a (L i) ∧ Ex H1 H6 ∧ H6 D = some (.lst ((List.range i).flatMap L ++ (L i).take (c + 1))), fun H6 ⟨r1, r2, r3⟩ => ⟨_, by omega, rfl, hcl, r1, r2, r3⟩, fun y H6 ⟨eH, hy2⟩ => ?_⟩
      subst eH
      have hy' : (L i)[c]? = some y := hy2 _ g1
      refine ⟨(hset y).1, ?_⟩
      refine yes_do ?_
      refine ⟨y, (hset y).2, _, g3, ?_, keep_t (KeepT.lst g3) g1, Ex.mut g2 hD, ?_⟩
      · refine sz_lt ?_
        have h1 := hn (i + 1) hlt
        rw [hsum, List.length_append] at h1
        rw [List.length_append, List.length_take]
        omega
      · rw [upd_same, List.append_assoc, List.take_add_one, hy']
        rfl
    · refine .inl ⟨⟨_, g1, by omega⟩, g2, ?_⟩
      rw [g3, hsum, List.take_of_length_le (by omega)]
  · have e' : i = n := by omega
    subst e'
    exact .inl ⟨w.stops H' (hG H' p1), q D H' (fresh_back e1 hD) (e1.trans p1) p2⟩
theorem str_beq (a b : Str) : (a == b) = decide (a = b) := by
  by_cases h : a = b
  · subst h
    simp
  · rw [decide_eq_false h]
    exact beq_eq_false_iff_ne.mpr h
theorem inV_str (c : Str) (hs : List Str) : inV (.str c) (hs.map V.str) = decide (c ∈ hs) := by
  induction hs with
  | nil => rfl
  | cons a r ih =>
    show (eqV (.str a) (.str c) || inV (.str c) (r.map V.str)) = _
    rw [ih]
    show ((a == c) || _) = _
    rw [str_beq]
    by_cases h : a = c
    · subst h
      simp
    · have h' : ¬ c = a := fun z => h z.symm
      simp [h, h']
theorem inV_int (c : Int) (hs : List Int) : inV (.int c) (hs.map V.int) = decide (c ∈ hs) := by
  induction hs with
  | nil => rfl
  | cons a r ih =>
    show (eqV (.int a) (.int c) || inV (.int c) (r.map V.int)) = _
    rw [ih]
    show ((a == c) || _) = _
    by_cases h : a = c
    · subst h
      simp
    · have h' : ¬ c = a := fun z => h z.symm
      simp [h, h']
theorem flat_strs (hs : List Str) : (hs.map V.str).all flatV = true := by
  rw [List.all_map]
  exact List.all_eq_true.mpr fun _ _ => rfl
abbrev vN (i : Nat) : V := .int (i : Int)
theorem flat_nats (hs : List Nat) : (hs.map vN).all flatV = true := by
  rw [List.all_map]
  exact List.all_eq_true.mpr fun _ _ => rfl
theorem inV_nat (c : Nat) (hs : List Nat) : inV (vN c) (hs.map vN) = decide (c ∈ hs) := by
  have e : hs.map vN = (hs.map fun (i : Nat) => (i : Int)).map V.int := by rw [List.map_map]; rfl
  rw [e]
  show inV (.int (c : Int)) _ = _
  rw [inV_int]
  congr 1
  rw [List.mem_map]
  apply propext
  constructor
  · rintro ⟨a, h1, h2⟩
    have : a = c := by omega
    subst this
    exact h1
  · exact fun h => ⟨c, h, rfl⟩
theorem rIx_seq {p : Addr} {xs : List V} {i : Int} (h : SqL K H p xs ∨ SqT K H p xs) (ha : atI xs i = some v) : RV (rIx K) (.ref p) (.int i) H v := fun H1 e Q q =>
  h.elim (fun h => .inl ⟨p, xs, i, v, rfl, rfl, ex_l e h, ha, q H1 (Ex.refl H1)⟩) (fun h => .inr (.inl ⟨p, xs, i, v, rfl, rfl, ex_t e h, ha, q H1 (Ex.refl H1)⟩))
theorem paired_get2 {α β : Type} {F : α → β → Prop} : ∀ {xs : List α} {ys : List β} {i : Nat} {y : β}, Paired F xs ys → ys[i]? = some y → ∃ x, xs[i]? = some x ∧ F x y
  | _, _, _, _, .nil, e => by simp at e
  | _, _, 0, _, .cons r _, e => by simp at e; subst e; exact ⟨_, rfl, r⟩
  | _, _, i + 1, x, .cons _ t, e => by
    obtain ⟨u, h1, h2⟩ := paired_get2 (i := i) (y := x) t (by simpa using e)
    exact ⟨u, by simpa using h1, h2⟩
theorem flatMap_range {α β : Type} (l : List α) (d : α) (g : α → List β) : (List.range l.length).flatMap (fun i => g (l.getD i d)) = l.flatMap g := by
  rw [List.flatMap_def, List.flatMap_def, range_map_get l d g]
theorem flatMap_take {α β : Type} (l : List α) (d : α) (g : α → List β) (i : Nat) (hi : i ≤ l.length) : (List.range i).flatMap (fun i => g (l.getD i d)) = (l.take i).flatMap g := by
  have h := flatMap_range (l.take i) d g
  rw [List.length_take, Nat.min_eq_left hi] at h
  rw [← h]
  rw [List.flatMap_def, List.flatMap_def]
  congr 1
  apply List.map_congr_left
  intro j hj
  have := List.mem_range.mp hj
  congr 1
  rw [List.getD_eq_getElem?_getD, List.getD_eq_getElem?_getD, List.getElem?_take_of_lt this]
theorem map_flatMap' {α β γ : Type} (l : List α) (f : β → γ) (g : α → List β) : l.flatMap (fun i => (g i).map f) = (l.flatMap g).map f := by
  induction l with
  | nil => rfl
  | cons a r ih => rw [List.flatMap_cons, List.flatMap_cons, List.map_append, ih]
def rTupOf (K : PySem.W.Frag) : List V → Hp → VK → Prop := fun xs H Q => ∃ p ys, xs = [.ref p] ∧ ((SqL K H p ys ∧ ∀ l, H l = none → Q (.ref l) (upd H l (.tup ys))) ∨ (SqT K H p ys ∧ Q (.ref p) H))
theorem call_tupOf {X : Cx} : CallR X (.type "tuple") (rTupOf X.K) := call_tuple_of
theorem eu_tupL {p : Addr} {xs : List V} (ha : Ev ta σ H (.ref p)) (h : SqL K H p xs) : EvU (tCB (rTupOf K) (tCons ta tNil)) σ H xs := fun H1 e Q q =>
  ha H1 e _ fun H2 e2 => ⟨p, xs, rfl, .inl ⟨ex_l (e.trans e2) h, fun l hl => q l _ (fresh_back e2 hl) (e2.trans (Ex.new hl)) upd_same⟩⟩
theorem eu_tupN {xs : List V} (ha : EvL ta σ H xs) : EvU (tCB (rTupOf K) (tCons ta tNil)) σ H xs := fun H1 e Q q =>
  ha H1 e _ fun p H2 _ e2 hp => ⟨p, xs, rfl, .inl ⟨sq_of hp, fun l hl => q l _ (fresh_back e2 hl) (e2.trans (Ex.new hl)) upd_same⟩⟩
theorem el_listT {p : Addr} {xs : List V} (ha : Ev ta σ H (.ref p)) (h : SqT K H p xs) : EvL (tCB (rListS K) (tCons ta tNil)) σ H xs := fun H1 e Q q =>
  ha H1 e _ fun H2 e2 => ⟨p, xs, rfl, Or.inr (ex_t (e.trans e2) h), fun l hl => q l _ (fresh_back e2 hl) (e2.trans (Ex.new hl)) upd_same⟩
theorem el_cat {l : Addr} {xs zs : List V} (ha : Ev ta σ H (.ref l)) (hl : H l = some (.lst xs)) (hb : EvL tb σ H zs) (hn : xs.length + zs.length ≤ 100000) : EvL (tOp rCat ta tb) σ H (xs ++ zs) := fun H1 e Q q =>
  ha H1 e _ fun H2 e2 => hb H2 (e.trans e2) _ fun b H3 _ e3 hb' => ⟨l, b, xs, zs, rfl, rfl, e3 _ _ (e2 _ _ (e _ _ hl)), hb', sz_of hn, fun p hp => q p _ (fresh_back (e2.trans e3) hp) ((e2.trans e3).trans (Ex.new hp)) upd_same⟩
theorem el_catN {xs zs : List V} (ha : EvL ta σ H xs) (hb : EvL tb σ H zs) (hn : xs.length + zs.length ≤ 100000) : EvL (tOp rCat ta tb) σ H (xs ++ zs) := fun H1 e Q q =>
  ha H1 e _ fun l H2 _ e2 hl => hb H2 (e.trans e2) _ fun b H3 _ e3 hb' => ⟨l, b, xs, zs, rfl, rfl, e3 _ _ hl, hb', sz_of hn, fun p hp => q p _ (fresh_back (e2.trans e3) hp) ((e2.trans e3).trans (Ex.new hp)) upd_same⟩
theorem et_truL {p : Addr} {xs : List V} (ha : Ev ta σ H (.ref p)) (h : SqL K H p xs) : EvT (fun σ H Q => ta σ H fun x H' => ∃ k, TruV K x H' k ∧ Q k H') σ H (!xs.isEmpty) := fun H1 e Q q =>
  ha H1 e _ fun H2 e2 => ⟨_, .inl ⟨xs, ex_l (e.trans e2) h, rfl⟩, q H2 e2⟩
theorem SpL.of {sp : Sp} {vs : List V} {H : Hp} {xs : List V} (h : ∀ H1, Ex H H1 → ∀ Q : VK, RetL xs H1 Q → ∀ E, sp vs H1 Q E) : SpL sp (vs ++ []) H xs := by
  rw [List.append_nil]
  exact fun H1 e Q q E => h H1 e Q q E
theorem filter_range_map {α β : Type} (l : List α) (d : α) (p : α → Bool) (g : α → β) : ((List.range l.length).filter (fun i => p (l.getD i d))).map (fun i => g (l.getD i d)) = (l.filter p).map g := by
  have e : (List.range l.length).map (fun i => l.getD i d) = l := by
    have := range_map_get l d id
    simpa using this
  conv => rhs; rw [← e, List.filter_map, List.map_map]
  rfl
theorem filter_both {α : Type} (l : List α) (p : α → Bool) : (l.filter p).length + (l.filter fun i => !p i).length = l.length := by
  induction l with
  | nil => rfl
  | cons a r ih =>
    cases h : p a with
    | true =>
      rw [List.filter_cons_of_pos h, List.filter_cons_of_neg (by rw [h]; decide), List.length_cons, List.length_cons]
      omega
    | false =>
      rw [List.filter_cons_of_neg (by rw [h]; decide), List.filter_cons_of_pos (by rw [h]; rfl), List.length_cons, List.length_cons]
      omega
/-- a list of tuples of box numbers -/
def TupsAt (K : PySem.W.Frag) (H : Hp) (ys : List V) (rs : List (List Nat)) : Prop := Paired (fun y r => ∃ a, y = .ref a ∧ SqT K H a (r.map vN)) ys rs
theorem TupsAt.keep {K : PySem.W.Frag} {H H' : Hp} {ys : List V} {rs : List (List Nat)} (e : KeepT H H') (h : TupsAt K H ys rs) : TupsAt K H' ys rs := paired_imp h fun _ _ ⟨a, h1, h2⟩ => ⟨a, h1, keep_t e h2⟩
def YTup (K : PySem.W.Frag) (rs : List (List Nat)) : Nat → Hp → V → Hp → Prop := fun i H x H' => H' = H ∧ ∃ a r, rs[i]? = some r ∧ x = .ref a ∧ SqT K H a (r.map vN)
/-- a new list of tuples of numbers -/
def EvR (K : PySem.W.Frag) (te : TE) (σ : L2.St) (H : Hp) (rs : List (List Nat)) : Prop := ∀ H1, Ex H H1 → ∀ Q : VK, (∀ p ys H2, H1 p = none → Ex H1 H2 → H2 p = some (.lst ys) → TupsAt K H2 ys rs → Q (.ref p) H2) → te σ H1 Q
theorem ew_tups {rs : List (List Nat)} (h : EvR K tl σ H rs) : EvW (iList K tl) σ H rs.length (YTup K rs) := fun H1 e R r => h H1 e _ fun p ys H2 hp e2 h2 hT => by
  refine ⟨p, rfl, ⟨ys, sq_of h2⟩, r _ (fun H => SqL K H p ys ∧ TupsAt K H ys rs) H2 e2 ?_ fun H3 e3 => ⟨sq_of (e3 _ _ h2), hT.keep (KeepT.ex e3)⟩⟩
  have w : Walk (Itl K p) ys.length (fun H => SqL K H p ys) (YAt ys) := walk_list
  rw [show ys.length = rs.length from paired_len hT] at w
  refine w.mono (fun H h => h.1) fun i H x H' hi hg hy => ?_
  obtain ⟨rfl, hx⟩ := hy
  obtain ⟨r, hr, a, rfl, ha⟩ := paired_get hg.2 hx
  exact ⟨rfl, a, r, hr, rfl, ha⟩
theorem flatten_take_le {α : Type} : ∀ (l : List (List α)) (i : Nat), (l.take i).flatten.length ≤ l.flatten.length
  | [], i => by simp
  | a :: r, 0 => by simp
  | a :: r, i + 1 => by
    have := flatten_take_le r i
    rw [List.take_succ_cons, List.flatten_cons, List.flatten_cons, List.length_append, List.length_append]
    omega
/-- a new tuple -/
def RetU (xs : List V) (H : Hp) (Q : VK) : Prop := ∀ p H2, H p = none → Ex H H2 → H2 p = some (.tup xs) → Q (.ref p) H2
def SpU (sp : Sp) (vs : List V) (H : Hp) (xs : List V) : Prop := ∀ H1, Ex H H1 → ∀ Q : VK, (∀ p H2, H1 p = none → Ex H1 H2 → H2 p = some (.tup xs) → Q (.ref p) H2) → ∀ E : XK, sp vs H1 Q E
theorem eu_call {σ : L2.St} {H : Hp} {sp : Sp} {vs xs : List V} {E : XK} {ta : TA} (h : EvA ta σ H vs) (hs : ∀ H1, Ex H H1 → ∀ Q : VK, RetU xs H1 Q → ∀ E, sp vs H1 Q E) : EvU (tCall sp [] E ta) σ H xs := fun H1 e Q q =>
  h H1 e _ fun H2 e2 => by
    rw [List.append_nil]
    exact hs H2 (e.trans e2) Q (fun p H3 hp e3 h3 => q p H3 (fresh_back e2 hp) (e2.trans e3) h3) E
theorem er_call {σ : L2.St} {H : Hp} {sp : Sp} {vs : List V} {rs : List (List Nat)} {E : XK} {ta : TA} (h : EvA ta σ H vs) (hs : ∀ H1, Ex H H1 → ∀ Q : VK, (∀ p ys H2, H1 p = none → Ex H1 H2 → H2 p = some (.lst ys) → TupsAt K H2 ys rs → Q (.ref p) H2) → ∀ E, sp vs H1 Q E) : EvR K (tCall sp [] E ta) σ H rs := fun H1 e Q q =>
  h H1 e _ fun H2 e2 => by
    rw [List.append_nil]
    exact hs H2 (e.trans e2) Q (fun p ys H3 hp e3 h3 hT => q p ys H3 (fresh_back e2 hp) (e2.trans e3) h3 hT) E
theorem rgV_nat (n : Nat) : rgV 0 (n : Int) = (List.range n).map vN := by
  unfold rgV
  rw [Int.sub_zero, Int.toNat_natCast]
  apply List.map_congr_left
  intro i _
  rw [Int.zero_add]
theorem el_listR {n : Nat} (ha : Ev ta σ H (.int n)) (hn : n ≤ 100000) : EvL (tLstRg (tRg1 ta)) σ H ((List.range n).map vN) := fun H1 e Q q =>
  ha H1 e _ fun H2 e2 => ⟨n, rfl, RgOk.of_le (by omega) (by omega) (by omega) (by omega), fun p hp => q p _ (fresh_back e2 hp) (e2.trans (Ex.new hp)) (by rw [rgV_nat]; exact upd_same)⟩
theorem paired_flip {α β γ : Type} {F : β → γ → Prop} {g : α → γ} : ∀ {xs : List α} {ys : List β}, Paired (fun i y => F y (g i)) xs ys → Paired F ys (xs.map g)
  | _, _, .nil => .nil
  | _, _, .cons r t => .cons r (paired_flip t)
theorem q_asgC {te : TE} {σ : L2.St} {H : Hp} {D : Ends} {tz : TS} {i n : Nat} {f : Nat → Bool} {Φ : Nat → V → Hp → Prop} (h : EvC te σ H n f Φ) (k : ∀ p ys H1, H p = none → Ex H H1 → H1 p = some (.lst ys) → Paired (fun i y => Φ i y H1) ((List.range n).filter f) ys → tz D (σ.set i (some (.ref p))) H1) :
    tSeq (tAsg te (gName i)) tz D σ H := h H (Ex.refl H) _ k
end
end Kw
set_option Elab.async false
set_option linter.all false
set_option maxRecDepth 100000
set_option maxHeartbeats 4000000
namespace Kw
open PySem PySem.Spec PyProof.Rows L2 Evl
def topS (i : Nat) : Stmt := PySem.Challenge.pw_keyswithin_k03_whole_no_order_matters.main.body.getD i (.Pass ⟨0, 0, 0, 0⟩)
end Kw
set_option Elab.async false
set_option linter.all false
set_option maxRecDepth 100000
set_option maxHeartbeats 4000000
namespace Kw
open PySem PySem.Spec PyProof.Rows L2 Evl
section
variable {K : PySem.W.Frag} {σ : L2.St} {H H' : Hp} {ta tb tc te tl : TE} {t u : TT} {x y z v : V} {r r' : R2}
theorem ew_zipL {a b : Addr} {xs ys : List V} {n : Nat} (hn : n = min xs.length ys.length) (h : Ev ta σ H (.ref a)) (hb : Ev tb σ H (.ref b)) (hx : SqL K H a xs) (hy : SqL K H b ys) : EvW (iZip K (tCons ta (tCons tb tNil))) σ H n (YPair (fun i => xs[i]?) (fun i => ys[i]?)) := fun H1 e R r =>
  h H1 e _ fun H2 e2 => hb H2 (e.trans e2) _ fun H3 e3 => ⟨a, b, xs, ys, rfl, ex_l ((e.trans e2).trans e3) hx, ex_l ((e.trans e2).trans e3) hy, r _ _ H3 (e2.trans e3) (walk_zip hn) fun H4 e4 => ⟨ex_l (((e.trans e2).trans e3).trans e4) hx, ex_l (((e.trans e2).trans e3).trans e4) hy⟩⟩
theorem ew_enumL {a : Addr} {xs : List V} (h : Ev ta σ H (.ref a)) (hx : SqL K H a xs) : EvW (iEnum K (tCons ta tNil)) σ H xs.length (YPair (fun i => some (.int (i : Nat))) (fun i => xs[i]?)) := fun H1 e R r =>
  h H1 e _ fun H2 e2 => ⟨a, xs, rfl, ex_l (e.trans e2) hx, r _ _ H2 e2 walk_enum fun H3 e3 => ex_l ((e.trans e2).trans e3) hx⟩
/-- [x, *xs] -/
theorem el_star1 {p : Addr} {xs : List V} (ha : Ev ta σ H x) (hb : Ev tb σ H (.ref p)) (h : SqL K H p xs ∨ SqT K H p xs) (hn : xs.length < 100000) : EvL (tLst (tCons ta (StX.tStar K tb tNil))) σ H (x :: xs) := fun H1 e Q q =>
  ha H1 e _ fun H2 e2 => hb H2 (e.trans e2) _ fun H3 e3 => ⟨p, xs, rfl, h.elim (fun h => .inr (ex_l ((e.trans e2).trans e3) h)) (fun h => .inl (ex_t ((e.trans e2).trans e3) h)), by
    show (x :: (xs ++ [])).length ≤ sizeLine ∧ ∀ p, H3 p = none → Q (.ref p) (upd H3 p (.lst (x :: (xs ++ []))))
    rw [List.append_nil]
    exact ⟨sz_of (by rw [List.length_cons]; omega), fun l hl => q l _ (fresh_back (e2.trans e3) hl) ((e2.trans e3).trans (Ex.new hl)) upd_same⟩⟩
theorem ev_sum {ns : List Int} (ha : EvL ta σ H (ns.map V.int)) : Ev (tCB (rSum K) (tCons ta tNil)) σ H (.int ns.sum) := fun H1 e Q q =>
  ha H1 e _ fun p H2 _ e2 h2 => ⟨p, ns, rfl, sq_of h2, q H2 e2⟩
theorem ev_sumV {p : Addr} {ns : List Int} (ha : Ev ta σ H (.ref p)) (h : SqL K H p (ns.map V.int)) : Ev (tCB (rSum K) (tCons ta tNil)) σ H (.int ns.sum) := fun H1 e Q q =>
  ha H1 e _ fun H2 e2 => ⟨p, ns, rfl, ex_l (e.trans e2) h, q H2 e2⟩
theorem nats_int (ns : List Nat) : ns.map vN = (ns.map fun (i : Nat) => (i : Int)).map V.int := by rw [List.map_map]; rfl
theorem sum_nats (ns : List Nat) : (ns.map fun (i : Nat) => (i : Int)).sum = (ns.sum : Nat) := by
  induction ns with
  | nil => rfl
  | cons a r ih => rw [List.map_cons, List.sum_cons, List.sum_cons, ih, Int.natCast_add]
/-- xs[i] of a new list -/
theorem ev_ixN {xs : List V} {i : Int} (ha : EvL ta σ H xs) (hb : Ev tb σ H (.int i)) (hv : atI xs i = some v) : Ev (tOp (rIxL K) ta tb) σ H v :=
  ev_opL1 ha (fun H1 e1 => hb.mono e1) fun p H1 hp _ => rv_ixL (sq_of hp) hv
theorem ew_rng2 {ta : TA} {a n : Nat} (h : EvA ta σ H [.int a, .int (n + a : Nat)]) (hn : n + a ≤ 100000) : EvW (iRng2 ta) σ H n (YFn fun (i : Nat) => .int ((a + i : Nat) : Int)) := fun H1 e R r => h H1 e _ fun H2 e2 => ⟨a, (n + a : Nat), rfl, ⟨by omega, by omega, by omega, by omega⟩, r _ _ H2 e2 (by
  have e : (fun i : Nat => V.int (((a : Nat) : Int) + (i : Int))) = fun (i : Nat) => V.int ((a + i : Nat) : Int) := by
    funext i
    rw [Int.natCast_add]
  rw [← e, show (((n + a : Nat) : Int) - (a : Int)).toNat = n by omega]
  exact walk_range) fun _ _ => trivial⟩
end
theorem getD_eq {α : Type} {l : List α} {i : Nat} {d x : α} (h : l[i]? = some x) : l.getD i d = x := by
  rw [List.getD_eq_getElem?_getD, h]
  rfl
theorem get_map {α : Type} {l : List α} {f : α → V} {i : Nat} {x : V} (d : α) (h : (l.map f)[i]? = some x) : x = f (l.getD i d) ∧ i < l.length ∧ l[i]? = some (l.getD i d) := by
  rw [List.getElem?_map] at h
  cases e : l[i]? with
  | none => rw [e] at h; cases h
  | some a =>
    rw [e] at h
    have hl : i < l.length := (List.getElem?_eq_some_iff.mp e).1
    rw [getD_eq e]
    exact ⟨(Option.some.inj h).symm, hl, rfl⟩
end Kw
set_option Elab.async false
set_option linter.all false
set_option maxRecDepth 100000
set_option maxHeartbeats 4000000
namespace Kw
open PySem PySem.Spec PyProof.Rows L2 Evl
/-! ### enumerate of a tuple -/
def itO (l : Addr) : Obj := { cls := .type "tuple_iterator", data := .fields #[.ref l, .int 0 0] }
def enO (i : Addr) : Obj := { cls := .type "enumerate", data := .fields #[.none, .bool false, .ref i, rawInt 0, .none, .none] }
open AutoSeq1 (wpAny_loadPart') in
theorem meets_enT (l : Addr) (xs : Array Value) (n : Nat) (dd : Option Addr) (ss : Array (Option Value)) : Meets (Builtin.«enumerate.__new__» ⟨[.type "enumerate", .ref l], []⟩)
    (fun _ R s => s.heap.get? l = some { cls := .type "tuple", dict := dd, data := .seq xs n, slots := ss } ∧ R (.ok (.ret (.ref (s.heap.push (itO l)).objs.size))) { s with heap := (s.heap.push (itO l)).push (enO s.heap.objs.size) }) := by
  refine .of_wp fun prog w A R st hyp => ?_
  obtain ⟨h0, g0, d0, t0, o0⟩ := st
  obtain ⟨ho, hR⟩ := hyp
  have sb := sub_enumerate
  have hT : Heap.IsTuple (Shared.heap ⟨h0, g0, d0, t0, o0⟩) l xs := ⟨_, ho, rfl, n, rfl⟩
  wp_walk using wpAny_loadPart' ho
  refine wpAny_stack_any fun stk => (wpAny_pure ?_)
  split
  · rename_i cc _ _ _ _ _
    cases (cc == Value.type "enumerate") <;> (wp_walk using wpAny_loadPart' ho, wpAny_pyIter_tuple hT) <;> exact ⟨_, rfl, hR⟩
  · wp_walk using wpAny_loadPart' ho, wpAny_pyIter_tuple hT
    exact (⟨_, rfl, hR⟩)
theorem call_enumT {prog : Program} {w : World} {A : Around} {E : Value → Shared → Prop} {s : Shared} {l : Addr} {xs : Array Value} {Q : Value → Shared → Prop} (hT : s.heap.IsTuple l xs)
    (h : ∀ h', IsEnum h' (s.heap.objs.size + 1) s.heap.objs.size 0 .none → h'.IsTupleIter s.heap.objs.size l 0 → (∀ b o, s.heap.get? b = some o → h'.get? b = some o) → Q (.ref (s.heap.objs.size + 1)) { s with heap := h' }) :
    wpAny (model prog w) A (call (.type "enumerate") [.ref l]) Q E s := by
  obtain ⟨⟨c, dd, dt, ss⟩, ho, hc, n, hd⟩ := hT
  cases (show c = .type "tuple" from hc)
  cases (show dt = .seq xs n from hd)
  refine callType_new F.called_enumerate (by decide) (F.typeCall_enumerate_1 _) (F.newCall_enumerate_1 _) (fun ob => F.args_object_init_2 ob _) F.entry_enumerate_new (meets_enT l xs n dd ss) ⟨ho, ?_⟩
  have z1 : (s.heap.push (itO l)).objs.size = s.heap.objs.size + 1 := Heap.size_push ..
  have he : IsEnum ((s.heap.push (itO l)).push (enO s.heap.objs.size)) (s.heap.objs.size + 1) s.heap.objs.size 0 .none := by
    have q := Heap.get?_push_size (s.heap.push (itO l)) (o := enO s.heap.objs.size) rfl
    rw [z1] at q
    exact q
  show _ ∧ _
  rw [z1]
  exact ⟨⟨_, he, rfl⟩, h _ he ⟨_, Heap.get?_push_of_some _ (Heap.get?_push_size _ rfl), rfl, rfl⟩ fun b o x => Heap.get?_push_of_some _ (Heap.get?_push_of_some _ x)⟩
/-- the tuple at a, each item in a new pair with its number -/
def IteT (K : PySem.W.Frag) (a : Addr) : It where
  go := fun i H => ∃ (xs : List V) (x : V), SqT K H a xs ∧ xs[i]? = some x
  yld := fun i H v H' => ∃ T x, v = .ref T ∧ H T = none ∧ H' = upd H T (.tup [.int (i : Nat), x]) ∧ ∀ xs, SqT K H a xs → xs[i]? = some x
  stop := fun i H => ∃ xs : List V, SqT K H a xs ∧ xs.length = i
theorem turn_enT {P : Program} {w : World} {K : PySem.W.Frag} {es : List Expr} {kk : Nat} {tp : Pos} {a e it : Addr} (n1 : e ≠ it) (n2 : a ≠ it) (n3 : e ≠ a) :
    Turn P w K (.Tuple es kk tp) (IteT K a) [e, it] e (fun i h => (∃ old, IsEnum h e it ((i : Nat) : Int) old) ∧ h.IsTupleIter it a i) where
  mem := List.mem_cons_self ..
  obj := fun i h st b hb => by
    obtain ⟨⟨old, he⟩, ⟨o, ho, _, hd⟩⟩ := st
    rcases List.mem_cons.mp hb with rfl | hb
    · exact ⟨_, he, fun v q => nomatch q⟩
    · rw [List.mem_singleton.mp hb]
      exact ⟨o, ho, fun v q => by rw [hd] at q; cases q⟩
  keep := fun i h h' st k => by
    obtain ⟨⟨old, he⟩, hi⟩ := st
    exact ⟨⟨old, k e (by simp) _ he⟩, hi.at fun o q => k it (by simp) o q⟩
  item := by
    intro X hP hw hK hc i pins s σ H E I hf st hg
    cases hP
    cases hw
    cases hK
    obtain ⟨⟨old, he⟩, hit⟩ := st
    obtain ⟨xs, x, hq, hx⟩ := hg
    obtain ⟨us, rv, p, _⟩ := I.tuple hq
    obtain ⟨u, hu, ru⟩ := rv.get hx
    have le1 : e < s.heap.objs.size := Heap.lt_size he
    have le2 : it < s.heap.objs.size := by
      obtain ⟨_, z, _⟩ := hit
      exact Heap.lt_size z
    have hlt : i < us.toArray.size := by
      have := (List.getElem?_eq_some_iff.mp hu).1
      simpa using this
    refine wpAny_pyNext_enum_itemD (Draws.tuple (A := X.A.in1) (I.ok.hd hc) it a n2 us.toArray) he ⟨hit, p⟩ hlt n1 (by simp [n1, n3]) fun y h1 tk hy ho hs hT hz hk => ?_
    have ey : y = u := by
      have : us[i]? = some y := by simpa using hy
      rw [hu] at this
      exact (Option.some.inj this).symm
    subst ey
    refine ⟨_, rfl, wpAny_letOwnedTupleGo_enum (s := { s with heap := h1, toks := tk + 1 }) ho fun h2 he2 sb => ?_⟩
    have hT2 : h2.get? s.heap.objs.size = some { cls := .type "tuple", data := .seq #[.int i tk, y] } := (sb.2 _ (Nat.ne_of_gt le1)).trans hT
    have nw : ObjOk X.prog X.w (upd H s.heap.objs.size (.tup [.int (i : Nat), x])) h2 s.heap.objs.size (.tup [.int (i : Nat), x]) := ⟨by show 2 ≤ sizeLine; decide, [.int i tk, y], .cons ⟨_, rfl⟩ (.cons ru .nil), ⟨_, hT2, rfl, _, rfl⟩⟩
    have I1 : Inv X pins σ (upd H s.heap.objs.size (.tup [.int (i : Nat), x])) { s with heap := h2, toks := tk + 1 } :=
      I.turnedNew (ch := [e, it]) (fun b ob hb q => (sb.2 b (fun z => hb (by rw [z]; simp))).trans (hk b ob (fun z => hb (by rw [z]; simp)) (fun z => hb (by rw [z]; simp)) q)) hf (Nat.le_refl _) nw
    refine ⟨.ref s.heap.objs.size, _, I1, rfl, ⟨_, x, rfl, I.hok.fresh (Nat.le_refl _), rfl, fun zs hz => by rw [I.tuple_inj hz hq]; exact hx⟩, ⟨⟨y, ?_⟩, hs.1.at fun o q => (sb.2 it (Ne.symm n1)).trans q⟩, fun b hb => ?_⟩
    · rw [show ((i + 1 : Nat) : Int) = (i : Int) + 1 by omega]
      exact he2
    · have hb' : b < s.heap.objs.size := by
        rcases List.mem_cons.mp hb with rfl | hb
        · exact le1
        · rw [List.mem_singleton.mp hb]
          exact le2
      rw [upd_ne (Nat.ne_of_lt hb')]
      exact (hf b hb).1
  done := by
    intro X hP hw hK hc i pins s σ H E I hf st hg
    cases hP
    cases hw
    cases hK
    obtain ⟨⟨old, he⟩, hit⟩ := st
    obtain ⟨xs, hq, hx⟩ := hg
    obtain ⟨us, rv, p, _⟩ := I.tuple hq
    have hz : us.toArray.size = i := by
      rw [← hx, rv.length]
      simp
    obtain ⟨f0, f1, f2, f3, f4, f5⟩ := hf it (by simp)
    exact wpAny_pyNext_enum_endD (Draws.tuple (A := X.A.in1) (I.ok.hd hc) it a n2 us.toArray) he ⟨by rw [hz]; exact hit, p⟩ fun h1 eb => ⟨rfl, I.turned (t' := s.toks) (fun b o hb q => eb b o hb q) f0 f1 f3 f4 f5⟩
  self := fun A i s Q E st h => by
    obtain ⟨⟨_, he⟩, _⟩ := st
    exact wpAny_pyIter_enum he h
def iEnT (K : PySem.W.Frag) (ta : TA) : TI := fun σ H R => ta σ H fun vs H1 => ∃ a xs, vs = [.ref a] ∧ SqT K H1 a xs ∧ R (IteT K a) H1
theorem pi_enT {X : Cx} {e : Expr} {ta : TA} {p pos tp : Pos} {es : List Expr} {kk : Nat} (hg : Gl X "enumerate") (hm : X.mg "enumerate" = none) (ha : PA X [e] ta) (hs : starEach [e] X.env = [(false, eval e X.env)] := by rfl) :
    PI X (.Tuple es kk tp) (.Call (.Name "enumerate" p) [e] [] pos) (iEnT X.K ta) := by
  refine ⟨fun pins s σ H R I h => Call_ (ld_blt I hg hm PyProof.Rows.boot_enumerate (PyProof.Rows.callWith_type1 (thn (ha.run pos pins s σ H _ I h) fun us s1 ⟨vs, H1, I1, r1, q1⟩ => ?_) hs rfl))⟩
  obtain ⟨a, xs, rfl, hq, q⟩ := q1
  cases r1 with
  | cons r rr =>
    cases rr
    cases r
    obtain ⟨us, rv, pt, _⟩ := I1.tuple hq
    obtain ⟨oa, hoa, _⟩ := id pt
    have la : a < s1.heap.objs.size := Heap.lt_size hoa
    refine call_enumT pt fun h' he hit hk => wpAny_pyIter_enum he ⟨s1.heap.objs.size + 1, [s1.heap.objs.size + 1, s1.heap.objs.size], _, _, H1, rfl, I1.kept (t' := s1.toks) hk, turn_enT (Nat.succ_ne_self _) (Nat.ne_of_lt la) (Nat.ne_of_gt (Nat.lt_succ_of_lt la)), ⟨⟨.none, he⟩, hit⟩, fun b hb => ?_, q⟩
    have hle : s1.heap.objs.size ≤ b := by
      rcases List.mem_cons.mp hb with rfl | hb
      · exact Nat.le_succ _
      · rw [List.mem_singleton.mp hb]
        exact Nat.le_refl _
    exact I1.fpOk hle (I1.hok.fresh hle)
theorem walk_enT {K : PySem.W.Frag} {a : Addr} {xs : List V} : Walk (IteT K a) xs.length (fun H => SqT K H a xs) (YPair (fun i => some (.int (i : Nat))) (fun i => xs[i]?)) where
  goes := fun i _ hi q => ⟨xs, xs[i], q, List.getElem?_eq_getElem hi⟩
  stops := fun _ q => ⟨xs, q, rfl⟩
  yields := fun i H v H' _ q y => by
    obtain ⟨T, x, h1, h2, h3, h4⟩ := y
    exact ⟨T, _, x, h1, h2, h3, rfl, h4 xs q⟩
end Kw
set_option Elab.async false
set_option linter.all false
set_option maxRecDepth 100000
set_option maxHeartbeats 4000000
namespace Kw
open PySem PySem.Spec PyProof.Rows L2 Evl
/-! ### data compared -/
def dN (ns : List Nat) : List PyData := ns.map fun (i : Nat) => PyData.int (i : Int)
def dR (rs : List (List Nat)) : List PyData := rs.map fun r => PyData.tuple (dN r)
theorem lay_dN : ∀ ns : List Nat, PyData.canLayAll0 (dN ns) = true
  | [] => by simp [dN, PyData.canLayAll0]
  | a :: r => by
    have := lay_dN r
    simp only [dN, List.map_cons, PyData.canLayAll0, PyData.canLay0, Bool.true_and] at this ⊢
    exact this
theorem depth_dN : ∀ ns : List Nat, PyData.depthAll (dN ns) ≤ 1
  | [] => by simp [dN, PyData.depthAll]
  | a :: r => by
    have := depth_dN r
    simp only [dN, List.map_cons, PyData.depthAll, PyData.depth] at this ⊢
    omega
theorem lay_dR : ∀ rs : List (List Nat), PyData.canLayAll0 (dR rs) = true
  | [] => by simp [dR, PyData.canLayAll0]
  | a :: r => by
    have := lay_dR r
    have h2 := lay_dN a
    simp only [dR, List.map_cons, PyData.canLayAll0, PyData.canLay0, Bool.and_eq_true] at this ⊢
    exact ⟨h2, this⟩
theorem depth_dR : ∀ rs : List (List Nat), PyData.depthAll (dR rs) ≤ 2
  | [] => by simp [dR, PyData.depthAll]
  | a :: r => by
    have := depth_dR r
    have h2 := depth_dN a
    simp only [dR, List.map_cons, PyData.depthAll, PyData.depth] at this ⊢
    omega
theorem shaped_lN (ns : List Nat) : SeqAt.shaped (.list (dN ns)) = true := by
  have h1 := depth_dN ns
  refine Bool.and_eq_true_iff.mpr ⟨?_, decide_eq_true ?_⟩
  · rw [PyData.canLay0]
    exact lay_dN ns
  · rw [PyData.depth]
    omega
theorem shaped_tN (ns : List Nat) : SeqAt.shaped (.tuple (dN ns)) = true := by
  have h1 := depth_dN ns
  refine Bool.and_eq_true_iff.mpr ⟨?_, decide_eq_true ?_⟩
  · rw [PyData.canLay0]
    exact lay_dN ns
  · rw [PyData.depth]
    omega
theorem shaped_lR (rs : List (List Nat)) : SeqAt.shaped (.list (dR rs)) = true := by
  have h1 := depth_dR rs
  refine Bool.and_eq_true_iff.mpr ⟨?_, decide_eq_true ?_⟩
  · rw [PyData.canLay0]
    exact lay_dR rs
  · rw [PyData.depth]
    omega
theorem eqv_dN : ∀ a b : List Nat, PyData.eqvAll (dN a) (dN b) = decide (a = b)
  | [], [] => by simp [dN, PyData.eqvAll]
  | [], _ :: _ => by simp [dN, PyData.eqvAll]
  | _ :: _, [] => by simp [dN, PyData.eqvAll]
  | x :: r, y :: t => by
    have ih := eqv_dN r t
    simp only [dN, List.map_cons, PyData.eqvAll, PyData.eqv] at ih ⊢
    rw [ih]
    by_cases h1 : x = y
    · subst h1
      by_cases h2 : r = t
      · subst h2
        simp
      · simp [h2]
    · have : ((x : Int) == (y : Int)) = false := by
        apply beq_eq_false_iff_ne.mpr
        omega
      rw [this]
      simp [h1]
theorem eqv_dR : ∀ a b : List (List Nat), PyData.eqvAll (dR a) (dR b) = decide (a = b)
  | [], [] => by simp [dR, PyData.eqvAll]
  | [], _ :: _ => by simp [dR, PyData.eqvAll]
  | _ :: _, [] => by simp [dR, PyData.eqvAll]
  | x :: r, y :: t => by
    have ih := eqv_dR r t
    have e := eqv_dN x y
    simp only [dR, List.map_cons, PyData.eqvAll, PyData.eqv] at ih ⊢
    rw [ih, e]
    by_cases h1 : x = y
    · subst h1
      by_cases h2 : r = t
      · subst h2
        simp
      · simp [h2]
    · simp [h1]
section
variable {K : PySem.W.Frag} {H H' : Hp} {σ : L2.St} {ta tb : TE}
theorem dp_nats : ∀ ns : List Nat, DpAll K H (ns.map vN) (dN ns)
  | [] => .nil
  | a :: r => .cons (.int _) (dp_nats r)
theorem dp_tups : ∀ {ys : List V} {rs : List (List Nat)}, TupsAt K H ys rs → DpAll K H ys (dR rs)
  | _, _, .nil => .nil
  | _, _, .cons h t => by
    obtain ⟨a, rfl, ha⟩ := h
    exact .cons (.tup ha (dp_nats _)) (dp_tups t)
theorem rv_eqLN {p q : Addr} {a b : List Nat} (h1 : SqL K H p (a.map vN)) (h2 : SqL K H q (b.map vN)) : RV (rEqD K) (.ref p) (.ref q) H (.bl (decide (a = b))) := fun H1 e Q k =>
  ⟨_, _, .lst (ex_l e h1) (dp_nats a), .lst (ex_l e h2) (dp_nats b), shaped_lN a, shaped_lN b, by
    rw [show PyData.eqv (.list (dN a)) (.list (dN b)) = decide (a = b) by rw [PyData.eqv, eqv_dN]]
    exact k H1 (Ex.refl H1)⟩
theorem rv_neLN {p q : Addr} {a b : List Nat} (h1 : SqL K H p (a.map vN)) (h2 : SqL K H q (b.map vN)) : RV (rNeD K) (.ref p) (.ref q) H (.bl (!decide (a = b))) := fun H1 e Q k =>
  ⟨_, _, .lst (ex_l e h1) (dp_nats a), .lst (ex_l e h2) (dp_nats b), shaped_lN a, shaped_lN b, by
    rw [show PyData.eqv (.list (dN a)) (.list (dN b)) = decide (a = b) by rw [PyData.eqv, eqv_dN]]
    exact k H1 (Ex.refl H1)⟩
theorem rv_neTN {p q : Addr} {a b : List Nat} (h1 : SqT K H p (a.map vN)) (h2 : SqT K H q (b.map vN)) : RV (rNeD K) (.ref p) (.ref q) H (.bl (!decide (a = b))) := fun H1 e Q k =>
  ⟨_, _, .tup (ex_t e h1) (dp_nats a), .tup (ex_t e h2) (dp_nats b), shaped_tN a, shaped_tN b, by
    rw [show PyData.eqv (.tuple (dN a)) (.tuple (dN b)) = decide (a = b) by rw [PyData.eqv, eqv_dN]]
    exact k H1 (Ex.refl H1)⟩
theorem rv_eqTN {p q : Addr} {a b : List Nat} (h1 : SqT K H p (a.map vN)) (h2 : SqT K H q (b.map vN)) : RV (rEqD K) (.ref p) (.ref q) H (.bl (decide (a = b))) := fun H1 e Q k =>
  ⟨_, _, .tup (ex_t e h1) (dp_nats a), .tup (ex_t e h2) (dp_nats b), shaped_tN a, shaped_tN b, by
    rw [show PyData.eqv (.tuple (dN a)) (.tuple (dN b)) = decide (a = b) by rw [PyData.eqv, eqv_dN]]
    exact k H1 (Ex.refl H1)⟩
theorem rv_neLR {p q : Addr} {ys zs : List V} {a b : List (List Nat)} (h1 : SqL K H p ys) (t1 : TupsAt K H ys a) (h2 : SqL K H q zs) (t2 : TupsAt K H zs b) : RV (rNeD K) (.ref p) (.ref q) H (.bl (!decide (a = b))) := fun H1 e Q k =>
  ⟨_, _, .lst (ex_l e h1) (dp_tups (t1.keep (KeepT.ex e))), .lst (ex_l e h2) (dp_tups (t2.keep (KeepT.ex e))), shaped_lR a, shaped_lR b, by
    rw [show PyData.eqv (.list (dR a)) (.list (dR b)) = decide (a = b) by rw [PyData.eqv, eqv_dR]]
    exact k H1 (Ex.refl H1)⟩
end
end Kw
set_option Elab.async false
set_option linter.all false
set_option maxRecDepth 100000
set_option maxHeartbeats 4000000
namespace Kw
open PySem PySem.Spec PyProof.Rows L2 Evl
/-! ### data: what stays -/
section
variable {K : PySem.W.Frag} {H H' : Hp}
mutual
theorem dp_ex (e : Ex H H') : ∀ (d : PyData) (v : V), Dp K H v d → Dp K H' v d
  | .none, _, h => by cases h; exact .non
  | .bool b, _, h => by cases h; exact .bl b
  | .int i, _, h => by cases h; exact .int i
  | .str x, _, h => by cases h; exact .str x
  | .list ds, _, h => by
    cases h with
    | lst h a => exact .lst (ex_l e h) (dpA_ex e ds _ a)
  | .tuple ds, _, h => by
    cases h with
    | tup h a => exact .tup (ex_t e h) (dpA_ex e ds _ a)
  | .dict _, _, h => by cases h
theorem dpA_ex (e : Ex H H') : ∀ (ds : List PyData) (vs : List V), DpAll K H vs ds → DpAll K H' vs ds
  | [], _, h => by cases h; exact .nil
  | d :: ds, _, h => by
    cases h with
    | cons a b => exact .cons (dp_ex e d _ a) (dpA_ex e ds _ b)
end
mutual
/-- no list within -/
def Fz : PyData → Bool
  | .none => true
  | .bool _ => true
  | .int _ => true
  | .str _ => true
  | .tuple ds => FzA ds
  | .list _ => false
  | .dict _ => false
def FzA : List PyData → Bool
  | [] => true
  | d :: ds => Fz d && FzA ds
end
mutual
theorem dp_keep (e : KeepT H H') : ∀ (d : PyData) (v : V), Fz d = true → Dp K H v d → Dp K H' v d
  | .none, _, _, h => by cases h; exact .non
  | .bool b, _, _, h => by cases h; exact .bl b
  | .int i, _, _, h => by cases h; exact .int i
  | .str x, _, _, h => by cases h; exact .str x
  | .list ds, _, f, h => by simp [Fz] at f
  | .tuple ds, _, f, h => by
    cases h with
    | tup h a => exact .tup (keep_t e h) (dpA_keep e ds _ (by simpa [Fz] using f) a)
  | .dict _, _, _, h => by cases h
theorem dpA_keep (e : KeepT H H') : ∀ (ds : List PyData) (vs : List V), FzA ds = true → DpAll K H vs ds → DpAll K H' vs ds
  | [], _, _, h => by cases h; exact .nil
  | d :: ds, _, f, h => by
    cases h with
    | cons a b =>
      simp only [FzA, Bool.and_eq_true] at f
      exact .cons (dp_keep e d _ f.1 a) (dpA_keep e ds _ f.2 b)
end
theorem dpA_paired : ∀ {vs : List V} {ds : List PyData}, DpAll K H vs ds → Paired (Dp K H) vs ds
  | _, [], h => by cases h; exact .nil
  | _, d :: ds, h => by
    cases h with
    | cons a b => exact .cons a (dpA_paired b)
theorem dpA_of : ∀ {vs : List V} {ds : List PyData}, Paired (Dp K H) vs ds → DpAll K H vs ds
  | _, _, .nil => .nil
  | _, _, .cons a b => .cons a (dpA_of b)
theorem dpA_len {vs : List V} {ds : List PyData} (h : DpAll K H vs ds) : vs.length = ds.length := paired_len (dpA_paired h)
theorem dpA_get {vs : List V} {ds : List PyData} {i : Nat} {v : V} (h : DpAll K H vs ds) (hv : vs[i]? = some v) : ∃ d, ds[i]? = some d ∧ Dp K H v d := paired_get (dpA_paired h) hv
theorem dpA_get2 {vs : List V} {ds : List PyData} {i : Nat} {d : PyData} (h : DpAll K H vs ds) (hd : ds[i]? = some d) : ∃ v, vs[i]? = some v ∧ Dp K H v d := paired_get2 (dpA_paired h) hd
theorem dpA_strs : ∀ zs : List Str, DpAll K H (zs.map V.str) (zs.map PyData.str)
  | [] => .nil
  | z :: r => .cons (.str z) (dpA_strs r)
theorem dpA_strs_inv : ∀ {vs : List V} {zs : List Str}, DpAll K H vs (zs.map PyData.str) → vs = zs.map V.str
  | _, [], h => by cases h; rfl
  | _, z :: r, h => by
    cases h with
    | cons a b =>
      cases a
      rw [dpA_strs_inv b]
      rfl
theorem dpA_nats : ∀ ns : List Nat, DpAll K H (ns.map vN) (ns.map fun (i : Nat) => PyData.int (i : Int))
  | [] => .nil
  | n :: r => .cons (.int _) (dpA_nats r)
theorem dpA_nats_inv : ∀ {vs : List V} {ns : List Nat}, DpAll K H vs (ns.map fun (i : Nat) => PyData.int (i : Int)) → vs = ns.map vN
  | _, [], h => by cases h; rfl
  | _, z :: r, h => by
    cases h with
    | cons a b =>
      cases a
      rw [dpA_nats_inv b]
      rfl
theorem dp_tup_inv {v : V} {ds : List PyData} (h : Dp K H v (.tuple ds)) : ∃ a xs, v = .ref a ∧ SqT K H a xs ∧ DpAll K H xs ds := by
  cases h with
  | tup h a => exact ⟨_, _, rfl, h, a⟩
theorem dp_lst_inv {v : V} {ds : List PyData} (h : Dp K H v (.list ds)) : ∃ a xs, v = .ref a ∧ SqL K H a xs ∧ DpAll K H xs ds := by
  cases h with
  | lst h a => exact ⟨_, _, rfl, h, a⟩
end
/-! ### its kind -/
def tyOf : PyData → String
  | .none => "NoneType"
  | .bool _ => "bool"
  | .int _ => "int"
  | .str _ => "str"
  | .list _ => "list"
  | .tuple _ => "tuple"
  | .dict _ => "dict"
section
variable {K : PySem.W.Frag} {σ : L2.St} {H H' : Hp} {ta tb tc te tl : TE} {t u : TT} {x y z v : V} {r r' : R2} {d : PyData}
theorem ty_lst {a : Addr} {xs : List V} (h : SqL K H a xs) : TyX K H (.ref a) (.type "list") := by
  rcases h with (h | ⟨o, h⟩) | ⟨o, its, n, h1, h2, _⟩
  · exact .base (.lst h)
  · exact .base (.frz h)
  · exact .kList h1 h2
theorem ty_dp (h : Dp K H v d) : TyX K H v (.type (tyOf d)) := by
  cases h with
  | non => exact .base .non
  | bl b => exact .base (.bl b)
  | int i => exact .base (.int i)
  | str x => exact .base (.str x)
  | lst h a => exact ty_lst h
  | tup h a => exact ty_tup h
theorem ev_isiD {U : String} {b : Bool} (ha : Ev ta σ H v) (hb : Ev tb σ H (.ty U)) (hd : Dp K H v d) (hk : kitB (tyOf d) U = some b) : Ev (tCB (rIsi K) (tCons ta (tCons tb tNil))) σ H (.bl b) := ev_isi ha hb (fun H1 e => ty_dp (dp_ex e _ _ hd)) hk
def isTupD : PyData → Bool
  | .tuple _ => true
  | _ => false
def isStrD : PyData → Bool
  | .str _ => true
  | _ => false
def isLstD : PyData → Bool
  | .list _ => true
  | _ => false
def isIntD : PyData → Bool
  | .int _ => true
  | _ => false
def isBolD : PyData → Bool
  | .bool _ => true
  | _ => false
theorem kit_tup (h : Dp K H v d) : kitB (tyOf d) "tuple" = some (isTupD d) := by
  cases h <;> first | exact (by decide +kernel : kitB "NoneType" "tuple" = some false) | exact (by decide +kernel : kitB "bool" "tuple" = some false) | exact (by decide +kernel : kitB "int" "tuple" = some false) | exact (by decide +kernel : kitB "str" "tuple" = some false) | exact (by decide +kernel : kitB "list" "tuple" = some false) | exact (by decide +kernel : kitB "tuple" "tuple" = some true)
theorem kit_str (h : Dp K H v d) : kitB (tyOf d) "str" = some (isStrD d) := by
  cases h <;> first | exact (by decide +kernel : kitB "NoneType" "str" = some false) | exact (by decide +kernel : kitB "bool" "str" = some false) | exact (by decide +kernel : kitB "int" "str" = some false) | exact (by decide +kernel : kitB "str" "str" = some true) | exact (by decide +kernel : kitB "list" "str" = some false) | exact (by decide +kernel : kitB "tuple" "str" = some false)
theorem kit_int (h : Dp K H v d) : kitB (tyOf d) "int" = some (isIntD d || isBolD d) := by
  cases h <;> first | exact (by decide +kernel : kitB "NoneType" "int" = some false) | exact (by decide +kernel : kitB "bool" "int" = some true) | exact (by decide +kernel : kitB "int" "int" = some true) | exact (by decide +kernel : kitB "str" "int" = some false) | exact (by decide +kernel : kitB "list" "int" = some false) | exact (by decide +kernel : kitB "tuple" "int" = some false)
theorem kit_bol (h : Dp K H v d) : kitB (tyOf d) "bool" = some (isBolD d) := by
  cases h <;> first | exact (by decide +kernel : kitB "NoneType" "bool" = some false) | exact (by decide +kernel : kitB "bool" "bool" = some true) | exact (by decide +kernel : kitB "int" "bool" = some false) | exact (by decide +kernel : kitB "str" "bool" = some false) | exact (by decide +kernel : kitB "list" "bool" = some false) | exact (by decide +kernel : kitB "tuple" "bool" = some false)
theorem kit_lst (h : Dp K H v d) : kitB (tyOf d) "list" = some (isLstD d) := by
  cases h <;> first | exact (by decide +kernel : kitB "NoneType" "list" = some false) | exact (by decide +kernel : kitB "bool" "list" = some false) | exact (by decide +kernel : kitB "int" "list" = some false) | exact (by decide +kernel : kitB "str" "list" = some false) | exact (by decide +kernel : kitB "list" "list" = some true) | exact (by decide +kernel : kitB "tuple" "list" = some false)
end
end Kw
set_option Elab.async false
set_option linter.all false
set_option maxRecDepth 100000
set_option maxHeartbeats 4000000
namespace Kw
open PySem PySem.Spec PyProof.Rows L2 Evl
/-! ### what is left of a text without its letters -/
def low (c : Nat) : Bool := decide (97 ≤ c) && decide (c ≤ 122)
def lowB (z : Str) : Bool := z.cps.toList.all low
theorem str_ext {a b : Str} (h : a.cps.toList = b.cps.toList) : a = b := by
  cases a; cases b
  congr 1
  exact Array.toList_inj.mp h
theorem str_nil (a : Str) : a = ("" : Str) ↔ a.cps.toList = [] := by
  constructor
  · rintro rfl
    rfl
  · intro h
    exact str_ext h
theorem strip_nil (goes : Nat → Bool) (x : Str) : Txt.stripBy goes true true x = ("" : Str) ↔ x.cps.toList.all goes = true := by
  have hx : x.length = x.cps.toList.length := rfl
  generalize hl : x.cps.toList = l at hx
  constructor
  · intro h
    rcases hall : l.all goes with _ | _
    · exfalso
      have htw := List.takeWhile_append_dropWhile (p := goes) (l := l)
      cases hd : l.dropWhile goes with
      | nil =>
        rw [hd, List.append_nil] at htw
        have : l.all goes = true := by
          rw [← htw]
          exact List.all_takeWhile
        rw [this] at hall
        cases hall
      | cons c r =>
        have hc : goes c = false := by
          have := List.head_dropWhile_not goes (l := l) (by rw [hd]; exact List.cons_ne_nil _ _)
          simpa [hd] using this
        have hdrop : l.drop (l.takeWhile goes).length = c :: r := by
          rw [hd] at htw
          have h3 := List.drop_left (l₁ := l.takeWhile goes) (l₂ := c :: r)
          rw [htw] at h3
          exact h3
        have hlen : l.length = (l.takeWhile goes).length + (r.length + 1) := by
          conv => lhs; rw [← htw, hd]
          rw [List.length_append, List.length_cons]
        have hrev : (((c :: r).reverse).takeWhile goes).length ≤ r.length := by
          rw [List.reverse_cons]
          rw [List.takeWhile_append]
          split
          · rw [List.takeWhile_cons_of_neg (by rw [hc]; decide), List.append_nil, List.length_reverse]
            exact Nat.le_refl _
          · have := (List.takeWhile_prefix (p := goes) (l := r.reverse)).length_le
            rw [List.length_reverse] at this
            exact this
        unfold Txt.stripBy at h
        split at h
        · rw [str_nil, hl] at h
          rw [h] at hlen
          simp at hlen
        · unfold PySem.stripped at h
          rw [str_nil] at h
          unfold PySem.Builtin.Str.strSub at h
          have h2 := congrArg List.length h
          simp only [PySem.stripLo, PySem.stripHi, if_true, hl, Array.length_toList, Array.size_extract, List.length_nil, hdrop] at h2
          rw [show x.cps.size = l.length by rw [← hl]; rfl, hx] at h2
          omega
    · rfl
  · intro hall
    have htw : l.takeWhile goes = l := by
      have h2 := List.all_eq_true.mp hall
      clear hall hl hx
      induction l with
      | nil => rfl
      | cons a r ih =>
        rw [List.takeWhile_cons_of_pos (h2 a (List.mem_cons_self ..)), ih fun b hb => h2 b (List.mem_cons_of_mem _ hb)]
    unfold Txt.stripBy
    split
    · next hs =>
      unfold PySem.stripSame PySem.stripLo at hs
      rw [hl, htw] at hs
      simp at hs
      rw [str_nil, hl]
      exact hs.1
    · rw [str_nil]
      unfold PySem.stripped PySem.Builtin.Str.strSub PySem.stripLo
      simp only [if_true, hl, htw]
      apply List.eq_nil_of_length_eq_zero
      rw [Array.length_toList, Array.size_extract]
      unfold PySem.stripHi
      rw [show x.cps.size = l.length by rw [← hl]; rfl]
      omega
theorem goes_low (c : Nat) : (Str.ofString "abcdefghijklmnopqrstuvwxyz").cps.contains c = low c := by
  have e : (Str.ofString "abcdefghijklmnopqrstuvwxyz").cps = ((List.range 26).map (97 + ·)).toArray := by decide +kernel
  rw [e]
  have h : ((List.range 26).map (97 + ·)).toArray.contains c = true ↔ low c = true := by
    rw [Array.contains_iff_mem, List.mem_toArray, List.mem_map]
    unfold low
    rw [Bool.and_eq_true, decide_eq_true_eq, decide_eq_true_eq]
    constructor
    · rintro ⟨i, hi, rfl⟩
      have := List.mem_range.mp hi
      omega
    · rintro ⟨h1, h2⟩
      exact ⟨c - 97, List.mem_range.mpr (by omega), by omega⟩
  cases h1 : ((List.range 26).map (97 + ·)).toArray.contains c <;> cases h2 : low c
  · rfl
  · rw [h.mpr h2] at h1; cases h1
  · rw [h.mp h1] at h2; cases h2
  · rfl
theorem strip_low (x : Str) : decide (V.str (Txt.stripChars x (Str.ofString "abcdefghijklmnopqrstuvwxyz")) = V.str ("" : Str)) = lowB x := by
  have h := strip_nil (Str.ofString "abcdefghijklmnopqrstuvwxyz").cps.contains x
  have e : x.cps.toList.all (Str.ofString "abcdefghijklmnopqrstuvwxyz").cps.contains = lowB x := by
    unfold lowB
    congr 1
    funext c
    exact goes_low c
  rw [e] at h
  cases hb : lowB x with
  | true => exact decide_eq_true (congrArg V.str (h.mpr hb))
  | false =>
    refine decide_eq_false fun z => ?_
    have := h.mp (V.str.inj z)
    rw [this] at hb
    cases hb
theorem joinL_nil : ∀ l : List (List Nat), TL.joinL [] l = l.flatten
  | [] => rfl
  | [p] => by simp [TL.joinL]
  | p :: q :: r => by
    show p ++ ([] ++ TL.joinL [] (q :: r)) = _
    rw [joinL_nil (q :: r)]
    rfl
theorem join_low (zs : List Str) : lowB (Txt.join ("" : Str) zs) = zs.all lowB := by
  unfold lowB
  rw [show (Txt.join ("" : Str) zs).cps.toList = (zs.map fun z => z.cps.toList).flatten from ?_]
  · rw [List.all_flatten, List.all_map]
    rfl
  · rw [TL.join_eq]
    exact (TL.tl_join ("" : Str) zs).trans (joinL_nil _)
end Kw
set_option Elab.async false
set_option linter.all false
set_option maxRecDepth 100000
set_option maxHeartbeats 4000000
namespace Kw
open PySem PySem.Spec PyProof.Rows L2 Evl
abbrev Box := List Str × List Str
abbrev House := List Box × List Str
def BoxAt (K : PySem.W.Frag) (H : Hp) (v : V) (b : Box) : Prop := ∃ a l k : Addr, v = .ref a ∧ SqT K H a [.ref l, .ref k] ∧ SqT K H l (b.1.map V.str) ∧ SqT K H k (b.2.map V.str)
def BoxesT (K : PySem.W.Frag) (H : Hp) (a : Addr) (bs : List Box) : Prop := ∃ vs, SqT K H a vs ∧ Paired (BoxAt K H) vs bs
def HouseAt (K : PySem.W.Frag) (H : Hp) (v : V) (h : House) : Prop := ∃ a b k : Addr, v = .ref a ∧ SqT K H a [.ref b, .ref k] ∧ BoxesT K H b h.1 ∧ SqT K H k (h.2.map V.str)
section
variable {K : PySem.W.Frag} {H H' : Hp}
theorem BoxAt.keep {v : V} {b : Box} (e : KeepT H H') (h : BoxAt K H v b) : BoxAt K H' v b := by
  obtain ⟨a, l, k, h1, h2, h3, h4⟩ := h
  exact ⟨a, l, k, h1, keep_t e h2, keep_t e h3, keep_t e h4⟩
theorem BoxesT.keep {a : Addr} {bs : List Box} (e : KeepT H H') (h : BoxesT K H a bs) : BoxesT K H' a bs := by
  obtain ⟨vs, h1, h2⟩ := h
  exact ⟨vs, keep_t e h1, paired_imp h2 fun _ _ h => h.keep e⟩
theorem HouseAt.keep {v : V} {h : House} (e : KeepT H H') (x : HouseAt K H v h) : HouseAt K H' v h := by
  obtain ⟨a, b, k, h1, h2, h3, h4⟩ := x
  exact ⟨a, b, k, h1, keep_t e h2, h3.keep e, keep_t e h4⟩
end
def Rising (cs : List Str) : Prop := ∀ i x y, cs[i]? = some x → cs[i + 1]? = some y → x.cps.toList < y.cps.toList
def colB (z : Str) : Bool := (decide (1 ≤ z.length) && decide (z.length ≤ 8)) && z.cps.toList.all fun c => decide (97 ≤ c) && decide (c ≤ 122)
def OkCols (cs : List Str) (m : Nat) : Prop := cs.length ≤ m ∧ (∀ c ∈ cs, colB c = true) ∧ Rising cs
def OkBox (b : Box) : Prop := OkCols b.1 3 ∧ OkCols b.2 6
def OkHouse (h : House) : Prop := 1 ≤ h.1.length ∧ h.1.length ≤ 30 ∧ (∀ b ∈ h.1, OkBox b) ∧ OkCols h.2 6
theorem colB_len {z : Str} (h : colB z = true) : z.length ≤ 8 := by
  unfold colB at h
  simp only [Bool.and_eq_true, decide_eq_true_eq] at h
  exact h.1.2
def fitsB (ls hs : List Str) : Bool := ls.all fun c => decide (c ∈ hs)
def bx (bs : List Box) (i : Nat) : Box := bs.getD i ([], [])
def keysIn (bs : List Box) (is : List Nat) : List Str := is.flatMap fun i => (bx bs i).2
def readyOf (bs : List Box) (held : List Str) (closed : List Nat) : List Nat := closed.filter fun i => fitsB (bx bs i).1 held
def less (closed ready : List Nat) : List Nat := closed.filter fun i => !decide (i ∈ ready)
def roundsF (bs : List Box) : Nat → List Str → List Nat → List (List Nat)
  | 0, _, _ => []
  | n + 1, held, closed => let r := readyOf bs held closed; if r = [] then [] else r :: roundsF bs n (held ++ keysIn bs r) (less closed r)
def roundsOf (bs : List Box) (held : List Str) (closed : List Nat) : List (List Nat) := roundsF bs (closed.length + 1) held closed
def shutOf (bs : List Box) (hand : List Str) (broken : List Nat) : List Nat :=
  less (less (List.range bs.length) broken) (roundsOf bs (hand ++ keysIn bs broken) (less (List.range bs.length) broken)).flatten
theorem less_len (c r : List Nat) : (less c r).length ≤ c.length := List.length_filter_le _ _
theorem less_lt {bs : List Box} {held : List Str} {closed : List Nat} (h : readyOf bs held closed ≠ []) : (less closed (readyOf bs held closed)).length < closed.length := by
  obtain ⟨i, hi⟩ := List.exists_mem_of_ne_nil _ h
  have hc : i ∈ closed := (List.mem_filter.mp hi).1
  unfold less
  rcases Nat.lt_or_ge (closed.filter fun i => !decide (i ∈ readyOf bs held closed)).length closed.length with h1 | h1
  · exact h1
  · have e := (List.filter_sublist (p := fun i => !decide (i ∈ readyOf bs held closed)) (l := closed)).eq_of_length_le h1
    rw [← e] at hc
    have := (List.mem_filter.mp hc).2
    rw [decide_eq_true hi] at this
    cases this
theorem roundsF_fuel (bs : List Box) : ∀ (n m : Nat) (held : List Str) (closed : List Nat), closed.length < n → closed.length < m → roundsF bs n held closed = roundsF bs m held closed
  | 0, _, _, _, h, _ => by omega
  | _, 0, _, _, _, h => by omega
  | n + 1, m + 1, held, closed, h1, h2 => by
    show (if readyOf bs held closed = [] then [] else _) = (if readyOf bs held closed = [] then [] else _)
    by_cases h : readyOf bs held closed = []
    · rw [if_pos h, if_pos h]
    · rw [if_neg h, if_neg h]
      have := less_lt h
      rw [roundsF_fuel bs n m _ _ (by omega) (by omega)]
theorem roundsOf_nil {bs : List Box} {held : List Str} {closed : List Nat} (h : readyOf bs held closed = []) : roundsOf bs held closed = [] := by
  unfold roundsOf
  show (if readyOf bs held closed = [] then [] else _) = _
  rw [if_pos h]
theorem roundsOf_cons {bs : List Box} {held : List Str} {closed : List Nat} (h : readyOf bs held closed ≠ []) :
    roundsOf bs held closed = readyOf bs held closed :: roundsOf bs (held ++ keysIn bs (readyOf bs held closed)) (less closed (readyOf bs held closed)) := by
  unfold roundsOf
  show (if readyOf bs held closed = [] then [] else _) = _
  rw [if_neg h]
  have := less_lt h
  rw [roundsF_fuel bs closed.length _ _ _ this (Nat.lt_succ_self _)]
/-- boxes, a list or a tuple of them -/
def BoxesS (K : PySem.W.Frag) (H : Hp) (a : Addr) (bs : List Box) : Prop := ∃ vs, (SqL K H a vs ∨ SqT K H a vs) ∧ Paired (BoxAt K H) vs bs
section
variable {K : PySem.W.Frag} {σ : L2.St} {H H' : Hp} {ta tb te tl : TE} {x y z v : V}
theorem BoxesS.ex {a : Addr} {bs : List Box} (e : Ex H H') (h : BoxesS K H a bs) : BoxesS K H' a bs := by
  obtain ⟨vs, h1, h2⟩ := h
  exact ⟨vs, h1.elim (fun h => .inl (ex_l e h)) (fun h => .inr (ex_t e h)), paired_imp h2 fun _ _ h => h.keep (KeepT.ex e)⟩
theorem BoxesS.of {a : Addr} {bs : List Box} (h : BoxesT K H a bs) : BoxesS K H a bs := by
  obtain ⟨vs, h1, h2⟩ := h
  exact ⟨vs, .inr h1, h2⟩
theorem bx_get {bs : List Box} {i : Nat} (h : i < bs.length) : bs[i]? = some (bx bs i) := by
  unfold bx
  rw [List.getD_eq_getElem?_getD, List.getElem?_eq_getElem h]
  rfl
/-- boxes[i][0], boxes[i][1] -/
theorem box_at {a : Addr} {bs : List Box} {i : Nat} (h : BoxesS K H a bs) (hi : i < bs.length) (ha : Ev ta σ H (.ref a)) (hb : Ev tb σ H (vN i)) :
    ∃ l k : Addr, SqT K H l ((bx bs i).1.map V.str) ∧ SqT K H k ((bx bs i).2.map V.str) ∧ Ev (tOp (rIxT K) (tOp (rIx K) ta tb) (tC (.int 0))) σ H (.ref l) ∧ Ev (tOp (rIxT K) (tOp (rIx K) ta tb) (tC (.int 1))) σ H (.ref k) := by
  obtain ⟨vs, h1, h2⟩ := h
  obtain ⟨v, hv, p, l, k, rfl, hp, hl, hk⟩ := paired_get2 h2 (bx_get hi)
  have e := ev_op ha hb (rIx_seq (K := K) h1 (atI_nat hv))
  exact ⟨l, k, hl, hk, ev_op e ev_c (rv_ixT hp at0), ev_op e ev_c (rv_ixT hp at1)⟩
theorem ev_lenB {a : Addr} {bs : List Box} (ha : Ev ta σ H (.ref a)) (h : BoxesS K H a bs) : Ev (tCB (rLenS K) (tCons ta tNil)) σ H (.int (bs.length : Int)) := by
  obtain ⟨vs, h1, h2⟩ := h
  rw [← paired_len h2]
  exact h1.elim (fun h => ev_len ha h) (fun h => ev_lenT ha h)
end
theorem keysIn_len {bs : List Box} (hb : ∀ b ∈ bs, b.2.length ≤ 6) : ∀ is : List Nat, (keysIn bs is).length ≤ 6 * is.length
  | [] => by simp [keysIn]
  | i :: r => by
    have ih := keysIn_len hb r
    have : (bx bs i).2.length ≤ 6 := by
      unfold bx
      rw [List.getD_eq_getElem?_getD]
      cases e : bs[i]? with
      | none => simp
      | some b => exact hb b (List.mem_of_getElem? e)
    unfold keysIn at ih ⊢
    rw [List.flatMap_cons, List.length_append, List.length_cons]
    omega
theorem ready_less (bs : List Box) (held : List Str) (closed : List Nat) : (readyOf bs held closed).length + (less closed (readyOf bs held closed)).length = closed.length := by
  have e : less closed (readyOf bs held closed) = closed.filter (fun i => !fitsB (bx bs i).1 held) := by
    unfold less
    apply List.filter_congr
    intro i hi
    congr 1
    cases h : fitsB (bx bs i).1 held with
    | true => exact decide_eq_true (List.mem_filter.mpr ⟨hi, h⟩)
    | false =>
      refine decide_eq_false fun z => ?_
      have := (List.mem_filter.mp z).2
      rw [h] at this
      cases this
  rw [e]
  unfold readyOf
  exact filter_both closed fun i => fitsB (bx bs i).1 held
def Few (bs : List Box) : Prop := bs.length ≤ 30 ∧ ∀ b ∈ bs, b.1.length ≤ 3 ∧ b.2.length ≤ 6
theorem Few.bx {bs : List Box} (h : Few bs) (i : Nat) : (bx bs i).1.length ≤ 3 ∧ (bx bs i).2.length ≤ 6 := by
  unfold Kw.bx
  rw [List.getD_eq_getElem?_getD]
  cases e : bs[i]? with
  | none => simp
  | some b => exact h.2 b (List.mem_of_getElem? e)
theorem flatten_rounds (bs : List Box) : ∀ (n : Nat) (held : List Str) (closed : List Nat), (roundsF bs n held closed).flatten.length ≤ closed.length
  | 0, _, _ => Nat.zero_le _
  | n + 1, held, closed => by
    show (if readyOf bs held closed = [] then [] else _).flatten.length ≤ _
    by_cases h : readyOf bs held closed = []
    · rw [if_pos h]
      exact Nat.zero_le _
    · rw [if_neg h, List.flatten_cons, List.length_append]
      have := flatten_rounds bs n (held ++ keysIn bs (readyOf bs held closed)) (less closed (readyOf bs held closed))
      have := ready_less bs held closed
      omega
theorem OkHouse.few {h : House} (o : OkHouse h) : Few h.1 := ⟨o.2.1, fun b hb => ⟨(o.2.2.1 b hb).1.1, (o.2.2.1 b hb).2.1⟩⟩
def withoutL (cs : List Str) (c : Str) : List Str := cs.filter fun x => !decide (x = c)
def fewerBs (bs : List Box) (c : Str) : List Box := bs.map fun b => (b.1, withoutL b.2 c)
def lostOf (h : House) (c : Str) : List Nat := less (shutOf (fewerBs h.1 c) (withoutL h.2 c) []) (shutOf h.1 h.2 [])
theorem withoutL_len (cs : List Str) (c : Str) : (withoutL cs c).length ≤ cs.length := List.length_filter_le _ _
theorem Few.fewer {bs : List Box} (h : Few bs) (c : Str) : Few (fewerBs bs c) := by
  refine ⟨by unfold fewerBs; rw [List.length_map]; exact h.1, fun b hb => ?_⟩
  obtain ⟨b0, h0, rfl⟩ := List.mem_map.mp hb
  have := h.2 b0 h0
  have := withoutL_len b0.2 c
  exact ⟨by show b0.1.length ≤ 3; omega, by show (withoutL b0.2 c).length ≤ 6; omega⟩
theorem shutOf_len (bs : List Box) (hand : List Str) (br : List Nat) : (shutOf bs hand br).length ≤ bs.length := by
  unfold shutOf
  have h1 := less_len (less (List.range bs.length) br) (roundsOf bs (hand ++ keysIn bs br) (less (List.range bs.length) br)).flatten
  have h2 := less_len (List.range bs.length) br
  rw [List.length_range] at h2
  omega
/-- [x for x in t if x not in u] -/
theorem el_lessT {K : PySem.W.Frag} {σ : L2.St} {H : Hp} {tl tu : TE} {a b : Addr} {j : Nat} {vs : List Nat} {xs ys : List Nat} (ha : Ev tl σ H (.ref a)) (hx : SqT K H a (xs.map vN)) (hl : xs.length ≤ 1000) (hy : SqT K H b (ys.map vN))
    (hw : ∀ x, wipe ((wipe σ vs).set j (some x)) vs = wipe σ vs ∧ ((wipe σ vs).set j (some x))[j]? = some (some x) ∧ ∀ H1, Ev tu ((wipe σ vs).set j (some x)) H1 (.ref b)) :
    EvL (tLc (iTup K tl) (gName j) (tTest (tOp (rIn K true) (tVar j) tu)) (tVar j) vs) σ H ((less xs ys).map vN) := by
  refine el_lc (ew_tup ha hx) (by rw [List.length_map]; omega) (fun i => !decide (xs.getD i 0 ∈ ys)) (fun i => vN (xs.getD i 0)) ?_ (fun i x H1 H2 Q e hi hy' k => ?_)
  · rw [List.length_map]
    exact filter_range_map xs 0 (fun i => !decide (i ∈ ys)) vN
  · obtain ⟨rfl, hx'⟩ := hy'
    have hi' : i < xs.length := by rw [List.length_map] at hi; exact hi
    have ei : xs.getD i 0 = xs[i] := by rw [List.getD_eq_getElem?_getD, List.getElem?_eq_getElem hi']; rfl
    have ex : x = vN xs[i] := by
      rw [List.getElem?_map, List.getElem?_eq_getElem hi'] at hx'
      exact (Option.some.inj hx').symm
    subst ex
    obtain ⟨w1, w2, w3⟩ := hw (vN xs[i])
    refine k _ _ (Ex.refl _) w1 ?_ fun _ => ?_
    · rw [ei, ← inV_nat]
      exact et_test (ev_op (ev_var w2) (w3 _) (rv_niT (ex_t e hy) rfl (flat_nats ys)))
    · rw [ei]
      exact ev_var w2
end Kw
set_option Elab.async false
set_option linter.all false
set_option maxRecDepth 100000
set_option maxHeartbeats 4000000
namespace Kw
open PySem PySem.Spec PyProof.Rows L2 Evl
abbrev sWho : Stmt := topS 7
theorem scWho : FnScope ["thing"] ["thing"] (defScope sWho) := ⟨rfl, rfl, rfl, by decide +kernel, rfl, by decide +kernel, by decide +kernel⟩
section
variable {P : Program} {w : World} {K : PySem.W.Frag} {mg : Str → Option Value} {base : Heap}
def spWho (K : PySem.W.Frag) : Sp := fun vs H Q _ => ∃ (x : V) (T : String) (b1 b2 : Bool), vs = [x] ∧ (∀ H1, Ex H H1 → TyX K H1 x (.type T)) ∧ kitB T "int" = some b1 ∧ kitB T "bool" = some b2 ∧ RetV (.bl (b1 && !b2)) H Q
theorem ok_who {f  : Addr} {fd  : FuncData} {k : Nat} (F : Fun K "is_whole" "is_whole" sWho f fd) (B : Bu mg) : FnOk P w K mg base CX0 (k + 1) f fd ["thing"] (spWho K) := by
  refine F.ok scWho (fun vs H Q E h => ?_) (fun cdv A outer s H vs Q E hr h => ?_)
  · obtain ⟨x, T, b1, b2, rfl, _⟩ := h
    rfl
  · obtain ⟨x, T, b1, b2, rfl, hT, h1, h2, q⟩ := h
    refine ⟨_, (pss_one (ps_ret (pe_and (pe_callB call_isi (by rfl) B.isi boot_isinstance (pa_cons (pv 0) (pa_cons (pe_bltn (v := .ty "int") (by rfl) B.int boot_int rfl) pa_nil))) (pe_one (pe_not (pe_callB call_isi (by rfl) B.isi boot_isinstance (pa_cons (pv 0) (pa_cons (pe_bltn (v := .ty "bool") (by rfl) B.bool (by decide +kernel) rfl) pa_nil)))))))), ?_⟩
    exact s_ret (v := .bl (b1 && !b2)) (ev_andV (ev_isi (K := K) (ev_var (v := x) rfl) ev_c hT h1) fun _ => ev_notV (ev_isi (K := K) (ev_var (v := x) rfl) ev_c hT h2)) (fun H1 e1 => q H1 e1)
theorem who_int {H : Hp} {i : Int} {Q : VK} {E : XK} (q : RetV (.bl true) H Q) : spWho K [.int i] H Q E := ⟨.int i, "int", true, false, rfl, fun H1 _ => .base (.int i), by decide +kernel, by decide +kernel, q⟩
theorem who_dp {H : Hp} {v : V} {d : PyData} {Q : VK} {E : XK} (h : Dp K H v d) (q : RetV (.bl (isIntD d)) H Q) : spWho K [v] H Q E := by
  refine ⟨v, tyOf d, _, _, rfl, fun H1 e => ty_dp (dp_ex e _ _ h), kit_int h, kit_bol h, ?_⟩
  have e : ((isIntD d || isBolD d) && !isBolD d) = isIntD d := by cases d <;> rfl
  rw [e]
  exact q
end
end Kw
set_option Elab.async false
set_option linter.all false
set_option maxRecDepth 100000
set_option maxHeartbeats 4000000
namespace Kw
open PySem
/-! ### which boxes open at all -/
def Closed (bs : List Box) (hand : List Str) (S : Nat → Prop) : Prop := ∀ i, i < bs.length → (∀ c ∈ (bx bs i).1, c ∈ hand ∨ ∃ j, j < bs.length ∧ S j ∧ c ∈ (bx bs j).2) → S i
def Op (bs : List Box) (hand : List Str) (i : Nat) : Prop := ∀ S : Nat → Prop, Closed bs hand S → S i
theorem Op.closed (bs : List Box) (hand : List Str) : Closed bs hand (Op bs hand) := fun i hi h S hS => hS i hi fun c hc => (h c hc).imp id fun ⟨j, h1, h2, h3⟩ => ⟨j, h1, h2 S hS, h3⟩
theorem fits_iff {ls hs : List Str} : fitsB ls hs = true ↔ ∀ c ∈ ls, c ∈ hs := by
  unfold fitsB
  rw [List.all_eq_true]
  exact ⟨fun h c hc => of_decide_eq_true (h c hc), fun h c hc => decide_eq_true (h c hc)⟩
theorem mem_keysIn {bs : List Box} {is : List Nat} {c : Str} : c ∈ keysIn bs is ↔ ∃ i ∈ is, c ∈ (bx bs i).2 := by
  unfold keysIn
  rw [List.mem_flatMap]
/-- boxes opened one behind the other -/
def Seq (bs : List Box) (hand : List Str) (op : List Nat) : Prop := ∀ i ∈ op, i < bs.length ∧ Op bs hand i
theorem Seq.fits {bs : List Box} {hand : List Str} {op : List Nat} (h : Seq bs hand op) {i : Nat} (hi : i < bs.length) (hf : fitsB (bx bs i).1 (hand ++ keysIn bs op) = true) : Op bs hand i := by
  refine Op.closed bs hand i hi fun c hc => ?_
  rcases List.mem_append.mp (fits_iff.mp hf c hc) with z | z
  · exact .inl z
  · obtain ⟨j, h1, h2⟩ := mem_keysIn.mp z
    exact .inr ⟨j, (h j h1).1, (h j h1).2, h2⟩
theorem seq_all {bs : List Box} {hand : List Str} {op : List Nat} (hmax : ∀ i, i < bs.length → i ∉ op → fitsB (bx bs i).1 (hand ++ keysIn bs op) = false) {i : Nat} (h : Op bs hand i) : i ∈ op := by
  refine h (fun j => j ∈ op) fun j hj hc => ?_
  by_cases hm : j ∈ op
  · exact hm
  · have := hmax j hj hm
    rw [show fitsB (bx bs j).1 (hand ++ keysIn bs op) = true from fits_iff.mpr fun c hc' => List.mem_append.mpr ((hc c hc').imp id fun ⟨k, _, h2, h3⟩ => mem_keysIn.mpr ⟨k, h2, h3⟩)] at this
    cases this
/-- the rounds open just these -/
theorem rounds_seq (bs : List Box) (hand : List Str) : ∀ (n : Nat) (op closed : List Nat), closed.length < n → Seq bs hand op → (∀ i ∈ closed, i < bs.length) → (∀ i, i < bs.length → i ∈ op ∨ i ∈ closed) → closed.Nodup → (∀ i ∈ op, i ∉ closed) →
    Seq bs hand (op ++ (roundsF bs n (hand ++ keysIn bs op) closed).flatten) ∧ (roundsF bs n (hand ++ keysIn bs op) closed).flatten.Nodup ∧ (∀ i ∈ (roundsF bs n (hand ++ keysIn bs op) closed).flatten, i ∈ closed) ∧
    ∀ i, i < bs.length → i ∉ op ++ (roundsF bs n (hand ++ keysIn bs op) closed).flatten → fitsB (bx bs i).1 (hand ++ keysIn bs (op ++ (roundsF bs n (hand ++ keysIn bs op) closed).flatten)) = false
  | 0, _, _, h, _, _, _, _, _ => by omega
  | n + 1, op, closed, hn, hs, hc, ha, nd, hd => by
    show Seq bs hand (op ++ (if readyOf bs (hand ++ keysIn bs op) closed = [] then [] else _).flatten) ∧ _
    by_cases h : readyOf bs (hand ++ keysIn bs op) closed = []
    · have e : roundsF bs (n + 1) (hand ++ keysIn bs op) closed = [] := if_pos h
      rw [if_pos h, e]
      refine ⟨by rw [List.flatten_nil, List.append_nil]; exact hs, List.nodup_nil, by simp, fun i hi hm => ?_⟩
      rw [List.flatten_nil, List.append_nil] at hm ⊢
      have him := (ha i hi).resolve_left hm
      cases q : fitsB (bx bs i).1 (hand ++ keysIn bs op) with
      | false => rfl
      | true =>
        have : i ∈ readyOf bs (hand ++ keysIn bs op) closed := List.mem_filter.mpr ⟨him, q⟩
        rw [h] at this
        cases this
    · have e : roundsF bs (n + 1) (hand ++ keysIn bs op) closed = readyOf bs (hand ++ keysIn bs op) closed :: roundsF bs n ((hand ++ keysIn bs op) ++ keysIn bs (readyOf bs (hand ++ keysIn bs op) closed)) (less closed (readyOf bs (hand ++ keysIn bs op) closed)) := if_neg h
      have hlt := less_lt h
      rw [if_neg h, e]
      generalize hr : readyOf bs (hand ++ keysIn bs op) closed = r at *
      have ek : (hand ++ keysIn bs op) ++ keysIn bs r = hand ++ keysIn bs (op ++ r) := by
        unfold keysIn
        rw [List.flatMap_append, List.append_assoc]
      have hrm : ∀ i ∈ r, i ∈ closed ∧ fitsB (bx bs i).1 (hand ++ keysIn bs op) = true := fun i hi => by
        rw [← hr] at hi
        exact List.mem_filter.mp hi
      have hs2 : Seq bs hand (op ++ r) := fun i hi => by
        rcases List.mem_append.mp hi with z | z
        · exact hs i z
        · exact ⟨hc i (hrm i z).1, hs.fits (hc i (hrm i z).1) (hrm i z).2⟩
      have ih := rounds_seq bs hand n (op ++ r) (less closed r) (by omega) hs2 (fun i hi => hc i (List.mem_filter.mp hi).1) (fun i hi => by
        by_cases hm : i ∈ r
        · exact .inl (List.mem_append.mpr (.inr hm))
        · rcases ha i hi with z | z
          · exact .inl (List.mem_append.mpr (.inl z))
          · exact .inr (List.mem_filter.mpr ⟨z, by simp [hm]⟩)) (nd.filter _) (fun i hi hm => by
        have hm2 := List.mem_filter.mp hm
        rcases List.mem_append.mp hi with z | z
        · exact hd i z hm2.1
        · simp [z] at hm2)
      rw [← ek] at ih
      rw [List.flatten_cons, ← List.append_assoc]
      obtain ⟨i1, i2, i3, i4⟩ := ih
      refine ⟨i1, ?_, fun i hi => ?_, i4⟩
      · refine List.nodup_append.mpr ⟨?_, i2, fun a ha' b hb hab => ?_⟩
        · rw [← hr]
          exact nd.filter _
        · have := List.mem_filter.mp (i3 b hb)
          rw [← hab] at this
          simp [ha'] at this
      · rcases List.mem_append.mp hi with z | z
        · exact (hrm i z).1
        · exact (List.mem_filter.mp (i3 i z)).1
theorem less_nil (l : List Nat) : less l [] = l := List.filter_eq_self.mpr fun _ _ => rfl
def openedOf (bs : List Box) (hand : List Str) : List Nat := (roundsOf bs hand (List.range bs.length)).flatten
theorem opened_facts (bs : List Box) (hand : List Str) : Seq bs hand (openedOf bs hand) ∧ (openedOf bs hand).Nodup ∧ ∀ i, i < bs.length → i ∉ openedOf bs hand → fitsB (bx bs i).1 (hand ++ keysIn bs (openedOf bs hand)) = false := by
  have h := rounds_seq bs hand ((List.range bs.length).length + 1) [] (List.range bs.length) (Nat.lt_succ_self _) (by intro i hi; cases hi) (fun i hi => List.mem_range.mp hi) (fun i hi => .inr (List.mem_range.mpr hi)) List.nodup_range (by intro i hi; cases hi)
  have e : hand ++ keysIn bs [] = hand := List.append_nil _
  rw [e, List.nil_append] at h
  exact ⟨h.1, h.2.1, h.2.2.2⟩
theorem mem_opened {bs : List Box} {hand : List Str} {i : Nat} : i ∈ openedOf bs hand ↔ Op bs hand i := ⟨fun h => ((opened_facts bs hand).1 i h).2, fun h => seq_all (opened_facts bs hand).2.2 h⟩
theorem shut_eq (bs : List Box) (hand : List Str) : shutOf bs hand [] = less (List.range bs.length) (openedOf bs hand) := by
  unfold shutOf openedOf
  have e : hand ++ keysIn bs [] = hand := List.append_nil _
  rw [less_nil, e]
theorem mem_shut {bs : List Box} {hand : List Str} {i : Nat} : i ∈ shutOf bs hand [] ↔ i < bs.length ∧ ¬ Op bs hand i := by
  rw [shut_eq]
  unfold less
  rw [List.mem_filter, List.mem_range]
  constructor
  · rintro ⟨h1, h2⟩
    refine ⟨h1, fun z => ?_⟩
    rw [decide_eq_true (mem_opened.mpr z)] at h2
    cases h2
  · rintro ⟨h1, h2⟩
    exact ⟨h1, by rw [decide_eq_false (fun z => h2 (mem_opened.mp z))]; rfl⟩
/-- whoever opens boxes one by one till none can be opened has opened just these -/
theorem less_same {bs : List Box} {hand : List Str} {op : List Nat} (hs : Seq bs hand op) (hmax : ∀ i, i < bs.length → i ∉ op → fitsB (bx bs i).1 (hand ++ keysIn bs op) = false) : less (List.range bs.length) op = shutOf bs hand [] := by
  rw [shut_eq]
  unfold less
  apply List.filter_congr
  intro i _
  have : i ∈ op ↔ i ∈ openedOf bs hand := ⟨fun h => mem_opened.mpr (hs i h).2, fun h => seq_all hmax (mem_opened.mp h)⟩
  by_cases h : i ∈ op
  · rw [decide_eq_true h, decide_eq_true (this.mp h)]
  · rw [decide_eq_false h, decide_eq_false fun z => h (this.mpr z)]
/-- one key more, a lock fewer: nothing is shut by it -/
theorem Op.mono {bs bs2 : List Box} {hand hand2 : List Str} (hl : bs2.length = bs.length) (hh : ∀ c ∈ hand, c ∈ hand2) (hk : ∀ i, (∀ c ∈ (bx bs2 i).1, c ∈ (bx bs i).1) ∧ ∀ c ∈ (bx bs i).2, c ∈ (bx bs2 i).2) {i : Nat} (h : Op bs hand i) : Op bs2 hand2 i := by
  intro S hS
  refine h S fun j hj hc => hS j (by omega) fun c hc2 => ?_
  exact (hc c ((hk j).1 c hc2)).imp (hh c) fun ⟨k, h1, h2, h3⟩ => ⟨k, by omega, h2, (hk k).2 c h3⟩
theorem shut_mono {bs bs2 : List Box} {hand hand2 : List Str} (hl : bs2.length = bs.length) (hh : ∀ c ∈ hand, c ∈ hand2) (hk : ∀ i, (∀ c ∈ (bx bs2 i).1, c ∈ (bx bs i).1) ∧ ∀ c ∈ (bx bs i).2, c ∈ (bx bs2 i).2) : less (shutOf bs2 hand2 []) (shutOf bs hand []) = [] := by
  unfold less
  rw [List.filter_eq_nil_iff]
  intro i hi
  have h1 := mem_shut.mp hi
  have : i ∈ shutOf bs hand [] := mem_shut.mpr ⟨by omega, fun z => h1.2 (Op.mono hl hh hk z)⟩
  simp [this]
/-- what stays shut is a lot that is kept shut -/
def keptB (bs : List Box) (hand : List Str) (lot : List Nat) : Bool := !(lot.any fun i => fitsB (bx bs i).1 (hand ++ keysIn bs (less (List.range bs.length) lot)))
theorem shut_kept (bs : List Box) (hand : List Str) : keptB bs hand (shutOf bs hand []) = true := by
  unfold keptB
  rw [Bool.not_eq_true', List.any_eq_false]
  intro i hi hf
  have h1 := mem_shut.mp hi
  refine h1.2 (Op.closed bs hand i h1.1 fun c hc => ?_)
  rcases List.mem_append.mp (fits_iff.mp hf c hc) with z | z
  · exact .inl z
  · obtain ⟨j, h2, h3⟩ := mem_keysIn.mp z
    have h4 := List.mem_filter.mp h2
    have hj := List.mem_range.mp h4.1
    refine .inr ⟨j, hj, ?_, h3⟩
    have hns : j ∉ shutOf bs hand [] := fun y => by
      have := h4.2
      rw [decide_eq_true y] at this
      cases this
    exact Classical.byContradiction fun y => hns (mem_shut.mpr ⟨hj, y⟩)
theorem sorted_unique : ∀ {l m : List Int}, l.Perm m → l.Pairwise (· ≤ ·) → m.Pairwise (· ≤ ·) → l = m := by
  intro l m p h1 h2
  exact p.eq_of_pairwise (fun a b _ _ x y => Int.le_antisymm x y) h1 h2
theorem opened_still (bs : List Box) (hand : List Str) : (openedOf bs hand ++ shutOf bs hand []).Perm (List.range bs.length) := by
  rw [shut_eq]
  have nd := (opened_facts bs hand).2.1
  have hs := (opened_facts bs hand).1
  refine (List.perm_ext_iff_of_nodup ?_ List.nodup_range).mpr fun i => ?_
  · refine List.nodup_append.mpr ⟨nd, List.nodup_range.filter _, fun a ha b hb hab => ?_⟩
    have := (List.mem_filter.mp hb).2
    rw [← hab] at this
    rw [decide_eq_true ha] at this
    cases this
  · rw [List.mem_append, List.mem_range]
    constructor
    · rintro (h | h)
      · exact (hs i h).1
      · exact List.mem_range.mp (List.mem_filter.mp h).1
    · intro h
      by_cases hm : i ∈ openedOf bs hand
      · exact .inl hm
      · exact .inr (List.mem_filter.mpr ⟨List.mem_range.mpr h, by rw [decide_eq_false hm]; rfl⟩)
end Kw
set_option Elab.async false
set_option linter.all false
set_option maxRecDepth 100000
set_option maxHeartbeats 4000000
namespace Kw
open PySem PySem.Spec PyProof.Rows L2 Evl
abbrev sPair : Stmt := topS 8
theorem scPair : FnScope ["thing"] ["thing"] (defScope sPair) := ⟨rfl, rfl, rfl, by decide +kernel, rfl, by decide +kernel, by decide +kernel⟩
abbrev sCols : Stmt := topS 9
theorem scCols : FnScope ["thing", "most", "before", "part"] ["thing", "most"] (defScope sCols) := ⟨rfl, rfl, rfl, by decide +kernel, rfl, by decide +kernel, by decide +kernel⟩
abbrev sCol : Stmt := topS 10
theorem scCol : FnScope ["thing"] ["thing"] (defScope sCol) := ⟨rfl, rfl, rfl, by decide +kernel, rfl, by decide +kernel, by decide +kernel⟩
abbrev sBox : Stmt := topS 18
theorem scBox : FnScope ["thing"] ["thing"] (defScope sBox) := ⟨rfl, rfl, rfl, by decide +kernel, rfl, by decide +kernel, by decide +kernel⟩
abbrev sIsH : Stmt := topS 19
theorem scIsH : FnScope ["thing", "boxes", "hand", "box"] ["thing"] (defScope sIsH) := ⟨rfl, rfl, rfl, by decide +kernel, rfl, by decide +kernel, by decide +kernel⟩
abbrev sChk : Stmt := topS 20
theorem scChk : FnScope ["house"] ["house"] (defScope sChk) := ⟨rfl, rfl, rfl, by decide +kernel, rfl, by decide +kernel, by decide +kernel⟩
/-! ### what a reading tells of data -/
mutual
/-- no long text within -/
def StB : PyData → Bool
  | .none => true
  | .bool _ => true
  | .int _ => true
  | .str z => decide (z.length ≤ 1000)
  | .tuple ds => StBA ds
  | .list ds => StBA ds
  | .dict _ => false
def StBA : List PyData → Bool
  | [] => true
  | d :: ds => StB d && StBA ds
end
theorem stBA_mem : ∀ {ds : List PyData} {d : PyData}, StBA ds = true → d ∈ ds → StB d = true
  | [], _, _, h => by cases h
  | a :: r, d, h, hm => by
    simp only [StBA, Bool.and_eq_true] at h
    rcases List.mem_cons.mp hm with rfl | hm
    · exact h.1
    · exact stBA_mem h.2 hm
theorem stBA_of : ∀ {ds : List PyData}, (∀ d ∈ ds, StB d = true) → StBA ds = true
  | [], _ => by simp [StBA]
  | a :: r, h => by
    simp only [StBA, Bool.and_eq_true]
    exact ⟨h a (List.mem_cons_self ..), stBA_of fun d hd => h d (List.mem_cons_of_mem _ hd)⟩
def risD : Str → List PyData → Bool
  | _, [] => true
  | b, .str z :: r => (decide (b.cps.toList < z.cps.toList) && decide (z.length ≤ 8)) && risD z r
  | _, _ :: _ => false
def lowD : PyData → Bool
  | .str z => lowB z
  | _ => false
def pairD : PyData → Bool
  | .tuple [_, _] => true
  | _ => false
def colsD (m : Nat) : PyData → Bool
  | .tuple ds => decide (ds.length ≤ m) && (risD "" ds && ds.all lowD)
  | _ => false
def boxD : PyData → Bool
  | .tuple [l, k] => colsD 3 l && colsD 6 k
  | _ => false
def houseD : PyData → Bool
  | .tuple [.tuple bs, h] => (decide (1 ≤ bs.length) && decide (bs.length ≤ 30)) && (bs.all boxD && colsD 6 h)
  | _ => false
section
variable {K : PySem.W.Frag} {σ : L2.St} {H H' : Hp} {ta tb tc te tl : TE} {t u : TT} {x y z v : V} {r r' : R2}
theorem ev_lenStr {z : Str} (ha : Ev ta σ H (.str z)) (hz : z.length ≤ 100000) : Ev (tCB (fun xs H Q => ∃ a, xs = [.str a] ∧ a.length ≤ sizeLine ∧ Q (.int a.length) H) (tCons ta tNil)) σ H (.int (z.length : Int)) := fun H1 e Q q =>
  ha H1 e _ fun H2 e2 => ⟨z, rfl, sz_of hz, q H2 e2⟩
theorem rv_leS {a b : Str} : RV (fun x y H Q => ∃ i j, x = .str i ∧ y = .str j ∧ Q (.bl (!decide (j.cps.toList < i.cps.toList))) H) (.str a) (.str b) H (.bl (!decide (b.cps.toList < a.cps.toList))) := fun H1 _ Q q => ⟨a, b, rfl, rfl, q H1 (Ex.refl H1)⟩
end
section
variable {P : Program} {w : World} {K : PySem.W.Frag} {mg : Str → Option Value} {base : Heap}
def spPair (K : PySem.W.Frag) : Sp := fun vs H Q _ => ∃ (v : V) (d : PyData), vs = [v] ∧ Dp K H v d ∧ RetV (.bl (pairD d)) H Q
theorem pairD_not {d : PyData} (h : isTupD d = false) : pairD d = false := by
  cases d <;> first | rfl | cases h
theorem pairD_tup (ds : List PyData) : pairD (.tuple ds) = decide (ds.length = 2) := by
  match ds with
  | [] => rfl
  | [_] => rfl
  | [_, _] => rfl
  | _ :: _ :: _ :: r => exact (decide_eq_false (by simp)).symm
theorem ok_pair {f  : Addr} {fd  : FuncData} {k : Nat} (F : Fun K "is_pair" "is_pair" sPair f fd) (B : Bu mg) : FnOk P w K mg base CX0 (k + 1) f fd ["thing"] (spPair K) := by
  refine F.ok scPair (fun vs H Q E h => ?_) (fun cdv A outer s H vs Q E hr h => ?_)
  · obtain ⟨v, d, rfl, _⟩ := h
    rfl
  · obtain ⟨v, d, rfl, hd, q⟩ := h
    refine ⟨_, (pss_one (ps_ret (pe_and (pe_callB call_isi (by rfl) B.isi boot_isinstance (pa_cons (pv 0) (pa_cons (pe_bltn (v := .ty "tuple") (by rfl) B.tup boot_tuple rfl) pa_nil))) (pe_one (pe_cmpR op_eq (pe_callB call_len_seq (by rfl) B.len PySem.boot_len (pa_cons (pv 0) pa_nil)) pe_int (nomark _)))))), ?_⟩
    refine s_ret (v := .bl (pairD d)) (ev_is (ev_andV (a := isTupD d) (b := pairD d) (ev_isiD (K := K) (ev_var (v := v) rfl) ev_c hd (kit_tup hd)) fun ht => ?_) ?_) (fun H1 e1 => q H1 e1)
    · cases d <;> first | cases ht | skip
      obtain ⟨a, xs, rfl, hS, hA⟩ := dp_tup_inv hd
      refine ev_is (ev_op (ev_lenT (K := K) (ev_var (v := .ref a) rfl) hS) ev_c (rv_eq rfl)) ?_
      rw [pairD_tup, ← dpA_len hA]
      congr 1
      by_cases h : xs.length = 2
      · rw [decide_eq_true h, decide_eq_true (by rw [h]; rfl)]
      · rw [decide_eq_false h, decide_eq_false (fun z => h (by have := V.int.inj z; omega))]
    · cases ht : isTupD d with
      | true => rfl
      | false => rw [pairD_not ht]; rfl
/-! ### is_colours -/
def spCols (K : PySem.W.Frag) : Sp := fun vs H Q _ => ∃ (v : V) (d : PyData) (m : Nat), vs = [v, .int m] ∧ Dp K H v d ∧ StB d = true ∧ m ≤ 100 ∧ RetV (.bl (colsD m d)) H Q
theorem colsD_not {d : PyData} {m : Nat} (h : isTupD d = false) : colsD m d = false := by
  cases d <;> first | rfl | cases h
theorem strs_of_ris : ∀ {ds : List PyData} {b : Str}, risD b ds = true → ∃ zs : List Str, ds = zs.map PyData.str ∧ ∀ z ∈ zs, z.length ≤ 8
  | [], _, _ => ⟨[], rfl, by simp⟩
  | .str z :: r, b, h => by
    simp only [risD, Bool.and_eq_true, decide_eq_true_eq] at h
    obtain ⟨zs, e, hz⟩ := strs_of_ris h.2
    exact ⟨z :: zs, by rw [e]; rfl, fun y hy => by
      rcases List.mem_cons.mp hy with rfl | hy
      · exact h.1.2
      · exact hz y hy⟩
  | .none :: _, _, h => by simp [risD] at h
  | .bool _ :: _, _, h => by simp [risD] at h
  | .int _ :: _, _, h => by simp [risD] at h
  | .list _ :: _, _, h => by simp [risD] at h
  | .tuple _ :: _, _, h => by simp [risD] at h
  | .dict _ :: _, _, h => by simp [risD] at h
theorem lowD_strs (zs : List Str) : (zs.map PyData.str).all lowD = zs.all lowB := by
  rw [List.all_map]
  rfl
theorem sum_len8 : ∀ {zs : List Str}, (∀ z ∈ zs, z.length ≤ 8) → (zs.map (·.length)).sum ≤ 8 * zs.length
  | [], _ => by simp
  | z :: r, h => by
    have h1 := h z (List.mem_cons_self ..)
    have h2 := sum_len8 fun y hy => h y (List.mem_cons_of_mem _ hy)
    rw [List.map_cons, List.sum_cons, List.length_cons]
    omega
theorem join_len (zs : List Str) : (Txt.join ("" : Str) zs).length = (zs.map (·.length)).sum := by
  show (Txt.join ("" : Str) zs).cps.size = _
  rw [← Array.length_toList, show (Txt.join ("" : Str) zs).cps.toList = (zs.map fun z => z.cps.toList).flatten from by
    rw [TL.join_eq]
    exact (TL.tl_join ("" : Str) zs).trans (joinL_nil _), List.length_flatten, List.map_map]
  rfl
theorem ok_cols {f  : Addr} {fd  : FuncData} {k : Nat} (F : Fun K "is_colours" "is_colours" sCols f fd) (B : Bu mg) {t8 tl : Tok} (m_MOST_LETTERS : mg "MOST_LETTERS" = some (.int 8 t8)) (m_SMALL_LETTERS : mg "SMALL_LETTERS" = some (.str "abcdefghijklmnopqrstuvwxyz" tl)) : FnOk P w K mg base CX0 (k + 1) f fd ["thing", "most"] (spCols K) := by
  refine F.ok scCols (fun vs H Q E h => ?_) (fun cdv A outer s H vs Q E hr h => ?_)
  · obtain ⟨v, d, m, rfl, _⟩ := h
    rfl
  · obtain ⟨v, d, m, rfl, hd, hst, hm, q⟩ := h
    refine ⟨_, (pss_cons (ps_if (PW.pt (pw_or (pt_not (pt_val (pe_callB call_isi (by rfl) B.isi boot_isinstance (pa_cons (pv 0) (pa_cons (pe_bltn (v := .ty "tuple") (by rfl) B.tup boot_tuple rfl) pa_nil))))) (pw_or1 (pt_cmpR op_gt (pe_callB call_len_seq (by rfl) B.len PySem.boot_len (pa_cons (pv 0) pa_nil)) (pv 1) (nomark _))))) (pss_one (ps_ret pe_bl)) pss_nil)
      (pss_cons (ps_set (i := 2) scCols.nd rfl (.inl rfl) pe_str)
      (pss_cons (ps_for PassesOwn.never rfl (pi_tup (pv 0)) (pg_name (i := 3) scCols.nd rfl (.inl rfl))
      (pss_cons (ps_if (PW.pt (pw_or (pt_not (pt_val (pe_callB call_isi (by rfl) B.isi boot_isinstance (pa_cons (pv 3) (pa_cons (pe_bltn (v := .ty "str") (by rfl) B.str boot_str rfl) pa_nil))))) (pw_or (pt_cmpR op_le_str (pv 3) (pv 2) (nomark _)) (pw_or1 (pt_cmpR op_gt (pe_callB call_len_str (by rfl) B.len PySem.boot_len (pa_cons (pv 3) pa_nil)) (pe_glob (v := .int 8) (by rfl) m_MOST_LETTERS ⟨_, rfl⟩) (nomark _)))))) (pss_one (ps_ret pe_bl)) pss_nil)
      (pss_one (ps_set (i := 2) scCols.nd rfl (.inl rfl) (pv 3)))))
      (pss_one (ps_ret (pe_cmpR op_eq (pe_bm PySem.F.plainAttrs_str PySem.F.slot_str_strip PySem.F.type_str_strip mt_stripChars (pe_join pe_str (pv 0)) (pa_cons (pe_glob (v := .str "abcdefghijklmnopqrstuvwxyz") (by rfl) m_SMALL_LETTERS ⟨_, rfl⟩) pa_nil)) pe_str (nomark _))))))), ?_⟩
    cases ht : isTupD d with
    | false =>
      rw [colsD_not ht] at q
      exact q_when (b := true) (et_is (et_or (b := true) (et_not (et_B (ev_isiD (K := K) (ev_var (v := v) rfl) ev_c hd (kit_tup hd)))) fun h => absurd h (by rw [ht]; decide)) (by rw [ht]; rfl)) (fun _ H1 e1 => q H1 e1) (fun hb => absurd hb (by decide))
    | true =>
      cases d <;> first | cases ht | skip
      rename_i ds
      obtain ⟨a, xs, rfl, hS, hA⟩ := dp_tup_inv hd
      have hlen := dpA_len hA
      have hstA : StBA ds = true := by simpa [StB] using hst
      refine q_when (b := !decide (ds.length ≤ m)) (et_is (et_or (et_not (et_B (ev_isiD (K := K) (ev_var (v := .ref a) rfl) ev_c hd (kit_tup hd)))) fun _ => et_test (ev_op (ev_lenT (K := K) (ev_var (v := .ref a) rfl) hS) (ev_var (v := .int m) rfl) rv_gt)) ?_) (fun hb H1 e1 => ?_) (fun hb H1 e1 => ?_)
      · show (!true || decide ((m : Int) < (xs.length : Nat))) = _
        rw [hlen]
        by_cases h : ds.length ≤ m
        · rw [decide_eq_true h, decide_eq_false (by omega)]; rfl
        · rw [decide_eq_false h, decide_eq_true (by omega)]; rfl
      · have e : colsD m (.tuple ds) = false := by
          show (decide (ds.length ≤ m) && _) = false
          rw [Bool.not_eq_true'] at hb
          rw [hb]
          rfl
        rw [e] at q
        exact q H1 e1
      · have hle : ds.length ≤ m := by
          by_cases h : ds.length ≤ m
          · exact h
          · rw [decide_eq_false h] at hb; cases hb
        have e : colsD m (.tuple ds) = (risD "" ds && ds.all lowD) := by
          show (decide (ds.length ≤ m) && _) = _
          rw [decide_eq_true hle]
          rfl
        rw [e] at q
        refine q_asg (v := .str "") ev_c fun H2 e2 => ?_
        refine q_forT (K := K) (a := a) (xs := xs) (ev_var (v := .ref a) rfl) (ex_t (e1.trans e2) hS) (fun i σ' H' => Ex H H' ∧ ∃ b y, σ' = [some (.ref a), some (.int m), some (.str b), y] ∧ risD "" ds = risD b (ds.drop i)) (fun H3 e3 => ⟨(e1.trans e2).trans e3, "", none, rfl, rfl⟩) (fun i σ' H' _ hP => ex_t hP.1 hS) (fun i x σ' H' hx hP => ?_) (fun σ' H' hP => ?_)
        · obtain ⟨eH, b, y, rfl, hris⟩ := hP
          obtain ⟨dx, hdx, hDx⟩ := dpA_get hA hx
          have hdx' : ds.drop i = dx :: ds.drop (i + 1) := (List.getElem?_eq_some_iff.mp hdx).choose_spec ▸ List.drop_eq_getElem_cons _
          have hDx' := dp_ex eH _ _ hDx
          rw [hdx'] at hris
          show tIfS _ _ _ _ [some (.ref a), some (.int m), some (.str b), some x] H'
          cases hs : isStrD dx with
          | false =>
            have hf : risD "" ds = false := by
              rw [hris]
              cases dx <;> first | rfl | cases hs
            rw [hf] at q
            exact s_when (b := true) (et_is (et_or (b := true) (et_not (et_B (ev_isiD (K := K) (ev_var (v := x) rfl) ev_c hDx' (kit_str hDx')))) fun h => absurd h (by rw [hs]; decide)) (by rw [hs]; rfl)) (fun _ H3 e3 => q H3 (eH.trans e3)) (fun hb => absurd hb (by decide))
          | true =>
            cases dx <;> first | cases hs | skip
            rename_i z
            cases hDx
            have hzl : z.length ≤ 1000 := by
              have := stBA_mem hstA (List.mem_of_getElem? hdx)
              simpa [StB] using this
            refine s_when (b := !(decide (b.cps.toList < z.cps.toList) && decide (z.length ≤ 8))) (et_is (et_or (et_not (et_B (ev_isiD (K := K) (ev_var (v := .str z) rfl) ev_c hDx' (kit_str hDx')))) fun _ => et_or (et_test (ev_op (ev_var (v := .str z) rfl) (ev_var (v := .str b) rfl) rv_leS)) fun _ => et_test (ev_op (ev_lenStr (ev_var (v := .str z) rfl) (by omega)) ev_c rv_gt)) ?_) (fun hb H3 e3 => ?_) (fun hb H3 e3 => ?_)
            · show (!true || (!decide (b.cps.toList < z.cps.toList) || decide ((8 : Int) < z.length))) = _
              have a2 : decide ((8 : Int) < z.length) = !decide (z.length ≤ 8) := by
                by_cases h : z.length ≤ 8
                · rw [decide_eq_true h, decide_eq_false (by omega)]; rfl
                · rw [decide_eq_false h, decide_eq_true (by omega)]; rfl
              rw [a2]
              cases decide (b.cps.toList < z.cps.toList) <;> cases decide (z.length ≤ 8) <;> rfl
            · have hf : risD "" ds = false := by
                rw [hris]
                show ((decide (b.cps.toList < z.cps.toList) && decide (z.length ≤ 8)) && _) = false
                rw [Bool.not_eq_true'] at hb
                rw [hb]
                rfl
              rw [hf] at q
              exact q H3 (eH.trans e3)
            · refine s_asg (v := .str z) (ev_var rfl) fun H4 e4 => ⟨(eH.trans e3).trans e4, z, _, rfl, ?_⟩
              rw [hris]
              show ((decide (b.cps.toList < z.cps.toList) && decide (z.length ≤ 8)) && _) = _
              rw [Bool.not_eq_false'] at hb
              rw [hb]
              rfl
        · obtain ⟨eH, b, y, rfl, hris⟩ := hP
          rw [List.drop_eq_nil_of_le (by omega)] at hris
          have hris : risD "" ds = true := hris
          obtain ⟨zs, rfl, hz8⟩ := strs_of_ris hris
          rw [hris, lowD_strs, Bool.true_and, ← join_low, ← strip_low] at q
          have hxs := dpA_strs_inv hA
          subst hxs
          have hsum := sum_len8 hz8
          rw [List.length_map] at hlen hle
          refine ⟨⟨_, rfl⟩, .ref a, rfl, "", a, zs, rfl, rfl, .inr (ex_t eH hS), ?_, rfl, _, _, rfl, rfl, sz_of ?_, rfl, ?_⟩
          · show _ + zs.length * 0 ≤ _
            omega
          · rw [join_len]
            omega
          · exact q H' eH
/-! ### is_colour -/
def spCol (K : PySem.W.Frag) : Sp := fun vs H Q _ => ∃ (v : V) (d : PyData), vs = [v] ∧ Dp K H v d ∧ StB d = true ∧ RetV (.bl (colsD 1 (.tuple [d]))) H Q
theorem ok_col {f fCols : Addr} {fd fdCols : FuncData} {k : Nat} (F : Fun K "is_colour" "is_colour" sCol f fd) (DCols : Df K mg "is_colours" sCols ["thing", "most"] fCols fdCols) (GCols : FnOk P w K mg base CX0 (k + 1) fCols fdCols ["thing", "most"] (spCols K)) : FnOk P w K mg base CX0 (k + 2) f fd ["thing"] (spCol K) := by
  refine F.ok scCol (fun vs H Q E h => ?_) (fun cdv A outer s H vs Q E hr h => ?_)
  · obtain ⟨v, d, rfl, _⟩ := h
    rfl
  · obtain ⟨v, d, rfl, hd, hst, q⟩ := h
    refine ⟨_, (pss_one (ps_ret (pcall DCols GCols (hr.mono (by omega)) (pa_cons (pe_tup (pa_cons (pv 0) pa_nil)) (pa_cons pe_int pa_nil))))), ?_⟩
    refine ⟨v, rfl, by show 1 ≤ sizeLine; decide, fun p hp => ?_⟩
    have e1 := Ex.new (o := .tup [v]) hp
    exact ⟨.ref p, .tuple [d], 1, rfl, .tup (st_of upd_same) (.cons (dp_ex e1 _ _ hd) .nil), by simpa [StB, StBA] using hst, by decide, fun H2 e2 => q H2 (e1.trans e2)⟩
/-! ### is_box -/
def spBox (K : PySem.W.Frag) : Sp := fun vs H Q _ => ∃ (v : V) (d : PyData), vs = [v] ∧ Dp K H v d ∧ StB d = true ∧ RetV (.bl (boxD d)) H Q
theorem boxD_not {d : PyData} (h : pairD d = false) : boxD d = false := by
  unfold boxD
  split
  · cases h
  · rfl
theorem houseD_not {d : PyData} (h : pairD d = false) : houseD d = false := by
  unfold houseD
  split
  · cases h
  · rfl
theorem pairD_inv {d : PyData} (h : pairD d = true) : ∃ a b, d = .tuple [a, b] := by
  unfold pairD at h
  split at h
  · exact ⟨_, _, rfl⟩
  · cases h
theorem ok_box {f fPair fCols : Addr} {fd fdPair fdCols : FuncData} {k : Nat} (F : Fun K "is_box" "is_box" sBox f fd) (DPair : Df K mg "is_pair" sPair ["thing"] fPair fdPair) (DCols : Df K mg "is_colours" sCols ["thing", "most"] fCols fdCols) (GPair : FnOk P w K mg base CX0 (k + 1) fPair fdPair ["thing"] (spPair K)) (GCols : FnOk P w K mg base CX0 (k + 1) fCols fdCols ["thing", "most"] (spCols K)) {t3 t6 : Tok} (m_MOST_LOCKS : mg "MOST_LOCKS" = some (.int 3 t3)) (m_MOST_KEYS : mg "MOST_KEYS" = some (.int 6 t6)) : FnOk P w K mg base CX0 (k + 2) f fd ["thing"] (spBox K) := by
  refine F.ok scBox (fun vs H Q E h => ?_) (fun cdv A outer s H vs Q E hr h => ?_)
  · obtain ⟨v, d, rfl, _⟩ := h
    rfl
  · obtain ⟨v, d, rfl, hd, hst, q⟩ := h
    refine ⟨_, (pss_one (ps_ret (pe_and (pcall DPair GPair (hr.mono (by omega)) (pa_cons (pv 0) pa_nil)) (pe_and (pcall DCols GCols (hr.mono (by omega)) (pa_cons (pe_ix ix_tup (pv 0) pe_int (fun _ _ => rfl)) (pa_cons (pe_glob (v := .int 3) (by rfl) m_MOST_LOCKS ⟨_, rfl⟩) pa_nil))) (pe_one (pcall DCols GCols (hr.mono (by omega)) (pa_cons (pe_ix ix_tup (pv 0) pe_int (fun _ _ => rfl)) (pa_cons (pe_glob (v := .int 6) (by rfl) m_MOST_KEYS ⟨_, rfl⟩) pa_nil)))))))), ?_⟩
    have t1 : Ev (tCall (spPair K) [] E0 (tCons (tVar 0) tNil)) [some v] H (.bl (pairD d)) := ev_call (ea_cons (ev_var (v := v) rfl) ea_nil) (SpV.of fun H1 e1 Q q E => ⟨v, d, rfl, dp_ex e1 _ _ hd, q⟩)
    cases hp : pairD d with
    | false =>
      rw [boxD_not hp] at q
      rw [hp] at t1
      exact s_ret (v := .bl false) (ev_andV (b := false) t1 fun h => by cases h) (fun H1 e1 => q H1 e1)
    | true =>
      rw [hp] at t1
      obtain ⟨l, k, rfl⟩ := pairD_inv hp
      obtain ⟨a, xs, rfl, hS, hA⟩ := dp_tup_inv hd
      cases hA with
      | cons h1 hA =>
        cases hA with
        | cons h2 hA =>
          cases hA
          simp only [StB, StBA, Bool.and_eq_true] at hst
          refine s_ret (v := .bl (boxD (.tuple [l, k]))) (ev_andV (a := true) (b := colsD 3 l && colsD 6 k) t1 fun _ => ev_andV (ev_call (ea_cons (ev_op (ev_var (v := .ref a) rfl) ev_c (rv_ixT hS at0)) (ea_cons ev_c ea_nil)) (SpV.of fun H1 e1 Q q E => ⟨_, l, 3, rfl, dp_ex e1 _ _ h1, hst.1, by decide, q⟩)) fun _ =>
            ev_call (ea_cons (ev_op (ev_var (v := .ref a) rfl) ev_c (rv_ixT hS at1)) (ea_cons ev_c ea_nil)) (SpV.of fun H1 e1 Q q E => ⟨_, k, 6, rfl, dp_ex e1 _ _ h2, hst.2.1, by decide, q⟩)) (fun H1 e1 => q H1 e1)
/-! ### is_house -/
def spIsH (K : PySem.W.Frag) : Sp := fun vs H Q _ => ∃ (v : V) (d : PyData), vs = [v] ∧ Dp K H v d ∧ StB d = true ∧ RetV (.bl (houseD d)) H Q
theorem ok_isH {f fPair fCols fBox : Addr} {fd fdPair fdCols fdBox : FuncData} {k : Nat} (F : Fun K "is_house" "is_house" sIsH f fd) (DPair : Df K mg "is_pair" sPair ["thing"] fPair fdPair) (DCols : Df K mg "is_colours" sCols ["thing", "most"] fCols fdCols) (DBox : Df K mg "is_box" sBox ["thing"] fBox fdBox) (GPair : FnOk P w K mg base CX0 (k + 1) fPair fdPair ["thing"] (spPair K)) (GCols : FnOk P w K mg base CX0 (k + 1) fCols fdCols ["thing", "most"] (spCols K)) (GBox : FnOk P w K mg base CX0 (k + 2) fBox fdBox ["thing"] (spBox K)) (B : Bu mg) {t30 t6 : Tok} (m_MOST_BOXES : mg "MOST_BOXES" = some (.int 30 t30)) (m_MOST_KEYS : mg "MOST_KEYS" = some (.int 6 t6)) : FnOk P w K mg base CX0 (k + 3) f fd ["thing"] (spIsH K) := by
  refine F.ok scIsH (fun vs H Q E h => ?_) (fun cdv A outer s H vs Q E hr h => ?_)
  · obtain ⟨v, d, rfl, _⟩ := h
    rfl
  · obtain ⟨v, d, rfl, hd, hst, q⟩ := h
    refine ⟨_, (pss_cons (ps_if (pt_not (pt_val (pcall DPair GPair (hr.mono (by omega)) (pa_cons (pv 0) pa_nil)))) (pss_one (ps_ret pe_bl)) pss_nil)
      (pss_cons (ps_asg (pv 0) (pg_tup rfl (pgs_cons (pg_name (i := 1) scIsH.nd rfl (.inl rfl)) (pgs_cons (pg_name (i := 2) scIsH.nd rfl (.inl rfl)) pgs_nil))))
      (pss_cons (ps_if (PW.pt (pw_or (pt_not (pt_val (pe_callB call_isi (by rfl) B.isi boot_isinstance (pa_cons (pv 1) (pa_cons (pe_bltn (v := .ty "tuple") (by rfl) B.tup boot_tuple rfl) pa_nil))))) (pw_or1 (pt_not (pt_chain op_le op_le pe_int (pe_callB call_len_seq (by rfl) B.len PySem.boot_len (pa_cons (pv 1) pa_nil)) (pe_glob (v := .int 30) (by rfl) m_MOST_BOXES ⟨_, rfl⟩)))))) (pss_one (ps_ret pe_bl)) pss_nil)
      (pss_cons (ps_for PassesOwn.never rfl (pi_tup (pv 1)) (pg_name (i := 3) scIsH.nd rfl (.inl rfl))
      (pss_one (ps_if (pt_not (pt_val (pcall DBox GBox (hr.mono (by omega)) (pa_cons (pv 3) pa_nil)))) (pss_one (ps_ret pe_bl)) pss_nil)))
      (pss_one (ps_ret (pcall DCols GCols (hr.mono (by omega)) (pa_cons (pv 2) (pa_cons (pe_glob (v := .int 6) (by rfl) m_MOST_KEYS ⟨_, rfl⟩) pa_nil))))))))), ?_⟩
    have t1 : ∀ {y1 y2 y3}, Ev (tCall (spPair K) [] E0 (tCons (tVar 0) tNil)) [some v, y1, y2, y3] H (.bl (pairD d)) := ev_call (ea_cons (ev_var (v := v) rfl) ea_nil) (SpV.of fun H1 e1 Q q E => ⟨v, d, rfl, dp_ex e1 _ _ hd, q⟩)
    cases hp : pairD d with
    | false =>
      rw [houseD_not hp] at q
      rw [hp] at t1
      exact q_when (b := true) (et_not (et_B t1)) (fun _ H1 e1 => q H1 e1) (fun hb => absurd hb (by decide))
    | true =>
      rw [hp] at t1
      refine q_when (b := false) (et_not (et_B t1)) (fun hb => absurd hb (by decide)) (fun _ H1 e1 => ?_)
      obtain ⟨db, dh, rfl⟩ := pairD_inv hp
      obtain ⟨a, xs, rfl, hS, hA⟩ := dp_tup_inv hd
      cases hA with
      | cons h1 hA =>
        cases hA with
        | cons h2 hA =>
          cases hA
          rename_i vb vh
          simp only [StB, StBA, Bool.and_eq_true] at hst
          refine ⟨.ref a, rfl, a, _, rfl, ex_t e1 hS, rfl, vb, [vh], rfl, vh, [], rfl, rfl, ?_⟩
          show tSeq _ _ _ [some (.ref a), some vb, some vh, none] H1
          have h1' := dp_ex e1 _ _ h1
          cases ht : isTupD db with
          | false =>
            have e : houseD (.tuple [db, dh]) = false := by cases db <;> first | rfl | cases ht
            rw [e] at q
            exact q_when (b := true) (et_is (et_or (b := true) (et_not (et_B (ev_isiD (K := K) (ev_var (v := vb) rfl) ev_c h1' (kit_tup h1')))) fun h => absurd h (by rw [ht]; decide)) (by rw [ht]; rfl)) (fun _ H2 e2 => q H2 (e1.trans e2)) (fun hb => absurd hb (by decide))
          | true =>
            cases db <;> first | cases ht | skip
            rename_i bs
            obtain ⟨ab, ys, rfl, hSb, hAb⟩ := dp_tup_inv h1
            have hlen := dpA_len hAb
            have hstB : StBA bs = true := by simpa [StB] using hst.1
            refine q_when (b := !(decide (1 ≤ bs.length) && decide (bs.length ≤ 30))) (et_is (et_or (et_not (et_B (ev_isiD (K := K) (ev_var (v := .ref ab) rfl) ev_c h1' (kit_tup h1')))) fun _ => et_not (et_test (ev_chain ev_c (ev_lenT (K := K) (ev_var (v := .ref ab) rfl) (ex_t e1 hSb)) ev_c rv_le rv_le))) ?_) (fun hb H2 e2 => ?_) (fun hb H2 e2 => ?_)
            · show (!true || !(decide ((1 : Int) ≤ (ys.length : Nat)) && decide (((ys.length : Nat) : Int) ≤ 30))) = _
              rw [hlen]
              have a1 : decide ((1 : Int) ≤ (bs.length : Nat)) = decide (1 ≤ bs.length) := decide_eq_decide.mpr (by omega)
              have a2 : decide (((bs.length : Nat) : Int) ≤ 30) = decide (bs.length ≤ 30) := decide_eq_decide.mpr (by omega)
              rw [a1, a2]
              rfl
            · have e : houseD (.tuple [.tuple bs, dh]) = false := by
                show ((decide (1 ≤ bs.length) && decide (bs.length ≤ 30)) && _) = false
                rw [Bool.not_eq_true'] at hb
                rw [hb]
                rfl
              rw [e] at q
              exact q H2 (e1.trans e2)
            · have e : houseD (.tuple [.tuple bs, dh]) = (bs.all boxD && colsD 6 dh) := by
                show ((decide (1 ≤ bs.length) && decide (bs.length ≤ 30)) && _) = _
                rw [Bool.not_eq_false'] at hb
                rw [hb]
                rfl
              rw [e] at q
              have eX := e1.trans e2
              refine q_forT (K := K) (a := ab) (xs := ys) (ev_var (v := .ref ab) rfl) (ex_t eX hSb) (fun i σ' H' => Ex H H' ∧ (∃ y, σ' = [some (.ref a), some (.ref ab), some vh, y]) ∧ (bs.take i).all boxD = true) (fun H3 e3 => ⟨eX.trans e3, ⟨none, rfl⟩, rfl⟩) (fun i σ' H' _ hP => ex_t hP.1 hSb) (fun i x σ' H' hx hP => ?_) (fun σ' H' hP => ?_)
              · obtain ⟨eH, ⟨y, rfl⟩, hall⟩ := hP
                obtain ⟨dx, hdx, hDx⟩ := dpA_get hAb hx
                have hDx' := dp_ex eH _ _ hDx
                have hmem := List.mem_of_getElem? hdx
                show tIfS _ _ _ _ [some (.ref a), some (.ref ab), some vh, some x] H'
                refine s_when (b := !boxD dx) (et_not (et_B (ev_call (ea_cons (ev_var (v := x) rfl) ea_nil) (SpV.of fun H3 e3 Q q E => ⟨x, dx, rfl, dp_ex e3 _ _ hDx', stBA_mem hstB hmem, q⟩)))) (fun hb H3 e3 => ?_) (fun hb H3 e3 => ?_)
                · have hf : bs.all boxD = false := by
                    rw [Bool.not_eq_true'] at hb
                    exact List.all_eq_false.mpr ⟨dx, hmem, by rw [hb]; decide⟩
                  rw [hf] at q
                  exact q H3 (eH.trans e3)
                · rw [Bool.not_eq_false'] at hb
                  refine ⟨eH.trans e3, ⟨_, rfl⟩, ?_⟩
                  rw [List.take_add_one, List.all_append, hall, hdx]
                  show (true && (boxD dx && true)) = true
                  rw [hb]
                  rfl
              · obtain ⟨eH, ⟨y, rfl⟩, hall⟩ := hP
                rw [List.take_of_length_le (by omega)] at hall
                rw [hall, Bool.true_and] at q
                exact s_ret (v := .bl (colsD 6 dh)) (ev_call (ea_cons (ev_var (v := vh) rfl) (ea_cons ev_c ea_nil)) (SpV.of fun H3 e3 Q q E => ⟨vh, dh, 6, rfl, dp_ex (eH.trans e3) _ _ h2, hst.2.1, by decide, q⟩)) (fun H3 e3 => q H3 (eH.trans e3))
end
end Kw
set_option Elab.async false
set_option linter.all false
set_option maxRecDepth 100000
set_option maxHeartbeats 4000000
namespace Kw
open PySem PySem.Spec PyProof.Rows L2 Evl
abbrev sKeys : Stmt := topS 21
theorem scKeys : FnScope ["boxes", "some", "box", "colour"] ["boxes", "some"] (defScope sKeys) := ⟨rfl, rfl, rfl, by decide +kernel, rfl, by decide +kernel, by decide +kernel⟩
abbrev sFits : Stmt := topS 22
theorem scFits : FnScope ["locks", "held", "colour"] ["locks", "held"] (defScope sFits) := ⟨rfl, rfl, rfl, by decide +kernel, rfl, by decide +kernel, by decide +kernel⟩
abbrev sOpn : Stmt := topS 23
theorem scOpn : FnScope ["boxes", "held", "closed", "told", "ready", "box"] ["boxes", "held", "closed"] (defScope sOpn) := ⟨rfl, rfl, rfl, by decide +kernel, rfl, by decide +kernel, by decide +kernel⟩
abbrev sShB : Stmt := topS 24
theorem scShB : FnScope ["boxes", "hand", "broken", "held", "closed", "told", "left", "box"] ["boxes", "hand", "broken"] (defScope sShB) := ⟨rfl, rfl, rfl, by decide +kernel, rfl, by decide +kernel, by decide +kernel⟩
abbrev sRnd : Stmt := topS 25
theorem scRnd : FnScope ["house", "boxes", "hand", "told", "left"] ["house"] (defScope sRnd) := ⟨rfl, rfl, rfl, by decide +kernel, rfl, by decide +kernel, by decide +kernel⟩
abbrev sShut : Stmt := topS 26
theorem scShut : FnScope ["house", "boxes", "hand"] ["house"] (defScope sShut) := ⟨rfl, rfl, rfl, by decide +kernel, rfl, by decide +kernel, by decide +kernel⟩
abbrev sWo : Stmt := topS 13
theorem scWo : FnScope ["row", "gone", "part"] ["row", "gone"] (defScope sWo) := ⟨rfl, rfl, rfl, by decide +kernel, rfl, by decide +kernel, by decide +kernel⟩
abbrev sLost : Stmt := topS 27
theorem scLost : FnScope ["house", "colour", "boxes", "hand", "fewer", "shut_anyway", "shut_then", "locks", "keys", "box"] ["house", "colour"] (defScope sLost) := ⟨rfl, rfl, rfl, by decide +kernel, rfl, by decide +kernel, by decide +kernel⟩
/-! ### houses as data -/
def encC (cs : List Str) : PyData := .tuple (cs.map PyData.str)
def encB (b : Box) : PyData := .tuple [encC b.1, encC b.2]
def encBs (bs : List Box) : PyData := .tuple (bs.map encB)
def encH (h : House) : PyData := .tuple [encBs h.1, encC h.2]
section
variable {K : PySem.W.Frag} {H H' : Hp}
theorem dp_cols {a : Addr} {cs : List Str} (h : SqT K H a (cs.map V.str)) : Dp K H (.ref a) (encC cs) := .tup h (dpA_strs cs)
theorem dp_box {v : V} {b : Box} (h : BoxAt K H v b) : Dp K H v (encB b) := by
  obtain ⟨a, l, k, rfl, h1, h2, h3⟩ := h
  exact .tup h1 (.cons (dp_cols h2) (.cons (dp_cols h3) .nil))
theorem dp_boxesA : ∀ {vs : List V} {bs : List Box}, Paired (BoxAt K H) vs bs → DpAll K H vs (bs.map encB)
  | _, _, .nil => .nil
  | _, _, .cons a r => .cons (dp_box a) (dp_boxesA r)
theorem dp_house {v : V} {h : House} (x : HouseAt K H v h) : Dp K H v (encH h) := by
  obtain ⟨a, b, k, rfl, h1, ⟨vs, h2, h3⟩, h4⟩ := x
  exact .tup h1 (.cons (.tup h2 (dp_boxesA h3)) (.cons (dp_cols h4) .nil))
theorem cols_dp {v : V} {cs : List Str} (h : Dp K H v (encC cs)) : ∃ a, v = .ref a ∧ SqT K H a (cs.map V.str) := by
  obtain ⟨a, xs, rfl, h1, h2⟩ := dp_tup_inv h
  rw [dpA_strs_inv h2] at h1
  exact ⟨a, rfl, h1⟩
theorem box_dp {v : V} {b : Box} (h : Dp K H v (encB b)) : BoxAt K H v b := by
  obtain ⟨a, xs, rfl, h1, h2⟩ := dp_tup_inv h
  cases h2 with
  | cons x h2 =>
    cases h2 with
    | cons y h2 =>
      cases h2
      obtain ⟨l, rfl, hl⟩ := cols_dp x
      obtain ⟨k, rfl, hk⟩ := cols_dp y
      exact ⟨a, l, k, rfl, h1, hl, hk⟩
theorem boxes_dpA : ∀ {vs : List V} {bs : List Box}, DpAll K H vs (bs.map encB) → Paired (BoxAt K H) vs bs
  | _, [], h => by cases h; exact .nil
  | _, b :: r, h => by
    cases h with
    | cons a t => exact .cons (box_dp a) (boxes_dpA t)
theorem house_dp {v : V} {h : House} (x : Dp K H v (encH h)) : HouseAt K H v h := by
  obtain ⟨a, xs, rfl, h1, h2⟩ := dp_tup_inv x
  cases h2 with
  | cons x h2 =>
    cases h2 with
    | cons y h2 =>
      cases h2
      obtain ⟨b, bs, rfl, hb, hbs⟩ := dp_tup_inv x
      obtain ⟨k, rfl, hk⟩ := cols_dp y
      exact ⟨a, b, k, rfl, h1, ⟨bs, hb, boxes_dpA hbs⟩, hk⟩
end
theorem colB_low {z : Str} (h : colB z = true) : lowB z = true ∧ z.length ≤ 8 ∧ 1 ≤ z.length := by
  unfold colB at h
  rw [Bool.and_eq_true, Bool.and_eq_true, decide_eq_true_eq, decide_eq_true_eq] at h
  exact ⟨h.2, h.1.2, h.1.1⟩
theorem ris_strs : ∀ {cs : List Str} {b : Str}, (∀ c ∈ cs, colB c = true) → Rising (b :: cs) → risD b (cs.map PyData.str) = true
  | [], _, _, _ => rfl
  | c :: r, b, hc, hr => by
    show ((decide (b.cps.toList < c.cps.toList) && decide (c.length ≤ 8)) && risD c (r.map PyData.str)) = true
    rw [decide_eq_true (hr 0 b c rfl rfl), decide_eq_true (colB_low (hc c (List.mem_cons_self ..))).2.1, ris_strs (fun d hd => hc d (List.mem_cons_of_mem _ hd)) (fun i x y hx hy => hr (i + 1) x y hx hy)]
    rfl
theorem nil_lt {z : Str} (h : 1 ≤ z.length) : ("" : Str).cps.toList < z.cps.toList := by
  have hz : z.length = z.cps.toList.length := rfl
  cases e : z.cps.toList with
  | nil => rw [hz, e] at h; cases h
  | cons a r => exact List.nil_lt_cons a r
theorem cols_ok {cs : List Str} {m : Nat} (h : OkCols cs m) : colsD m (encC cs) = true := by
  obtain ⟨h1, h2, h3⟩ := h
  show (decide ((cs.map PyData.str).length ≤ m) && (risD "" (cs.map PyData.str) && (cs.map PyData.str).all lowD)) = true
  rw [decide_eq_true (by rw [List.length_map]; exact h1), lowD_strs, List.all_eq_true.mpr fun c hc => (colB_low (h2 c hc)).1, ris_strs h2 ?_]
  · rfl
  · intro i x y hx hy
    cases i with
    | zero =>
      cases cs with
      | nil => cases hy
      | cons c r =>
        cases hx
        cases hy
        exact nil_lt (colB_low (h2 _ (List.mem_cons_self ..))).2.2
    | succ i => exact h3 i x y hx hy
theorem box_ok {b : Box} (h : OkBox b) : boxD (encB b) = true := by
  show (colsD 3 (encC b.1) && colsD 6 (encC b.2)) = true
  rw [cols_ok h.1, cols_ok h.2]
  rfl
theorem house_ok {h : House} (o : OkHouse h) : houseD (encH h) = true := by
  obtain ⟨h1, h2, h3, h4⟩ := o
  show ((decide (1 ≤ (h.1.map encB).length) && decide ((h.1.map encB).length ≤ 30)) && ((h.1.map encB).all boxD && colsD 6 (encC h.2))) = true
  rw [List.length_map, decide_eq_true h1, decide_eq_true h2, cols_ok h4, List.all_map, show h.1.all (boxD ∘ encB) = true from List.all_eq_true.mpr fun b hb => box_ok (h3 b hb)]
  rfl
theorem stB_cols {cs : List Str} {m : Nat} (h : OkCols cs m) : StB (encC cs) = true := by
  show StBA (cs.map PyData.str) = true
  refine stBA_of fun d hd => ?_
  obtain ⟨c, hc, rfl⟩ := List.mem_map.mp hd
  have := (colB_low (h.2.1 c hc)).2.1
  show decide (c.length ≤ 1000) = true
  exact decide_eq_true (by omega)
theorem stB_house {h : House} (o : OkHouse h) : StB (encH h) = true := by
  show (StB (encBs h.1) && (StB (encC h.2) && true)) = true
  rw [stB_cols o.2.2.2, Bool.true_and, Bool.and_true]
  show StBA (h.1.map encB) = true
  refine stBA_of fun d hd => ?_
  obtain ⟨b, hb, rfl⟩ := List.mem_map.mp hd
  show (StB (encC b.1) && (StB (encC b.2) && true)) = true
  rw [stB_cols (o.2.2.1 b hb).1, stB_cols (o.2.2.1 b hb).2]
  rfl
/-! ### what is left -/
theorem less_less (c r s : List Nat) : less (less c r) s = less c (r ++ s) := by
  unfold less
  rw [List.filter_filter]
  apply List.filter_congr
  intro i _
  by_cases h1 : i ∈ r <;> by_cases h2 : i ∈ s <;> simp [h1, h2]
def leftOf (bs : List Box) (held : List Str) (closed : List Nat) : List Nat := less closed (roundsOf bs held closed).flatten
section
variable {P : Program} {w : World} {K : PySem.W.Frag} {mg : Str → Option Value} {base : Heap}
/-! ### check_house, of a house -/
def spChk (K : PySem.W.Frag) : Sp := fun vs H Q _ => ∃ (v : V) (h : House), vs = [v] ∧ HouseAt K H v h ∧ OkHouse h ∧ RetV .non H Q
theorem ok_chk {f fIsH : Addr} {fd fdIsH : FuncData} {k : Nat} (F : Fun K "check_house" "check_house" sChk f fd) (DIsH : Df K mg "is_house" sIsH ["thing"] fIsH fdIsH) (GIsH : FnOk P w K mg base CX0 (k + 3) fIsH fdIsH ["thing"] (spIsH K)) : FnOk P w K mg base CX0 (k + 4) f fd ["house"] (spChk K) := by
  refine F.ok scChk (fun vs H Q E h => ?_) (fun cdv A outer s H vs Q E hr h => ?_)
  · obtain ⟨v, b, rfl, _⟩ := h
    rfl
  · obtain ⟨v, b, rfl, ha, ho, q⟩ := h
    refine ⟨_, (pss_one (ps_if (pt_not (pt_val (pcall DIsH GIsH (hr.mono (by omega)) (pa_cons (pv 0) pa_nil)))) pss_never pss_nil)), ?_⟩
    exact s_when (b := false) (et_is (et_not (et_B (ev_call (z := .bl true) (ea_cons (ev_var rfl) ea_nil) (SpV.of fun H2 e2 Q q E => ⟨v, encH b, rfl, dp_ex e2 _ _ (dp_house ha), stB_house ho, by rw [house_ok ho]; exact q⟩)))) rfl) (fun hb => absurd hb (by decide)) (fun _ H1 e1 => q H1 e1)
/-! ### keys_in -/
def spKeys (K : PySem.W.Frag) : Sp := fun vs H Q _ => ∃ (b s : Addr) (bs : List Box) (is : List Nat), vs = [.ref b, .ref s] ∧ BoxesS K H b bs ∧ (SqL K H s (is.map vN) ∨ SqT K H s (is.map vN)) ∧ (∀ i ∈ is, i < bs.length) ∧ is.length ≤ 1000 ∧ (∀ b ∈ bs, b.2.length ≤ 6) ∧ RetL ((keysIn bs is).map V.str) H Q
theorem ok_keys {f  : Addr} {fd  : FuncData} {k : Nat} (F : Fun K "keys_in" "keys_in" sKeys f fd) : FnOk P w K mg base CX0 (k + 1) f fd ["boxes", "some"] (spKeys K) := by
  refine F.ok scKeys (fun vs H Q E h => ?_) (fun cdv A outer s H vs Q E hr h => ?_)
  · obtain ⟨b, s, bs, is, rfl, _⟩ := h
    rfl
  · obtain ⟨b, sa, bs, is, rfl, hB, hS, hlt, hl, h6, q⟩ := h
    have core : ∀ (wi : TI), EvW wi [some (.ref b), some (.ref sa), none, none] H (is.map vN).length (YAt (is.map vN)) → EvL (tLc2 wi (gName 2) tYes (iTup K (tOp (rIxT K) (tOp (rIx K) (tVar 0) (tVar 2)) (tC (.int 1)))) (gName 3) tYes (tVar 3) [2, 3] [3]) [some (.ref b), some (.ref sa), none, none] H ((keysIn bs is).map V.str) := by
      intro wi hw
      refine el_lc2 (K := K) hw (fun i => (bx bs (is.getD i 0)).2.map V.str) (fun i hi => ?_) ?_ (fun i x H1 H2 Q e hi hy k => ?_)
      · rw [flatMap_take is 0 (fun i => (bx bs i).2.map V.str) i (by rw [List.length_map] at hi; exact hi), map_flatMap', List.length_map]
        have := keysIn_len h6 (is.take i)
        unfold keysIn at this
        rw [List.length_take] at this
        omega
      · rw [List.length_map, flatMap_range is 0 (fun i => (bx bs i).2.map V.str), map_flatMap']
        rfl
      · obtain ⟨rfl, hx⟩ := hy
        obtain ⟨rfl, hi', hget⟩ := get_map 0 hx
        have hm := hlt _ (List.mem_of_getElem? hget)
        obtain ⟨l, kk, hl1, hk1, e1, e2⟩ := box_at (K := K) (σ := [some (.ref b), some (.ref sa), some (vN (is.getD i 0)), none]) (ta := tVar 0) (tb := tVar 2) (hB.ex e) hm (ev_var rfl) (ev_var rfl)
        exact k _ _ kk (Ex.refl _) rfl e2 hk1 fun y => ⟨rfl, rfl⟩
    rcases hS with hS | hS
    · refine ⟨_, (pss_one (ps_ret (pe_lc2 (own := [("box", 2), ("colour", 3)]) (vs1 := [3]) (g := (gName 2)) (tt := tYes) (g1 := (gName 3)) (tt1 := tYes) (wi1 := (iTup K (tOp (rIxT K) (tOp (rIx K) (tVar 0) (tVar 2)) (tC (.int 1))))) (te := (tVar 3)) rfl scKeys.nd (pi_list (pv 1)) (blkOk_by (N := ["boxes", "some", "box", "colour"]) (sc := defScope sKeys) (by decide +kernel)) (by decide) (fun _ _ _ _ _ => (pg_name (i := 2) scKeys.nd rfl (.inl rfl))) (fun _ _ _ _ _ => pts_nil) (fun _ _ _ _ _ => (pi_tup (pe_ix ix_tup (pe_ix ix_seq (pv 0) (pv 2) (fun _ _ => rfl)) pe_int (fun _ _ => rfl)))) (fun _ _ _ _ _ => (pg_name (i := 3) scKeys.nd rfl (.inl rfl))) (fun _ _ _ _ _ => pts_nil) (fun _ _ _ _ _ => (pv 3))))), ?_⟩
      exact s_retL (core _ (ew_list (ev_var rfl) hS)) q
    · refine ⟨_, (pss_one (ps_ret (pe_lc2 (own := [("box", 2), ("colour", 3)]) (vs1 := [3]) (g := (gName 2)) (tt := tYes) (g1 := (gName 3)) (tt1 := tYes) (wi1 := (iTup K (tOp (rIxT K) (tOp (rIx K) (tVar 0) (tVar 2)) (tC (.int 1))))) (te := (tVar 3)) rfl scKeys.nd (pi_tup (pv 1)) (blkOk_by (N := ["boxes", "some", "box", "colour"]) (sc := defScope sKeys) (by decide +kernel)) (by decide) (fun _ _ _ _ _ => (pg_name (i := 2) scKeys.nd rfl (.inl rfl))) (fun _ _ _ _ _ => pts_nil) (fun _ _ _ _ _ => (pi_tup (pe_ix ix_tup (pe_ix ix_seq (pv 0) (pv 2) (fun _ _ => rfl)) pe_int (fun _ _ => rfl)))) (fun _ _ _ _ _ => (pg_name (i := 3) scKeys.nd rfl (.inl rfl))) (fun _ _ _ _ _ => pts_nil) (fun _ _ _ _ _ => (pv 3))))), ?_⟩
      exact s_retL (core _ (ew_tup (ev_var rfl) hS)) q
/-! ### fits -/
def spFits (K : PySem.W.Frag) : Sp := fun vs H Q _ => ∃ (l h : Addr) (ls hs : List Str), vs = [.ref l, .ref h] ∧ SqT K H l (ls.map V.str) ∧ SqL K H h (hs.map V.str) ∧ RetV (.bl (fitsB ls hs)) H Q
theorem ok_fits {f  : Addr} {fd  : FuncData} {k : Nat} (F : Fun K "fits" "fits" sFits f fd) : FnOk P w K mg base CX0 (k + 1) f fd ["locks", "held"] (spFits K) := by
  refine F.ok scFits (fun vs H Q E h => ?_) (fun cdv A outer s H vs Q E hr h => ?_)
  · obtain ⟨l, h, ls, hs, rfl, _⟩ := h
    rfl
  · obtain ⟨l, h, ls, hs, rfl, hL, hH, q⟩ := h
    refine ⟨_, (pss_cons (ps_for PassesOwn.never rfl (pi_tup (pv 0)) (pg_name (i := 2) scFits.nd rfl (.inl rfl))
      (pss_one (ps_if (pt_cmpR op_notIn_seq (pv 2) (pv 1) (by rfl)) (pss_one (ps_ret pe_bl)) pss_nil)))
      (pss_one (ps_ret pe_bl))), ?_⟩
    refine q_forT (K := K) (a := l) (xs := ls.map V.str) (ev_var (v := .ref l) rfl) hL (fun i σ' H' => Ex H H' ∧ (∃ y, σ' = [some (.ref l), some (.ref h), y]) ∧ (ls.take i).all (fun c => decide (c ∈ hs)) = true) (fun H1 e1 => ⟨e1, ⟨none, rfl⟩, rfl⟩) (fun i σ' H' _ hP => ex_t hP.1 hL) (fun i x σ' H' hx hP => ?_) (fun σ' H' hP => ?_)
    · obtain ⟨eH, ⟨y, rfl⟩, hall⟩ := hP
      obtain ⟨rfl, hi, hget⟩ := get_map default hx
      show tIfS _ _ _ _ [some (.ref l), some (.ref h), some (.str (ls.getD i default))] H'
      have ht := et_test (ev_op (ev_var (σ := [some (.ref l), some (.ref h), some (.str (ls.getD i default))]) (i := 2) (v := .str (ls.getD i default)) rfl) (ev_var (i := 1) (v := .ref h) rfl) (rv_niL (K := K) (ex_l eH hH) rfl (flat_strs hs)))
      rw [inV_str] at ht
      refine s_when ht (fun hb H1 e1 => ?_) (fun hb H1 e1 => ?_)
      · have hf : fitsB ls hs = false := by
          rw [Bool.not_eq_true'] at hb
          exact List.all_eq_false.mpr ⟨_, List.mem_of_getElem? hget, by rw [hb]; decide⟩
        rw [hf] at q
        exact q H1 (eH.trans e1)
      · rw [Bool.not_eq_false'] at hb
        refine ⟨eH.trans e1, ⟨_, rfl⟩, ?_⟩
        rw [List.take_add_one, List.all_append, hall, hget]
        show (true && (decide (ls.getD i default ∈ hs) && true)) = true
        rw [hb]
        rfl
    · obtain ⟨eH, ⟨y, rfl⟩, hall⟩ := hP
      rw [List.length_map, List.take_length] at hall
      have hf : fitsB ls hs = true := hall
      rw [hf] at q
      exact q H' eH
/-! ### opened_in_rounds -/
def spOpn (K : PySem.W.Frag) : Sp := fun vs H Q _ => ∃ (b h c : Addr) (bs : List Box) (held : List Str) (closed : List Nat), vs = [.ref b, .ref h, .ref c] ∧ BoxesS K H b bs ∧ Few bs ∧ H h = some (.lst (held.map V.str)) ∧ H c = some (.lst (closed.map vN)) ∧
  (∀ i ∈ closed, i < bs.length) ∧ closed.length ≤ 1000 ∧ held.length + 6 * closed.length ≤ 10000 ∧
  ∀ p t l ys H2, H t = none → H l = none → Ex H H2 → H2 p = some (.tup [.ref t, .ref l]) → H2 t = some (.lst ys) → TupsAt K H2 ys (roundsOf bs held closed) → H2 l = some (.tup ((leftOf bs held closed).map vN)) → Q (.ref p) H2
def tFit (K : PySem.W.Frag) : TT := tB (tCall (spFits K) [] E0 (tCons (tOp (rIxT K) (tOp (rIx K) (tVar 0) (tVar 5)) (tC (.int 0))) (tCons (tVar 1) tNil)))
theorem el_ready {b h c : Addr} {y3 y4 y5 : Option V} {H : Hp} {bs : List Box} {held : List Str} {closed : List Nat} (hB : BoxesS K H b bs) (hF : Few bs) (hh : H h = some (.lst (held.map V.str))) (hc : H c = some (.lst (closed.map vN))) (hlt : ∀ i ∈ closed, i < bs.length) (hl : closed.length ≤ 1000) :
    EvL (tLc (iList K (tVar 2)) (gName 5) (tFit K) (tVar 5) [5]) [some (.ref b), some (.ref h), some (.ref c), y3, y4, y5] H ((readyOf bs held closed).map vN) := by
  refine el_lc (ew_list (ev_var rfl) (sq_of hc)) (by rw [List.length_map]; omega) (fun i => fitsB (bx bs (closed.getD i 0)).1 held) (fun i => vN (closed.getD i 0)) ?_ (fun i x H1 H2 Q e hi hy k => ?_)
  · rw [List.length_map]
    exact filter_range_map closed 0 (fun i => fitsB (bx bs i).1 held) vN
  · obtain ⟨rfl, hx⟩ := hy
    obtain ⟨rfl, hi', hget⟩ := get_map 0 hx
    have hm := hlt _ (List.mem_of_getElem? hget)
    obtain ⟨l, kk, hl1, hk1, e1, e2⟩ := box_at (K := K) (σ := [some (.ref b), some (.ref h), some (.ref c), y3, y4, some (vN (closed.getD i 0))]) (ta := tVar 0) (tb := tVar 5) (hB.ex e) hm (ev_var rfl) (ev_var rfl)
    refine k _ _ (Ex.refl _) rfl ?_ fun _ => ev_var rfl
    exact et_B (ev_call (ea_cons e1 (ea_cons (ev_var (v := .ref h) rfl) ea_nil)) (SpV.of fun H3 e3 Q q E => ⟨l, h, _, held, rfl, ex_t e3 hl1, sq_of ((e.trans e3) _ _ hh), q⟩))
theorem el_less {b h c r : Addr} {y3 y5 : Option V} {H : Hp} {closed ready : List Nat} (hc : H c = some (.lst (closed.map vN))) (hr : H r = some (.lst (ready.map vN))) (hl : closed.length ≤ 1000) :
    EvL (tLc (iList K (tVar 2)) (gName 5) (tTest (tOp (rIn K true) (tVar 5) (tVar 4))) (tVar 5) [5]) [some (.ref b), some (.ref h), some (.ref c), y3, some (.ref r), y5] H ((less closed ready).map vN) := by
  refine el_lc (ew_list (ev_var rfl) (sq_of hc)) (by rw [List.length_map]; omega) (fun i => !decide (closed.getD i 0 ∈ ready)) (fun i => vN (closed.getD i 0)) ?_ (fun i x H1 H2 Q e hi hy k => ?_)
  · rw [List.length_map]
    exact filter_range_map closed 0 (fun i => !decide (i ∈ ready)) vN
  · obtain ⟨rfl, hx⟩ := hy
    obtain ⟨rfl, hi', hget⟩ := get_map 0 hx
    refine k _ _ (Ex.refl _) rfl ?_ fun _ => ev_var rfl
    rw [← inV_nat]
    exact et_test (ev_op (ev_var rfl) (ev_var (v := .ref r) rfl) (rv_niL (sq_of (e _ _ hr)) rfl (flat_nats ready)))
theorem ok_opn {f fKeys fFits : Addr} {fd fdKeys fdFits : FuncData} {k : Nat} (F : Fun K "opened_in_rounds" "opened_in_rounds" sOpn f fd) (DKeys : Df K mg "keys_in" sKeys ["boxes", "some"] fKeys fdKeys) (DFits : Df K mg "fits" sFits ["locks", "held"] fFits fdFits) (GKeys : FnOk P w K mg base CX0 (k + 1) fKeys fdKeys ["boxes", "some"] (spKeys K)) (GFits : FnOk P w K mg base CX0 (k + 1) fFits fdFits ["locks", "held"] (spFits K)) (B : Bu mg) : FnOk P w K mg base CX0 (k + 2) f fd ["boxes", "held", "closed"] (spOpn K) := by
  refine F.ok scOpn (fun vs H Q E h => ?_) (fun cdv A outer s H vs Q E hr h => ?_)
  · obtain ⟨b, h, c, bs, held, closed, rfl, _⟩ := h
    rfl
  · obtain ⟨b, h, c, bs, held, closed, rfl, hB, hF, hh, hc, hlt, hl, hz, q⟩ := h
    refine ⟨_, (pss_cons (ps_set (i := 3) scOpn.nd rfl (.inl rfl) (pe_lst pa_nil))
      (pss_cons (ps_set (i := 4) scOpn.nd rfl (.inr rfl) (pe_lc (own := [("box", 5)]) (g := (gName 5)) (tt := (tB (tCall (spFits K) [] E0 (tCons (tOp (rIxT K) (tOp (rIx K) (tVar 0) (tVar 5)) (tC (.int 0))) (tCons (tVar 1) tNil))))) (te := (tVar 5)) rfl scOpn.nd (pi_list (pv 2)) (blkOk_by (N := ["boxes", "held", "closed", "told", "ready", "box"]) (sc := defScope sOpn) (by decide +kernel)) (fun _ _ _ _ _ => (pg_name (i := 5) scOpn.nd rfl (.inl rfl))) (fun _ _ _ _ _ => (pts_one (pt_val (pcall DFits GFits (hr.mono (by omega)) (pa_cons (pe_ix ix_tup (pe_ix ix_seq (pv 0) (pv 5) (fun _ _ => rfl)) pe_int (fun _ _ => rfl)) (pa_cons (pv 1) pa_nil)))))) (fun _ _ _ _ _ => (pv 5))))
      (pss_cons (ps_while PassesOwn.never (pt_truth (pv 4) (fun _ => rfl)) (pss_cons (ps_expr (pe_bm PySem.F.plainAttrs_list PySem.F.slot_list_append PySem.F.type_list_append mt_append (pv 3) (pa_cons (pe_callTy call_tupOf (by rfl) B.tup boot_tuple (pa_cons (pv 4) pa_nil)) pa_nil)))
      (pss_cons (ps_set (i := 1) scOpn.nd rfl (.inr rfl) (pe_op op_cat (pv 1) (pcall DKeys GKeys (hr.mono (by omega)) (pa_cons (pv 0) (pa_cons (pv 4) pa_nil)))))
      (pss_cons (ps_setLc (i := 2) (own := [("box", 5)]) (g := (gName 5)) (tt := (tTest (tOp (rIn K true) (tVar 5) (tVar 4)))) (te := (tVar 5)) rfl scOpn.nd rfl rfl (sw_true rfl rfl rfl (by decide +kernel)) (pi_list (pv 2)) (blkOk_by (N := ["boxes", "held", "closed", "told", "ready", "box"]) (sc := defScope sOpn) (by decide +kernel)) (fun _ _ _ _ _ => (pg_name (i := 5) scOpn.nd rfl (.inl rfl))) (fun _ _ _ _ _ => (pts_one (pt_cmpR op_notIn_seq (pv 5) (pv 4) (by rfl)))) (fun _ _ _ _ _ => (pv 5)))
      (pss_one (ps_set (i := 4) scOpn.nd rfl (.inr rfl) (pe_lc (own := [("box", 5)]) (g := (gName 5)) (tt := (tB (tCall (spFits K) [] E0 (tCons (tOp (rIxT K) (tOp (rIx K) (tVar 0) (tVar 5)) (tC (.int 0))) (tCons (tVar 1) tNil))))) (te := (tVar 5)) rfl scOpn.nd (pi_list (pv 2)) (blkOk_by (N := ["boxes", "held", "closed", "told", "ready", "box"]) (sc := defScope sOpn) (by decide +kernel)) (fun _ _ _ _ _ => (pg_name (i := 5) scOpn.nd rfl (.inl rfl))) (fun _ _ _ _ _ => (pts_one (pt_val (pcall DFits GFits (hr.mono (by omega)) (pa_cons (pe_ix ix_tup (pe_ix ix_seq (pv 0) (pv 5) (fun _ _ => rfl)) pe_int (fun _ _ => rfl)) (pa_cons (pv 1) pa_nil)))))) (fun _ _ _ _ _ => (pv 5)))))))))
      (pss_one (ps_ret (pe_tup (pa_cons (pv 3) (pa_cons (pe_callTy call_tupOf (by rfl) B.tup boot_tuple (pa_cons (pv 2) pa_nil)) pa_nil)))))))), ?_⟩
    refine q_asgL (xs := []) (el_lst ea_nil (by decide)) fun t H1 nt e1 ht => ?_
    refine q_asgL (el_ready (K := K) (hB.ex e1) hF (e1 _ _ hh) (e1 _ _ hc) hlt hl) fun r H2 nr e2 hr2 => ?_
    refine q_while (fun m σ' H' => ∃ (h' c' r' : Addr) (y5 : Option V) (held' : List Str) (closed' : List Nat) (done : List (List Nat)) (ys : List V), σ' = [some (.ref b), some (.ref h'), some (.ref c'), some (.ref t), some (.ref r'), y5] ∧ Ex H H' ∧
        H' h' = some (.lst (held'.map V.str)) ∧ H' c' = some (.lst (closed'.map vN)) ∧ H' r' = some (.lst ((readyOf bs held' closed').map vN)) ∧ H' t = some (.lst ys) ∧ TupsAt K H' ys done ∧ h' ≠ t ∧ c' ≠ t ∧ r' ≠ t ∧
        done ++ roundsOf bs held' closed' = roundsOf bs held closed ∧ closed' = less closed done.flatten ∧ (∀ i ∈ closed', i < bs.length) ∧ closed'.length ≤ 1000 ∧ held'.length + 6 * closed'.length ≤ 10000 ∧ done.length + closed'.length ≤ 1000 ∧ m = closed'.length) closed.length ?_ (fun m σ' H' hW => ?_)
    · refine ⟨h, c, r, none, held, closed, [], [], rfl, e1.trans e2, (e1.trans e2) _ _ hh, (e1.trans e2) _ _ hc, hr2, e2 _ _ ht, .nil, ne_of_none hh nt, ne_of_none hc nt, fun z => ?_, rfl, ?_, hlt, hl, hz, by simpa using hl, rfl⟩
      · rw [z, ht] at nr
        cases nr
      · show closed = closed.filter _
        exact (List.filter_eq_self.mpr fun i _ => by simp).symm
    · obtain ⟨h', c', r', y5, held', closed', done, ys, rfl, eH, hh', hc', hr', ht', hT, nh, nc, nrt, hsum, hcl, hlt', hl', hz', hd', rfl⟩ := hW
      refine ⟨_, et_truL (K := K) (ev_var (v := .ref r') rfl) (sq_of hr'), fun hb H3 e3 => ?_, fun hb H3 e3 => ?_⟩
      · have hne : readyOf bs held' closed' ≠ [] := fun z => by
          rw [z] at hb
          cases hb
        have hys : ys.length = done.length := paired_len hT
        have hrl := ready_less bs held' closed'
        have hlt2 := less_lt hne
        have hkl := keysIn_len (fun b hb => (hF.2 b hb).2) (readyOf bs held' closed')
        have hrm : ∀ i ∈ readyOf bs held' closed', i < bs.length := fun i hi => hlt' i (List.mem_filter.mp hi).1
        refine ⟨_, fun σ2 H2 hN => ⟨_, hlt2, hN⟩, ?_⟩
        refine q_appU (K := K) (l := t) (e3 _ _ ht') (ev_var rfl) (eu_tupL (K := K) (ev_var (v := .ref r') rfl) (sq_of (e3 _ _ hr'))) (by omega) fun p H4 hp e4 hp4 => ?_
        have fr : ∀ a o, H' a = some o → a ≠ t → (upd H4 t (.lst (ys ++ [.ref p]))) a = some o := fun a o ha na => by
          rw [upd_ne na]
          exact e4 _ _ (e3 _ _ ha)
        have eX : Ex H (upd H4 t (.lst (ys ++ [.ref p]))) := Ex.mut ((eH.trans e3).trans e4) nt
        have ht4 : H4 t = some (.lst ys) := e4 _ _ (e3 _ _ ht')
        have kT : KeepT H' (upd H4 t (.lst (ys ++ [.ref p]))) := (KeepT.ex (e3.trans e4)).trans (KeepT.lst ht4)
        refine q_asgL (xs := (held' ++ keysIn bs (readyOf bs held' closed')).map V.str) (by
            rw [List.map_append]
            refine el_cat (ev_var (v := .ref h') rfl) (fr _ _ hh' nh) (el_call (ea_cons (ev_var (v := .ref b) rfl) (ea_cons (ev_var (v := .ref r') rfl) ea_nil)) (SpL.of fun H5 e5 Q q E => ⟨b, r', bs, _, rfl, hB.ex (eX.trans e5), .inl (sq_of (e5 _ _ (fr _ _ hr' nrt))), hrm, by omega, fun b hb => (hF.2 b hb).2, q⟩)) ?_
            rw [List.length_map, List.length_map]
            omega) fun h2 H5 nh2 e5 hh2 => ?_
        have np : h2 ≠ t := fun z => by
          rw [z, upd_same] at nh2
          cases nh2
        refine q_asgL (el_less (K := K) (h := h2) (r := r') (e5 _ _ (fr _ _ hc' nc)) (e5 _ _ (fr _ _ hr' nrt)) hl') fun c2 H6 nc2 e6 hc2 => ?_
        have nc2t : c2 ≠ t := fun z => by
          rw [z, e5 _ _ upd_same] at nc2
          cases nc2
        have hlt2' : ∀ i ∈ less closed' (readyOf bs held' closed'), i < bs.length := fun i hi => hlt' i (List.mem_filter.mp hi).1
        refine s_asgL (el_ready (K := K) (hB.ex ((eX.trans e5).trans e6)) hF (e6 _ _ hh2) hc2 hlt2' (by omega)) fun r2 H7 nr2 e7 hr7 => ?_
        refine ⟨h2, c2, r2, y5, _, _, done ++ [readyOf bs held' closed'], ys ++ [.ref p], rfl, ((eX.trans e5).trans e6).trans e7, e7 _ _ (e6 _ _ hh2), e7 _ _ hc2, hr7, e7 _ _ (e6 _ _ (e5 _ _ upd_same)), ?_, np, nc2t, fun z => ?_, ?_, ?_, hlt2', by omega, ?_, ?_, rfl⟩
        · refine paired_app ((hT.keep (kT.trans (KeepT.ex ((e5.trans e6).trans e7))))) ⟨p, rfl, ?_⟩
          refine keep_t (KeepT.ex ((e5.trans e6).trans e7)) (keep_t (KeepT.lst ht4) (st_of hp4))
        · rw [z, e6 _ _ (e5 _ _ upd_same)] at nr2
          cases nr2
        · rw [List.append_assoc, ← hsum, roundsOf_cons hne]
          rfl
        · rw [List.flatten_append, List.flatten_singleton, ← less_less, ← hcl]
        · rw [List.length_append]
          omega
        · rw [List.length_append, List.length_singleton]
          have : 0 < (readyOf bs held' closed').length := List.length_pos_iff.mpr hne
          omega
      · have hne : readyOf bs held' closed' = [] := by
          cases e : readyOf bs held' closed' with
          | nil => rfl
          | cons a r =>
            rw [e] at hb
            cases hb
        rw [roundsOf_nil hne, List.append_nil] at hsum
        have hleft : closed' = leftOf bs held closed := by rw [hcl, hsum]; rfl
        refine ⟨.ref t, rfl, ?_⟩
        refine eu_tupL (K := K) (ev_var (v := .ref c') rfl) (sq_of (e3 _ _ hc')) H3 (Ex.refl H3) _ fun l H4 nl e4 hl4 => ?_
        refine ⟨by show 2 ≤ sizeLine; decide, fun p hp => ?_⟩
        have e5 := Ex.new (o := .tup [.ref t, .ref l]) hp
        have e45 := e4.trans e5
        refine q p t l ys _ nt (fresh_back (eH.trans e3) nl) ((eH.trans e3).trans e45) upd_same (e45 _ _ (e3 _ _ ht')) ?_ ?_
        · rw [← hsum]
          exact hT.keep (KeepT.ex (e3.trans e45))
        · rw [← hleft]
          exact e5 _ _ hl4
/-! ### shut_boxes -/
def spShB (K : PySem.W.Frag) : Sp := fun vs H Q _ => ∃ (b h k : Addr) (bs : List Box) (hand : List Str) (broken : List Nat), vs = [.ref b, .ref h, .ref k] ∧ BoxesS K H b bs ∧ Few bs ∧ SqT K H h (hand.map V.str) ∧ hand.length ≤ 100 ∧ SqT K H k (broken.map vN) ∧
  (∀ i ∈ broken, i < bs.length) ∧ broken.length ≤ 100 ∧ RetU ((shutOf bs hand broken).map vN) H Q
theorem ok_shB {f fKeys fOpn : Addr} {fd fdKeys fdOpn : FuncData} {k : Nat} (F : Fun K "shut_boxes" "shut_boxes" sShB f fd) (DKeys : Df K mg "keys_in" sKeys ["boxes", "some"] fKeys fdKeys) (DOpn : Df K mg "opened_in_rounds" sOpn ["boxes", "held", "closed"] fOpn fdOpn) (GKeys : FnOk P w K mg base CX0 (k + 1) fKeys fdKeys ["boxes", "some"] (spKeys K)) (GOpn : FnOk P w K mg base CX0 (k + 2) fOpn fdOpn ["boxes", "held", "closed"] (spOpn K)) (B : Bu mg) : FnOk P w K mg base CX0 (k + 3) f fd ["boxes", "hand", "broken"] (spShB K) := by
  refine F.ok scShB (fun vs H Q E h => ?_) (fun cdv A outer s H vs Q E hr h => ?_)
  · obtain ⟨b, h, k, bs, held, closed, rfl, _⟩ := h
    rfl
  · obtain ⟨b, h, kk, bs, hand, broken, rfl, hB, hF, hh, hhl, hk, hlt, hl, q⟩ := h
    refine ⟨_, (pss_cons (ps_set (i := 3) scShB.nd rfl (.inl rfl) (pe_op op_cat (pe_callTy call_list_of (by rfl) B.lst boot_list (pa_cons (pv 1) pa_nil)) (pcall DKeys GKeys (hr.mono (by omega)) (pa_cons (pv 0) (pa_cons (pv 2) pa_nil)))))
      (pss_cons (ps_setLc (i := 4) (own := [("box", 7)]) (g := (gName 7)) (tt := (tTest (tOp (rIn K true) (tVar 7) (tVar 2)))) (te := (tVar 7)) rfl scShB.nd rfl rfl (sw_true rfl rfl rfl (by decide +kernel)) (pi_range1 (by rfl) B.rng (pa_cons (pe_callB call_len_seq (by rfl) B.len PySem.boot_len (pa_cons (pv 0) pa_nil)) pa_nil)) (blkOk_by (N := ["boxes", "hand", "broken", "held", "closed", "told", "left", "box"]) (sc := defScope sShB) (by decide +kernel)) (fun _ _ _ _ _ => (pg_name (i := 7) scShB.nd rfl (.inl rfl))) (fun _ _ _ _ _ => (pts_one (pt_cmpR op_notIn_seq (pv 7) (pv 2) (by rfl)))) (fun _ _ _ _ _ => (pv 7)))
      (pss_cons (ps_asg (pcall DOpn GOpn (hr.mono (by omega)) (pa_cons (pv 0) (pa_cons (pv 3) (pa_cons (pv 4) pa_nil)))) (pg_tup rfl (pgs_cons (pg_name (i := 5) scShB.nd rfl (.inl rfl)) (pgs_cons (pg_name (i := 6) scShB.nd rfl (.inl rfl)) pgs_nil))))
      (pss_one (ps_ret (pv 6)))))), ?_⟩
    have hkl := keysIn_len (fun b hb => (hF.2 b hb).2) broken
    have hb30 := hF.1
    refine q_asgL (xs := (hand ++ keysIn bs broken).map V.str) (by
      rw [List.map_append]
      refine el_catN (el_listT (K := K) (ev_var (v := .ref h) rfl) hh) (el_call (ea_cons (ev_var (v := .ref b) rfl) (ea_cons (ev_var (v := .ref kk) rfl) ea_nil)) (SpL.of fun H5 e5 Q q E => ⟨b, kk, bs, _, rfl, hB.ex e5, .inr (ex_t e5 hk), hlt, by omega, fun b hb => (hF.2 b hb).2, q⟩)) ?_
      rw [List.length_map, List.length_map]
      omega) fun h3 H1 n1 e1 hh3 => ?_
    refine q_asgL (xs := (less (List.range bs.length) broken).map vN) (by
      refine el_lc (ew_rng1 (ea_cons (ev_lenB (K := K) (ev_var (v := .ref b) rfl) (hB.ex e1)) ea_nil) (by omega)) (by omega) (fun i => !decide (i ∈ broken)) (fun i => vN i) rfl (fun i x H2 H3 Q e hi hy k => ?_)
      obtain ⟨rfl, rfl⟩ := hy
      refine k _ _ (Ex.refl _) rfl ?_ fun _ => ?_
      · rw [← inV_nat]
        exact et_test (ev_op (ev_var rfl) (ev_var (v := .ref kk) rfl) (rv_niT (ex_t (e1.trans e) hk) rfl (flat_nats broken)))
      · exact ev_var rfl) fun h4 H2 n2 e2 hh4 => ?_
    have hcl : (less (List.range bs.length) broken).length ≤ bs.length := by
      have := less_len (List.range bs.length) broken
      rw [List.length_range] at this
      exact this
    have hz : (hand ++ keysIn bs broken).length + 6 * (less (List.range bs.length) broken).length ≤ 10000 := by
      rw [List.length_append]
      omega
    have hcm : ∀ i ∈ less (List.range bs.length) broken, i < bs.length := fun i hi => List.mem_range.mp (List.mem_filter.mp hi).1
    refine ⟨.ref b, rfl, .ref h3, rfl, .ref h4, rfl, b, h3, h4, bs, _, _, rfl, hB.ex (e1.trans e2), hF, e2 _ _ hh3, hh4, hcm, by omega, hz, fun p t l ys H3 nt nl e3 hp ht hT hll => ?_⟩
    refine ⟨p, _, rfl, st_of hp, rfl, .ref t, [.ref l], rfl, .ref l, [], rfl, rfl, .ref l, rfl, ?_⟩
    exact q l H3 (fresh_back (e1.trans e2) nl) ((e1.trans e2).trans e3) hll
/-! ### rounds, shut -/
def spRnd (K : PySem.W.Frag) : Sp := fun vs H Q _ => ∃ (v : V) (h : House), vs = [v] ∧ HouseAt K H v h ∧ OkHouse h ∧ ∀ p ys H2, H p = none → Ex H H2 → H2 p = some (.lst ys) → TupsAt K H2 ys (roundsOf h.1 h.2 (List.range h.1.length)) → Q (.ref p) H2
theorem ok_rnd {f fChk fOpn : Addr} {fd fdChk fdOpn : FuncData} {k : Nat} (F : Fun K "rounds" "rounds" sRnd f fd) (DChk : Df K mg "check_house" sChk ["house"] fChk fdChk) (DOpn : Df K mg "opened_in_rounds" sOpn ["boxes", "held", "closed"] fOpn fdOpn) (GChk : FnOk P w K mg base CX0 (k + 4) fChk fdChk ["house"] (spChk K)) (GOpn : FnOk P w K mg base CX0 (k + 2) fOpn fdOpn ["boxes", "held", "closed"] (spOpn K)) (B : Bu mg) : FnOk P w K mg base CX0 (k + 5) f fd ["house"] (spRnd K) := by
  refine F.ok scRnd (fun vs H Q E h => ?_) (fun cdv A outer s H vs Q E hr h => ?_)
  · obtain ⟨v, h, rfl, _⟩ := h
    rfl
  · obtain ⟨v, h, rfl, hA, ho, q⟩ := h
    have hA' := hA
    obtain ⟨a, bb, kk, rfl, ha, hb, hk⟩ := hA'
    refine ⟨_, (pss_cons (ps_expr (pcall DChk GChk (hr.mono (by omega)) (pa_cons (pv 0) pa_nil)))
      (pss_cons (ps_asg (pv 0) (pg_tup rfl (pgs_cons (pg_name (i := 1) scRnd.nd rfl (.inl rfl)) (pgs_cons (pg_name (i := 2) scRnd.nd rfl (.inl rfl)) pgs_nil))))
      (pss_cons (ps_asg (pcall DOpn GOpn (hr.mono (by omega)) (pa_cons (pv 1) (pa_cons (pe_callTy call_list_of (by rfl) B.lst boot_list (pa_cons (pv 2) pa_nil)) (pa_cons (pe_listRg rfl (by rfl) B.lst (prg_1 (by rfl) B.rng (pe_callB call_len_seq (by rfl) B.len PySem.boot_len (pa_cons (pv 1) pa_nil)))) pa_nil)))) (pg_tup rfl (pgs_cons (pg_name (i := 3) scRnd.nd rfl (.inl rfl)) (pgs_cons (pg_name (i := 4) scRnd.nd rfl (.inl rfl)) pgs_nil))))
      (pss_one (ps_ret (pv 3)))))), ?_⟩
    refine q_drop (ev_call (z := .non) (ea_cons (ev_var rfl) ea_nil) (SpV.of fun H2 e2 Q q E => ⟨_, h, rfl, hA.keep (KeepT.ex e2), ho, q⟩)) fun H1 e1 => ?_
    refine ⟨.ref a, rfl, a, _, rfl, ex_t e1 ha, rfl, .ref bb, [.ref kk], rfl, .ref kk, [], rfl, rfl, ?_⟩
    show tSeq _ _ _ [some (.ref a), some (.ref bb), some (.ref kk), none, none] H1
    have h30 := ho.2.1
    have h6 := ho.2.2.2.1
    refine ⟨.ref bb, rfl, ?_⟩
    refine el_listT (K := K) (ev_var (v := .ref kk) rfl) (ex_t e1 hk) H1 (Ex.refl H1) _ fun p2 H2 n2 e2 h2 => ?_
    refine el_listR (n := h.1.length) (ev_lenB (K := K) (ev_var (v := .ref bb) rfl) (BoxesS.of (hb.keep (KeepT.ex e1)))) (by omega) H2 e2 _ fun p3 H3 n3 e3 h3 => ?_
    refine ⟨bb, p2, p3, h.1, h.2, List.range h.1.length, rfl, BoxesS.of (hb.keep (KeepT.ex ((e1.trans e2).trans e3))), ho.few, e3 _ _ h2, h3, fun i hi => List.mem_range.mp hi, by rw [List.length_range]; omega, by rw [List.length_range]; omega, fun p t l ys H4 nt nl e4 hp ht hT hll => ?_⟩
    refine ⟨p, _, rfl, st_of hp, rfl, .ref t, [.ref l], rfl, .ref l, [], rfl, rfl, .ref t, rfl, ?_⟩
    exact q t ys H4 (fresh_back ((e1.trans e2).trans e3) nt) (((e1.trans e2).trans e3).trans e4) ht hT
def spShut (K : PySem.W.Frag) : Sp := fun vs H Q _ => ∃ (v : V) (h : House), vs = [v] ∧ HouseAt K H v h ∧ OkHouse h ∧ RetU ((shutOf h.1 h.2 []).map vN) H Q
theorem ok_shut {f fChk fShB : Addr} {fd fdChk fdShB : FuncData} {k : Nat} (F : Fun K "shut" "shut" sShut f fd) (DChk : Df K mg "check_house" sChk ["house"] fChk fdChk) (DShB : Df K mg "shut_boxes" sShB ["boxes", "hand", "broken"] fShB fdShB) (GChk : FnOk P w K mg base CX0 (k + 4) fChk fdChk ["house"] (spChk K)) (GShB : FnOk P w K mg base CX0 (k + 3) fShB fdShB ["boxes", "hand", "broken"] (spShB K)) : FnOk P w K mg base CX0 (k + 5) f fd ["house"] (spShut K) := by
  refine F.ok scShut (fun vs H Q E h => ?_) (fun cdv A outer s H vs Q E hr h => ?_)
  · obtain ⟨v, h, rfl, _⟩ := h
    rfl
  · obtain ⟨v, h, rfl, hA, ho, q⟩ := h
    have hA' := hA
    obtain ⟨a, bb, kk, rfl, ha, hb, hk⟩ := hA'
    refine ⟨_, (pss_cons (ps_expr (pcall DChk GChk (hr.mono (by omega)) (pa_cons (pv 0) pa_nil)))
      (pss_cons (ps_asg (pv 0) (pg_tup rfl (pgs_cons (pg_name (i := 1) scShut.nd rfl (.inl rfl)) (pgs_cons (pg_name (i := 2) scShut.nd rfl (.inl rfl)) pgs_nil))))
      (pss_one (ps_ret (pcall DShB GShB (hr.mono (by omega)) (pa_cons (pv 1) (pa_cons (pv 2) (pa_cons (pe_tup pa_nil) pa_nil)))))))), ?_⟩
    refine q_drop (ev_call (z := .non) (ea_cons (ev_var rfl) ea_nil) (SpV.of fun H2 e2 Q q E => ⟨_, h, rfl, hA.keep (KeepT.ex e2), ho, q⟩)) fun H1 e1 => ?_
    refine ⟨.ref a, rfl, a, _, rfl, ex_t e1 ha, rfl, .ref bb, [.ref kk], rfl, .ref kk, [], rfl, rfl, ?_⟩
    refine ⟨.ref bb, rfl, .ref kk, rfl, Nat.zero_le _, fun c nc => ?_⟩
    have e2 := Ex.new (o := .tup []) nc
    have h2 := ho.2.2.2.1
    refine ⟨bb, kk, c, h.1, h.2, [], rfl, BoxesS.of (hb.keep (KeepT.ex (e1.trans e2))), ho.few, ex_t (e1.trans e2) hk, by omega, st_of upd_same, (by intro i hi; cases hi), by decide, fun p H4 hp e4 h4 => ?_⟩
    exact q p H4 (fresh_back (e1.trans e2) hp) ((e1.trans e2).trans e4) h4
/-! ### without -/
def spWo (K : PySem.W.Frag) : Sp := fun vs H Q _ => ∃ (a : Addr) (cs : List Str) (c : Str), vs = [.ref a, .str c] ∧ SqT K H a (cs.map V.str) ∧ cs.length ≤ 1000 ∧ RetU ((withoutL cs c).map V.str) H Q
theorem ok_wo {f  : Addr} {fd  : FuncData} {k : Nat} (F : Fun K "without" "without" sWo f fd) (B : Bu mg) : FnOk P w K mg base CX0 (k + 1) f fd ["row", "gone"] (spWo K) := by
  refine F.ok scWo (fun vs H Q E h => ?_) (fun cdv A outer s H vs Q E hr h => ?_)
  · obtain ⟨a, cs, c, rfl, _⟩ := h
    rfl
  · obtain ⟨a, cs, c, rfl, hS, hl, q⟩ := h
    refine ⟨_, (pss_one (ps_ret (pe_callTy call_tupOf (by rfl) B.tup boot_tuple (pa_cons (pe_lc (own := [("part", 2)]) (g := (gName 2)) (tt := (tTest (tOp rNe (tVar 2) (tVar 1)))) (te := (tVar 2)) rfl scWo.nd (pi_tup (pv 0)) (blkOk_by (N := ["row", "gone", "part"]) (sc := defScope sWo) (by decide +kernel)) (fun _ _ _ _ _ => (pg_name (i := 2) scWo.nd rfl (.inl rfl))) (fun _ _ _ _ _ => (pts_one (pt_cmpR op_ne (pv 2) (pv 1) (nomark _)))) (fun _ _ _ _ _ => (pv 2))) pa_nil)))), ?_⟩
    refine s_retU (eu_tupN (K := K) (xs := (withoutL cs c).map V.str) ?_) q
    refine el_lc (ew_tup (ev_var rfl) hS) (by rw [List.length_map]; omega) (fun i => !decide (cs.getD i default = c)) (fun i => .str (cs.getD i default)) ?_ (fun i x H1 H2 Q e hi hy k => ?_)
    · rw [List.length_map]
      exact filter_range_map cs default (fun x => !decide (x = c)) V.str
    · obtain ⟨rfl, hx⟩ := hy
      obtain ⟨rfl, hi', hget⟩ := get_map default hx
      refine k _ _ (Ex.refl _) rfl ?_ fun _ => ev_var rfl
      have e2 : decide (cs.getD i default = c) = decide (V.str (cs.getD i default) = V.str c) := decide_eq_decide.mpr ⟨fun h => by rw [h], fun h => V.str.inj h⟩
      rw [e2]
      exact et_test (ev_op (ev_var rfl) (ev_var (v := .str c) rfl) (rv_ne rfl))
/-! ### lost, of a colour -/
def spLost (K : PySem.W.Frag) : Sp := fun vs H Q _ => ∃ (v : V) (h : House) (c : Str), vs = [v, .str c] ∧ HouseAt K H v h ∧ OkHouse h ∧ colB c = true ∧ RetU ((lostOf h c).map vN) H Q
theorem col_ok {c : Str} (h : colB c = true) : colsD 1 (.tuple [.str c]) = true := cols_ok (cs := [c]) (m := 1) ⟨Nat.le_refl _, (fun d hd => by rw [List.mem_singleton.mp hd]; exact h), fun i x y hx hy => by simp at hy⟩
theorem ok_lost {f fChk fCol fWo fShB : Addr} {fd fdChk fdCol fdWo fdShB : FuncData} {k : Nat} (F : Fun K "lost" "lost" sLost f fd) (DChk : Df K mg "check_house" sChk ["house"] fChk fdChk) (DCol : Df K mg "is_colour" sCol ["thing"] fCol fdCol) (DWo : Df K mg "without" sWo ["row", "gone"] fWo fdWo) (DShB : Df K mg "shut_boxes" sShB ["boxes", "hand", "broken"] fShB fdShB) (GChk : FnOk P w K mg base CX0 (k + 4) fChk fdChk ["house"] (spChk K)) (GCol : FnOk P w K mg base CX0 (k + 2) fCol fdCol ["thing"] (spCol K)) (GWo : FnOk P w K mg base CX0 (k + 1) fWo fdWo ["row", "gone"] (spWo K)) (GShB : FnOk P w K mg base CX0 (k + 3) fShB fdShB ["boxes", "hand", "broken"] (spShB K)) (B : Bu mg) : FnOk P w K mg base CX0 (k + 5) f fd ["house", "colour"] (spLost K) := by
  refine F.ok scLost (fun vs H Q E h => ?_) (fun cdv A outer s H vs Q E hr h => ?_)
  · obtain ⟨v, h, c, rfl, _⟩ := h
    rfl
  · obtain ⟨v, h, c, rfl, hA, ho, hcol, q⟩ := h
    have hA' := hA
    obtain ⟨a, bb, kk, rfl, ha, hb, hk⟩ := hA'
    refine ⟨_, (pss_cons (ps_expr (pcall DChk GChk (hr.mono (by omega)) (pa_cons (pv 0) pa_nil)))
      (pss_cons (ps_if (pt_not (pt_val (pcall DCol GCol (hr.mono (by omega)) (pa_cons (pv 1) pa_nil)))) pss_never pss_nil)
      (pss_cons (ps_asg (pv 0) (pg_tup rfl (pgs_cons (pg_name (i := 2) scLost.nd rfl (.inl rfl)) (pgs_cons (pg_name (i := 3) scLost.nd rfl (.inl rfl)) pgs_nil))))
      (pss_cons (ps_setLc (i := 4) (own := [("locks", 7), ("keys", 8)]) (g := (gTup K 2 (gCons (gName 7) (gCons (gName 8) gNil)))) (tt := tYes) (te := (tTup (tCons (tVar 7) (tCons (tCall (spWo K) [] E0 (tCons (tVar 8) (tCons (tVar 1) tNil))) tNil)))) rfl scLost.nd rfl rfl (sw_true rfl rfl rfl (by decide +kernel)) (pi_tup (pv 2)) (blkOk_by (N := ["house", "colour", "boxes", "hand", "fewer", "shut_anyway", "shut_then", "locks", "keys", "box"]) (sc := defScope sLost) (by decide +kernel)) (fun _ _ _ _ _ => (pg_tup rfl (pgs_cons (pg_name (i := 7) scLost.nd rfl (.inl rfl)) (pgs_cons (pg_name (i := 8) scLost.nd rfl (.inl rfl)) pgs_nil)))) (fun _ _ _ _ _ => pts_nil) (fun _ _ _ _ _ => (pe_tup (pa_cons (pv 7) (pa_cons (pcall DWo GWo (hr.mono (by omega)) (pa_cons (pv 8) (pa_cons (pv 1) pa_nil))) pa_nil)))))
      (pss_cons (ps_set (i := 5) scLost.nd rfl (.inr rfl) (pcall DShB GShB (hr.mono (by omega)) (pa_cons (pv 2) (pa_cons (pv 3) (pa_cons (pe_tup pa_nil) pa_nil)))))
      (pss_cons (ps_set (i := 6) scLost.nd rfl (.inl rfl) (pcall DShB GShB (hr.mono (by omega)) (pa_cons (pv 4) (pa_cons (pcall DWo GWo (hr.mono (by omega)) (pa_cons (pv 3) (pa_cons (pv 1) pa_nil))) (pa_cons (pe_tup pa_nil) pa_nil)))))
      (pss_one (ps_ret (pe_callTy call_tupOf (by rfl) B.tup boot_tuple (pa_cons (pe_lc (own := [("box", 9)]) (g := (gName 9)) (tt := (tTest (tOp (rIn K true) (tVar 9) (tVar 5)))) (te := (tVar 9)) rfl scLost.nd (pi_tup (pv 6)) (blkOk_by (N := ["house", "colour", "boxes", "hand", "fewer", "shut_anyway", "shut_then", "locks", "keys", "box"]) (sc := defScope sLost) (by decide +kernel)) (fun _ _ _ _ _ => (pg_name (i := 9) scLost.nd rfl (.inl rfl))) (fun _ _ _ _ _ => (pts_one (pt_cmpR op_notIn_seq (pv 9) (pv 5) (by rfl)))) (fun _ _ _ _ _ => (pv 9))) pa_nil)))))))))), ?_⟩
    refine q_drop (ev_call (z := .non) (ea_cons (ev_var rfl) ea_nil) (SpV.of fun H2 e2 Q q E => ⟨_, h, rfl, hA.keep (KeepT.ex e2), ho, q⟩)) fun H1 e1 => ?_
    refine q_when (b := false) (et_is (et_not (et_B (ev_call (z := .bl true) (ea_cons (ev_var (v := .str c) rfl) ea_nil) (SpV.of fun H2 e2 Q q E => ⟨_, .str c, rfl, .str c, decide_eq_true (by have := (colB_low hcol).2.1; omega), by rw [col_ok hcol]; exact q⟩)))) rfl) (fun hb => absurd hb (by decide)) (fun _ H2 e2 => ?_)
    refine ⟨.ref a, rfl, a, _, rfl, ex_t (e1.trans e2) ha, rfl, .ref bb, [.ref kk], rfl, .ref kk, [], rfl, rfl, ?_⟩
    have hb2 := hb.keep (KeepT.ex (e1.trans e2))
    obtain ⟨vs, hvs, hpr⟩ := hb2
    have hvl : vs.length = h.1.length := paired_len hpr
    have h30 := ho.2.1
    have h6 := ho.2.2.2.1
    refine q_asgC (lc_gen (ew_tup (K := K) (ev_var (v := .ref bb) rfl) hvs) (by omega) (fun _ => true) (fun i y H => BoxAt K H y ((bx h.1 i).1, withoutL (bx h.1 i).2 c)) (fun _ _ _ _ e h => h.keep e) (fun i x H3 H4 Q e hi hy k => ?_)) fun p ys H3 np e3 h3 pr => ?_
    · obtain ⟨rfl, hx⟩ := hy
      obtain ⟨b0, hb0, xa, l, kb, rfl, hxa, hl, hkb⟩ := paired_get hpr hx
      have eb : b0 = bx h.1 i := by
        have := bx_get (bs := h.1) (i := i) (by omega)
        rw [hb0] at this
        exact Option.some.inj this
      subst eb
      refine ⟨xa, _, rfl, ex_t e hxa, rfl, .ref l, [.ref kb], rfl, .ref kb, [], rfl, rfl, ?_⟩
      refine k _ _ (Ex.refl _) rfl et_yes fun _ => ?_
      intro H5 e5 Q5 q5
      refine ⟨.ref l, rfl, ?_⟩
      refine eu_call (vs := [.ref kb, .str c]) (xs := (withoutL (bx h.1 i).2 c).map V.str) (ea_cons (ev_var rfl) (ea_cons (ev_var rfl) ea_nil)) (fun H6 e6 Q q E => ⟨kb, _, c, rfl, ex_t ((e.trans e5).trans e6) hkb, by have := (ho.few.bx i).2; omega, q⟩) H5 (Ex.refl H5) _ fun p6 H6 np6 e6 h6' => ?_
      refine ⟨by show 2 ≤ sizeLine; decide, fun p7 np7 => ?_⟩
      refine q5 _ _ (e6.trans (Ex.new np7)) ⟨p7, l, p6, rfl, st_of upd_same, ex_t (((e.trans e5).trans e6).trans (Ex.new np7)) hl, st_of ((Ex.new np7) _ _ h6')⟩
    · rw [filter_true, hvl] at pr
      have pb : Paired (BoxAt K H3) ys (fewerBs h.1 c) := by
        have := paired_flip (F := BoxAt K H3) (g := fun i => ((bx h.1 i).1, withoutL (bx h.1 i).2 c)) pr
        rw [show (fun i => ((bx h.1 i).1, withoutL (bx h.1 i).2 c)) = fun i => (fun b : Box => (b.1, withoutL b.2 c)) (h.1.getD i ([], [])) from rfl, range_map_get h.1 ([], []) (fun b : Box => (b.1, withoutL b.2 c))] at this
        exact this
      have eX := (e1.trans e2).trans e3
      have h3' : BoxesS K H3 p (fewerBs h.1 c) := ⟨ys, .inl (sq_of h3), pb⟩
      refine ⟨.ref bb, rfl, .ref kk, rfl, Nat.zero_le _, fun u nu => ?_⟩
      have e4 := Ex.new (o := .tup []) nu
      refine ⟨bb, kk, u, h.1, h.2, [], rfl, BoxesS.of (hb.keep (KeepT.ex (eX.trans e4))), ho.few, ex_t (eX.trans e4) hk, by omega, st_of upd_same, (by intro i hi; cases hi), by decide, fun p5 H5 np5 e5 h5 => ?_⟩
      refine ⟨.ref p, rfl, ?_⟩
      refine eu_call (vs := [.ref kk, .str c]) (xs := (withoutL h.2 c).map V.str) (ea_cons (ev_var rfl) (ea_cons (ev_var rfl) ea_nil)) (fun H6 e6 Q q E => ⟨kk, _, c, rfl, ex_t (((eX.trans e4).trans e5).trans e6) hk, by omega, q⟩) H5 (Ex.refl H5) _ fun p6 H6 np6 e6 h6' => ?_
      refine ⟨Nat.zero_le _, fun u2 nu2 => ?_⟩
      have e7 := Ex.new (o := .tup []) nu2
      have wl := withoutL_len h.2 c
      refine ⟨p, p6, u2, fewerBs h.1 c, withoutL h.2 c, [], rfl, h3'.ex (((e4.trans e5).trans e6).trans e7), ho.few.fewer c, st_of (e7 _ _ h6'), by omega, st_of upd_same, (by intro i hi; cases hi), by decide, fun p8 H8 np8 e8 h8 => ?_⟩
      have hl1 := shutOf_len (fewerBs h.1 c) (withoutL h.2 c) []
      have hl2 : (fewerBs h.1 c).length = h.1.length := List.length_map _
      have eAll := (((((eX.trans e4).trans e5).trans e6).trans e7).trans e8)
      refine s_retU (eu_tupN (K := K) (xs := (lostOf h c).map vN) (el_lessT (K := K) (b := p5) (ev_var (v := .ref p8) rfl) (st_of h8) (by omega) (st_of (((e6.trans e7).trans e8) _ _ h5)) fun x => ⟨rfl, rfl, fun H1 => ev_var rfl⟩)) fun p9 H9 np9 e9 h9 => q p9 H9 (fresh_back eAll np9) (eAll.trans e9) h9
end
end Kw
set_option Elab.async false
set_option linter.all false
set_option maxRecDepth 100000
set_option maxHeartbeats 4000000
namespace Kw
open PySem PySem.Spec PyProof.Rows L2 Evl
abbrev sCell : Stmt := topS 31
theorem scCell : FnScope ["script", "k"] ["script", "k"] (defScope sCell) := ⟨rfl, rfl, rfl, by decide +kernel, rfl, by decide +kernel, by decide +kernel⟩
abbrev sDraw : Stmt := topS 32
theorem scDraw : FnScope ["cell", "many", "size", "found", "rest", "stirred", "k"] ["cell", "many", "size"] (defScope sDraw) := ⟨rfl, rfl, rfl, by decide +kernel, rfl, by decide +kernel, by decide +kernel⟩
abbrev sBag : Stmt := topS 33
theorem scBag : FnScope ["script", "k"] ["script", "k"] (defScope sBag) := ⟨rfl, rfl, rfl, by decide +kernel, rfl, by decide +kernel, by decide +kernel⟩
abbrev sBags : Stmt := topS 34
theorem scBags : FnScope ["script", "limit", "k"] ["script", "limit"] (defScope sBags) := ⟨rfl, rfl, rfl, by decide +kernel, rfl, by decide +kernel, by decide +kernel⟩
abbrev sTake : Stmt := topS 35
theorem scTake : FnScope ["bag", "many"] ["bag", "many"] (defScope sTake) := ⟨rfl, rfl, rfl, by decide +kernel, rfl, by decide +kernel, by decide +kernel⟩
abbrev BuL (mg : Str → Option Value) : Prop := Bu mg
def DrawsOk (xs : List Int) : Prop := xs.length = 400 ∧ ∀ x ∈ xs, 0 ≤ x ∧ x < 1000
def Bag (H : Hp) (a : Addr) : Prop := ∃ (d : Addr) (n : Int) (xs : List Int), H a = some (.lst [.ref d, .int n]) ∧ H d = some (.lst (xs.map V.int)) ∧ DrawsOk xs
/-- all stays but what lies at a -/
def ExB (a : Addr) (H H' : Hp) : Prop := ∀ b o, b ≠ a → H b = some o → H' b = some o
theorem ExB.refl (a : Addr) (H : Hp) : ExB a H H := fun _ _ _ h => h
theorem ExB.trans {a : Addr} {H H1 H2 : Hp} (x : ExB a H H1) (y : ExB a H1 H2) : ExB a H H2 := fun b o n h => y b o n (x b o n h)
theorem ExB.of {a : Addr} {H H' : Hp} (e : Ex H H') : ExB a H H' := fun b o _ h => e b o h
theorem Bag.ex {H H' : Hp} {a : Addr} (e : Ex H H') (h : Bag H a) : Bag H' a := by
  obtain ⟨d, n, xs, h1, h2, h3⟩ := h
  exact ⟨d, n, xs, e _ _ h1, e _ _ h2, h3⟩
theorem Bag.keepT {H H' : Hp} {a : Addr} (h : Bag H a) (e : ExB a H H') : KeepT H H' := fun b xs r => by
  obtain ⟨d, n, ys, h1, _⟩ := h
  have nb : b ≠ a := by
    rintro rfl
    rcases r with r | ⟨o, r⟩
    · rw [h1] at r; cases r
    · rw [h1] at r; cases r
  rcases r with r | ⟨o, r⟩
  · exact .inl (e _ _ nb r)
  · exact .inr ⟨o, e _ _ nb r⟩
section
variable {P : Program} {w : World} {K : PySem.W.Frag} {mg : Str → Option Value} {base : Heap}
/-! ### _law_cell_at -/
def spCell (K : PySem.W.Frag) : Sp := fun vs H Q _ => ∃ (a : Addr) (ns : List Int) (k : Nat), vs = [.ref a, vN k] ∧ SqL K H a (ns.map V.int) ∧ ∀ c H2, Ex H H2 → Q (.int c) H2
theorem ok_cell {f : Addr} {fd : FuncData} {k : Nat} (F : Fun K "_law_cell_at" "_law_cell_at" sCell f fd) (B : Bu mg) : FnOk P w K mg base CX0 (k + 1) f fd ["script", "k"] (spCell K) := by
  refine F.ok scCell (fun vs H Q E h => ?_) (fun cdv A outer s H vs Q E hr h => ?_)
  · obtain ⟨a, ns, k, rfl, _⟩ := h
    rfl
  · obtain ⟨a, ns, k, rfl, hS, q⟩ := h
    refine ⟨_, pss_cons (ps_if (pt_cmpR op_lt (pv 1) (pe_callB call_len_seq (by rfl) B.len PySem.boot_len (pa_cons (pv 0) pa_nil)) (nomark _)) (pss_one (ps_ret (pe_ix ix_list (pv 0) (pv 1) (fun _ _ => rfl)))) pss_nil) (pss_one (ps_ret pe_int)), ?_⟩
    refine q_when (b := decide ((k : Int) < ((ns.map V.int).length : Nat))) (et_test (ev_op (ev_var (v := vN k) rfl) (ev_len (K := K) (ev_var (v := .ref a) rfl) hS) rv_I0)) (fun hb H1 e1 => ?_) (fun hb H1 e1 => q 0 H1 e1)
    have hk : k < ns.length := by
      have := of_decide_eq_true hb
      rw [List.length_map] at this
      omega
    exact s_ret (ev_op (ev_var (v := .ref a) rfl) (ev_var (v := vN k) rfl) (rv_ixL (v := .int ns[k]) (ex_l e1 hS) (atI_nat (by rw [List.getElem?_map, List.getElem?_eq_getElem hk]; rfl)))) fun H2 e2 => q _ H2 (e1.trans e2)
/-! ### _law_draws -/
def DrawI (H : Hp) (p : Addr) (c : Int) (i : Nat) (σ' : L2.St) (H' : Hp) : Prop := ∃ (rest st : Int) (y : Option V) (xs : List Int), σ' = [some (.int c), some (.int 400), some (.int 1000), some (.ref p), some (.int rest), some (.int st), y] ∧ Ex H H' ∧ H' p = some (.lst (xs.map V.int)) ∧ xs.length = i - 3 ∧ (∀ x ∈ xs, 0 ≤ x ∧ x < 1000) ∧ 0 ≤ st ∧ st < 2305843009213693951
theorem DrawI.grow {H H' : Hp} {p : Addr} {c rest st v : Int} {i : Nat} {y : Option V} {xs : List Int} (np : H p = none) (e : Ex H H') (h2 : 2 < i) (hl : xs.length = i - 3) (hall : ∀ x ∈ xs, 0 ≤ x ∧ x < 1000) (v0 : 0 ≤ v) (v1 : v < 1000) (s0 : 0 ≤ st) (s1 : st < 2305843009213693951) :
    DrawI H p c (i + 1) [some (.int c), some (.int 400), some (.int 1000), some (.ref p), some (.int rest), some (.int st), y] (upd H' p (.lst (xs.map V.int ++ [.int v]))) := by
  refine ⟨rest, st, y, xs ++ [v], rfl, Ex.mut e np, ?_, by rw [List.length_append, List.length_singleton]; omega, fun x hx => ?_, s0, s1⟩
  · rw [upd_same, List.map_append]
    rfl
  · rcases List.mem_append.mp hx with h | h
    · exact hall x h
    · rw [List.mem_singleton.mp h]
      exact ⟨v0, v1⟩
def spDraw (K : PySem.W.Frag) : Sp := fun vs H Q _ => ∃ c : Int, vs = [.int c, .int 400, .int 1000] ∧ ∀ p xs H2, H p = none → Ex H H2 → H2 p = some (.lst (xs.map V.int)) → DrawsOk xs → Q (.ref p) H2
theorem ok_draw {f : Addr} {fd : FuncData} {k : Nat} (F : Fun K "_law_draws" "_law_draws" sDraw f fd) (B : Bu mg) (BL : BuL mg) : FnOk P w K mg base CX0 (k + 1) f fd ["cell", "many", "size"] (spDraw K) := by
  refine F.ok scDraw (fun vs H Q E h => ?_) (fun cdv A outer s H vs Q E hr h => ?_)
  · obtain ⟨c, rfl, _⟩ := h
    rfl
  · obtain ⟨c, rfl, q⟩ := h
    refine ⟨_, pss_cons (ps_set (i := 3) scDraw.nd rfl (.inl rfl) (pe_lst pa_nil))
      (pss_cons (ps_set (i := 4) scDraw.nd rfl (.inl rfl) (pe_op op_mul (pv 0) (pe_callTy call_int1 (by rfl) BL.int PyProof.Rows.boot_int (pa_cons (pe_cmpR op_ge (pv 0) (pe_op op_pow pe_int pe_int) (nomark _)) pa_nil))))
      (pss_cons (ps_set (i := 5) scDraw.nd rfl (.inl rfl) (pe_op op_mod (pv 0) pe_int))
      (pss_cons (ps_for PassesOwn.never rfl (pi_range1 (by rfl) B.rng (pa_cons (pe_op op_add (pv 1) pe_int) pa_nil)) (pg_name (i := 6) scDraw.nd rfl (.inl rfl))
        (pss_cons (ps_set (i := 5) scDraw.nd rfl (.inl rfl) (pe_op op_mod (pe_op op_add (pe_op op_add (pe_op op_add (pe_op op_mul (pv 5) (pv 5)) (pe_op op_mul pe_int (pv 5))) (pv 6)) pe_int) pe_int))
        (pss_one (ps_if (pw_and (pt_cmpR op_gt (pv 6) pe_int (nomark _)) (pw_and1 (pt_cmpR op_gt (pv 4) pe_int (nomark _)))).pt
          (pss_cons (ps_expr (pe_bm PySem.F.plainAttrs_list PySem.F.slot_list_append PySem.F.type_list_append mt_append (pv 3) (pa_cons (pe_op op_mod (pv 4) (pv 2)) pa_nil)))
            (pss_one (ps_set (i := 4) scDraw.nd rfl (.inl rfl) (pe_op op_fdiv (pv 4) (pv 2)))))
          (pss_one (ps_if (pt_cmpR op_gt (pv 6) pe_int (nomark _)) (pss_one (ps_expr (pe_bm PySem.F.plainAttrs_list PySem.F.slot_list_append PySem.F.type_list_append mt_append (pv 3) (pa_cons (pe_op op_mod (pe_op op_fdiv (pv 5) pe_int) (pv 2)) pa_nil)))) pss_nil))))))
      (pss_one (ps_ret (pv 3)))))), ?_⟩
    refine q_asgL (xs := []) (el_lst ea_nil (by decide)) fun p H1 np e1 hp => ?_
    have t10 : ∀ {σ : L2.St} {H : Hp}, Ev (tOp (rI CPow fun i j => .int (i ^ j.toNat)) (tC (.int 10)) (tC (.int 18))) σ H (.int ((10 : Int) ^ (18 : Int).toNat)) := fun {σ H} => ev_op ev_c ev_c (rv_I ⟨by decide, by decide, by decide⟩)
    refine q_asg (v := .int (c * (if decide ((10 : Int) ^ (18 : Int).toNat ≤ c) then 1 else 0))) (ev_op (ev_var (v := .int c) rfl) (ev_cb (ea_cons (ev_op (ev_var (v := .int c) rfl) t10 rv_I0) ea_nil) (z := .int (if decide ((10 : Int) ^ (18 : Int).toNat ≤ c) then 1 else 0)) (fun H2 _ Q q => .inr ⟨_, rfl, q H2 (Ex.refl H2)⟩)) (rv_I (.inr ?_))) fun H2 e2 => ?_
    · split <;> exact ⟨by decide, by decide⟩
    refine q_asg (v := .int (c % 2305843009213693951)) (ev_op (ev_var (v := .int c) rfl) ev_c (rv_I (by decide))) fun H3 e3 => ?_
    refine q_forR1 (n := 403) (ea_cons (ev_op (ev_var (v := .int 400) rfl) ev_c rv_I0) ea_nil) (by decide) (DrawI H p c)
      (fun H4 e4 => ⟨_, _, none, [], rfl, ((e1.trans e2).trans e3).trans e4, ((e2.trans e3).trans e4) _ _ hp, rfl, by simp, Int.emod_nonneg _ (by decide), Int.emod_lt_of_pos _ (by decide)⟩) (fun i σ' H' hi hP => ?_) (fun σ' H' hP => ?_)
    · obtain ⟨rest, st, y, xs, rfl, eH, hp', hlen, hall, s0, s1⟩ := hP
      refine q_asg (v := .int ((st * st + 48271 * st + (i : Int) + 1) % 2305843009213693951)) (ev_op (ev_op (ev_op (ev_op (ev_op (ev_var (v := .int st) rfl) (ev_var (v := .int st) rfl) (rv_I (.inl ⟨by omega, by omega⟩))) (ev_op ev_c (ev_var (v := .int st) rfl) (rv_I (.inl ⟨by decide, by decide⟩))) rv_I0) (ev_var (v := .int (i : Int)) rfl) rv_I0) ev_c rv_I0) ev_c (rv_I (by decide))) fun H5 e5 => ?_
      generalize hst : (st * st + 48271 * st + (i : Int) + 1) % 2305843009213693951 = st2
      have z0 : 0 ≤ st2 := by rw [← hst]; exact Int.emod_nonneg _ (by decide)
      have z1 : st2 < 2305843009213693951 := by rw [← hst]; exact Int.emod_lt_of_pos _ (by decide)
      have hxl : (xs.map V.int).length < 100000 := by
        rw [List.length_map]
        omega
      refine s_if (b := decide ((2 : Int) < (i : Int)) && decide (0 < rest)) (et_and (et_test (ev_op (ev_var (v := .int (i : Int)) rfl) ev_c rv_gt)) fun _ => et_test (ev_op (ev_var (v := .int rest) rfl) ev_c rv_gt)) (fun hb H6 e6 => ?_) (fun hb H6 e6 => ?_)
      · have hb' := Bool.and_eq_true_iff.mp hb
        have h2 : 2 < i := by
          have := of_decide_eq_true hb'.1
          omega
        refine q_app (K := K) (l := p) ((e5.trans e6) _ _ hp') (ev_var (v := .ref p) rfl) (v := .int (rest % 1000)) (ev_op (ev_var (v := .int rest) rfl) (ev_var (v := .int 1000) rfl) (rv_I (by decide))) hxl fun H7 e7 => ?_
        refine s_asg (v := .int (rest / 1000)) (ev_op (ev_var (v := .int rest) rfl) (ev_var (v := .int 1000) rfl) (rv_I ⟨by decide, by decide⟩)) fun H8 e8 => ?_
        have g := DrawI.grow (c := c) (rest := rest / 1000) (y := some (.int (i : Int))) np (((eH.trans e5).trans e6).trans e7) h2 hlen hall (Int.emod_nonneg rest (by decide : (1000 : Int) ≠ 0)) (Int.emod_lt_of_pos rest (by decide : (0 : Int) < 1000)) z0 z1
        obtain ⟨r', s', y', xs', g1, g2, g3, g4⟩ := g
        exact ⟨r', s', y', xs', g1, g2.trans e8, e8 _ _ g3, g4⟩
      · refine s_when (b := decide ((2 : Int) < (i : Int))) (et_test (ev_op (ev_var (v := .int (i : Int)) rfl) ev_c rv_gt)) (fun hb2 H7 e7 => ?_) (fun hb2 H7 e7 => ?_)
        · have h2 : 2 < i := by
            have := of_decide_eq_true hb2
            omega
          refine s_app (K := K) (l := p) (((e5.trans e6).trans e7) _ _ hp') (ev_var (v := .ref p) rfl) (v := .int (st2 / 4096 % 1000)) (ev_op (ev_op (ev_var (v := .int st2) rfl) ev_c (rv_I ⟨by decide, by decide⟩)) (ev_var (v := .int 1000) rfl) (rv_I (by decide))) hxl fun H8 e8 => ?_
          exact DrawI.grow np ((((eH.trans e5).trans e6).trans e7).trans e8) h2 hlen hall (Int.emod_nonneg _ (by decide : (1000 : Int) ≠ 0)) (Int.emod_lt_of_pos _ (by decide : (0 : Int) < 1000)) z0 z1
        · have h2 : ¬ 2 < i := by
            have := of_decide_eq_false hb2
            omega
          exact ⟨rest, st2, _, xs, rfl, (((eH.trans e5).trans e6).trans e7), ((e5.trans e6).trans e7) _ _ hp', by omega, hall, z0, z1⟩
    · obtain ⟨rest, st, y, xs, rfl, eH, hp', hlen, hall, s0, s1⟩ := hP
      exact ⟨.ref p, rfl, q p xs H' np eH hp' ⟨hlen, hall⟩⟩
end
end Kw
set_option Elab.async false
set_option linter.all false
set_option maxRecDepth 100000
set_option maxHeartbeats 4000000
namespace Kw
open PySem PySem.Spec PyProof.Rows L2 Evl
section
variable {P : Program} {w : World} {K : PySem.W.Frag} {mg : Str → Option Value} {base : Heap}
/-! ### _law_bag -/
def spBag (K : PySem.W.Frag) : Sp := fun vs H Q _ => ∃ (a : Addr) (ns : List Int) (k : Nat), vs = [.ref a, vN k] ∧ SqL K H a (ns.map V.int) ∧ ∀ p d xs H2, H p = none → H d = none → Ex H H2 → H2 p = some (.lst [.ref d, .int 0]) → H2 d = some (.lst (xs.map V.int)) → DrawsOk xs → Q (.ref p) H2
theorem ok_bag {f fC fD : Addr} {fd fdC fdD : FuncData} {k : Nat} (F : Fun K "_law_bag" "_law_bag" sBag f fd) (DC : Df K mg "_law_cell_at" sCell ["script", "k"] fC fdC) (DD : Df K mg "_law_draws" sDraw ["cell", "many", "size"] fD fdD)
    (GC : FnOk P w K mg base CX0 (k + 1) fC fdC ["script", "k"] (spCell K)) (GD : FnOk P w K mg base CX0 (k + 1) fD fdD ["cell", "many", "size"] (spDraw K)) : FnOk P w K mg base CX0 (k + 2) f fd ["script", "k"] (spBag K) := by
  refine F.ok scBag (fun vs H Q E h => ?_) (fun cdv A outer s H vs Q E hr h => ?_)
  · obtain ⟨a, ns, k, rfl, _⟩ := h
    rfl
  · obtain ⟨a, ns, k, rfl, hS, q⟩ := h
    refine ⟨_, pss_one (ps_ret (pe_lst (pa_cons (pcall DD GD hr (pa_cons (pcall DC GC hr (pa_cons (pv 0) (pa_cons (pv 1) pa_nil))) (pa_cons pe_int (pa_cons pe_int pa_nil)))) (pa_cons pe_int pa_nil)))), ?_⟩
    refine ⟨.ref a, rfl, vN k, rfl, a, ns, k, rfl, hS, fun c H2 e2 => ?_⟩
    refine ⟨c, rfl, fun p xs H3 np e3 h3 ho => ⟨by show 2 ≤ sizeLine; decide, fun b nb => ?_⟩⟩
    have e4 := Ex.new (o := .lst [.ref p, .int 0]) nb
    exact q b p xs _ (fresh_back (e2.trans e3) nb) (fresh_back e2 np) ((e2.trans e3).trans e4) upd_same (e4 _ _ h3) ho
/-! ### _law_bags -/
def BagsAt (H : Hp) (ys : List V) : Prop := ∀ y ∈ ys, ∃ a, y = .ref a ∧ Bag H a
theorem BagsAt.ex {H H' : Hp} {ys : List V} (e : Ex H H') (h : BagsAt H ys) : BagsAt H' ys := fun y hy => by
  obtain ⟨a, h1, h2⟩ := h y hy
  exact ⟨a, h1, h2.ex e⟩
def spBags (K : PySem.W.Frag) (lim : Nat) : Sp := fun vs H Q _ => ∃ (a : Addr) (ns : List Int), vs = [.ref a, vN lim] ∧ SqL K H a (ns.map V.int) ∧ ns.length ≤ 1000 ∧ ∀ p ys H2, H p = none → Ex H H2 → H2 p = some (.lst ys) → BagsAt H2 ys → (∀ y ∈ ys, y ≠ .ref p) → ys.length ≤ lim → Q (.ref p) H2
/-- the lists made on the way stay apart from the list that is made of them -/
theorem ok_bags {f fB : Addr} {fd fdB : FuncData} {k lim : Nat} (hlim : 1 ≤ lim ∧ lim ≤ 1000) (F : Fun K "_law_bags" "_law_bags" sBags f fd) (B : Bu mg) (BL : BuL mg) (DB : Df K mg "_law_bag" sBag ["script", "k"] fB fdB)
    (GB : FnOk P w K mg base CX0 (k + 2) fB fdB ["script", "k"] (spBag K)) : FnOk P w K mg base CX0 (k + 3) f fd ["script", "limit"] (spBags K lim) := by
  refine F.ok scBags (fun vs H Q E h => ?_) (fun cdv A outer s H vs Q E hr h => ?_)
  · obtain ⟨a, ns, rfl, _⟩ := h
    rfl
  · obtain ⟨a, ns, rfl, hS, hl, q⟩ := h
    refine ⟨_, pss_one (ps_ret (pe_lc (own := [("k", 2)]) (g := gName 2) (tt := tYes) (te := tCall (spBag K) [] E0 (tCons (tVar 0) (tCons (tVar 2) tNil))) rfl scBags.nd
        (pi_range1 (by rfl) B.rng (pa_cons (pe_callB (call_max2 rfl) (by rfl) BL.max PyProof.Rows.boot_max (pa_cons pe_int (pa_cons (pe_callB (call_min2 rfl) (by rfl) BL.min PyProof.Rows.boot_min (pa_cons (pv 1) (pa_cons (pe_callB call_len_seq (by rfl) B.len PySem.boot_len (pa_cons (pv 0) pa_nil)) pa_nil))) pa_nil))) pa_nil))
        (blkOk_by (N := ["script", "limit", "k"]) (sc := defScope sBags) (by decide +kernel)) (fun _ _ _ _ _ => pg_name (i := 2) scBags.nd rfl (.inl rfl)) (fun _ _ _ _ _ => pts_nil) (fun _ _ _ _ _ => pcall DB GB hr (pa_cons (pv 0) (pa_cons (pv 2) pa_nil))))), ?_⟩
    have hn : ∃ n : Nat, n ≤ lim ∧ (if (if ((ns.map V.int).length : Int) < (lim : Int) then ((ns.map V.int).length : Int) else (lim : Int)) > 1 then (if ((ns.map V.int).length : Int) < (lim : Int) then ((ns.map V.int).length : Int) else (lim : Int)) else 1) = (n : Int) := by
      split <;> split
      · exact ⟨(ns.map V.int).length, by omega, rfl⟩
      · exact ⟨1, by omega, rfl⟩
      · exact ⟨lim, by omega, rfl⟩
      · exact ⟨1, by omega, rfl⟩
    obtain ⟨n, hn1, hn2⟩ := hn
    refine ⟨vN lim, rfl, .ref a, rfl, a, _, rfl, .inl hS, (lim : Int), _, rfl, 1, _, rfl, _, rfl, ?_⟩
    rw [hn2]
    refine ⟨by omega, by omega, fun D hD => ?_⟩
    rw [Int.toNat_natCast]
    refine lc_it (walk_rng0 (n := n)) (Pv := fun i H' => Ex H H' ∧ ∃ ys : List V, H' D = some (.lst ys) ∧ ys.length = i ∧ ∀ y ∈ ys, ∃ a d n xs, y = .ref a ∧ a ≠ D ∧ d ≠ D ∧ H' a = some (.lst [.ref d, .int n]) ∧ H' d = some (.lst (xs.map V.int)) ∧ DrawsOk xs) ⟨Ex.new hD, [], upd_same, rfl, by simp⟩
      (fun _ _ _ _ => trivial) (fun i x H' H2 hi p y => ?_) (fun H' p => ?_)
    · obtain ⟨p1, ys, p2, p3, p4⟩ := p
      obtain ⟨rfl, rfl⟩ := y
      refine ⟨rfl, yes_do ?_⟩
      refine ⟨.ref a, rfl, vN i, rfl, a, ns, i, rfl, ex_l p1 hS, fun p d xs H3 np nd e3 h3 h3' ho => ?_⟩
      have hD3 : H3 D = some (.lst ys) := e3 _ _ p2
      have npD : p ≠ D := fun z => by
        rw [z, p2] at np
        cases np
      have ndD : d ≠ D := fun z => by
        rw [z, p2] at nd
        cases nd
      refine ⟨ys, hD3, sz_lt (by omega), Ex.mut (p1.trans e3) hD, ys ++ [.ref p], upd_same, by rw [List.length_append, List.length_singleton, p3], fun y hy => ?_⟩
      rcases List.mem_append.mp hy with h | h
      · obtain ⟨a', d', n', xs', r1, r2, r3, r4, r5, r6⟩ := p4 y h
        exact ⟨a', d', n', xs', r1, r2, r3, by rw [upd_ne r2]; exact e3 _ _ r4, by rw [upd_ne r3]; exact e3 _ _ r5, r6⟩
      · rw [List.mem_singleton.mp h]
        exact ⟨p, d, 0, xs, rfl, npD, ndD, by rw [upd_ne npD]; exact h3, by rw [upd_ne ndD]; exact h3', ho⟩
    · obtain ⟨p1, ys, p2, p3, p4⟩ := p
      refine q D ys H' hD p1 p2 (fun y hy => ?_) (fun y hy z => ?_) (by omega)
      · obtain ⟨a', d', n', xs', r1, r2, r3, r4, r5, r6⟩ := p4 y hy
        exact ⟨a', r1, d', n', xs', r4, r5, r6⟩
      · obtain ⟨a', d', n', xs', r1, r2, r3, r4, r5, r6⟩ := p4 y hy
        rw [r1] at z
        exact r2 (V.ref.inj z)
theorem ExB.back {a : Addr} {H H' : Hp} (e : ExB a H H') (h : Bag H' a) {b : Addr} (hb : H' b = none) : H b = none := by
  obtain ⟨d, n, xs, h1, _⟩ := h
  cases q : H b with
  | none => rfl
  | some o =>
    have nb : b ≠ a := fun z => by
      rw [z, h1] at hb
      cases hb
    rw [e b o nb q] at hb
    cases hb
/-! ### _law_take -/
def spTake (K : PySem.W.Frag) : Sp := fun vs H Q _ => ∃ (a : Addr) (m : Int), vs = [.ref a, .int m] ∧ Bag H a ∧ 0 < m ∧ ∀ r H', 0 ≤ r → r < m → ExB a H H' → Bag H' a → Q (.int r) H'
theorem ok_take {f : Addr} {fd : FuncData} {k : Nat} (F : Fun K "_law_take" "_law_take" sTake f fd) (B : Bu mg) : FnOk P w K mg base CX0 (k + 1) f fd ["bag", "many"] (spTake K) := by
  refine F.ok scTake (fun vs H Q E h => ?_) (fun cdv A outer s H vs Q E hr h => ?_)
  · obtain ⟨a, m, rfl, _⟩ := h
    rfl
  · obtain ⟨a, m, rfl, ⟨d, n, xs, h1, h2, h3⟩, hm, q⟩ := h
    refine ⟨_, pss_cons (ps_asg (pe_op op_add (pe_ix ix_list (pv 0) pe_int (fun _ _ => rfl)) pe_int) (pg_sub (pv 0) pe_int set_list))
      (pss_one (ps_ret (pe_op op_mod (pe_ix ix_list (pe_ix ix_list (pv 0) pe_int (fun _ _ => rfl)) (pe_op op_mod (pe_ix ix_list (pv 0) pe_int (fun _ _ => rfl)) (pe_callB call_len_seq (by rfl) B.len PySem.boot_len (pa_cons (pe_ix ix_list (pv 0) pe_int (fun _ _ => rfl)) pa_nil))) (fun _ _ => rfl)) (pv 1)))), ?_⟩
    have nad : d ≠ a := fun z => by
      rw [z, h1] at h2
      have := HO.lst.inj (Option.some.inj h2)
      have := congrArg List.length this
      rw [List.length_map, h3.1] at this
      simp at this
    refine q_setL (l := a) (xs := [.ref d, .int n]) (j := 1) (v := .int (n + 1)) h1 (ev_op (ev_op (ev_var (v := .ref a) rfl) ev_c (rv_ixL (K := K) (sq_of h1) at1)) ev_c rv_I0) (ev_var rfl) ev_c (by show 1 < 2; decide) fun H1 e1 => ?_
    have g1 : upd H1 a (.lst ([V.ref d, .int n].set 1 (.int (n + 1)))) a = some (.lst [.ref d, .int (n + 1)]) := upd_same
    have g2 : upd H1 a (.lst ([V.ref d, .int n].set 1 (.int (n + 1)))) d = some (.lst (xs.map V.int)) := by
      rw [upd_ne nad]
      exact e1 _ _ h2
    have g3 : ExB a H (upd H1 a (.lst ([V.ref d, .int n].set 1 (.int (n + 1))))) := fun b o nb hb => by
      rw [upd_ne nb]
      exact e1 _ _ hb
    generalize upd H1 a (.lst ([V.ref d, .int n].set 1 (.int (n + 1)))) = G at g1 g2 g3
    have hlen : (xs.map V.int).length = 400 := by rw [List.length_map, h3.1]
    have r0 : 0 ≤ (n + 1) % 400 := Int.emod_nonneg _ (by decide)
    have r1 : (n + 1) % 400 < 400 := Int.emod_lt_of_pos _ (by decide)
    obtain ⟨j, hj⟩ := Int.eq_ofNat_of_zero_le r0
    have hj' : j < xs.length := by
      rw [h3.1]
      omega
    have ed : Ev (tOp (rIxL K) (tVar 0) (tC (.int 0))) [some (.ref a), some (.int m)] G (.ref d) := ev_op (ev_var (v := .ref a) rfl) ev_c (rv_ixL (K := K) (sq_of g1) at0)
    refine s_ret (v := .int (xs[j] % m)) (ev_op (ev_op ed (ev_is (w := .int (j : Int)) (ev_op (ev_op (ev_var (v := .ref a) rfl) ev_c (rv_ixL (K := K) (sq_of g1) at1)) (ev_len (K := K) ed (sq_of g2)) (rv_I ?_)) ?_) (rv_ixL (K := K) (v := .int xs[j]) (sq_of g2) (atI_nat (by rw [List.getElem?_map, List.getElem?_eq_getElem hj']; rfl)))) (ev_var (v := .int m) rfl) (rv_I hm)) fun H2 e2 => ?_
    · rw [hlen]
      decide
    · rw [hlen]
      show V.int ((n + 1) % 400) = _
      rw [hj]
    · exact q _ H2 (Int.emod_nonneg _ (by omega)) (Int.emod_lt_of_pos _ hm) (g3.trans (ExB.of e2)) ⟨d, n + 1, xs, e2 _ _ g1, e2 _ _ g2, h3⟩
end
end Kw
set_option Elab.async false
set_option linter.all false
set_option maxRecDepth 100000
set_option maxHeartbeats 4000000
namespace Kw
open PySem PySem.Spec PyProof.Rows L2 Evl
abbrev sSome : Stmt := topS 36
theorem scSome : FnScope ["bag", "most", "wide", "names", "found", "turn"] ["bag", "most", "wide"] (defScope sSome) := ⟨rfl, rfl, rfl, by decide +kernel, rfl, by decide +kernel, by decide +kernel⟩
abbrev sHouse : Stmt := topS 37
theorem scHouse : FnScope ["bag", "boxes", "locks", "wide", "found", "turn"] ["bag", "boxes", "locks", "wide"] (defScope sHouse) := ⟨rfl, rfl, rfl, by decide +kernel, rfl, by decide +kernel, by decide +kernel⟩
def names12 : List Str := ["amber", "blue", "cyan", "dun", "ebony", "fawn", "gold", "hazel", "ivory", "jade", "khaki", "lime"]
theorem names_col : ∀ c ∈ names12, colB c = true := by decide +kernel
theorem rising_of_sorted : ∀ {ys : List Str}, ys.Nodup → sortedS ys = true → Rising ys := by
  intro ys hn hs i x y hx hy
  have key : ∀ (r : List Str) (p : Str) (i : Nat) (x y : Str), risingS p r = true → (p :: r)[i]? = some x → (p :: r)[i + 1]? = some y → ltCps y.cps.toList x.cps.toList = false := by
    intro r
    induction r with
    | nil =>
      intro p i x y _ _ h
      simp at h
    | cons a r ih =>
      intro p i x y h hx hy
      have h' : (!ltCps a.cps.toList p.cps.toList && risingS a r) = true := h
      rw [Bool.and_eq_true_iff] at h'
      cases i with
      | zero =>
        have e1 : p = x := Option.some.inj hx
        have e2 : a = y := Option.some.inj hy
        rw [← e1, ← e2]
        have := h'.1
        cases q : ltCps a.cps.toList p.cps.toList with
        | false => rfl
        | true =>
          rw [q] at this
          cases this
      | succ i => exact ih a i x y h'.2 hx hy
  cases ys with
  | nil => simp at hx
  | cons p r =>
    have h1 := key r p i x y hs hx hy
    rw [ltCps_eq] at h1
    have h2 := of_decide_eq_false h1
    have h3 : x.cps.toList ≤ y.cps.toList := List.not_lt.mp h2
    have hne : x.cps.toList ≠ y.cps.toList := fun z => by
      have := nd_ix hn (by rw [str_ext z] at hx; exact hx) hy
      omega
    by_cases hlt : x.cps.toList < y.cps.toList
    · exact hlt
    · exact absurd (List.le_antisymm h3 (List.not_lt.mp hlt)) hne
theorem any_key {kvs : List (Key × V)} {k : Key} : (kvs.any fun kv => decide (kv.1 = k)) = true ↔ k ∈ kvs.map (·.1) := by
  rw [List.any_eq_true, List.mem_map]
  constructor
  · rintro ⟨x, h1, h2⟩
    exact ⟨x, h1, of_decide_eq_true h2⟩
  · rintro ⟨x, h1, h2⟩
    exact ⟨x, h1, decide_eq_true h2⟩
theorem putK_in {kvs : List (Key × V)} {k : Key} {v : V} (h : k ∈ kvs.map (·.1)) : (putK kvs k v).map (·.1) = kvs.map (·.1) := by
  unfold putK
  rw [if_pos (any_key.mpr h), List.map_map]
  apply List.map_congr_left
  intro x hx
  show (if x.1 = k then (x.1, v) else x).1 = x.1
  split <;> rfl
theorem putK_out {kvs : List (Key × V)} {k : Key} {v : V} (h : ¬ k ∈ kvs.map (·.1)) : (putK kvs k v).map (·.1) = kvs.map (·.1) ++ [k] := by
  unfold putK
  rw [if_neg (fun z => h (any_key.mp z)), List.map_append]
  rfl
abbrev BuS (mg : Str → Option Value) : Prop := Bu mg
section
variable {P : Program} {w : World} {K : PySem.W.Frag} {mg : Str → Option Value} {base : Heap}
def spSome (K : PySem.W.Frag) : Sp := fun vs H Q _ => ∃ (a : Addr) (m w : Nat), vs = [.ref a, vN m, vN w] ∧ Bag H a ∧ m ≤ 6 ∧ 1 ≤ w ∧ w ≤ 12 ∧ ∀ p cs H', H p = none → ExB a H H' → Bag H' a → H' p = some (.tup (cs.map V.str)) → OkCols cs m → (∀ c ∈ cs, c ∈ names12) → Q (.ref p) H'
theorem ok_some {f fT : Addr} {fd fdT : FuncData} {k : Nat} (F : Fun K "_law_some" "_law_some" sSome f fd) (B : Bu mg) (BS : BuS mg) (DT : Df K mg "_law_take" sTake ["bag", "many"] fT fdT) (GT : FnOk P w K mg base CX0 (k + 1) fT fdT ["bag", "many"] (spTake K)) : FnOk P w K mg base CX0 (k + 2) f fd ["bag", "most", "wide"] (spSome K) := by
  refine F.ok scSome (fun vs H Q E h => ?_) (fun cdv A outer s H vs Q E hr h => ?_)
  · obtain ⟨a, m, w, rfl, _⟩ := h
    rfl
  · obtain ⟨a, m, wd, rfl, hB, hm, hw1, hw2, q⟩ := h
    refine ⟨_, pss_cons (ps_set (i := 3) scSome.nd rfl (.inl rfl) (pe_lst (pa_cons pe_str (pa_cons pe_str (pa_cons pe_str (pa_cons pe_str (pa_cons pe_str (pa_cons pe_str (pa_cons pe_str (pa_cons pe_str (pa_cons pe_str (pa_cons pe_str (pa_cons pe_str (pa_cons pe_str pa_nil))))))))))))))
      (pss_cons (ps_set (i := 4) scSome.nd rfl (.inl rfl) pe_dnewK)
      (pss_cons (ps_for PassesOwn.never rfl (pi_range1 (by rfl) B.rng (pa_cons (pcall DT GT hr (pa_cons (pv 0) (pa_cons (pe_op op_add (pv 1) pe_int) pa_nil))) pa_nil)) (pg_name (i := 5) scSome.nd rfl (.inl rfl))
        (pss_one (ps_dput (hu_of hr) (pv 4) (pe_ix ix_list (pv 3) (pcall DT GT hr (pa_cons (pv 0) (pa_cons (pv 2) pa_nil))) (fun _ _ => rfl)) pe_bl rfl)))
      (pss_one (ps_ret (pe_callTy call_tupOf (by rfl) B.tup boot_tuple (pa_cons (pe_callB (call_sortedD rfl) (by rfl) BS.srt PyProof.Rows.boot_sorted (pa_cons (pv 4) pa_nil)) pa_nil)))))), ?_⟩
    refine q_asgL (xs := names12.map V.str) (el_lst (ea_cons ev_c (ea_cons ev_c (ea_cons ev_c (ea_cons ev_c (ea_cons ev_c (ea_cons ev_c (ea_cons ev_c (ea_cons ev_c (ea_cons ev_c (ea_cons ev_c (ea_cons ev_c (ea_cons ev_c ea_nil)))))))))))) (by show 12 ≤ 100000; decide)) fun l H0 nl e1 hl => fun d nd => ?_
    have nla : l ≠ a := fun z => by
      obtain ⟨da, na, xa, hBa, _⟩ := hB
      rw [z, hBa] at nl
      cases nl
    have e2 := Ex.new (H := H0) (o := .dK []) nd
    have nda : d ≠ a := fun z => by
      obtain ⟨da, na, xa, hBa, _⟩ := hB.ex e1
      rw [z, hBa] at nd
      cases nd
    have nH : H d = none := fresh_back e1 nd
    have ndl : d ≠ l := fun z => by
      rw [z, hl] at nd
      cases nd
    refine ⟨.ref a, rfl, vN m, rfl, (m : Int), 1, rfl, rfl, a, (m : Int) + 1, rfl, hB.ex (e1.trans e2), by omega, fun r H1 r0 r1 x1 b1 => ?_⟩
    refine ⟨r, rfl, by omega, by omega, ?_⟩
    refine for_range (lo := 0) (n := r.toNat) (fun i σ' H' => ∃ (y : Option V) (kvs : List (Key × V)) (ks : List Str), σ' = [some (.ref a), some (vN m), some (vN wd), some (.ref l), some (.ref d), y] ∧ ExB a H H' ∧ Bag H' a ∧ H' l = some (.lst (names12.map V.str)) ∧ H' d = some (.dK kvs) ∧ kvs.map (·.1) = ks.map Sum.inr ∧ ks.Nodup ∧ (∀ c ∈ ks, c ∈ names12) ∧ ks.length ≤ i)
      ⟨none, [], [], rfl, (ExB.of (e1.trans e2)).trans x1, b1, x1 _ _ nla (e2 _ _ hl), x1 _ _ nda upd_same, rfl, List.nodup_nil, by simp, Nat.le_refl _⟩ (fun i σ' H' hi hP => ?_) (fun σ' H' hP => ?_)
    · obtain ⟨y, kvs, ks, rfl, x2, b2, h3, h4, hk, hnd, hin, hlen⟩ := hP
      refine ⟨.ref d, rfl, .ref l, rfl, .ref a, rfl, vN wd, rfl, a, (wd : Int), rfl, b2, by omega, fun r2 H2 s0 s1 x3 b3 => ?_⟩
      obtain ⟨j, hj⟩ := Int.eq_ofNat_of_zero_le s0
      have hj12 : j < names12.length := by
        show j < 12
        omega
      have h3' := x3 _ _ nla h3
      have h4' := x3 _ _ nda h4
      refine ⟨l, names12.map V.str, r2, .str names12[j], rfl, rfl, sq_of h3', by rw [hj]; exact atI_nat (by rw [List.getElem?_map, List.getElem?_eq_getElem hj12]; rfl), d, _, rfl, DPut.k (k := Sum.inr names12[j]) h4' ?_, ?_⟩
      · have := congrArg List.length hk
        rw [List.length_map, List.length_map] at this
        exact sz_lt (by omega)
      · have b4 : Bag (upd H2 d (.dK (putK kvs (Sum.inr names12[j]) (.bl true)))) a := by
          obtain ⟨d', n', xs', g1, g2, g3⟩ := b3
          refine ⟨d', n', xs', by rw [upd_ne (Ne.symm nda)]; exact g1, ?_, g3⟩
          have : d' ≠ d := fun z => by
            rw [z, h4'] at g2
            cases g2
          rw [upd_ne this]
          exact g2
        have x4 : ExB a H (upd H2 d (.dK (putK kvs (Sum.inr names12[j]) (.bl true)))) := fun b o nb hb => by
          have : b ≠ d := ne_of_none hb nH
          rw [upd_ne this]
          exact (x2.trans x3) b o nb hb
        by_cases hmem : names12[j] ∈ ks
        · have hput := putK_in (kvs := kvs) (k := Sum.inr names12[j]) (v := .bl true) (by rw [hk]; exact List.mem_map.mpr ⟨_, hmem, rfl⟩)
          rw [hk] at hput
          exact ⟨some _, _, ks, rfl, x4, b4, by rw [upd_ne (Ne.symm ndl)]; exact h3', upd_same, hput, hnd, hin, by omega⟩
        · have hput := putK_out (kvs := kvs) (k := Sum.inr names12[j]) (v := .bl true) (by
            rw [hk]
            intro z
            obtain ⟨c, h1, h2⟩ := List.mem_map.mp z
            exact hmem (Sum.inr.inj h2 ▸ h1))
          rw [hk] at hput
          refine ⟨some _, _, ks ++ [names12[j]], rfl, x4, b4, by rw [upd_ne (Ne.symm ndl)]; exact h3', upd_same, by rw [hput, List.map_append]; rfl, nd_snoc hnd hmem, fun c hc => ?_, by rw [List.length_append, List.length_singleton]; omega⟩
          rcases List.mem_append.mp hc with h | h
          · exact hin c h
          · rw [List.mem_singleton.mp h]
            exact List.getElem_mem hj12
    · obtain ⟨y, kvs, ks, rfl, x2, b2, h3, h4, hk, hnd, hin, hlen⟩ := hP
      refine ⟨.ref d, rfl, d, kvs, ks, rfl, .inl h4, hk, by omega, fun ys p perm srt np => ⟨p, ys.map V.str, rfl, .inl ⟨sq_of upd_same, fun t nt => ?_⟩⟩⟩
      have e5 := Ex.new (o := .lst (ys.map V.str)) np
      have e6 := Ex.new (H := upd H' p (.lst (ys.map V.str))) (o := .tup (ys.map V.str)) nt
      refine q t ys _ (x2.back b2 (fresh_back e5 nt)) (x2.trans (ExB.of (e5.trans e6))) (b2.ex (e5.trans e6)) upd_same ⟨?_, fun c hc => names_col c (hin c (perm.mem_iff.mp hc)), rising_of_sorted (perm.nodup_iff.mpr hnd) srt⟩ fun c hc => hin c (perm.mem_iff.mp hc)
      rw [perm.length_eq]
      omega
end
end Kw
set_option Elab.async false
set_option linter.all false
set_option maxRecDepth 100000
set_option maxHeartbeats 4000000
namespace Kw
open PySem PySem.Spec PyProof.Rows L2 Evl
/-- [c, ..][_law_take(bag, n)] -/
theorem menu {K : PySem.W.Frag} {σ : L2.St} {H : Hp} {ta : TA} {cs : List Int} {i : Nat} {a : Addr} {n : Int} {Q : VK} (ha : EvA ta σ H (cs.map V.int)) (hn : n = (cs.length : Int)) (hl : 1 ≤ cs.length ∧ cs.length ≤ 1000) (h0 : σ[i]? = some (some (.ref a))) (hB : Bag H a)
    (q : ∀ c H', c ∈ cs → ExB a H H' → Bag H' a → Q (.int c) H') : tOp (rIxL K) (tLst ta) (tCall (spTake K) [] E0 (tCons (tVar i) (tCons (tC (.int n)) tNil))) σ H Q := by
  refine el_lst ha (by rw [List.length_map]; omega) H (Ex.refl H) _ fun l H1 nl e1 hl1 => ?_
  refine ⟨.ref a, h0, a, n, rfl, hB.ex e1, by omega, fun r H2 r0 r1 x2 b2 => ?_⟩
  obtain ⟨j, hj⟩ := Int.eq_ofNat_of_zero_le r0
  have hj' : j < cs.length := by omega
  have nla : l ≠ a := fun z => by
    obtain ⟨da, na, xa, hBa, _⟩ := hB
    rw [z, hBa] at nl
    cases nl
  exact ⟨l, cs.map V.int, r, .int cs[j], rfl, rfl, sq_of (x2 _ _ nla hl1), by rw [hj]; exact atI_nat (by rw [List.getElem?_map, List.getElem?_eq_getElem hj']; rfl), q _ H2 (List.getElem_mem hj') ((ExB.of e1).trans x2) b2⟩
def FromNames (h : House) : Prop := (∀ b ∈ h.1, (∀ c ∈ b.1, c ∈ names12) ∧ ∀ c ∈ b.2, c ∈ names12) ∧ ∀ c ∈ h.2, c ∈ names12
theorem OkCols.mono {cs : List Str} {m n : Nat} (h : OkCols cs m) (hmn : m ≤ n) : OkCols cs n := ⟨Nat.le_trans h.1 hmn, h.2⟩
section
variable {P : Program} {w : World} {K : PySem.W.Frag} {mg : Str → Option Value} {base : Heap}
def spHs (K : PySem.W.Frag) : Sp := fun vs H Q _ => ∃ (a : Addr) (nb nl w : Nat), vs = [.ref a, vN nb, vN nl, vN w] ∧ Bag H a ∧ 1 ≤ nb ∧ nb ≤ 30 ∧ nl ≤ 3 ∧ 1 ≤ w ∧ w ≤ 12 ∧
  ∀ v h H', ExB a H H' → Bag H' a → HouseAt K H' v h → OkHouse h → h.1.length ≤ nb → (∀ b ∈ h.1, b.1.length ≤ nl) → FromNames h → Q v H'
theorem ok_hs {f fT fS : Addr} {fd fdT fdS : FuncData} {k : Nat} (F : Fun K "_law_house" "_law_house" sHouse f fd) (B : Bu mg) (DT : Df K mg "_law_take" sTake ["bag", "many"] fT fdT) (DS : Df K mg "_law_some" sSome ["bag", "most", "wide"] fS fdS)
    (GT : FnOk P w K mg base CX0 (k + 1) fT fdT ["bag", "many"] (spTake K)) (GS : FnOk P w K mg base CX0 (k + 2) fS fdS ["bag", "most", "wide"] (spSome K)) : FnOk P w K mg base CX0 (k + 3) f fd ["bag", "boxes", "locks", "wide"] (spHs K) := by
  refine F.ok scHouse (fun vs H Q E h => ?_) (fun cdv A outer s H vs Q E hr h => ?_)
  · obtain ⟨a, nb, nl, w, rfl, _⟩ := h
    rfl
  · obtain ⟨a, nb, nl, wd, rfl, hB, hb1, hb2, hl3, hw1, hw2, q⟩ := h
    refine ⟨_, pss_cons (ps_set (i := 4) scHouse.nd rfl (.inl rfl) (pe_lst pa_nil))
      (pss_cons (ps_for PassesOwn.never rfl (pi_range1 (by rfl) B.rng (pa_cons (pe_op op_add pe_int (pcall DT GT (hr.mono (by omega)) (pa_cons (pv 0) (pa_cons (pv 1) pa_nil)))) pa_nil)) (pg_name (i := 5) scHouse.nd rfl (.inl rfl))
        (pss_one (ps_expr (pe_bm PySem.F.plainAttrs_list PySem.F.slot_list_append PySem.F.type_list_append mt_append (pv 4) (pa_cons (pe_tup (pa_cons (pcall DS GS hr (pa_cons (pv 0) (pa_cons (pv 2) (pa_cons (pv 3) pa_nil))))
          (pa_cons (pcall DS GS hr (pa_cons (pv 0) (pa_cons (pe_ix ix_list (pe_lst (pa_cons pe_int (pa_cons pe_int (pa_cons pe_int (pa_cons pe_int pa_nil))))) (pcall DT GT (hr.mono (by omega)) (pa_cons (pv 0) (pa_cons pe_int pa_nil))) (fun _ _ => rfl)) (pa_cons (pv 3) pa_nil)))) pa_nil))) pa_nil)))))
      (pss_one (ps_ret (pe_tup (pa_cons (pe_callTy call_tupOf (by rfl) B.tup boot_tuple (pa_cons (pv 4) pa_nil))
        (pa_cons (pcall DS GS hr (pa_cons (pv 0) (pa_cons (pe_ix ix_list (pe_lst (pa_cons pe_int (pa_cons pe_int (pa_cons pe_int (pa_cons pe_int pa_nil))))) (pcall DT GT (hr.mono (by omega)) (pa_cons (pv 0) (pa_cons pe_int pa_nil))) (fun _ _ => rfl)) (pa_cons (pv 3) pa_nil)))) pa_nil)))))), ?_⟩
    refine q_asgL (xs := []) (el_lst ea_nil (by decide)) fun fl H0 nfl e0 hfl => ?_
    have nfa : fl ≠ a := fun z => by
      obtain ⟨da, na, xa, hBa, _⟩ := hB
      rw [z, hBa] at nfl
      cases nfl
    refine ⟨.ref a, rfl, vN nb, rfl, a, (nb : Int), rfl, hB.ex e0, by omega, fun r H1 r0 r1 x1 b1 => ?_⟩
    refine ⟨1, r, rfl, rfl, 1 + r, rfl, by omega, by omega, ?_⟩
    refine for_range (lo := 0) (n := (1 + r).toNat) (fun i σ' H' => ∃ (y : Option V) (ys : List V) (bs : List Box), σ' = [some (.ref a), some (vN nb), some (vN nl), some (vN wd), some (.ref fl), y] ∧ ExB a H H' ∧ Bag H' a ∧ H' fl = some (.lst ys) ∧ Paired (BoxAt K H') ys bs ∧ bs.length = i ∧ ∀ b ∈ bs, OkBox b ∧ b.1.length ≤ nl ∧ (∀ c ∈ b.1, c ∈ names12) ∧ ∀ c ∈ b.2, c ∈ names12)
      ⟨none, [], [], rfl, (ExB.of e0).trans x1, b1, x1 _ _ nfa hfl, .nil, rfl, by simp⟩ (fun i σ' H' hi hP => ?_) (fun σ' H' hP => ?_)
    · obtain ⟨y, ys, bs, rfl, x2, b2, h3, hp, hlen, hall⟩ := hP
      have hyl : ys.length = bs.length := paired_len hp
      refine ⟨.ref fl, rfl, .inl ⟨rfl, _, sq_of h3⟩, .ref a, rfl, vN nl, rfl, vN wd, rfl, a, nl, wd, rfl, b2, by omega, hw1, hw2, fun p1 cs1 H2 np1 x3 b3 h1 oc1 in1 => ?_⟩
      refine ⟨.ref a, rfl, ?_⟩
      refine menu (K := K) (cs := [1, 1, 3, 6]) (ea_cons ev_c (ea_cons ev_c (ea_cons ev_c (ea_cons ev_c ea_nil)))) rfl (by decide) rfl b3 fun c H3 hc x4 b4 => ?_
      have hc6 : ∃ m : Nat, c = (m : Int) ∧ m ≤ 6 := by
        simp only [List.mem_cons, List.mem_singleton, List.not_mem_nil, or_false] at hc
        rcases hc with rfl | rfl | rfl | rfl
        · exact ⟨1, rfl, by decide⟩
        · exact ⟨1, rfl, by decide⟩
        · exact ⟨3, rfl, by decide⟩
        · exact ⟨6, rfl, by decide⟩
      obtain ⟨m, rfl, hm6⟩ := hc6
      refine ⟨vN wd, rfl, a, m, wd, rfl, b4, hm6, hw1, hw2, fun p2 cs2 H4 np2 x5 b5 h2 oc2 in2 => ?_⟩
      refine ⟨by show 2 ≤ sizeLine; decide, fun p3 np3 => ?_⟩
      have e6 := Ex.new (o := .tup [.ref p1, .ref p2]) np3
      have np1a : p1 ≠ a := fun z => by
        obtain ⟨da, na, xa, hBa, _⟩ := b3
        rw [z, hBa] at h1
        cases h1
      have k1 : KeepT H' (upd H4 p3 (.tup [.ref p1, .ref p2])) := (((b2.keepT x3).trans (b3.keepT x4)).trans (b4.keepT x5)).trans (KeepT.ex e6)
      have h1' : upd H4 p3 (.tup [.ref p1, .ref p2]) p1 = some (.tup (cs1.map V.str)) := e6 _ _ (x5 _ _ np1a (x4 _ _ np1a h1))
      have h2' : upd H4 p3 (.tup [.ref p1, .ref p2]) p2 = some (.tup (cs2.map V.str)) := e6 _ _ h2
      have hfl' : upd H4 p3 (.tup [.ref p1, .ref p2]) fl = some (.lst ys) := e6 _ _ (x5 _ _ nfa (x4 _ _ nfa (x3 _ _ nfa h3)))
      have h3' : upd H4 p3 (.tup [.ref p1, .ref p2]) p3 = some (.tup [.ref p1, .ref p2]) := upd_same
      have xA : ExB a H (upd H4 p3 (.tup [.ref p1, .ref p2])) := ((x2.trans x3).trans x4).trans (x5.trans (ExB.of e6))
      have bA : Bag (upd H4 p3 (.tup [.ref p1, .ref p2])) a := b5.ex e6
      generalize upd H4 p3 (.tup [.ref p1, .ref p2]) = G at k1 h1' h2' hfl' h3' xA bA
      refine ⟨fl, ys, .ref p3, rfl, rfl, hfl', sz_lt (by omega), ?_⟩
      refine ⟨some _, ys ++ [.ref p3], bs ++ [(cs1, cs2)], rfl, fun b o nb hb => ?_, ?_, upd_same, ?_, by rw [List.length_append, List.length_singleton, hlen], fun b hb => ?_⟩
      · have : b ≠ fl := ne_of_none hb nfl
        rw [upd_ne this]
        exact xA b o nb hb
      · obtain ⟨d', n', xs', g1, g2, g3⟩ := bA
        refine ⟨d', n', xs', by rw [upd_ne (Ne.symm nfa)]; exact g1, ?_, g3⟩
        have : d' ≠ fl := fun z => by
          rw [z, hfl'] at g2
          have e := congrArg List.length (HO.lst.inj (Option.some.inj g2))
          rw [List.length_map, g3.1] at e
          omega
        rw [upd_ne this]
        exact g2
      · have kk := KeepT.lst (ys := ys ++ [.ref p3]) hfl'
        exact paired_app (paired_imp hp fun _ _ h => h.keep (k1.trans kk)) ⟨p3, p1, p2, rfl, keep_t kk (st_of h3'), keep_t kk (st_of h1'), keep_t kk (st_of h2')⟩
      · rcases List.mem_append.mp hb with h | h
        · exact hall b h
        · rw [List.mem_singleton.mp h]
          exact ⟨⟨oc1.mono hl3, oc2.mono hm6⟩, oc1.1, in1, in2⟩
    · obtain ⟨y, ys, bs, rfl, x2, b2, h3, hp, hlen, hall⟩ := hP
      have hbl : bs.length = (1 + r).toNat := hlen
      refine ⟨.ref fl, rfl, fl, ys, rfl, .inl ⟨sq_of h3, fun t nt => ?_⟩⟩
      have e4 := Ex.new (o := .tup ys) nt
      refine ⟨.ref a, rfl, ?_⟩
      refine menu (K := K) (cs := [0, 0, 1, 6]) (ea_cons ev_c (ea_cons ev_c (ea_cons ev_c (ea_cons ev_c ea_nil)))) rfl (by decide) rfl (b2.ex e4) fun c H3 hc x4 b4 => ?_
      have hc6 : ∃ m : Nat, c = (m : Int) ∧ m ≤ 6 := by
        simp only [List.mem_cons, List.mem_singleton, List.not_mem_nil, or_false] at hc
        rcases hc with rfl | rfl | rfl | rfl
        · exact ⟨0, rfl, by decide⟩
        · exact ⟨0, rfl, by decide⟩
        · exact ⟨1, rfl, by decide⟩
        · exact ⟨6, rfl, by decide⟩
      obtain ⟨m, rfl, hm6⟩ := hc6
      refine ⟨vN wd, rfl, a, m, wd, rfl, b4, hm6, hw1, hw2, fun p2 cs2 H4 np2 x5 b5 h2 oc2 in2 => ?_⟩
      refine ⟨by show 2 ≤ sizeLine; decide, fun p3 np3 => ?_⟩
      have e6 := Ex.new (o := .tup [.ref t, .ref p2]) np3
      have k0 : KeepT H' (upd H4 p3 (.tup [.ref t, .ref p2])) := (((KeepT.ex e4).trans ((b2.ex e4).keepT x4)).trans (b4.keepT x5)).trans (KeepT.ex e6)
      have k1 : KeepT (upd H' t (.tup ys)) (upd H4 p3 (.tup [.ref t, .ref p2])) := (((b2.ex e4).keepT x4).trans (b4.keepT x5)).trans (KeepT.ex e6)
      refine q (.ref p3) (bs, cs2) _ (((x2.trans (ExB.of e4)).trans x4).trans (x5.trans (ExB.of e6))) (b5.ex e6) ⟨p3, t, p2, rfl, st_of upd_same, ⟨ys, keep_t k1 (st_of upd_same), paired_imp hp fun _ _ h => h.keep k0⟩, st_of (e6 _ _ h2)⟩ ⟨?_, ?_, fun b hb => (hall b hb).1, oc2.mono hm6⟩ ?_ (fun b hb => (hall b hb).2.1) ⟨fun b hb => (hall b hb).2.2, in2⟩
      · show 1 ≤ bs.length
        omega
      · show bs.length ≤ 30
        omega
      · show bs.length ≤ nb
        omega
end
end Kw
set_option Elab.async false
set_option linter.all false
set_option maxRecDepth 100000
set_option maxHeartbeats 4000000
namespace Kw
open PySem PySem.Spec PyProof.Rows L2 Evl
def cl (n : Nat) (op : List Nat) : List Nat := less (List.range n) op
theorem cl_app (n : Nat) (op r : List Nat) : cl n (op ++ r) = less (cl n op) r := by
  unfold cl less
  rw [List.filter_filter]
  apply List.filter_congr
  intro i _
  by_cases h1 : i ∈ op <;> by_cases h2 : i ∈ r <;> simp [h1, h2]
theorem some_eq (bs : List Box) (hand : List Str) (n : Nat) (op : List Nat) : (List.range n).filter (fun i => !decide (i ∈ op) && fitsB (bx bs i).1 hand) = readyOf bs hand (cl n op) := by
  unfold cl less readyOf
  rw [List.filter_filter]
  apply List.filter_congr
  intro i _
  rw [Bool.and_comm]
theorem ones_fit (ls hs : List Str) : decide (((ls.filter fun c => !decide (c ∈ hs)).map fun _ => 1) = ([] : List Nat)) = fitsB ls hs := by
  unfold fitsB
  induction ls with
  | nil => simp
  | cons a r ih =>
    rw [List.all_cons, ← ih]
    by_cases h : a ∈ hs
    · rw [List.filter_cons_of_neg (by simp [h])]
      simp [h]
    · rw [List.filter_cons_of_pos (by simp [h])]
      simp [h]
/-- the boxes one by one with their numbers -/
def YB (K : PySem.W.Frag) (bs : List Box) : Nat → Hp → V → Hp → Prop := fun i H x H' => ∃ T v, x = .ref T ∧ H T = none ∧ H' = upd H T (.tup [vN i, v]) ∧ BoxAt K H v (bx bs i)
/-- what is walked, as long as what the heap H held is there -/
def WalksB (K : PySem.W.Frag) (H : Hp) (wi : TI) (b : Addr) (bs : List Box) : Prop := ∀ (σ : L2.St) (H1 : Hp), Ex H H1 → σ[0]? = some (some (.ref b)) → ∀ R : It → Hp → Prop,
  (∀ (J : It) (G : Hp → Prop) (H2 : Hp), Ex H1 H2 → Walk J bs.length G (YB K bs) → (∀ H3, Ex H H3 → G H3) → R J H2) → wi σ H1 R
theorem walksB_T {K : PySem.W.Frag} {H : Hp} {b : Addr} {vs : List V} {bs : List Box} (h : SqT K H b vs) (p : Paired (BoxAt K H) vs bs) : WalksB K H (iEnT K (tCons (tVar 0) tNil)) b bs := by
  intro σ H1 e h0 R r
  refine ⟨.ref b, h0, b, vs, rfl, ex_t e h, r _ (fun H' => SqT K H' b vs ∧ Paired (BoxAt K H') vs bs) H1 (Ex.refl H1) ?_ fun H3 e3 => ⟨ex_t e3 h, paired_imp p fun _ _ x => x.keep (KeepT.ex e3)⟩⟩
  rw [← paired_len p]
  refine walk_enT.mono (fun H' x => x.1) fun i H' x H2 hi hg hy => ?_
  obtain ⟨T, n, v, h1, h2, h3, h4, h5⟩ := hy
  cases h4
  obtain ⟨b0, hb0, hat⟩ := paired_get hg.2 h5
  have : bx bs i = b0 := by
    unfold bx
    rw [List.getD_eq_getElem?_getD, hb0]
    rfl
  rw [← this] at hat
  exact ⟨T, v, h1, h2, h3, hat⟩
theorem walksB_L {K : PySem.W.Frag} {H : Hp} {b : Addr} {vs : List V} {bs : List Box} (h : SqL K H b vs) (p : Paired (BoxAt K H) vs bs) : WalksB K H (iEnum K (tCons (tVar 0) tNil)) b bs := by
  intro σ H1 e h0 R r
  refine ⟨.ref b, h0, b, vs, rfl, ex_l e h, r _ (fun H' => SqL K H' b vs ∧ Paired (BoxAt K H') vs bs) H1 (Ex.refl H1) ?_ fun H3 e3 => ⟨ex_l e3 h, paired_imp p fun _ _ x => x.keep (KeepT.ex e3)⟩⟩
  rw [← paired_len p]
  refine walk_enum.mono (fun H' x => x.1) fun i H' x H2 hi hg hy => ?_
  obtain ⟨T, n, v, h1, h2, h3, h4, h5⟩ := hy
  cases h4
  obtain ⟨b0, hb0, hat⟩ := paired_get hg.2 h5
  have : bx bs i = b0 := by
    unfold bx
    rw [List.getD_eq_getElem?_getD, hb0]
    rfl
  rw [← this] at hat
  exact ⟨T, v, h1, h2, h3, hat⟩
section
variable {K : PySem.W.Frag} {σ : L2.St} {H H' : Hp} {ta tb te tl : TE} {x y z v : V}
theorem el_cat2 {l b : Addr} {xs zs : List V} (ha : Ev ta σ H (.ref l)) (hl : H l = some (.lst xs)) (hb : Ev tb σ H (.ref b)) (hz : H b = some (.lst zs)) (hn : xs.length + zs.length ≤ 100000) : EvL (tOp rCat ta tb) σ H (xs ++ zs) := fun H1 e Q q =>
  ha H1 e _ fun H2 e2 => hb H2 (e.trans e2) _ fun H3 e3 => ⟨l, b, xs, zs, rfl, rfl, e3 _ _ (e2 _ _ (e _ _ hl)), e3 _ _ (e2 _ _ (e _ _ hz)), sz_of hn, fun p hp => q p _ (fresh_back (e2.trans e3) hp) ((e2.trans e3).trans (Ex.new hp)) upd_same⟩
/-- [1 for colour in locks if colour not in hand] == [] -/
theorem et_ones {l h : Addr} {ls hs : List Str} {vs : List Nat} {jc jl jh : Nat} (hl : Ev (tVar jl) σ H (.ref l)) (hL : SqT K H l (ls.map V.str)) (hn : ls.length ≤ 1000) (hH : H h = some (.lst (hs.map V.str)))
    (hw : ∀ x, wipe ((wipe σ vs).set jc (some x)) vs = wipe σ vs ∧ ((wipe σ vs).set jc (some x))[jc]? = some (some x) ∧ ((wipe σ vs).set jc (some x))[jh]? = some (some (.ref h))) :
    EvT (tTest (tOp (rEqD K) (tLc (iTup K (tVar jl)) (gName jc) (tTest (tOp (rIn K true) (tVar jc) (tVar jh))) (tC (.int 1)) vs) (tLst tNil))) σ H (fitsB ls hs) := by
  refine et_is (et_test (ev_opLL (xs := ((ls.filter fun c => !decide (c ∈ hs)).map fun _ => 1).map vN) (ys := ([] : List Nat).map vN) ?_ (el_lst ea_nil (by decide)) fun p q H1 hp hq e => rv_eqLN (K := K) (sq_of hp) (sq_of hq))) (ones_fit ls hs)
  refine el_lc (ew_tup hl hL) (by rw [List.length_map]; omega) (fun i => !decide (ls.getD i default ∈ hs)) (fun i => vN 1) ?_ (fun i x H1 H2 Q e hi hy k => ?_)
  · rw [List.length_map, List.map_map]
    exact filter_range_map ls default (fun c => !decide (c ∈ hs)) (fun _ => vN 1)
  · obtain ⟨rfl, hx⟩ := hy
    have hi' : i < ls.length := by rw [List.length_map] at hi; exact hi
    have ei : ls.getD i default = ls[i] := by rw [List.getD_eq_getElem?_getD, List.getElem?_eq_getElem hi']; rfl
    have ex : x = .str ls[i] := by
      rw [List.getElem?_map, List.getElem?_eq_getElem hi'] at hx
      exact (Option.some.inj hx).symm
    subst ex
    obtain ⟨w1, w2, w3⟩ := hw (.str ls[i])
    refine k _ _ (Ex.refl _) w1 ?_ fun _ => ev_c
    rw [ei, ← inV_str]
    exact et_test (ev_op (ev_var w2) (ev_var w3) (rv_niL (sq_of (e _ _ hH)) rfl (flat_strs hs)))
end
end Kw
set_option Elab.async false
set_option linter.all false
set_option maxRecDepth 100000
set_option maxHeartbeats 4000000
namespace Kw
open PySem PySem.Spec PyProof.Rows L2 Evl
theorem Bag.other {H H' : Hp} {a b : Addr} (hb : Bag H b) (ha : Bag H a) (e : ExB a H H') (ha' : Bag H' a) : Bag H' b := by
  by_cases hab : b = a
  · rw [hab]
    exact ha'
  · obtain ⟨d, n, xs, g1, g2, g3⟩ := hb
    obtain ⟨d', n', xs', f1, _⟩ := ha
    have hd : d ≠ a := fun z => by
      rw [z, f1] at g2
      have e := congrArg List.length (HO.lst.inj (Option.some.inj g2))
      rw [List.length_map, g3.1] at e
      cases e
    exact ⟨d, n, xs, e _ _ hab g1, e _ _ hd g2, g3⟩
/-- the loop over the bags of a script -/
theorem bags_for {K : PySem.W.Frag} {lim : Nat} {D : Ends} {body : TS} {σ : L2.St} {H : Hp} {a : Addr} {ns : List Int} (S : L2.St → Prop) (h0 : σ[0]? = some (some (.ref a))) (hS : SqL K H a (ns.map V.int)) (hl : ns.length ≤ 63) (hs : S σ)
    (turn : ∀ b H1 σ' (N : L2.St → Hp → Prop), S σ' → Bag H1 b → (∀ σ'' H'', S σ'' → ExB b H1 H'' → Bag H'' b → N σ'' H'') → body { D with nx := N, ct := N, bk := D.nx } (σ'.set 1 (some (.ref b))) H1)
    (done : ∀ σ' H', S σ' → D.nx σ' H') : tFor (iList K (tCall (spBags K lim) [] E0 (tCons (tVar 0) (tCons (tC (.int lim)) tNil)))) (gName 1) body D σ H := by
  refine ⟨.ref a, h0, a, ns, rfl, hS, by omega, fun p ys H1 np e1 hp hB hne hln => ⟨p, rfl, ⟨ys, sq_of hp⟩, ?_⟩⟩
  refine for_it (walk_list (K := K) (a := p) (xs := ys)) (fun _ σ' H' => S σ' ∧ H' p = some (.lst ys) ∧ BagsAt H' ys) ⟨hs, hp, hB⟩ (fun i σ' H' _ hP => sq_of hP.2.1) (fun i x σ' H2 H3 hi hP hy => ?_) (fun σ' H2 hP => done σ' H2 hP.1)
  obtain ⟨s2, hp2, hB2⟩ := hP
  obtain ⟨rfl, hx⟩ := hy
  have hm := List.mem_of_getElem? hx
  obtain ⟨b, rfl, hb⟩ := hB2 x hm
  have hpb : p ≠ b := fun z => hne _ hm (by rw [z])
  exact turn b _ σ' _ s2 hb fun σ'' H'' hs x2 b2 => ⟨hs, x2 _ _ hpb hp2, (fun y hy => by
    obtain ⟨b', rfl, hb'⟩ := hB2 y hy
    exact ⟨b', rfl, hb'.other hb x2 b2⟩)⟩
def spLaw (K : PySem.W.Frag) : Sp := fun vs H Q _ => ∃ (a : Addr) (ns : List Int), vs = [.ref a] ∧ SqL K H a (ns.map V.int) ∧ ns.length ≤ 63 ∧ ∀ H', Q (.bl true) H'
/-- the slots of a law: the script's, then n others -/
def SlotsN (a : Addr) (n : Nat) (σ : L2.St) : Prop := ∃ ys : List (Option V), ys.length = n ∧ σ = some (.ref a) :: ys
end Kw
set_option Elab.async false
set_option linter.all false
set_option maxRecDepth 100000
set_option maxHeartbeats 4000000
namespace KwS
open PySem PySem.Spec PyProof.Rows L2
/-! ### sets of keys of any kind, by the list of what was put in -/
theorem prd_perm {α β : Type} {F : α → β → Prop} {es es' : List α} (p : es'.Perm es) : ∀ {js : List β}, Paired F es js → ∃ js' : List β, js'.Perm js ∧ Paired F es' js' := by
  induction p with
  | nil => exact fun h => ⟨_, List.Perm.refl _, h⟩
  | cons x _ ih =>
    intro js h
    cases h with
    | cons r t =>
      obtain ⟨j, h1, h2⟩ := ih t
      exact ⟨_ :: j, h1.cons _, .cons r h2⟩
  | swap x y l =>
    intro js h
    cases h with
    | cons r t =>
      cases t with
      | cons r2 t2 => exact ⟨_, List.Perm.swap _ _ _, .cons r2 (.cons r t2)⟩
  | trans _ _ ih1 ih2 =>
    intro js h
    obtain ⟨j1, a1, b1⟩ := ih2 h
    obtain ⟨j2, a2, b2⟩ := ih1 b1
    exact ⟨j2, a2.trans a1, b2⟩
theorem prd_mem {α β : Type} {F : α → β → Prop} {x : α} : ∀ {es : List α} {js : List β}, Paired F es js → x ∈ es → ∃ j ∈ js, F x j
  | _, _, .cons r t, h => by
    rcases List.mem_cons.mp h with rfl | h
    · exact ⟨_, List.mem_cons_self, r⟩
    · obtain ⟨j, h1, h2⟩ := prd_mem t h
      exact ⟨j, List.mem_cons_of_mem _ h1, h2⟩
theorem prd_mem2 {α β : Type} {F : α → β → Prop} {j : β} : ∀ {es : List α} {js : List β}, Paired F es js → j ∈ js → ∃ x ∈ es, F x j
  | _, _, .cons r t, h => by
    rcases List.mem_cons.mp h with rfl | h
    · exact ⟨_, List.mem_cons_self, r⟩
    · obtain ⟨x, h1, h2⟩ := prd_mem2 t h
      exact ⟨x, List.mem_cons_of_mem _ h1, h2⟩
section
variable {P : Program} {w : World} {κ : Type} [DecidableEq κ] (kd : PySem.KeyKind P w κ)
def Ent (e : Int × Value) (k : κ) : Prop := kd.is k e.2 = true ∧ e.1 = kd.hash k ∧ e.2.scannable = true
/-- the set at a: its keys are those of ks -/
def GS (h : Heap) (a : Addr) (ks : List κ) : Prop := ∃ (ob : Obj) (es : Array (Int × Value)) (ep : Nat) (tb : SetTable) (js : List κ), h.get? a = some ob ∧ ob.ExactSet ∧ ob.data = .set es ep tb ∧ Paired (Ent kd) es.toList js ∧ js.Nodup ∧ (∀ k, k ∈ js ↔ k ∈ ks) ∧
  es.size ≤ ks.length ∧ tb.fits es.size = true ∧ Ris tb.place.toList ∧ (w.params.followText "set-order" = true ∨ tb.led = true)
variable {kd}
theorem GS.at {h h' : Heap} {a : Addr} {ks : List κ} (g : GS kd h a ks) (k : ∀ o, h.get? a = some o → h'.get? a = some o) : GS kd h' a ks := by
  obtain ⟨ob, es, ep, tb, js, h1, r⟩ := g
  exact ⟨ob, es, ep, tb, js, k _ h1, r⟩
theorem elems {l : List (Int × Value)} {js : List κ} (p : Paired (Ent kd) l js) : ElemsOf kd l := fun e he => by
  obtain ⟨k, _, h1, h2, h3⟩ := prd_mem p he
  exact ⟨⟨k, h1, h2⟩, h3⟩
section
variable {A : Around} {E : Value → Shared → Prop} {s : Shared} {a : Addr} {ks : List κ}
theorem put_at {h : Heap} {ob : Obj} {es es2 : Array (Int × Value)} {ep : Nat} {tb tb2 : SetTable} (h1 : h.get? a = some ob) (h2 : ob.data = .set es ep tb) : (h.update a (Obj.putSet es2 tb2)).get? a = some { ob with data := .set es2 (ep + 1) tb2 } := by
  have z := putSet_of es2 tb2 h2
  have y := Heap.get?_update_self (Obj.putSet es2 tb2) h1 (by rw [z]; rfl)
  rwa [z] at y
theorem gs_tail {gw : Bool → Sem Unit} (hgw : ∀ (b : Bool) (s1 : Shared) (Q' : Unit → Shared → Prop), Q' () s1 → wpAny (model P w) A (gw b) Q' E s1) {ob : Obj} {es es1 : Array (Int × Value)} {ep : Nat} {tb t2 : SetTable} (h1 : s.heap.get? a = some ob) (hx : ob.ExactSet) (h2 : ob.data = .set es ep tb)
    {js : List κ} (hp : Paired (Ent kd) es1.toList js) (nd : js.Nodup) (hm : ∀ k, k ∈ js ↔ k ∈ ks) (hsz : es1.size ≤ ks.length) (hb : ks.length < scanBound) (hf : t2.fits es1.size = true) (hr : Ris t2.place.toList) (hl : w.params.followText "set-order" = true ∨ t2.led = true) {wd : Bool} {R : Option Bool → Shared → Prop}
    (hR : ∀ h', Heap.SameBut a s.heap h' → GS kd h' a ks → R (some true) { s with heap := h' }) :
    wpAny (model P w) A (do
        storeSet a es1 t2
        if (!wd && t2.tooFull) = true then do
            gw (relayAll t2 es1 (SetTable.grown es1.size)).2.2
            storeSet a (relayAll t2 es1 (SetTable.grown es1.size)).1 (relayAll t2 es1 (SetTable.grown es1.size)).2.1
            pure (some true)
          else pure (some true)) R E s := by
  refine wpAny_bind (wpAny_storeSet_of h1 h2 ?_ (fits_of_scanBound (Nat.lt_of_le_of_lt hsz hb)))
  have i1 := put_at (es2 := es1) (tb2 := t2) h1 h2
  have b1 := Heap.SameBut.update s.heap a (Obj.putSet es1 t2)
  split
  · have q1 := relayAll_perm t2 es1 (SetTable.grown es1.size)
    have q2 := relayAll_fits t2 es1 (SetTable.grown es1.size)
    have q3 := relayAll_ris t2 es1 (SetTable.grown es1.size)
    have q4 := relayAll_led t2 es1 (SetTable.grown es1.size)
    generalize relayAll t2 es1 (SetTable.grown es1.size) = Zs at q1 q2 q3 q4 ⊢
    obtain ⟨es3, t3, gv⟩ := Zs
    dsimp only at q1 q2 q3 q4 ⊢
    have e3 : es3.size = es1.size := by
      have := q1.length_eq
      simpa using this
    obtain ⟨js2, j1, j2⟩ := prd_perm q1 hp
    refine wpAny_bind (hgw _ _ _ (wpAny_bind (wpAny_storeSet_of i1 rfl ?_ (fits_of_scanBound (by rw [e3]; exact Nat.lt_of_le_of_lt hsz hb)))))
    have i2 := put_at (es2 := es3) (tb2 := t3) i1 rfl
    exact wpAny_pure (hR _ (b1.trans (Heap.SameBut.update _ a _)) ⟨_, es3, _, t3, js2, i2, hx, rfl, j2, j1.nodup_iff.mpr nd, fun k => j1.mem_iff.trans (hm k), by rw [e3]; exact hsz, q2, q3, hl.imp id fun z => by rw [q4]; exact z⟩)
  · exact wpAny_pure (hR _ b1 ⟨_, es1, _, t2, js, i1, hx, rfl, hp, nd, hm, hsz, hf, hr, hl⟩)
theorem gs_add {k : κ} {x : Value} (hk : kd.is k x = true) (hx : x.scannable = true) (g : GS kd s.heap a ks) (room : ks.length + 1 < scanBound) {Q : Bool → Shared → Prop}
    (hQ : ∀ b h', Heap.SameBut a s.heap h' → GS kd h' a (ks ++ [k]) → Q b { s with heap := h' }) : wpAny (model P w) A (setAddHashed a x (kd.hash k)) Q E s := by
  obtain ⟨ob, es, ep, tb, js, o1, o2, o3, hp, nd, hm, hsz, hf, hr, hl⟩ := g
  have hel := elems hp
  have hlen : es.size < scanBound := Nat.lt_of_le_of_lt hsz (Nat.lt_of_succ_lt room)
  unfold setAddHashed setAddHashedIn
  refine wpAny_holding (wpAny_bind (wpAny_setState_of o1 o3 hf ?_))
  dsimp only
  rw [byScan_of hx hlen hel]
  simp only [↓reduceIte]
  unfold setAddByScan
  refine wpAny_bind (wpAny_bind (wpAny_rule (wpAny_bind (wpAny_setScan_of hk o1 o3 hf hel ?_))))
  cases hfi : List.findIdx? (fun e => kd.is k e.2) es.toList with
  | some j =>
    dsimp only
    obtain ⟨hj, pj, _⟩ := List.findIdx?_eq_some_iff_getElem.mp hfi
    obtain ⟨k0, hk0, hi0, _⟩ := prd_mem hp (List.getElem_mem hj)
    have ek : k0 = k := kd.inj _ _ _ hi0 pj
    refine wpAny_pure (wpAny_pure (hQ false s.heap (Heap.SameBut.refl a s.heap) ⟨ob, es, ep, tb, js, o1, o2, o3, hp, nd, fun i => ?_, by rw [List.length_append]; omega, hf, hr, hl⟩))
    rw [hm i, List.mem_append, List.mem_singleton]
    exact ⟨Or.inl, fun z => z.elim id fun e => by rw [e, ← ek]; exact (hm k0).mp hk0⟩
  | none =>
    dsimp only
    have hnk : k ∉ js := fun z => by
      obtain ⟨e, he, q, _⟩ := prd_mem2 hp z
      have c := List.findIdx?_eq_none_iff.mp hfi e he
      rw [q] at c
      cases c
    have gw : ∀ (b : Bool) {s1 : Shared} {Q' : Unit → Shared → Prop}, Q' () s1 → wpAny (model P w) A (match b with | true => rule "set.scan.the-table-gave-way" | false => pure ()) Q' E s1 := fun b s1 Q' q => by
      cases b
      · exact wpAny_pure q
      · exact wpAny_rule q
    have q1 := layNew_perm tb es (kd.hash k) x
    have q2 := layNew_fits tb es (kd.hash k) x
    have q3 := layNew_ris tb es (kd.hash k) x hr
    have q4 := layNew_led tb es (kd.hash k) x
    generalize layNew tb es (kd.hash k) x = Zs at q1 q2 q3 q4 ⊢
    obtain ⟨es1, t1, wd, gv⟩ := Zs
    dsimp only at q1 q2 q3 q4 ⊢
    rw [Array.toList_push] at q1
    have q5 : es1.toList.Perm ((kd.hash k, x) :: es.toList) := q1.trans (List.perm_append_singleton _ _)
    obtain ⟨js1, j1, j2⟩ := prd_perm q5 (.cons ⟨hk, rfl, hx⟩ hp : Paired (Ent kd) ((kd.hash k, x) :: es.toList) (k :: js))
    have nd1 : js1.Nodup := j1.nodup_iff.mpr (List.nodup_cons.mpr ⟨hnk, nd⟩)
    have m1 : ∀ i, i ∈ js1 ↔ i ∈ ks ++ [k] := fun i => by
      rw [j1.mem_iff, List.mem_cons, hm i, List.mem_append, List.mem_singleton]
      exact Or.comm
    have sz1 : es1.size ≤ (ks ++ [k]).length := by
      have := q5.length_eq
      simp at this
      rw [List.length_append, List.length_singleton]
      omega
    have rm : (ks ++ [k]).length < scanBound := by
      rw [List.length_append, List.length_singleton]
      exact room
    have led1 : w.params.followText "set-order" = true ∨ t1.led = true := hl.imp id fun z => by rw [q4]; exact z
    refine wpAny_bind (gw _ ?_)
    split
    · refine wpAny_bind ?_
      rw [hashByValue_scannable 8 hx]
      refine wpAny_pure ?_
      refine gs_tail ?_ o1 o2 o3 j2 nd1 m1 sz1 rm ?_ ?_ ?_ ?_
      · intro b s1 Q' q
        exact gw b q
      · split
        · exact q2
        · exact SetTable.fits_plain_off q2
      · split <;> exact q3
      · split <;> exact led1
      · intro h' sb r
        exact wpAny_pure (hQ true h' sb r)
    · refine wpAny_bind (wpAny_pure ?_)
      simp only [↓reduceIte]
      refine gs_tail ?_ o1 o2 o3 j2 nd1 m1 sz1 rm q2 q3 led1 ?_
      · intro b s1 Q' q
        exact gw b q
      · intro h' sb r
        exact wpAny_pure (hQ true h' sb r)
end
end
end KwS
set_option Elab.async false
set_option linter.all false
set_option maxRecDepth 100000
set_option maxHeartbeats 4000000
namespace KwS
open PySem PySem.Spec PyProof.Rows L2
/-- a set just made -/
def fresh0 (w : World) : Obj := { cls := .type "set", dict := none, data := .set #[] 0 (.fresh 0 0 (!w.params.followText "set-order")) }
section
variable {P : Program} {w : World} {κ : Type} [DecidableEq κ] {kd : PySem.KeyKind P w κ} {A : Around} {E : Value → Shared → Prop} {s : Shared}
theorem gs_fresh {h : Heap} {a : Addr} (ho : h.get? a = some (fresh0 w)) : GS kd h a [] := by
  refine ⟨_, #[], 0, _, [], ho, ⟨rfl, rfl, rfl⟩, rfl, .nil, List.nodup_nil, fun _ => Iff.rfl, Nat.le_refl _, rfl, List.Pairwise.nil, ?_⟩
  show _ ∨ (!w.params.followText "set-order") = true
  cases w.params.followText "set-order" with
  | true => exact .inl rfl
  | false => exact .inr rfl
theorem gs_update {I : Addr} {fp wr : List Addr} {G : Array GenState → Array GenState → Prop} {n : Nat} {Pv : Nat → Value → Prop} {St : Nat → Shared → Prop} {R : Result → Shared → Prop} (W : WalksS P w A.in1 I fp wr G n Pv St) (S : Addr) (hS : S ∉ fp) (ks : List κ) (hn : n = ks.length)
    (hb : ks.length + 1 < scanBound) (hval : ∀ i v, Pv i v → ∃ k, ks[i]? = some k ∧ kd.is k v = true ∧ v.scannable = true) : ∀ (m i : Nat) (s : Shared), n - i = m → i ≤ n → St i s → GS kd s.heap S (ks.take i) →
      (∀ s', Moved (S :: wr) G s s' → GS kd s'.heap S ks → R (.ok (.ret .none)) s') → codeAny (model P w) A (.builtin "set.update.loop" ⟨[.ref S, .ref I], []⟩) R s := by
  have nw : S ∉ wr := fun z => hS (W.sub _ z)
  have up : ∀ b ∈ wr, b ∈ S :: wr := fun b z => List.mem_cons_of_mem _ z
  intro m
  induction m with
  | zero =>
    intro i s hm hi st g hR
    have e : i = n := Nat.le_antisymm hi (Nat.sub_eq_zero_iff_le.mp hm)
    subst e
    refine codeAny_builtin F.entry_set_update_loop ?_
    rw [Around.under_plainId F.plain_set_update_loop _]
    refine wpAny_bind (W.done s _ _ st fun s1 mv => wpAny_pure (hR s1 (mv.mono up) ?_))
    rw [List.take_of_length_le (by omega)] at g
    exact g.at fun o q => mv.heap S o nw q
  | succ m ih =>
    intro i s hm hi st g hR
    have lt : i < n := by omega
    refine codeAny_builtin F.entry_set_update_loop ?_
    rw [Around.under_plainId F.plain_set_update_loop _]
    refine wpAny_bind (W.item i s _ _ lt st fun v s1 hP st1 mv => ?_)
    obtain ⟨k, hk, his, hsc⟩ := hval i v hP
    have g1 : GS kd s1.heap S (ks.take i) := g.at fun o q => mv.heap S o nw q
    refine wpAny_bind (wpAny_holding ?_)
    unfold setAdd
    refine wpAny_holding (wpAny_bind (kd.pyHash his ?_))
    refine gs_add (s := { s1 with toks := s1.toks + 1 }) his hsc g1 (by rw [List.length_take]; omega) fun bb h2 sb g2 => ?_
    have g3 : GS kd h2 S (ks.take (i + 1)) := by
      rw [List.take_add_one, hk]
      exact g2
    refine wpAny_pure ⟨plainId_quiet F.plain_set_update_loop _, ih (i + 1) _ (by omega) lt (W.frame _ s1 _ _ st1 (Nat.le_succ _) fun b z o q => ?_) g3 fun s2 mv2 g4 => ?_⟩
    · have nb : b ≠ S := fun y => hS (y ▸ z)
      rw [sb.2 b nb]
      exact q
    · refine hR s2 (Moved.trans W.gtrans ((mv.mono up).then_heap (Nat.le_succ _) fun b o z q => ?_) mv2) g4
      have nb : b ≠ S := fun y => z (y ▸ List.mem_cons_self)
      rw [sb.2 b nb]
      exact q
theorem set_made (a : Value) {Q1 : Value → Shared → Prop} (h : Q1 (.ref s.heap.objs.size) { s with heap := s.heap.push (fresh0 w) }) : codeAny (model P w) A (.call (.builtin "set.__new__") ⟨[.type "set", a], []⟩) (wants Q1 E) s := code_set_led1 a h
set_option maxHeartbeats 8000000 in
/-- set(t), t a tuple -/
theorem call_setT {l : Addr} {its : Array Value} (ks : List κ) {Q : Value → Shared → Prop} (hh : A.handled = none) (hl : s.heap.IsTuple l its) (hz : its.size = ks.length) (hit : ∀ (i : Nat) (v : Value), its[i]? = some v → ∃ k, ks[i]? = some k ∧ kd.is k v = true ∧ v.scannable = true) (hb : ks.length + 1 < scanBound)
    (h : ∀ (h' : Heap) (tk : Nat), GS kd h' s.heap.objs.size ks → (∀ b o, s.heap.get? b = some o → h'.get? b = some o) → Q (.ref s.heap.objs.size) { s with heap := h', toks := tk }) : wpAny (model P w) A (call (.type "set") [.ref l]) Q E s := by
  obtain ⟨c0, tl0, m0⟩ := F.called_set.mro
  have m1 := F.called_set.made
  have m2 := F.called_set.sub
  have m3 := F.called_set.notType
  have m4 := F.called_set.canCreate
  have m5 := F.typeCall_set_1 (.ref l)
  refine wpAny_call (codeAny_of_tree ?_)
  refine wpAny_pure ⟨Code.quiet_builtin _ (by decide +kernel), codeAny_builtin F.entry_type_call ?_⟩
  rw [Around.under_plain (weight_type_call_type "set" [.ref l] []) rfl]
  repeat (any_goals (first | assumption | wp_step))
  refine codeAny_mono (set_made (.ref l) (E := E) (Q1 := fun v s1 => v = .ref s.heap.objs.size ∧ s1 = { s with heap := s.heap.push (fresh0 w) }) ⟨rfl, rfl⟩) fun r s1 hr => ?_
  cases r with
  | error e => exact hr
  | ok fl =>
    cases fl with
    | ret v =>
      obtain ⟨rfl, rfl⟩ := hr
      have hS : (s.heap.push (fresh0 w)).get? s.heap.objs.size = some (fresh0 w) := Heap.get?_push_size _ rfl
      have hT : Shared.TypeIs { s with heap := s.heap.push (fresh0 w) } (.ref s.heap.objs.size) "set" := ⟨_, hS, rfl⟩
      have n1 := F.called_set.init.lookup
      have n2 := F.called_set.init.bind (.ref s.heap.objs.size)
      repeat (any_goals (first | assumption | wp_step))
      refine codeAny_mono (codeAny_call_builtin (R := wants (fun r s2 => r = .none ∧ ∃ h' tk, s2 = { s with heap := h', toks := tk } ∧ GS kd h' s.heap.objs.size ks ∧ (∀ b o, s.heap.get? b = some o → h'.get? b = some o)) E) F.called_set.init.plain F.entry_set_init (check_set_init_1 hT ?_)) fun r2 s2 hr2 => ?_
      · obtain ⟨⟨oc, od, oo, os⟩, hol, hc, nl, hd⟩ := hl
        cases (show oc = .type "tuple" from hc)
        cases (show oo = .seq its nl from hd)
        have hol2 : (s.heap.push (fresh0 w)).get? l = some { cls := .type "tuple", dict := od, data := .seq its nl, slots := os } := Heap.get?_push_of_some _ hol
        have t1 := F.sub_tuple_set
        have t2 := F.sub_tuple_frozenset
        have t3 : (Value.type "tuple" == Value.type "dict") = false := by decide
        have hl1 : (s.heap.push (fresh0 w)).IsTuple l its := ⟨_, hol2, rfl, nl, rfl⟩
        unfold Builtin.«set.__init__» noKeywords Builtin.Frozenset.updateFrom
        generalize hPI : pyIter = PI
        wp_walk
        subst hPI
        refine wpAny_pyIter_tuple hl1 (wpAny_bind (wpAny_runValue ?_))
        have ls : l < s.heap.objs.size := Heap.lt_size hol
        have h3 : A.in1.in1.in1.handled = none := by simp [hh]
        have z1 : (s.heap.push (fresh0 w)).objs.size = s.heap.objs.size + 1 := Heap.size_push ..
        have nI : l ≠ (s.heap.push (fresh0 w)).objs.size := by
          rw [z1]
          exact Nat.ne_of_lt (Nat.lt_succ_of_lt ls)
        have nS : s.heap.objs.size ∉ [(s.heap.push (fresh0 w)).objs.size, l] := by
          rw [z1]
          intro z
          rcases List.mem_cons.mp z with z | z
          · exact Nat.succ_ne_self _ z.symm
          · exact Nat.ne_of_gt ls (List.mem_singleton.mp z)
        refine gs_update ((Walks.tuple h3 _ l nI its).toS) s.heap.objs.size nS ks hz hb hit (its.size - 0) 0 _ rfl (Nat.zero_le _) ⟨⟨_, Heap.get?_push_size _ rfl, rfl, rfl⟩, hl1.push _⟩ (gs_fresh (Heap.get?_push_of_some _ hS)) fun s3 mv g3 => ?_
        obtain ⟨h3', gg, dd, tk, oo⟩ := s3
        have e1 : gg = s.gens := mv.gens
        have e2 : dd = s.drawn := mv.drawn
        have e3 : oo = s.os := mv.os
        subst e1
        subst e2
        subst e3
        refine wpAny_pure ?_
        show wpAny _ _ (ret Value.none) _ _ _
        refine wpAny_pure ⟨rfl, h3', tk, rfl, g3, fun b o e => ?_⟩
        have hb0 : b < s.heap.objs.size := Heap.lt_size e
        refine mv.heap b o (fun z => ?_) (Heap.get?_push_of_some _ (Heap.get?_push_of_some _ e))
        rcases List.mem_cons.mp z with z | z
        · exact Nat.ne_of_lt hb0 z
        · have y := List.mem_singleton.mp z
          rw [z1] at y
          exact Nat.ne_of_lt (Nat.lt_succ_of_lt hb0) y
      · cases r2 with
        | error e => exact hr2
        | ok f2 =>
          cases f2 with
          | ret r =>
            obtain ⟨rfl, h', tk, rfl, g3, hk⟩ := hr2
            repeat (any_goals (first | assumption | wp_step))
            exact h _ _ g3 hk
          | _ => exact hr2.elim
    | _ => exact hr.elim
end
end KwS
set_option Elab.async false
set_option linter.all false
set_option maxRecDepth 100000
set_option maxHeartbeats 4000000
namespace KwS
open PySem PySem.Spec PyProof.Rows L2
/-- the set of the texts zs, at a -/
def TxS (P : Program) (w : World) (a : Addr) (zs : List Str) : HO := .ext fun h => GS (PySem.strKind P w) h a zs
section
variable {X : Cx}
theorem txs_new {P : Program} {w : World} {H : Hp} {h : Heap} {a : Addr} {zs : List Str} (g : GS (PySem.strKind P w) h a zs) : ObjOk P w H h a (TxS P w a zs) := by
  have ⟨o, _, _, _, _, ho, _⟩ := g
  exact ⟨g, ⟨o, ho⟩, fun h1 h2 p k => GS.at p k⟩
def rSetTx (K : PySem.W.Frag) (P : Program) (w : World) : List V → Hp → VK → Prop := fun xs H Q => ∃ (l : Addr) (zs : List Str), xs = [V.ref l] ∧ SqT K H l (zs.map V.str) ∧ zs.length ≤ 50 ∧ ∀ p, H p = none → Q (.ref p) (upd H p (TxS P w p zs))
theorem vals_get {xs : List V} {us : List Value} {i : Nat} {v : Value} (r : Vals xs us) (h : us[i]? = some v) : ∃ x, xs[i]? = some x ∧ RelV x v := by
  have hi := (List.getElem?_eq_some_iff.mp h).1
  have hj : i < xs.length := by
    rw [r.length]
    exact hi
  obtain ⟨u, h1, h2⟩ := r.get (List.getElem?_eq_getElem hj)
  rw [h] at h1
  cases h1
  exact ⟨_, List.getElem?_eq_getElem hj, h2⟩
theorem cr_setTx (hc : X.calm = true) : CallR X (.type "set") (rSetTx X.K X.prog X.w) := by
  intro pins s σ H xs us Q I r h
  obtain ⟨l, zs, rfl, hl, hn, q⟩ := h
  rw [Vals.ref1 r]
  obtain ⟨its, rv, pt, _⟩ := I.tuple hl
  have hlen : its.length = zs.length := by
    rw [← rv.length, List.length_map]
  refine call_setT (kd := PySem.strKind X.prog X.w) zs (I.ok.hd hc) pt (by simpa using hlen) (fun i v hv => ?_) (Nat.lt_of_le_of_lt (Nat.succ_le_succ hn) (by decide)) fun h' tk g hk => ?_
  · have hv' : its[i]? = some v := by simpa using hv
    obtain ⟨x, hx, rx⟩ := vals_get rv hv'
    rw [List.getElem?_map] at hx
    cases ez : zs[i]? with
    | none =>
      rw [ez] at hx
      cases hx
    | some z =>
      rw [ez] at hx
      cases hx
      obtain ⟨t, rfl⟩ := rx
      exact ⟨z, rfl, keyIs_str z t, rfl⟩
  · exact ⟨.ref _, upd H s.heap.objs.size (TxS X.prog X.w s.heap.objs.size zs), I.laid (t' := tk) hk (Nat.le_refl _) (txs_new g), rfl, q _ (I.hok.fresh (Nat.le_refl _))⟩
theorem strs_of : ∀ {vs : List Value} {zs : List Str}, Paired (fun v z => Value.isStrOf z v = true) vs zs → StrsAre vs zs
  | _, _, .nil => .nil
  | _, _, .cons h t => by
    obtain ⟨tk, rfl⟩ := Value.isStrOf_shape h
    exact .cons _ tk (strs_of t)
theorem prd_map {α β γ : Type} {F : β → γ → Prop} {f : α → β} : ∀ {es : List α} {js : List γ}, Paired (fun e j => F (f e) j) es js → Paired F (es.map f) js
  | _, _, .nil => .nil
  | _, _, .cons r t => .cons r (prd_map t)
def rSortTx (P : Program) (w : World) : List V → Hp → VK → Prop := fun vs H Q => ∃ (a : Addr) (zs : List Str), vs = [V.ref a] ∧ H a = some (TxS P w a zs) ∧ zs.length ≤ 50 ∧
  ∀ (ys : List Str) (p : Addr), ys.Nodup → (∀ z, z ∈ ys ↔ z ∈ zs) → sortedS ys = true → H p = none → Q (.ref p) (upd H p (.lst (ys.map V.str)))
theorem cr_sortTx (hc : X.calm = true) : CallR X (.builtin "sorted") (rSortTx X.prog X.w) := by
  intro pins s σ H vs us Q I r h
  obtain ⟨a, zs, rfl, ha, hn, q⟩ := h
  rw [Vals.ref1 r]
  obtain ⟨ob, es, ep, tb, js, o1, o2, o3, hp, nd, hm, hsz, hf, hr, hl⟩ := (I.hok a _ ha).1
  have h50 : es.size ≤ 50 := Nat.le_trans hsz hn
  refine Calls.call_function_entry kind_sorted plain_sorted entry_sorted (args_sorted1 _) ?_
  unfold Builtin.«sorted»
  refine wpAny_bind (m := checkCount "sorted" 1 1 _) (wpAny_pure (wpAny_bind (collect_set (A := X.A.in1) (I.ok.hd hc) ⟨ob, o1, o2.1, o3⟩ hf (Nat.lt_of_le_of_lt h50 (by decide)) hr hl fun s1 out k1 hz g1 os1 pm => ?_)))
  obtain ⟨js1, j1, j2⟩ := prd_perm pm (prd_map (f := Prod.snd) (F := fun v z => Value.isStrOf z v = true) (Paired.mapP hp fun e z x => x.1))
  have hS := strs_of j2
  have hol : out.length ≤ 50 := by
    rw [pm.length_eq, List.length_map, Array.length_toList]
    exact h50
  refine wpAny_bind (wpAny_newList ?_ (Nat.le_trans hol (by decide)))
  have hoL : (s1.heap.push (seqObj "list" out.toArray 0)).get? s1.heap.objs.size = some (seqObj "list" out.toArray 0) := Heap.get?_push_size _ rfl
  refine wpAny_bind (wpAny_holding (wpAny_call_entry slot_list_sort ⟨_, hoL, rfl⟩ entry_list_sort (list_sort_treeK PyProof.Rows.strKind_oneLt hoL hS.keysOf (fun v1 v2 rest e => keyKind_strs (by rw [← e]; exact hS)) (by omega) fun st hp2 hs2 => ⟨_, rfl, ?_⟩) (args_list_sort _)))
  obtain ⟨ys, y1, y2, y3⟩ := sorted_out_str hS hp2 hs2
  obtain ⟨e9, he9⟩ := sortedHeap_at (vs := out) (out := (arrOf st).map (·.2)) hoL
  have hlen : (ys.map V.str).length ≤ sizeLine := by
    rw [List.length_map, y2.length_eq, ← Paired.length j2]
    exact Nat.le_trans hol (by decide)
  have kp : ∀ b o, s.heap.get? b = some o → (sortedHeap (s1.heap.push (seqObj "list" out.toArray 0)) s1.heap.objs.size out ((arrOf st).map (·.2))).get? b = some o := fun b o e => by
    have z := k1 b o e
    have lt := Heap.lt_size z
    rw [sortedHeap_old (Nat.ne_of_lt lt) (by rw [size_push']; exact Nat.lt_succ_of_lt lt)]
    exact Heap.get?_push_of_some _ z
  have hno : H s1.heap.objs.size = none := I.hok.fresh hz
  have hob : ObjOk X.prog X.w (upd H s1.heap.objs.size (.lst (ys.map V.str))) (sortedHeap (s1.heap.push (seqObj "list" out.toArray 0)) s1.heap.objs.size out ((arrOf st).map (·.2))) s1.heap.objs.size (.lst (ys.map V.str)) := ⟨hlen, ((arrOf st).map (·.2)).toList, e9, vals_of_strs y1, by rw [Array.toArray_toList]; exact he9⟩
  generalize hG : sortedHeap (s1.heap.push (seqObj "list" out.toArray 0)) s1.heap.objs.size out ((arrOf st).map (·.2)) = G at kp hob
  have J : Inv X pins σ (upd H s1.heap.objs.size (.lst (ys.map V.str))) { s with heap := G, gens := s1.gens, drawn := s1.drawn, toks := s1.toks } := I.call (ch := []) (Un.laid kp hz hno) (I.hok.laid kp hz hob) (by rw [g1]; exact I.bare) (fun _ z => nomatch z)
  have e1 : ({ s1 with heap := G } : Shared) = { s with heap := G, gens := s1.gens, drawn := s1.drawn, toks := s1.toks } := by
    obtain ⟨a1, a2, a3, a4, a5⟩ := s1
    obtain ⟨b1, b2, b3, b4, b5⟩ := s
    cases (show a5 = b5 from os1)
    rfl
  refine wpAny_pure ⟨_, rfl, ?_⟩
  show EP X pins σ Q _ ({ s1 with heap := G } : Shared)
  rw [e1]
  exact ⟨.ref s1.heap.objs.size, _, J, rfl, q ys _ (y2.nodup_iff.mpr (j1.nodup_iff.mpr nd)) (fun z => (y2.mem_iff.trans j1.mem_iff).trans (hm z)) y3 hno⟩
end
end KwS
set_option Elab.async false
set_option linter.all false
set_option maxRecDepth 100000
set_option maxHeartbeats 4000000
namespace Kw
open PySem PySem.Spec PyProof.Rows L2 Evl
abbrev sIsB : Stmt := topS 11
theorem scIsB : FnScope ["thing", "many", "before", "part"] ["thing", "many"] (defScope sIsB) := ⟨rfl, rfl, rfl, by decide +kernel, rfl, by decide +kernel, by decide +kernel⟩
abbrev sIsK : Stmt := topS 29
theorem scIsK : FnScope ["house", "thing", "boxes", "hand", "others", "held", "box"] ["house", "thing"] (defScope sIsK) := ⟨rfl, rfl, rfl, by decide +kernel, rfl, by decide +kernel, by decide +kernel⟩
/-! ### rising boxes, of anything -/
def risN (m : Nat) : Int → List PyData → Bool
  | _, [] => true
  | b, .int i :: r => (decide (b < i) && decide (i < m)) && risN m i r
  | _, _ :: _ => false
def boxesD (m : Nat) : PyData → Bool
  | .tuple ds => risN m (-1) ds
  | _ => false
def encN (ns : List Nat) : List PyData := ns.map fun (i : Nat) => PyData.int (i : Int)
def RisingN (ns : List Nat) : Prop := ∀ i x y, ns[i]? = some x → ns[i + 1]? = some y → x < y
theorem risN_nats {m : Nat} : ∀ {ds : List PyData} {b : Int}, -1 ≤ b → risN m b ds = true → ∃ ns : List Nat, ds = encN ns ∧ (∀ i ∈ ns, i < m) ∧ (∀ x : Nat, ns[0]? = some x → b < (x : Int)) ∧ RisingN ns
  | [], _, _, _ => ⟨[], rfl, by simp, by simp, fun i x y hx => by simp at hx⟩
  | .int i :: r, b, hb, h => by
    simp only [risN, Bool.and_eq_true, decide_eq_true_eq] at h
    obtain ⟨n, rfl⟩ := Int.eq_ofNat_of_zero_le (show 0 ≤ i by omega)
    obtain ⟨ns, e, h1, h2, h3⟩ := risN_nats (by omega) h.2
    refine ⟨n :: ns, by rw [e]; rfl, fun j hj => ?_, fun x hx => ?_, fun j x y hx hy => ?_⟩
    · rcases List.mem_cons.mp hj with rfl | hj
      · omega
      · exact h1 j hj
    · have : n = x := Option.some.inj hx
      omega
    · cases j with
      | zero =>
        have : n = x := Option.some.inj hx
        have := h2 y hy
        omega
      | succ j => exact h3 j x y hx hy
  | .none :: _, _, _, h => by simp [risN] at h
  | .bool _ :: _, _, _, h => by simp [risN] at h
  | .str _ :: _, _, _, h => by simp [risN] at h
  | .list _ :: _, _, _, h => by simp [risN] at h
  | .tuple _ :: _, _, _, h => by simp [risN] at h
  | .dict _ :: _, _, _, h => by simp [risN] at h
theorem nats_risN {m : Nat} : ∀ {ns : List Nat} {b : Int}, (∀ i ∈ ns, i < m) → (∀ x : Nat, ns[0]? = some x → b < (x : Int)) → RisingN ns → risN m b (encN ns) = true
  | [], _, _, _, _ => rfl
  | n :: r, b, h1, h2, h3 => by
    show ((decide (b < (n : Int)) && decide ((n : Int) < m)) && risN m n (encN r)) = true
    have := h2 n rfl
    have := h1 n (List.mem_cons_self ..)
    rw [decide_eq_true (by omega), decide_eq_true (by omega), nats_risN (fun i hi => h1 i (List.mem_cons_of_mem _ hi)) (fun x hx => by have := h3 0 n x rfl hx; omega) (fun i x y hx hy => h3 (i + 1) x y hx hy)]
    rfl
theorem boxesD_ok {m : Nat} {ns : List Nat} (h1 : ∀ i ∈ ns, i < m) (h3 : RisingN ns) : boxesD m (.tuple (encN ns)) = true := nats_risN h1 (fun x _ => by omega) h3
theorem boxesD_inv {m : Nat} {d : PyData} (h : boxesD m d = true) : ∃ ns : List Nat, d = .tuple (encN ns) ∧ (∀ i ∈ ns, i < m) ∧ RisingN ns := by
  cases d with
  | tuple ds =>
    obtain ⟨ns, rfl, h1, _, h3⟩ := risN_nats (by omega) (show risN m (-1) ds = true from h)
    exact ⟨ns, rfl, h1, h3⟩
  | _ => cases h
theorem boxesD_not {d : PyData} {m : Nat} (h : isTupD d = false) : boxesD m d = false := by
  cases d <;> first | rfl | cases h
theorem rising_len {m : Nat} {ns : List Nat} (h1 : ∀ i ∈ ns, i < m) (h3 : RisingN ns) : ns.length ≤ m := by
  have key : ∀ i, i < ns.length → i ≤ ns.getD i 0 := by
    intro i
    induction i with
    | zero => intro _; exact Nat.zero_le _
    | succ i ih =>
      intro hi
      have h0 := ih (by omega)
      have := h3 i _ _ (List.getElem?_eq_getElem (show i < ns.length by omega)) (List.getElem?_eq_getElem hi)
      rw [List.getD_eq_getElem?_getD, List.getElem?_eq_getElem (show i < ns.length by omega)] at h0
      rw [List.getD_eq_getElem?_getD, List.getElem?_eq_getElem hi]
      simp only [Option.getD_some] at h0 ⊢
      omega
  rcases Nat.lt_or_ge m ns.length with h | h
  · have h2 := key (ns.length - 1) (by omega)
    have h4 := h1 (ns.getD (ns.length - 1) 0) (by
      rw [List.getD_eq_getElem?_getD, List.getElem?_eq_getElem (by omega)]
      exact List.getElem_mem _)
    omega
  · exact h
section
variable {K : PySem.W.Frag} {σ : L2.St} {H H' : Hp} {ta tb tc te tl : TE} {t u : TT} {x y z v : V} {r r' : R2}
theorem rv_lt {i j : Int} : RV (rI0 fun i j => .bl (decide (i < j))) (.int i) (.int j) H (.bl (decide (i < j))) := rv_I0
theorem dpT_nats {a : Addr} {ns : List Nat} (h : SqT K H a (ns.map vN)) : Dp K H (.ref a) (.tuple (encN ns)) := .tup h (dpA_nats ns)
theorem nats_dp {v : V} {ns : List Nat} (h : Dp K H v (.tuple (encN ns))) : ∃ a, v = .ref a ∧ SqT K H a (ns.map vN) := by
  obtain ⟨a, xs, rfl, h1, h2⟩ := dp_tup_inv h
  rw [dpA_nats_inv h2] at h1
  exact ⟨a, rfl, h1⟩
end
section
variable {P : Program} {w : World} {K : PySem.W.Frag} {mg : Str → Option Value} {base : Heap}
def spIsB (K : PySem.W.Frag) : Sp := fun vs H Q _ => ∃ (v : V) (d : PyData) (m : Nat), vs = [v, vN m] ∧ Dp K H v d ∧ RetV (.bl (boxesD m d)) H Q
theorem ok_bxs {f fWho : Addr} {fd fdWho : FuncData} {k : Nat} (F : Fun K "is_boxes" "is_boxes" sIsB f fd) (DWho : Df K mg "is_whole" sWho ["thing"] fWho fdWho) (GWho : FnOk P w K mg base CX0 (k + 1) fWho fdWho ["thing"] (spWho K)) (B : Bu mg) : FnOk P w K mg base CX0 (k + 2) f fd ["thing", "many"] (spIsB K) := by
  refine F.ok scIsB (fun vs H Q E h => ?_) (fun cdv A outer s H vs Q E hr h => ?_)
  · obtain ⟨v, d, m, rfl, _⟩ := h
    rfl
  · obtain ⟨v, d, m, rfl, hd, q⟩ := h
    refine ⟨_, (pss_cons (ps_if (pt_not (pt_val (pe_callB call_isi (by rfl) B.isi boot_isinstance (pa_cons (pv 0) (pa_cons (pe_bltn (v := .ty "tuple") (by rfl) B.tup boot_tuple rfl) pa_nil))))) (pss_one (ps_ret pe_bl)) pss_nil)
      (pss_cons (ps_set (i := 2) scIsB.nd rfl (.inl rfl) (pe_un un_neg pe_int))
      (pss_cons (ps_for PassesOwn.never rfl (pi_tup (pv 0)) (pg_name (i := 3) scIsB.nd rfl (.inl rfl))
      (pss_cons (ps_if (PW.pt (pw_or (pt_not (pt_val (pcall DWho GWho (hr.mono (by omega)) (pa_cons (pv 3) pa_nil)))) (pw_or1 (pt_not (pt_chain op_lt op_lt (pv 2) (pv 3) (pv 1)))))) (pss_one (ps_ret pe_bl)) pss_nil)
      (pss_one (ps_set (i := 2) scIsB.nd rfl (.inl rfl) (pv 3)))))
      (pss_one (ps_ret pe_bl))))), ?_⟩
    cases ht : isTupD d with
    | false =>
      rw [boxesD_not ht] at q
      exact q_when (b := true) (et_is (et_not (et_B (ev_isiD (K := K) (ev_var (v := v) rfl) ev_c hd (kit_tup hd)))) (by rw [ht]; rfl)) (fun _ H1 e1 => q H1 e1) (fun hb => absurd hb (by decide))
    | true =>
      cases d <;> first | cases ht | skip
      rename_i ds
      obtain ⟨a, xs, rfl, hS, hA⟩ := dp_tup_inv hd
      refine q_when (b := false) (et_is (et_not (et_B (ev_isiD (K := K) (ev_var (v := .ref a) rfl) ev_c hd (kit_tup hd)))) rfl) (fun hb => absurd hb (by decide)) (fun _ H1 e1 => ?_)
      refine q_asg (v := .int (-1)) (ev_un ev_c ru_neg) fun H2 e2 => ?_
      have hlen := dpA_len hA
      refine q_forT (K := K) (a := a) (xs := xs) (ev_var (v := .ref a) rfl) (ex_t (e1.trans e2) hS) (fun i σ' H' => Ex H H' ∧ ∃ b y, σ' = [some (.ref a), some (vN m), some (.int b), y] ∧ risN m (-1) ds = risN m b (ds.drop i)) (fun H3 e3 => ⟨(e1.trans e2).trans e3, -1, none, rfl, rfl⟩) (fun i σ' H' _ hP => ex_t hP.1 hS) (fun i x σ' H' hx hP => ?_) (fun σ' H' hP => ?_)
      · obtain ⟨eH, b, y, rfl, hris⟩ := hP
        obtain ⟨dx, hdx, hDx⟩ := dpA_get hA hx
        have hdx' : ds.drop i = dx :: ds.drop (i + 1) := (List.getElem?_eq_some_iff.mp hdx).choose_spec ▸ List.drop_eq_getElem_cons _
        have hDx' := dp_ex eH _ _ hDx
        rw [hdx'] at hris
        show tIfS _ _ _ _ [some (.ref a), some (vN m), some (.int b), some x] H'
        have hW : Ev (tCall (spWho K) [] E0 (tCons (tVar 3) tNil)) [some (.ref a), some (vN m), some (.int b), some x] H' (.bl (isIntD dx)) := ev_call (ea_cons (ev_var (v := x) rfl) ea_nil) (SpV.of fun H3 e3 Q q E => who_dp (dp_ex e3 _ _ hDx') q)
        cases hs : isIntD dx with
        | false =>
          rw [hs] at hW
          have hf : risN m (-1) ds = false := by
            rw [hris]
            cases dx <;> first | rfl | cases hs
          have q' : RetV (.bl false) H Q := by
            have : boxesD m (.tuple ds) = false := hf
            rw [this] at q
            exact q
          exact s_when (b := true) (et_or (b := true) (et_not (et_B hW)) fun h => absurd h (by decide)) (fun _ H3 e3 => q' H3 (eH.trans e3)) (fun hb => absurd hb (by decide))
        | true =>
          rw [hs] at hW
          cases dx <;> first | cases hs | skip
          rename_i z
          cases hDx
          refine s_when (b := !(decide (b < z) && decide (z < (m : Int)))) (et_is (et_or (et_not (et_B hW)) fun _ => et_not (et_test (ev_chain (ev_var (v := .int b) rfl) (ev_var (v := .int z) rfl) (ev_var (v := vN m) rfl) rv_lt rv_lt))) rfl) (fun hb H3 e3 => ?_) (fun hb H3 e3 => ?_)
          · have hf : boxesD m (.tuple ds) = false := by
              show risN m (-1) ds = false
              rw [hris]
              show ((decide (b < z) && decide (z < (m : Int))) && _) = false
              rw [Bool.not_eq_true'] at hb
              rw [hb]
              rfl
            rw [hf] at q
            exact q H3 (eH.trans e3)
          · refine s_asg (v := .int z) (ev_var rfl) fun H4 e4 => ⟨(eH.trans e3).trans e4, z, _, rfl, ?_⟩
            rw [hris]
            show ((decide (b < z) && decide (z < (m : Int))) && _) = _
            rw [Bool.not_eq_false'] at hb
            rw [hb]
            rfl
      · obtain ⟨eH, b, y, rfl, hris⟩ := hP
        rw [List.drop_eq_nil_of_le (by omega)] at hris
        have hf : boxesD m (.tuple ds) = true := hris
        rw [hf] at q
        exact q H' eH
/-! ### is_kept, of anything -/
def lotD : PyData → List Nat
  | .tuple ds => ds.map fun d => match d with | .int i => i.toNat | _ => 0
  | _ => []
theorem lotD_enc (ns : List Nat) : lotD (.tuple (encN ns)) = ns := by
  show (encN ns).map _ = ns
  unfold encN
  rw [List.map_map]
  conv => rhs; rw [← List.map_id ns]
  apply List.map_congr_left
  intro n _
  exact Int.toNat_natCast n
def keptD (h : House) (d : PyData) : Bool := boxesD h.1.length d && (!(lotD d).isEmpty && keptB h.1 h.2 (lotD d))
theorem keptD_lot {h : House} {ls : List Nat} (h1 : ∀ i ∈ ls, i < h.1.length) (h3 : RisingN ls) (hne : ls ≠ []) : keptD h (.tuple (encN ls)) = keptB h.1 h.2 ls := by
  unfold keptD
  rw [lotD_enc, boxesD_ok h1 h3]
  cases ls with
  | nil => exact absurd rfl hne
  | cons a r => rfl
def spIsK (K : PySem.W.Frag) : Sp := fun vs H Q _ => ∃ (v x : V) (h : House) (d : PyData), vs = [v, x] ∧ HouseAt K H v h ∧ OkHouse h ∧ Dp K H x d ∧ RetV (.bl (keptD h d)) H Q
theorem ok_kept {f fChk fIsB fKeys fFits : Addr} {fd fdChk fdIsB fdKeys fdFits : FuncData} {k : Nat} (F : Fun K "is_kept" "is_kept" sIsK f fd) (DChk : Df K mg "check_house" sChk ["house"] fChk fdChk) (DIsB : Df K mg "is_boxes" sIsB ["thing", "many"] fIsB fdIsB) (DKeys : Df K mg "keys_in" sKeys ["boxes", "some"] fKeys fdKeys) (DFits : Df K mg "fits" sFits ["locks", "held"] fFits fdFits) (GChk : FnOk P w K mg base CX0 (k + 4) fChk fdChk ["house"] (spChk K)) (GIsB : FnOk P w K mg base CX0 (k + 2) fIsB fdIsB ["thing", "many"] (spIsB K)) (GKeys : FnOk P w K mg base CX0 (k + 1) fKeys fdKeys ["boxes", "some"] (spKeys K)) (GFits : FnOk P w K mg base CX0 (k + 1) fFits fdFits ["locks", "held"] (spFits K)) (B : Bu mg) : FnOk P w K mg base CX0 (k + 5) f fd ["house", "thing"] (spIsK K) := by
  refine F.ok scIsK (fun vs H Q E h => ?_) (fun cdv A outer s H vs Q E hr h => ?_)
  · obtain ⟨v, x, h, d, rfl, _⟩ := h
    rfl
  · obtain ⟨v, x, h, d, rfl, hA, ho, hd, q⟩ := h
    have hA' := hA
    obtain ⟨a, bb, kk, rfl, ha, hb, hk⟩ := hA'
    have hF := ho.few
    have h30 := ho.2.1
    have h6 := ho.2.2.2.1
    refine ⟨_, (pss_cons (ps_expr (pcall DChk GChk (hr.mono (by omega)) (pa_cons (pv 0) pa_nil)))
      (pss_cons (ps_asg (pv 0) (pg_tup rfl (pgs_cons (pg_name (i := 2) scIsK.nd rfl (.inl rfl)) (pgs_cons (pg_name (i := 3) scIsK.nd rfl (.inl rfl)) pgs_nil))))
      (pss_cons (ps_if (PW.pt (pw_or (pt_not (pt_val (pcall DIsB GIsB (hr.mono (by omega)) (pa_cons (pv 1) (pa_cons (pe_callB call_len_seq (by rfl) B.len PySem.boot_len (pa_cons (pv 2) pa_nil)) pa_nil))))) (pw_or1 (pt_cmpR op_eq (pe_callB call_len_seq (by rfl) B.len PySem.boot_len (pa_cons (pv 1) pa_nil)) pe_int (nomark _))))) (pss_one (ps_ret pe_bl)) pss_nil)
      (pss_cons (ps_setLc (i := 4) (own := [("box", 6)]) (g := (gName 6)) (tt := (tTest (tOp (rIn K true) (tVar 6) (tVar 1)))) (te := (tVar 6)) rfl scIsK.nd rfl rfl (sw_true rfl rfl rfl (by decide +kernel)) (pi_range1 (by rfl) B.rng (pa_cons (pe_callB call_len_seq (by rfl) B.len PySem.boot_len (pa_cons (pv 2) pa_nil)) pa_nil)) (blkOk_by (N := ["house", "thing", "boxes", "hand", "others", "held", "box"]) (sc := defScope sIsK) (by decide +kernel)) (fun _ _ _ _ _ => (pg_name (i := 6) scIsK.nd rfl (.inl rfl))) (fun _ _ _ _ _ => (pts_one (pt_cmpR op_notIn_seq (pv 6) (pv 1) (by rfl)))) (fun _ _ _ _ _ => (pv 6)))
      (pss_cons (ps_set (i := 5) scIsK.nd rfl (.inl rfl) (pe_op op_cat (pe_callTy call_list_of (by rfl) B.lst boot_list (pa_cons (pv 3) pa_nil)) (pcall DKeys GKeys (hr.mono (by omega)) (pa_cons (pv 2) (pa_cons (pv 4) pa_nil)))))
      (pss_cons (ps_for PassesOwn.never rfl (pi_tup (pv 1)) (pg_name (i := 6) scIsK.nd rfl (.inl rfl))
      (pss_one (ps_if (pt_val (pcall DFits GFits (hr.mono (by omega)) (pa_cons (pe_ix ix_tup (pe_ix ix_seq (pv 2) (pv 6) (fun _ _ => rfl)) pe_int (fun _ _ => rfl)) (pa_cons (pv 5) pa_nil)))) (pss_one (ps_ret pe_bl)) pss_nil)))
      (pss_one (ps_ret pe_bl)))))))), ?_⟩
    refine q_drop (ev_call (z := .non) (ea_cons (ev_var rfl) ea_nil) (SpV.of fun H2 e2 Q q E => ⟨_, h, rfl, hA.keep (KeepT.ex e2), ho, q⟩)) fun H1 e1 => ?_
    refine ⟨.ref a, rfl, a, _, rfl, ex_t e1 ha, rfl, .ref bb, [.ref kk], rfl, .ref kk, [], rfl, rfl, ?_⟩
    show tSeq _ _ _ [some (.ref a), some x, some (.ref bb), some (.ref kk), none, none, none] H1
    have hBS : BoxesS K H1 bb h.1 := BoxesS.of (hb.keep (KeepT.ex e1))
    have hB1 : Ev (tCall (spIsB K) [] E0 (tCons (tVar 1) (tCons (tCB (rLenS K) (tCons (tVar 2) tNil)) tNil))) [some (.ref a), some x, some (.ref bb), some (.ref kk), none, none, none] H1 (.bl (boxesD h.1.length d)) :=
      ev_call (ea_cons (ev_var (v := x) rfl) (ea_cons (ev_lenB (K := K) (ev_var (v := .ref bb) rfl) hBS) ea_nil)) (SpV.of fun H2 e2 Q q E => ⟨x, d, h.1.length, rfl, dp_ex (e1.trans e2) _ _ hd, q⟩)
    cases hbx : boxesD h.1.length d with
    | false =>
      rw [hbx] at hB1
      have hf : keptD h d = false := by unfold keptD; rw [hbx]; rfl
      rw [hf] at q
      exact q_when (b := true) (et_or (b := true) (et_not (et_B hB1)) fun h => absurd h (by decide)) (fun _ H2 e2 => q H2 (e1.trans e2)) (fun hb => absurd hb (by decide))
    | true =>
    rw [hbx] at hB1
    obtain ⟨ls, rfl, hm, hR⟩ := boxesD_inv hbx
    obtain ⟨t, rfl, hT⟩ := nats_dp hd
    have hl := rising_len hm hR
    refine q_when (b := decide (ls = [])) (et_is (et_or (et_not (et_B hB1)) fun _ => et_test (ev_op (ev_lenT (K := K) (ev_var (v := .ref t) rfl) (ex_t e1 hT)) ev_c (rv_eq rfl))) ?_) (fun hb H2 e2 => ?_) (fun hb H2 e2 => ?_)
    · show (!true || decide (V.int ((ls.map vN).length : Nat) = V.int 0)) = _
      rw [List.length_map]
      cases ls with
      | nil => rfl
      | cons a r =>
        have h1 : decide (V.int (((a :: r).length : Nat) : Int) = V.int 0) = false := decide_eq_false fun z => by
          have z2 := V.int.inj z
          rw [List.length_cons] at z2
          omega
        rw [h1]
        rfl
    · have he := of_decide_eq_true hb
      have hf : keptD h (.tuple (encN ls)) = false := by
        unfold keptD
        rw [lotD_enc, he]
        simp
      rw [hf] at q
      exact q H2 (e1.trans e2)
    have hne := of_decide_eq_false hb
    have hf : keptD h (.tuple (encN ls)) = keptB h.1 h.2 ls := by
      unfold keptD
      rw [lotD_enc, hbx]
      cases ls with
      | nil => exact absurd rfl hne
      | cons a r => rfl
    rw [hf] at q
    refine q_asgL (xs := (less (List.range h.1.length) ls).map vN) (by
      refine el_lc (ew_rng1 (ea_cons (ev_lenB (K := K) (ev_var (v := .ref bb) rfl) (hBS.ex e2)) ea_nil) (by omega)) (by omega) (fun i => !decide (i ∈ ls)) (fun i => vN i) rfl (fun i x H3 H4 Q e hi hy k => ?_)
      obtain ⟨rfl, rfl⟩ := hy
      refine k _ _ (Ex.refl _) rfl ?_ fun _ => ev_var rfl
      rw [← inV_nat]
      exact et_test (ev_op (ev_var rfl) (ev_var (v := .ref t) rfl) (rv_niT (ex_t ((e1.trans e2).trans e) hT) rfl (flat_nats ls)))) fun o H3 n3 e3 ho3 => ?_
    have hol : (less (List.range h.1.length) ls).length ≤ 30 := by
      have := less_len (List.range h.1.length) ls
      rw [List.length_range] at this
      omega
    have hkl := keysIn_len (fun b hb => (hF.2 b hb).2) (less (List.range h.1.length) ls)
    refine q_asgL (xs := (h.2 ++ keysIn h.1 (less (List.range h.1.length) ls)).map V.str) (by
      rw [List.map_append]
      refine el_catN (el_listT (K := K) (ev_var (v := .ref kk) rfl) (ex_t ((e1.trans e2).trans e3) hk)) (el_call (ea_cons (ev_var (v := .ref bb) rfl) (ea_cons (ev_var (v := .ref o) rfl) ea_nil)) (SpL.of fun H5 e5 Q q E => ⟨bb, o, h.1, _, rfl, hBS.ex ((e2.trans e3).trans e5), .inl (sq_of (e5 _ _ ho3)), fun i hi => List.mem_range.mp (List.mem_filter.mp hi).1, by omega, fun b hb => (hF.2 b hb).2, q⟩)) ?_
      rw [List.length_map, List.length_map]
      omega) fun hd H4 n4 e4 hh4 => ?_
    have eA := ((e1.trans e2).trans e3).trans e4
    refine q_forT (K := K) (a := t) (xs := ls.map vN) (ev_var (v := .ref t) rfl) (ex_t eA hT) (fun i σ' H' => Ex H4 H' ∧ (∃ y, σ' = [some (.ref a), some (.ref t), some (.ref bb), some (.ref kk), some (.ref o), some (.ref hd), y]) ∧ (ls.take i).any (fun i => fitsB (bx h.1 i).1 (h.2 ++ keysIn h.1 (less (List.range h.1.length) ls))) = false) (fun H5 e5 => ⟨e5, ⟨none, rfl⟩, rfl⟩) (fun i σ' H' _ hP => ex_t (eA.trans hP.1) hT) (fun i x σ' H' hx hP => ?_) (fun σ' H' hP => ?_)
    · obtain ⟨eH, ⟨y, rfl⟩, hany⟩ := hP
      obtain ⟨rfl, hi, hget⟩ := get_map 0 hx
      have hmem := List.mem_of_getElem? hget
      show tIfS _ _ _ _ [some (.ref a), some (.ref t), some (.ref bb), some (.ref kk), some (.ref o), some (.ref hd), some (vN (ls.getD i 0))] H'
      obtain ⟨l, kb, hl1, hk1, ea, eb⟩ := box_at (K := K) (σ := [some (.ref a), some (.ref t), some (.ref bb), some (.ref kk), some (.ref o), some (.ref hd), some (vN (ls.getD i 0))]) (ta := tVar 2) (tb := tVar 6) (hBS.ex (((e2.trans e3).trans e4).trans eH)) (hm _ hmem) (ev_var rfl) (ev_var rfl)
      refine s_when (et_B (ev_call (z := .bl (fitsB (bx h.1 (ls.getD i 0)).1 (h.2 ++ keysIn h.1 (less (List.range h.1.length) ls)))) (ea_cons ea (ea_cons (ev_var (v := .ref hd) rfl) ea_nil)) (SpV.of fun H7 e7 Q q E => ⟨l, hd, _, _, rfl, ex_t e7 hl1, sq_of ((eH.trans e7) _ _ hh4), q⟩))) (fun hb H5 e5 => ?_) (fun hb H5 e5 => ?_)
      · have hk : keptB h.1 h.2 ls = false := by
          unfold keptB
          rw [List.any_eq_true.mpr ⟨_, hmem, hb⟩]
          rfl
        rw [hk] at q
        exact q H5 ((eA.trans eH).trans e5)
      · refine ⟨eH.trans e5, ⟨_, rfl⟩, ?_⟩
        rw [List.take_add_one, List.any_append, hany, hget]
        show (false || (fitsB (bx h.1 (ls.getD i 0)).1 _ || false)) = false
        rw [hb]
        rfl
    · obtain ⟨eH, ⟨y, rfl⟩, hany⟩ := hP
      rw [List.length_map, List.take_length] at hany
      have hk : keptB h.1 h.2 ls = true := by
        unfold keptB
        rw [hany]
        rfl
      rw [hk] at q
      exact q H' (eA.trans eH)
end
end Kw
set_option Elab.async false
set_option linter.all false
set_option maxRecDepth 100000
set_option maxHeartbeats 4000000
namespace Kw
open PySem PySem.Spec PyProof.Rows L2 Evl
abbrev sObo : Stmt := topS 38
theorem scObo : FnScope ["bag", "house", "hand", "opened", "some", "number", "locks", "inside", "colour"] ["bag", "house"] (defScope sObo) := ⟨rfl, rfl, rfl, by decide +kernel, rfl, by decide +kernel, by decide +kernel⟩
theorem less_one {l : List Nat} {i : Nat} (h : i ∈ l) : (less l [i]).length + 1 ≤ l.length := by
  unfold less
  rcases Nat.lt_or_ge (l.filter fun j => !decide (j ∈ [i])).length l.length with h1 | h1
  · exact h1
  · have e := (List.filter_sublist (p := fun j => !decide (j ∈ [i])) (l := l)).eq_of_length_le h1
    rw [← e] at h
    have := (List.mem_filter.mp h).2
    simp at this
theorem et_neN {K : PySem.W.Frag} {σ : L2.St} {H : Hp} {j : Nat} {s : Addr} {sl : List Nat} (h : σ[j]? = some (some (.ref s))) (hs : H s = some (.lst (sl.map vN))) : EvT (tTest (tOp (rNeD K) (tVar j) (tLst tNil))) σ H (!decide (sl = [])) :=
  et_test (ev_opL (xs := ([] : List Nat).map vN) (ev_var h) (el_lst ea_nil (by decide)) fun p H1 hp e => rv_neLN (K := K) (sq_of (e _ _ hs)) (sq_of hp))
section
variable {P : Program} {w : World} {K : PySem.W.Frag} {mg : Str → Option Value} {base : Heap}
def spObo (K : PySem.W.Frag) : Sp := fun vs H Q _ => ∃ (a : Addr) (v : V) (h : House), vs = [.ref a, v] ∧ Bag H a ∧ HouseAt K H v h ∧ OkHouse h ∧ ∀ p H', H p = none → ExB a H H' → Bag H' a → H' p = some (.tup ((shutOf h.1 h.2 []).map vN)) → Q (.ref p) H'
def OboI (H : Hp) (a ah : Addr) (bs : List Box) (hand : List Str) (m : Nat) (σ' : L2.St) (H' : Hp) : Prop := ∃ (h o s : Addr) (y5 y6 y7 y8 : Option V) (op sl : List Nat),
  σ' = [some (.ref a), some (.ref ah), some (.ref h), some (.ref o), some (.ref s), y5, y6, y7, y8] ∧ ExB a H H' ∧ Bag H' a ∧ H' h = some (.lst ((hand ++ keysIn bs op).map V.str)) ∧ H' o = some (.lst (op.map vN)) ∧ H' s = some (.lst (sl.map vN)) ∧ H o = none ∧ h ≠ a ∧ o ≠ a ∧ s ≠ a ∧ o ≠ h ∧
  Seq bs hand op ∧ (sl = [] → ∀ i, i < bs.length → i ∉ op → fitsB (bx bs i).1 (hand ++ keysIn bs op) = false) ∧ op.length + (cl bs.length op).length ≤ bs.length ∧ m = (cl bs.length op).length + (if sl = [] then 0 else 1)
def tOboIf (K : PySem.W.Frag) : TS := tIfS (tTest (tOp (rNeD K) (tVar 4) (tLst tNil))) (tSeq (tAsg (tOp (rIxL K) (tVar 4) (tCall (spTake K) [] E0 (tCons (tVar 0) (tCons (tCB (rLenS K) (tCons (tVar 4) tNil)) tNil)))) (gName 5)) (tSeq (tDrop (tBM K "list" rAppend (tVar 3) (tCons (tVar 5) tNil)))
  (tAsg (tOp rCat (tVar 2) (tCB (rListS K) (tCons (tOp (rIxT K) (tOp (rIxT K) (tOp (rIxT K) (tVar 1) (tC (.int 0))) (tVar 5)) (tC (.int 1))) tNil))) (gName 2)))) tNext
def tObo (K : PySem.W.Frag) : TS :=
  tSeq (tAsg (tTup (tCons (tCB (rListS K) (tCons (tOp (rIxT K) (tVar 1) (tC (.int 1))) tNil)) (tCons (tLst tNil) (tCons (tLst (tCons (tC (.int 0)) tNil)) tNil)))) (gTup K 3 (gCons (gName 2) (gCons (gName 3) (gCons (gName 4) gNil)))))
  (tSeq (tWhile (tTest (tOp (rNeD K) (tVar 4) (tLst tNil)))
    (tSeq (tAsg (tLst tNil) (gName 4))
    (tSeq (tFor (iEnT K (tCons (tOp (rIxT K) (tVar 1) (tC (.int 0))) tNil)) (gTup K 2 (gCons (gName 5) (gCons (gTup K 2 (gCons (gName 6) (gCons (gName 7) gNil))) gNil))) (tIfS (tAnd (tTest (tOp (rIn K true) (tVar 5) (tVar 3))) (tTest (tOp (rEqD K) (tLc (iTup K (tVar 6)) (gName 8) (tTest (tOp (rIn K true) (tVar 8) (tVar 2))) (tC (.int 1)) [8]) (tLst tNil)))) (tDrop (tBM K "list" rAppend (tVar 4) (tCons (tVar 5) tNil))) tNext))
    (tOboIf K))))
  (tRet (tCB (rTupOf K) (tCons (tLc (iRng1 (tCons (tCB (rLenS K) (tCons (tOp (rIxT K) (tVar 1) (tC (.int 0))) tNil)) tNil)) (gName 5) (tTest (tOp (rIn K true) (tVar 5) (tVar 3))) (tVar 5) [5]) tNil))))
theorem obo_core {a ah ab ak : Addr} {H : Hp} {h : House} {vs : List V} {Q : VK} {nx bk ct : L2.St → Hp → Prop} (hBag : Bag H a) (hah : SqT K H ah [.ref ab, .ref ak]) (hvs : SqT K H ab vs) (hpr : Paired (BoxAt K H) vs h.1) (hak : SqT K H ak (h.2.map V.str)) (ho : OkHouse h)
    (q : ∀ p H', H p = none → ExB a H H' → Bag H' a → H' p = some (.tup ((shutOf h.1 h.2 []).map vN)) → Q (.ref p) H') :
    tObo K ⟨nx, Q, bk, ct⟩ [some (.ref a), some (.ref ah), none, none, none, none, none, none, none] H := by
    have hF := ho.few
    have h30 := ho.2.1
    have h6 := ho.2.2.2.1
    have hvl : vs.length = h.1.length := paired_len hpr
    have naH : ∀ {b : Addr}, H b = none → b ≠ a := fun {b} hb z => by
      obtain ⟨d, n, xs, g1, _⟩ := hBag
      rw [z, g1] at hb
      cases hb
    -- hand, opened, some
    refine el_listT (K := K) (ta := tOp (rIxT K) (tVar 1) (tC (.int 1))) (ev_op (ev_var (v := .ref ah) rfl) ev_c (rv_ixT (K := K) hah at1)) hak H (Ex.refl H) _ fun h1 H1 n1 e1 hh1 => ?_
    refine el_lst ea_nil (by decide) H1 (Ex.refl H1) _ fun o1 H2 n2 e2 ho1 => ?_
    refine el_lst (vs := [vN 0]) (ea_cons ev_c ea_nil) (by show 1 ≤ 100000; decide) H2 (Ex.refl H2) _ fun s1 H3 n3 e3 hs1 => ?_
    refine ⟨by show 3 ≤ sizeLine; decide, fun tp ntp => ?_⟩
    have e4 := Ex.new (o := .tup [.ref h1, .ref o1, .ref s1]) ntp
    refine ⟨tp, _, rfl, st_of upd_same, rfl, .ref h1, _, rfl, .ref o1, _, rfl, .ref s1, _, rfl, rfl, ?_⟩
    have hcl0 : cl h.1.length [] = List.range h.1.length := List.filter_eq_self.mpr fun _ _ => rfl
    have eS := ((e1.trans e2).trans e3).trans e4
    refine q_while (OboI H a ah h.1 h.2) ((cl h.1.length []).length + 1) ⟨h1, o1, s1, none, none, none, none, [], [0], rfl, ExB.of eS, hBag.ex eS, ?_, (e3.trans e4) _ _ ho1, e4 _ _ hs1, fresh_back e1 n2, naH n1, naH (fresh_back e1 n2), naH (fresh_back (e1.trans e2) n3), fun z => ?_, (by intro i hi; cases hi), (by intro z; cases z), ?_, rfl⟩ (fun m σ' H' hI => ?_)
    · rw [show h.2 ++ keysIn h.1 [] = h.2 from List.append_nil _]
      exact ((e2.trans e3).trans e4) _ _ hh1
    · rw [z, hh1] at n2
      cases n2
    · rw [hcl0, List.length_range]
      show 0 + h.1.length ≤ _
      omega
    obtain ⟨hd, o, s2, y5, y6, y7, y8, op, sl, rfl, xB, bB, hh, hoo, hss, noH, nha, noa, nsa, noh, hseq, hmx, hlen, rfl⟩ := hI
    refine ⟨_, et_neN (K := K) rfl hss, fun hb H5 e5 => ?_, fun hb H5 e5 => ?_⟩
    · have hsl : sl ≠ [] := fun z => by
        rw [z] at hb
        cases hb
      rw [if_neg hsl]
      refine ⟨fun σ2 H2 => ∃ m', m' < (cl h.1.length op).length + 1 ∧ OboI H a ah h.1 h.2 m' σ2 H2, fun σ2 H2 hN => hN, ?_⟩
      have x5 : ExB a H H5 := xB.trans (ExB.of e5)
      have b5 : Bag H5 a := bB.ex e5
      have k5 : KeepT H H5 := hBag.keepT x5
      have hh5 := e5 _ _ hh
      have ho5 := e5 _ _ hoo
      -- some = []
      refine q_asgL (xs := []) (el_lst ea_nil (by decide)) fun s3 H6 n6 e6 hs3 => ?_
      have d1 : hd ≠ s3 := ne_of_none hh5 n6
      have d2 : o ≠ s3 := ne_of_none ho5 n6
      have d3 : s3 ≠ a := fun z => by
        obtain ⟨d, n, xs, g1, _⟩ := b5
        rw [z, g1] at n6
        cases n6
      have wkb : ∀ R : It → Hp → Prop, (∀ (J : It) (G : Hp → Prop) (H7 : Hp), Ex H6 H7 → Walk J h.1.length G (YB K h.1) → (∀ H3, Ex H5 H3 → G H3) → R J H7) → iEnT K (tCons (tOp (rIxT K) (tVar 1) (tC (.int 0))) tNil) [some (.ref a), some (.ref ah), some (.ref hd), some (.ref o), some (.ref s3), y5, y6, y7, y8] H6 R := by
        have k6 : KeepT H H6 := k5.trans (KeepT.ex e6)
        intro R r
        refine ⟨.ref ah, rfl, ah, _, 0, .ref ab, rfl, rfl, keep_t k6 hah, at0, ab, vs, rfl, keep_t k6 hvs, r _ (fun H' => SqT K H' ab vs ∧ Paired (BoxAt K H') vs h.1) H6 (Ex.refl H6) ?_ fun H8 e8 => ⟨keep_t (k5.trans (KeepT.ex e8)) hvs, paired_imp hpr fun _ _ x => x.keep (k5.trans (KeepT.ex e8))⟩⟩
        rw [← hvl]
        refine walk_enT.mono (fun H' x => x.1) fun i H' x H2 hi hg hy => ?_
        obtain ⟨T, n, v, t1, t2, t3, t4, t5⟩ := hy
        cases t4
        obtain ⟨b0, hb0, hat⟩ := paired_get hg.2 t5
        have : bx h.1 i = b0 := by
          unfold bx
          rw [List.getD_eq_getElem?_getD, hb0]
          rfl
        rw [← this] at hat
        exact ⟨T, v, t1, t2, t3, hat⟩
      have fin : ∀ (bk' ct' : L2.St → Hp → Prop) (σ' : L2.St) (H8 : Hp) (u5 u6 u7 : Option V), σ' = [some (.ref a), some (.ref ah), some (.ref hd), some (.ref o), some (.ref s3), u5, u6, u7, y8] → Ex H5 H8 → H8 s3 = some (.lst ((readyOf h.1 (h.2 ++ keysIn h.1 op) (cl h.1.length op)).map vN)) →
          tOboIf K ⟨fun σ2 H2 => ∃ m', m' < (cl h.1.length op).length + 1 ∧ OboI H a ah h.1 h.2 m' σ2 H2, Q, bk', ct'⟩ σ' H8 := by
        intro bk' ct' σ' H8 u5 u6 u7 hσ e8 hs8
        subst hσ
        generalize hrd : readyOf h.1 (h.2 ++ keysIn h.1 op) (cl h.1.length op) = rd at hs8
        have x8 : ExB a H H8 := x5.trans (ExB.of e8)
        have b8 : Bag H8 a := b5.ex e8
        refine s_when (b := !decide (rd = [])) (et_neN (K := K) rfl hs8) (fun hb2 H9 e9 => ?_) (fun hb2 H9 e9 => ?_)
        · have hr0 : rd ≠ [] := fun z => by
            rw [z] at hb2
            cases hb2
          have hpos : 0 < rd.length := List.length_pos_iff.mpr hr0
          have hs9 := e9 _ _ hs8
          refine ⟨.ref s3, rfl, .ref a, rfl, .ref s3, rfl, s3, _, rfl, .inl (sq_of hs9), a, _, rfl, b8.ex e9, by rw [List.length_map]; omega, fun r H10 r0 r1 x10 b10 => ?_⟩
          rw [List.length_map] at r1
          obtain ⟨j, hj⟩ := Int.eq_ofNat_of_zero_le r0
          have hj' : j < rd.length := by omega
          have hin : rd[j] ∈ readyOf h.1 (h.2 ++ keysIn h.1 op) (cl h.1.length op) := by
            rw [hrd]
            exact List.getElem_mem hj'
          have hin2 := List.mem_filter.mp hin
          have hclm := hin2.1
          have hlt : rd[j] < h.1.length := List.mem_range.mp (List.mem_filter.mp hclm).1
          have hnot : rd[j] ∉ op := fun z => by
            have := (List.mem_filter.mp hclm).2
            rw [decide_eq_true z] at this
            cases this
          refine ⟨s3, rd.map vN, r, vN rd[j], rfl, rfl, sq_of (x10 _ _ d3 hs9), by rw [hj]; exact atI_nat (by rw [List.getElem?_map, List.getElem?_eq_getElem hj']; rfl), ?_⟩
          have ho10 := x10 _ _ noa (e9 _ _ (e8 _ _ ho5))
          have hh10 := x10 _ _ nha (e9 _ _ (e8 _ _ hh5))
          have hs10 := x10 _ _ d3 hs9
          have xA : ExB a H H10 := (x8.trans (ExB.of e9)).trans x10
          refine ⟨.ref o, rfl, .inl ⟨rfl, _, sq_of ho10⟩, vN rd[j], rfl, o, _, _, rfl, rfl, ho10, sz_lt (by rw [List.length_map]; omega), ?_⟩
          have kG := KeepT.lst (ys := op.map vN ++ [vN rd[j]]) ho10
          have kA : KeepT H (upd H10 o (.lst (op.map vN ++ [vN rd[j]]))) := (hBag.keepT xA).trans kG
          have xG : ExB a H (upd H10 o (.lst (op.map vN ++ [vN rd[j]]))) := fun b u nb hb => by
            rw [upd_ne (ne_of_none hb noH)]
            exact xA b u nb hb
          have bG : Bag (upd H10 o (.lst (op.map vN ++ [vN rd[j]]))) a := by
            obtain ⟨d', n', xs', g1, g2, g3⟩ := b10
            refine ⟨d', n', xs', by rw [upd_ne (Ne.symm noa)]; exact g1, ?_, g3⟩
            have : d' ≠ o := fun z => by
              rw [z, ho10] at g2
              have e := congrArg List.length (HO.lst.inj (Option.some.inj g2))
              rw [List.length_map, List.length_map, g3.1] at e
              omega
            rw [upd_ne this]
            exact g2
          have hoG : upd H10 o (.lst (op.map vN ++ [vN rd[j]])) o = some (.lst ((op ++ [rd[j]]).map vN)) := by
            rw [upd_same, List.map_append]
            rfl
          have hhG : upd H10 o (.lst (op.map vN ++ [vN rd[j]])) hd = some (.lst ((h.2 ++ keysIn h.1 op).map V.str)) := by
            rw [upd_ne (Ne.symm noh)]
            exact hh10
          have hsG : upd H10 o (.lst (op.map vN ++ [vN rd[j]])) s3 = some (.lst (rd.map vN)) := by
            rw [upd_ne (Ne.symm d2)]
            exact hs10
          generalize upd H10 o (.lst (op.map vN ++ [vN rd[j]])) = G at kA xG bG hoG hhG hsG
          obtain ⟨vb, hvb, pb, l1, k1, rfl, hpb, hl1, hk1⟩ := paired_get2 hpr (bx_get hlt)
          have hkl := keysIn_len (fun b hb => (hF.2 b hb).2) op
          have fb := (hF.bx rd[j]).2
          show tAsg (tOp rCat (tVar 2) (tCB (rListS K) (tCons (tOp (rIxT K) (tOp (rIxT K) (tOp (rIxT K) (tVar 1) (tC (.int 0))) (tVar 5)) (tC (.int 1))) tNil))) (gName 2) _ [some (.ref a), some (.ref ah), some (.ref hd), some (.ref o), some (.ref s3), some (vN rd[j]), u6, u7, y8] G
          have ekk : h.2 ++ keysIn h.1 (op ++ [rd[j]]) = (h.2 ++ keysIn h.1 op) ++ (bx h.1 rd[j]).2 := by
            unfold keysIn
            rw [List.flatMap_append, List.append_assoc]
            simp
          refine s_asgL (xs := (h.2 ++ keysIn h.1 (op ++ [rd[j]])).map V.str) (by
            rw [ekk, List.map_append]
            exact el_cat (ev_var (v := .ref hd) rfl) hhG (el_listT (K := K) (ev_op (ev_op (ev_op (ev_var (v := .ref ah) rfl) ev_c (rv_ixT (K := K) (keep_t kA hah) at0)) (ev_var (v := vN rd[j]) rfl) (rv_ixT (K := K) (keep_t kA hvs) (atI_nat hvb))) ev_c (rv_ixT (K := K) (keep_t kA hpb) at1)) (keep_t kA hk1)) (by rw [List.length_map, List.length_map, List.length_append]; omega)) fun h2 H11 n11 e11 hh11 => ?_
          have hcl2 : (cl h.1.length (op ++ [rd[j]])).length + 1 ≤ (cl h.1.length op).length := by
            rw [cl_app]
            exact less_one hclm
          have nG : ∀ {b u}, G b = some u → h2 ≠ b := fun {b u} hb z => by
            rw [z, hb] at n11
            cases n11
          refine ⟨(cl h.1.length (op ++ [rd[j]])).length + 1, by omega, h2, o, s3, _, _, _, _, op ++ [rd[j]], rd, rfl, xG.trans (ExB.of e11), bG.ex e11, hh11, e11 _ _ hoG, e11 _ _ hsG, noH, ?_, noa, d3, Ne.symm (nG hoG), fun i hi => ?_, fun z => absurd z hr0, by rw [List.length_append, List.length_singleton]; omega, by rw [if_neg hr0]⟩
          · obtain ⟨d', n', xs', g1, _⟩ := bG
            exact nG g1
          · rcases List.mem_append.mp hi with z | z
            · exact hseq i z
            · rw [List.mem_singleton.mp z]
              exact ⟨hlt, hseq.fits hlt hin2.2⟩
        · have hr0 : rd = [] := by
            cases rd with
            | nil => rfl
            | cons a r => cases hb2
          subst hr0
          refine ⟨(cl h.1.length op).length + 0, by omega, hd, o, s3, _, _, _, _, op, [], rfl, x8.trans (ExB.of e9), b8.ex e9, e9 _ _ (e8 _ _ hh5), e9 _ _ (e8 _ _ ho5), e9 _ _ hs8, noH, nha, noa, d3, noh, hseq, fun _ i hi hni => ?_, hlen, by rw [if_pos rfl]⟩
          cases qf : fitsB (bx h.1 i).1 (h.2 ++ keysIn h.1 op) with
          | false => rfl
          | true =>
            have : i ∈ readyOf h.1 (h.2 ++ keysIn h.1 op) (cl h.1.length op) := List.mem_filter.mpr ⟨List.mem_filter.mpr ⟨List.mem_range.mpr hi, by rw [decide_eq_false hni]; rfl⟩, qf⟩
            rw [hrd] at this
            cases this
      show tSeq (tFor (iEnT K (tCons (tOp (rIxT K) (tVar 1) (tC (.int 0))) tNil)) _ _) (tOboIf K) _ [some (.ref a), some (.ref ah), some (.ref hd), some (.ref o), some (.ref s3), y5, y6, y7, y8] H6
      generalize hwi : iEnT K (tCons (tOp (rIxT K) (tVar 1) (tC (.int 0))) tNil) = wi at wkb ⊢
      refine wkb _ fun J G H7 e7 wk hG => ?_
      have e67 := e6.trans e7
      refine for_it wk (fun i σ' H' => ∃ (u5 u6 u7 : Option V), σ' = [some (.ref a), some (.ref ah), some (.ref hd), some (.ref o), some (.ref s3), u5, u6, u7, y8] ∧ Ex H5 H' ∧ H' s3 = some (.lst (((List.range i).filter fun i => !decide (i ∈ op) && fitsB (bx h.1 i).1 (h.2 ++ keysIn h.1 op)).map vN)))
        ⟨y5, y6, y7, rfl, e67, e7 _ _ hs3⟩ (fun i σ' H' _ hP => ?_) (fun i x σ' H8 H9 hi hP hy => ?_) (fun σ' H8 hP => ?_)
      · obtain ⟨_, _, _, _, g, _⟩ := hP
        exact hG _ g
      · obtain ⟨u5, u6, u7, rfl, eX, g5⟩ := hP
        obtain ⟨T, v, rfl, nT, rfl, p, l, kk, rfl, hp, hl1, hk1⟩ := hy
        have eT := Ex.new (o := .tup [vN i, .ref p]) nT
        refine ⟨T, _, rfl, st_of upd_same, rfl, vN i, [.ref p], rfl, .ref p, [], rfl, p, _, rfl, ex_t eT hp, rfl, .ref l, [.ref kk], rfl, .ref kk, [], rfl, rfl, rfl, ?_⟩
        have fb := (hF.bx i).1
        have g1 := eX _ _ hh5
        have g2 := eX _ _ ho5
        have sn : ∀ q : Nat → Bool, ((List.range i).filter q).length ≤ i := fun q => by
          have := List.length_filter_le q (List.range i)
          rw [List.length_range] at this
          exact this
        refine s_when (b := !decide (i ∈ op) && fitsB (bx h.1 i).1 (h.2 ++ keysIn h.1 op)) (et_and (et_is (et_test (ev_op (ev_var (v := vN i) rfl) (ev_var (v := .ref o) rfl) (rv_niL (K := K) (sq_of (eT _ _ g2)) rfl (flat_nats op)))) (by rw [inV_nat])) fun _ => et_ones (K := K) (h := hd) (jl := 6) (jc := 8) (jh := 2) (ev_var rfl) (ex_t eT hl1) (by omega) (eT _ _ g1) fun x => ⟨rfl, rfl, rfl⟩) (fun hb H10 e10 => ?_) (fun hb H10 e10 => ?_)
        · refine s_app (K := K) (l := s3) ((eT.trans e10) _ _ g5) (ev_var rfl) (v := vN i) (ev_var rfl) (by rw [List.length_map]; have := sn fun i => !decide (i ∈ op) && fitsB (bx h.1 i).1 (h.2 ++ keysIn h.1 op); omega) fun H11 e11 => ?_
          have eA := (eT.trans e10).trans e11
          refine ⟨some (vN i), some (.ref l), some (.ref kk), rfl, Ex.mut (eX.trans eA) n6, ?_⟩
          rw [upd_same, List.range_succ, List.filter_append, List.filter_cons_of_pos (p := fun i => !decide (i ∈ op) && fitsB (bx h.1 i).1 (h.2 ++ keysIn h.1 op)) hb, List.map_append]
          rfl
        · have eA := eT.trans e10
          refine ⟨some (vN i), some (.ref l), some (.ref kk), rfl, eX.trans eA, ?_⟩
          rw [List.range_succ, List.filter_append, List.filter_cons_of_neg (p := fun i => !decide (i ∈ op) && fitsB (bx h.1 i).1 (h.2 ++ keysIn h.1 op)) (by rw [hb]; decide), List.filter_nil, List.append_nil]
          exact eA _ _ g5
      · obtain ⟨u5, u6, u7, rfl, eX, g5⟩ := hP
        rw [some_eq] at g5
        exact fin _ _ _ _ u5 u6 u7 rfl eX g5
    · have hsl : sl = [] := by
        cases sl with
        | nil => rfl
        | cons a r => cases hb
      have x5 : ExB a H H5 := xB.trans (ExB.of e5)
      have b5 : Bag H5 a := bB.ex e5
      have k5 : KeepT H H5 := hBag.keepT x5
      have hS := less_same hseq (hmx hsl)
      refine s_retU (eu_tupN (K := K) (xs := (shutOf h.1 h.2 []).map vN) ?_) fun p H6 np e6 h6 => q p H6 (x5.back b5 np) (x5.trans (ExB.of e6)) (b5.ex e6) h6
      rw [← hS]
      refine el_lc (n := h.1.length) (ew_rng1 (ea_cons (by rw [← hvl]; exact ev_lenT (K := K) (ev_op (ev_var (v := .ref ah) rfl) ev_c (rv_ixT (K := K) (keep_t k5 hah) at0)) (keep_t k5 hvs)) ea_nil) (by omega)) (by omega) (fun i => !decide (i ∈ op)) (fun i => vN i) rfl (fun i x H6 H7 Q e hi hy k => ?_)
      obtain ⟨rfl, rfl⟩ := hy
      refine k _ _ (Ex.refl _) rfl ?_ fun _ => ev_var rfl
      rw [← inV_nat]
      exact et_test (ev_op (ev_var rfl) (ev_var (v := .ref o) rfl) (rv_niL (sq_of (e _ _ (e5 _ _ hoo))) rfl (flat_nats op)))
theorem ok_obo {f fT : Addr} {fd fdT : FuncData} {k : Nat} (F : Fun K "_law_one_by_one" "_law_one_by_one" sObo f fd) (B : Bu mg) (mE : mg "enumerate" = none) (DT : Df K mg "_law_take" sTake ["bag", "many"] fT fdT) (GT : FnOk P w K mg base CX0 (k + 1) fT fdT ["bag", "many"] (spTake K)) : FnOk P w K mg base CX0 (k + 2) f fd ["bag", "house"] (spObo K) := by
  refine F.ok scObo (fun vs H Q E h => ?_) (fun cdv A outer s H vs Q E hr h => ?_)
  · obtain ⟨a, v, h, rfl, _⟩ := h
    rfl
  · obtain ⟨a, v, h, rfl, hBag, ⟨ah, ab, ak, rfl, hah, ⟨vs, hvs, hpr⟩, hak⟩, ho, q⟩ := h
    have hF := ho.few
    have h30 := ho.2.1
    have h6 := ho.2.2.2.1
    have hu64 := hr.units
    refine ⟨tObo K, pss_cons (ps_asg (pe_tup (pa_cons (pe_callTy call_list_of (by rfl) B.lst boot_list (pa_cons (pe_ix ix_tup (pv 1) pe_int (fun _ _ => rfl)) pa_nil)) (pa_cons (pe_lst pa_nil) (pa_cons (pe_lst (pa_cons pe_int pa_nil)) pa_nil))))
          (pg_tup rfl (pgs_cons (pg_name (i := 2) scObo.nd rfl (.inr rfl)) (pgs_cons (pg_name (i := 3) scObo.nd rfl (.inr rfl)) (pgs_cons (pg_name (i := 4) scObo.nd rfl (.inl rfl)) pgs_nil)))))
        (pss_cons (ps_while PassesOwn.never (pt_cmpR (op_neD hu64) (pv 4) (pe_lst pa_nil) (nomark _))
          (pss_cons (ps_set (i := 4) scObo.nd rfl (.inl rfl) (pe_lst pa_nil))
          (pss_cons (ps_for PassesOwn.never rfl (pi_enT (by rfl) mE (pa_cons (pe_ix ix_tup (pv 1) pe_int (fun _ _ => rfl)) pa_nil)) (pg_tup rfl (pgs_cons (pg_name (i := 5) scObo.nd rfl (.inl rfl)) (pgs_cons (pg_tup rfl (pgs_cons (pg_name (i := 6) scObo.nd rfl (.inl rfl)) (pgs_cons (pg_name (i := 7) scObo.nd rfl (.inl rfl)) pgs_nil))) pgs_nil)))
            (pss_one (ps_if (pw_and (pt_cmpR op_notIn_seq (pv 5) (pv 3) (by rfl)) (pw_and1 (pt_cmpR (op_eqD hu64) (pe_lc (own := [("colour", 8)]) (g := gName 8) (tt := tTest (tOp (rIn K true) (tVar 8) (tVar 2))) (te := tC (.int 1)) rfl scObo.nd (pi_tup (pv 6))
                (blkOk_by (N := ["bag", "house", "hand", "opened", "some", "number", "locks", "inside", "colour"]) (sc := defScope sObo) (by decide +kernel)) (fun _ _ _ _ _ => pg_name (i := 8) scObo.nd rfl (.inl rfl)) (fun _ _ _ _ _ => pts_one (pt_cmpR op_notIn_seq (pv 8) (pv 2) (by rfl))) (fun _ _ _ _ _ => pe_int)) (pe_lst pa_nil) (nomark _)))).pt
              (pss_one (ps_expr (pe_bm PySem.F.plainAttrs_list PySem.F.slot_list_append PySem.F.type_list_append mt_append (pv 4) (pa_cons (pv 5) pa_nil)))) pss_nil)))
          (pss_one (ps_if (pt_cmpR (op_neD hu64) (pv 4) (pe_lst pa_nil) (nomark _))
            (pss_cons (ps_set (i := 5) scObo.nd rfl (.inl rfl) (pe_ix ix_list (pv 4) (pcall DT GT hr (pa_cons (pv 0) (pa_cons (pe_callB call_len_seq (by rfl) B.len PySem.boot_len (pa_cons (pv 4) pa_nil)) pa_nil))) (fun _ _ => rfl)))
            (pss_cons (ps_expr (pe_bm PySem.F.plainAttrs_list PySem.F.slot_list_append PySem.F.type_list_append mt_append (pv 3) (pa_cons (pv 5) pa_nil)))
            (pss_one (ps_set (i := 2) scObo.nd rfl (.inr rfl) (pe_op op_cat (pv 2) (pe_callTy call_list_of (by rfl) B.lst boot_list (pa_cons (pe_ix ix_tup (pe_ix ix_tup (pe_ix ix_tup (pv 1) pe_int (fun _ _ => rfl)) (pv 5) (fun _ _ => rfl)) pe_int (fun _ _ => rfl)) pa_nil))))))) pss_nil)))))
        (pss_one (ps_ret (pe_callTy call_tupOf (by rfl) B.tup boot_tuple (pa_cons (pe_lc (own := [("number", 5)]) (g := gName 5) (tt := tTest (tOp (rIn K true) (tVar 5) (tVar 3))) (te := tVar 5) rfl scObo.nd (pi_range1 (by rfl) B.rng (pa_cons (pe_callB call_len_seq (by rfl) B.len PySem.boot_len (pa_cons (pe_ix ix_tup (pv 1) pe_int (fun _ _ => rfl)) pa_nil)) pa_nil))
          (blkOk_by (N := ["bag", "house", "hand", "opened", "some", "number", "locks", "inside", "colour"]) (sc := defScope sObo) (by decide +kernel)) (fun _ _ _ _ _ => pg_name (i := 5) scObo.nd rfl (.inl rfl)) (fun _ _ _ _ _ => pts_one (pt_cmpR op_notIn_seq (pv 5) (pv 3) (by rfl))) (fun _ _ _ _ _ => pv 5)) pa_nil))))), obo_core hBag hah hvs hpr hak ho q⟩
end
end Kw
set_option Elab.async false
set_option linter.all false
set_option maxRecDepth 100000
set_option maxHeartbeats 4000000
namespace Kw
open PySem PySem.Spec PyProof.Rows L2 Evl
abbrev sLaw : Stmt := topS 39
theorem scLaw : FnScope ["script", "bag", "house", "still", "opened", "some", "boxes", "hand", "at", "locks", "inside", "key", "more", "other", "colour", "number"] ["script"] (defScope sLaw) := ⟨rfl, rfl, rfl, by decide +kernel, rfl, by decide +kernel, by decide +kernel⟩
section
variable (P : Program) (w : World) (K : PySem.W.Frag)
def tTk (n : TE) : TE := tCall (spTake K) [] E0 (tCons (tVar 1) (tCons n tNil))
def tMenu (x y : Int) : TE := tOp (rIxL K) (tLst (tCons (tC (.int x)) (tCons (tC (.int y)) tNil))) (tTk K (tC (.int 2)))
def tNo : TS := tRet (tC (.bl false))
def tOb : TT := tTest (tOp (rNeD K) (tCall (spObo K) [] E0 (tCons (tVar 1) (tCons (tVar 2) tNil))) (tVar 3))
def tLen (i : Nat) : TE := tCB (rLenS K) (tCons (tVar i) tNil)
def tUni (i : Nat) : TE := tCB (rTupOf K) (tCons (tCB (KwS.rSortTx P w) (tCons (tCB (KwS.rSetTx K P w) (tCons (tOp (rCatA K) (tVar i) (tVar 11)) tNil)) tNil)) tNil)
def tInst (ta tb : TE) : TE := tOp (rCatA K) (tOp (rCatA K) (tSl (rSlA K) (tVar 6) tNoPart (tPart (tVar 8))) (tTup (tCons (tTup (tCons ta (tCons tb tNil))) tNil))) (tSl (rSlA K) (tVar 6) (tPart (tOp (rI0 fun i j => .int (i + j)) (tVar 8) (tC (.int 1)))) tNoPart)
def tT1 : TS := tAsg (tCall (spHs K) [] E0 (tCons (tVar 1) (tCons (tMenu K 6 30) (tCons (tOp (rI0 fun i j => .int (i + j)) (tC (.int 1)) (tTk K (tC (.int 3)))) (tCons (tMenu K 4 12) tNil))))) (gName 2)
def tT2 : TS := tAsg (tCall (spShut K) [] E0 (tCons (tVar 2) tNil)) (gName 3)
def tT3 : TS := tIfS (tOr (tOb K) (tOb K)) tNo tNext
def tT4 : TS := tAsg (tLst tNil) (gName 4)
def tT5 : TS := tFor (iList K (tCall (spRnd K) [] E0 (tCons (tVar 2) tNil))) (gName 5) (tAsg (tOp rCat (tVar 4) (tCB (rListS K) (tCons (tVar 5) tNil))) (gName 4))
def tT6 : TS := tIfS (tTest (tOp (rNeD K) (tCB (rSortedI K) (tCons (tOp rCat (tVar 4) (tCB (rListS K) (tCons (tVar 3) tNil))) tNil)) (tLstRg (tRg1 (tCB (rLenS K) (tCons (tOp (rIxT K) (tVar 2) (tC (.int 0))) tNil)))))) tNo tNext
def tT7 : TS := tIfS (tAnd (tTest (tOp (rNeD K) (tVar 3) (tTup tNil))) (tTest (tOp rNotB (tCall (spIsK K) [] E0 (tCons (tVar 2) (tCons (tVar 3) tNil))) (tC (.bl true))))) tNo tNext
def tT8 : TS := tAsg (tVar 2) (gTup K 2 (gCons (gName 6) (gCons (gName 7) gNil)))
def tT9 : TS := tAsg (tTk K (tLen K 6)) (gName 8)
def tT10 : TS := tAsg (tOp (rIxT K) (tVar 6) (tVar 8)) (gTup K 2 (gCons (gName 9) (gCons (gName 10) gNil)))
def tT11 : TS := tAsg (tCall (spSome K) [] E0 (tCons (tVar 1) (tCons (tC (.int 1)) (tCons (tC (.int 12)) tNil)))) (gName 11)
def tT12 : TS := tAsg (tLst (tCons (tTup (tCons (tVar 6) (tCons (tSl (rSlA K) (tUni P w K 7) tNoPart (tPart (tC (.int 6)))) tNil))) tNil)) (gName 12)
def tT13 : TS := tAsg (tOp rCat (tVar 12) (tLst (tCons (tTup (tCons (tInst K (tSl (rSlA K) (tVar 9) (tPart (tC (.int 1))) tNoPart) (tVar 10)) (tCons (tVar 7) tNil))) tNil))) (gName 12)
def tT14 : TS := tIfS (tTest (tOp (rI0 fun i j => .bl (decide (i < j))) (tLen K 10) (tC (.int 6)))) (tDrop (tBM K "list" rAppend (tVar 12) (tCons (tTup (tCons (tInst K (tVar 9) (tUni P w K 10)) (tCons (tVar 7) tNil))) tNil))) tNext
def tT15 : TS := tIfS (tTest (tOp rEq (tLen K 7) (tC (.int 6)))) (tAsg (tSl (rSlL K) (tVar 12) (tPart (tC (.int 1))) tNoPart) (gName 12)) tNext
def tT16 : TS := tFor (iList K (tVar 12)) (gName 13) (tIfS (tTest (tOp (rNeD K) (tLc (iTup K (tCall (spShut K) [] E0 (tCons (tVar 13) tNil))) (gName 15) (tTest (tOp (rIn K true) (tVar 15) (tVar 3))) (tVar 15) [15]) (tLst tNil))) tNo tNext)
def tT17 : TS := tFor (iTup K (tVar 11)) (gName 14) (tIfS (tTest (tOp (rNeD K) (tLc (iTup K (tCall (spLost K) [] E0 (tCons (tVar 2) (tCons (tVar 14) tNil)))) (gName 15) (tTest (tOp (rIn K false) (tVar 15) (tVar 3))) (tVar 15) [15]) (tLst tNil))) tNo tNext)
def tR16 : TS := tSeq (tT16 K) (tT17 K)
def tR14 : TS := tSeq (tT14 P w K) (tSeq (tT15 K) (tR16 K))
def tR12 : TS := tSeq (tT12 P w K) (tSeq (tT13 K) (tR14 P w K))
def tR8 : TS := tSeq (tT8 K) (tSeq (tT9 K) (tSeq (tT10 K) (tSeq (tT11 K) (tR12 P w K))))
def tR6 : TS := tSeq (tT6 K) (tSeq (tT7 K) (tR8 P w K))
def tR4 : TS := tSeq tT4 (tSeq (tT5 K) (tR6 P w K))
def tR1 : TS := tSeq (tT1 K) (tSeq (tT2 K) (tSeq (tT3 K) (tR4 P w K)))
def tLaw : TS := tSeq (tFor (iList K (tCall (spBags K 8) [] E0 (tCons (tVar 0) (tCons (tC (.int 8)) tNil)))) (gName 1) (tR1 P w K)) (tRet (tC (.bl true)))
end
section
variable {P : Program} {w : World} {K : PySem.W.Frag} {mg : Str → Option Value} {base : Heap}
theorem ok_law' {f fB fH fT fS fO fR fKe fSo fL : Addr} {fd fdB fdH fdT fdS fdO fdR fdKe fdSo fdL : FuncData} {k : Nat} (F : Fun K "law" "law" sLaw f fd) (B : Bu mg) (BS : BuS mg) (mset : mg "set" = none)
    (DB : Df K mg "_law_bags" sBags ["script", "limit"] fB fdB) (DH : Df K mg "_law_house" sHouse ["bag", "boxes", "locks", "wide"] fH fdH) (DT : Df K mg "_law_take" sTake ["bag", "many"] fT fdT) (DS : Df K mg "shut" sShut ["house"] fS fdS) (DO : Df K mg "_law_one_by_one" sObo ["bag", "house"] fO fdO)
    (DR : Df K mg "rounds" sRnd ["house"] fR fdR) (DKe : Df K mg "is_kept" sIsK ["house", "thing"] fKe fdKe) (DSo : Df K mg "_law_some" sSome ["bag", "most", "wide"] fSo fdSo) (DL : Df K mg "lost" sLost ["house", "colour"] fL fdL)
    (GB : FnOk P w K mg base CX0 (k + 6) fB fdB ["script", "limit"] (spBags K 8)) (GH : FnOk P w K mg base CX0 (k + 6) fH fdH ["bag", "boxes", "locks", "wide"] (spHs K)) (GT : FnOk P w K mg base CX0 (k + 6) fT fdT ["bag", "many"] (spTake K)) (GS : FnOk P w K mg base CX0 (k + 6) fS fdS ["house"] (spShut K)) (GO : FnOk P w K mg base CX0 (k + 6) fO fdO ["bag", "house"] (spObo K))
    (GR : FnOk P w K mg base CX0 (k + 6) fR fdR ["house"] (spRnd K)) (GKe : FnOk P w K mg base CX0 (k + 6) fKe fdKe ["house", "thing"] (spIsK K)) (GSo : FnOk P w K mg base CX0 (k + 6) fSo fdSo ["bag", "most", "wide"] (spSome K)) (GL : FnOk P w K mg base CX0 (k + 6) fL fdL ["house", "colour"] (spLost K))
    (core : ∀ (a : Addr) (ns : List Int) (H : Hp) (Q : VK) (nx bk ct : L2.St → Hp → Prop), SqL K H a (ns.map V.int) → ns.length ≤ 63 → (∀ H', Q (.bl true) H') → tLaw P w K ⟨nx, Q, bk, ct⟩ [some (.ref a), none, none, none, none, none, none, none, none, none, none, none, none, none, none, none] H) :
    FnOk P w K mg base CX0 (k + 7) f fd ["script"] (spLaw K) := by
  refine F.ok scLaw (fun vs H Q E h => ?_) (fun cdv A outer s H vs Q E hr h => ?_)
  · obtain ⟨a, ns, rfl, _⟩ := h
    rfl
  · obtain ⟨a, ns, rfl, hS, hl, q⟩ := h
    have hu64 := hr.units
    refine ⟨tLaw P w K, pss_cons (ps_for PassesOwn.never rfl (pi_list (pcall DB GB hr (pa_cons (pv 0) (pa_cons pe_int pa_nil)))) (pg_name (i := 1) scLaw.nd rfl (.inl rfl))
      (pss_cons (ps_set (i := 2) scLaw.nd rfl (.inl rfl) (pcall DH GH hr (pa_cons (pv 1) (pa_cons (pe_ix ix_list (pe_lst (pa_cons pe_int (pa_cons pe_int pa_nil))) (pcall DT GT hr (pa_cons (pv 1) (pa_cons pe_int pa_nil))) (fun _ _ => rfl)) (pa_cons (pe_op op_add pe_int (pcall DT GT hr (pa_cons (pv 1) (pa_cons pe_int pa_nil)))) (pa_cons (pe_ix ix_list (pe_lst (pa_cons pe_int (pa_cons pe_int pa_nil))) (pcall DT GT hr (pa_cons (pv 1) (pa_cons pe_int pa_nil))) (fun _ _ => rfl)) pa_nil))))))
      (pss_cons (ps_set (i := 3) scLaw.nd rfl (.inr rfl) (pcall DS GS hr (pa_cons (pv 2) pa_nil)))
      (pss_cons (ps_if (pw_or (pt_cmpR (op_neD hu64) (pcall DO GO hr (pa_cons (pv 1) (pa_cons (pv 2) pa_nil))) (pv 3) (nomark _)) (pw_or1 (pt_cmpR (op_neD hu64) (pcall DO GO hr (pa_cons (pv 1) (pa_cons (pv 2) pa_nil))) (pv 3) (nomark _)))).pt (pss_one (ps_ret pe_bl)) pss_nil)
      (pss_cons (ps_set (i := 4) scLaw.nd rfl (.inl rfl) (pe_lst pa_nil))
      (pss_cons (ps_for PassesOwn.never rfl (pi_list (pcall DR GR hr (pa_cons (pv 2) pa_nil))) (pg_name (i := 5) scLaw.nd rfl (.inl rfl)) (pss_one (ps_set (i := 4) scLaw.nd rfl (.inl rfl) (pe_op op_cat (pv 4) (pe_callTy call_list_of (by rfl) B.lst boot_list (pa_cons (pv 5) pa_nil))))))
      (pss_cons (ps_if (pt_cmpR (op_neD hu64) (pe_callB cr_sortedI (by rfl) BS.srt PyProof.Rows.boot_sorted (pa_cons (pe_op op_cat (pv 4) (pe_callTy call_list_of (by rfl) B.lst boot_list (pa_cons (pv 3) pa_nil))) pa_nil)) (pe_listRg rfl (by rfl) B.lst (prg_1 (by rfl) B.rng (pe_callB call_len_seq (by rfl) B.len PySem.boot_len (pa_cons (pe_ix ix_tup (pv 2) pe_int (fun _ _ => rfl)) pa_nil)))) (nomark _)) (pss_one (ps_ret pe_bl)) pss_nil)
      (pss_cons (ps_if (pw_and (pt_cmpR (op_neD hu64) (pv 3) (pe_tup pa_nil) (nomark _)) (pw_and1 (pt_cmpR op_notBl (pcall DKe GKe hr (pa_cons (pv 2) (pa_cons (pv 3) pa_nil))) pe_bl (nomark _)))).pt (pss_one (ps_ret pe_bl)) pss_nil)
      (pss_cons (ps_asg (pv 2) (pg_tup rfl (pgs_cons (pg_name (i := 6) scLaw.nd rfl (.inl rfl)) (pgs_cons (pg_name (i := 7) scLaw.nd rfl (.inl rfl)) pgs_nil))))
      (pss_cons (ps_set (i := 8) scLaw.nd rfl (.inl rfl) (pcall DT GT hr (pa_cons (pv 1) (pa_cons (pe_callB call_len_seq (by rfl) B.len PySem.boot_len (pa_cons (pv 6) pa_nil)) pa_nil))))
      (pss_cons (ps_asg (pe_ix ix_tup (pv 6) (pv 8) (fun _ _ => rfl)) (pg_tup rfl (pgs_cons (pg_name (i := 9) scLaw.nd rfl (.inl rfl)) (pgs_cons (pg_name (i := 10) scLaw.nd rfl (.inl rfl)) pgs_nil))))
      (pss_cons (ps_set (i := 11) scLaw.nd rfl (.inl rfl) (pcall DSo GSo hr (pa_cons (pv 1) (pa_cons pe_int (pa_cons pe_int pa_nil)))))
      (pss_cons (ps_set (i := 12) scLaw.nd rfl (.inl rfl) (pe_lst (pa_cons (pe_tup (pa_cons (pv 6) (pa_cons (pe_slice sl_tupA (pe_callTy call_tupOf (by rfl) B.tup boot_tuple (pa_cons (pe_callB (KwS.cr_sortTx rfl) (by rfl) BS.srt PyProof.Rows.boot_sorted (pa_cons (pe_callTy (KwS.cr_setTx rfl) (by rfl) mset PyProof.Rows.boot_set (pa_cons (pe_op op_catA (pv 7) (pv 11)) pa_nil)) pa_nil)) pa_nil)) po_none (po_some pe_int)) pa_nil))) pa_nil)))
      (pss_cons (ps_set (i := 12) scLaw.nd rfl (.inl rfl) (pe_op op_cat (pv 12) (pe_lst (pa_cons (pe_tup (pa_cons (pe_op op_catA (pe_op op_catA (pe_slice sl_tupA (pv 6) po_none (po_some (pv 8))) (pe_tup (pa_cons (pe_tup (pa_cons (pe_slice sl_tupA (pv 9) (po_some pe_int) po_none) (pa_cons (pv 10) pa_nil))) pa_nil))) (pe_slice sl_tupA (pv 6) (po_some (pe_op op_add (pv 8) pe_int)) po_none)) (pa_cons (pv 7) pa_nil))) pa_nil))))
      (pss_cons (ps_if (pt_cmpR op_lt (pe_callB call_len_seq (by rfl) B.len PySem.boot_len (pa_cons (pv 10) pa_nil)) pe_int (nomark _)) (pss_one (ps_expr (pe_bm PySem.F.plainAttrs_list PySem.F.slot_list_append PySem.F.type_list_append mt_append (pv 12) (pa_cons (pe_tup (pa_cons (pe_op op_catA (pe_op op_catA (pe_slice sl_tupA (pv 6) po_none (po_some (pv 8))) (pe_tup (pa_cons (pe_tup (pa_cons (pv 9) (pa_cons (pe_callTy call_tupOf (by rfl) B.tup boot_tuple (pa_cons (pe_callB (KwS.cr_sortTx rfl) (by rfl) BS.srt PyProof.Rows.boot_sorted (pa_cons (pe_callTy (KwS.cr_setTx rfl) (by rfl) mset PyProof.Rows.boot_set (pa_cons (pe_op op_catA (pv 10) (pv 11)) pa_nil)) pa_nil)) pa_nil)) pa_nil))) pa_nil))) (pe_slice sl_tupA (pv 6) (po_some (pe_op op_add (pv 8) pe_int)) po_none)) (pa_cons (pv 7) pa_nil))) pa_nil)))) pss_nil)
      (pss_cons (ps_if (pt_cmpR op_eq (pe_callB call_len_seq (by rfl) B.len PySem.boot_len (pa_cons (pv 7) pa_nil)) pe_int (nomark _)) (pss_one (ps_set (i := 12) scLaw.nd rfl (.inl rfl) (pe_slice sl_list (pv 12) (po_some pe_int) po_none))) pss_nil)
      (pss_cons (ps_for PassesOwn.never rfl (pi_list (pv 12)) (pg_name (i := 13) scLaw.nd rfl (.inl rfl)) (pss_one (ps_if (pt_cmpR (op_neD hu64) (pe_lc (own := [("number", 15)]) (g := gName 15) (tt := tTest (tOp (rIn K true) (tVar 15) (tVar 3))) (te := tVar 15) rfl scLaw.nd (pi_tup (pcall DS GS hr (pa_cons (pv 13) pa_nil))) (blkOk_by (N := ["script", "bag", "house", "still", "opened", "some", "boxes", "hand", "at", "locks", "inside", "key", "more", "other", "colour", "number"]) (sc := defScope sLaw) (by decide +kernel)) (fun _ _ _ _ _ => pg_name (i := 15) scLaw.nd rfl (.inl rfl)) (fun _ _ _ _ _ => pts_one (pt_cmpR op_notIn_seq (pv 15) (pv 3) (by rfl))) (fun _ _ _ _ _ => pv 15)) (pe_lst pa_nil) (nomark _)) (pss_one (ps_ret pe_bl)) pss_nil)))
      (pss_one (ps_for PassesOwn.never rfl (pi_tup (pv 11)) (pg_name (i := 14) scLaw.nd rfl (.inl rfl)) (pss_one (ps_if (pt_cmpR (op_neD hu64) (pe_lc (own := [("number", 15)]) (g := gName 15) (tt := tTest (tOp (rIn K false) (tVar 15) (tVar 3))) (te := tVar 15) rfl scLaw.nd (pi_tup (pcall DL GL hr (pa_cons (pv 2) (pa_cons (pv 14) pa_nil)))) (blkOk_by (N := ["script", "bag", "house", "still", "opened", "some", "boxes", "hand", "at", "locks", "inside", "key", "more", "other", "colour", "number"]) (sc := defScope sLaw) (by decide +kernel)) (fun _ _ _ _ _ => pg_name (i := 15) scLaw.nd rfl (.inl rfl)) (fun _ _ _ _ _ => pts_one (pt_cmpR op_in_seq (pv 15) (pv 3) (by rfl))) (fun _ _ _ _ _ => pv 15)) (pe_lst pa_nil) (nomark _)) (pss_one (ps_ret pe_bl)) pss_nil)))))))))))))))))))))
      (pss_one (ps_ret pe_bl)), core a ns H _ _ _ _ hS hl q⟩
end
end Kw
set_option Elab.async false
set_option linter.all false
set_option maxRecDepth 100000
set_option maxHeartbeats 4000000
namespace Kw
open PySem PySem.Spec PyProof.Rows L2 Evl
theorem cut_take (xs : List V) (n : Nat) : cutV xs none (some (n : Int)) = xs.take n := by
  unfold cutV
  rw [HT.sIx_nat, HT.sIx_none, Nat.sub_zero, List.drop_zero]
  rcases Nat.lt_or_ge n xs.length with h | h
  · rw [Nat.min_eq_left (Nat.le_of_lt h)]
  · rw [Nat.min_eq_right h, List.take_length, List.take_of_length_le h]
theorem cut_drop (xs : List V) (n : Nat) : cutV xs (some (n : Int)) none = xs.drop n := by
  unfold cutV
  rw [HT.sIx_nat, HT.sIx_none]
  rcases Nat.lt_or_ge n xs.length with h | h
  · rw [Nat.min_eq_left (Nat.le_of_lt h)]
    exact List.take_of_length_le (by rw [List.length_drop]; omega)
  · rw [Nat.min_eq_right h, Nat.sub_self, List.take_zero, List.drop_of_length_le h]
theorem paired_append {α β : Type} {F : α → β → Prop} : ∀ {xs : List α} {ys : List β} {us : List α} {ws : List β}, Paired F xs ys → Paired F us ws → Paired F (xs ++ us) (ys ++ ws)
  | _, _, _, _, .nil, q => q
  | _, _, _, _, .cons r t, q => .cons r (paired_append t q)
theorem paired_take {α β : Type} {F : α → β → Prop} : ∀ {xs : List α} {ys : List β} (n : Nat), Paired F xs ys → Paired F (xs.take n) (ys.take n)
  | _, _, 0, _ => by
    rw [List.take_zero, List.take_zero]
    exact .nil
  | _, _, n + 1, .nil => .nil
  | _, _, n + 1, .cons r t => .cons r (paired_take n t)
theorem paired_drop {α β : Type} {F : α → β → Prop} : ∀ {xs : List α} {ys : List β} (n : Nat), Paired F xs ys → Paired F (xs.drop n) (ys.drop n)
  | _, _, 0, h => h
  | _, _, n + 1, .nil => .nil
  | _, _, n + 1, .cons r t => paired_drop n t
theorem nodup_len : ∀ {ys l : List Str}, ys.Nodup → (∀ y ∈ ys, y ∈ l) → ys.length ≤ l.length
  | [], _, _, _ => Nat.zero_le _
  | a :: r, l, hn, hs => by
    obtain ⟨l1, l2, rfl⟩ := List.append_of_mem (hs a (List.mem_cons_self ..))
    obtain ⟨h1, h2⟩ := List.nodup_cons.mp hn
    have := nodup_len (l := l1 ++ l2) h2 fun y hy => by
      have := hs y (List.mem_cons_of_mem _ hy)
      rcases List.mem_append.mp this with h | h
      · exact List.mem_append_left _ h
      · rcases List.mem_cons.mp h with h | h
        · exact absurd (h ▸ hy) h1
        · exact List.mem_append_right _ h
    simp only [List.length_append, List.length_cons] at this ⊢
    omega
def Uni (xs zs ys : List Str) : Prop := ys.Nodup ∧ Rising ys ∧ ∀ z, z ∈ ys ↔ z ∈ xs ++ zs
theorem Uni.ok {xs zs ys : List Str} {n m k : Nat} (u : Uni xs zs ys) (hx : OkCols xs n) (hz : OkCols zs m) (hk : xs.length + m ≤ k) : OkCols ys k := by
  refine ⟨?_, fun c hc => ?_, u.2.1⟩
  · have := nodup_len u.1 fun y hy => (u.2.2 y).mp hy
    rw [List.length_append] at this
    have := hz.1
    omega
  · rcases List.mem_append.mp ((u.2.2 c).mp hc) with h | h
    · exact hx.2.1 c h
    · exact hz.2.1 c h
theorem inst_set {bs : List Box} {n : Nat} {b : Box} (hn : n < bs.length) : bs.take n ++ [b] ++ bs.drop (n + 1) = bs.set n b := by
  rw [List.set_eq_take_append_cons_drop, if_pos hn, List.append_assoc]
  rfl
theorem bx_set {bs : List Box} {n : Nat} {b : Box} (hn : n < bs.length) (i : Nat) : bx (bs.set n b) i = if i = n then b else bx bs i := by
  unfold bx
  rw [List.getD_eq_getElem?_getD, List.getD_eq_getElem?_getD, List.getElem?_set]
  by_cases h : i = n
  · subst h
    rw [if_pos rfl, if_pos rfl, if_pos hn]
    rfl
  · rw [if_neg (fun z => h z.symm), if_neg h]
theorem ok_set {h : House} {n : Nat} {b : Box} (ho : OkHouse h) (hb : OkBox b) : OkHouse (h.1.set n b, h.2) := by
  refine ⟨by rw [List.length_set]; exact ho.1, by rw [List.length_set]; exact ho.2.1, fun b' hb' => ?_, ho.2.2.2⟩
  rcases List.mem_or_eq_of_mem_set hb' with h1 | h1
  · exact ho.2.2.1 b' h1
  · rw [h1]
    exact hb
theorem ok_bx {h : House} {n : Nat} (ho : OkHouse h) (hn : n < h.1.length) : OkBox (bx h.1 n) := ho.2.2.1 _ (List.mem_of_getElem? (bx_get hn))
theorem rising_drop {cs : List Str} (h : Rising cs) (n : Nat) : Rising (cs.drop n) := fun i x y hx hy => by
  rw [List.getElem?_drop] at hx hy
  exact h (n + i) x y hx (by rw [show n + i + 1 = n + (i + 1) by omega]; exact hy)
theorem mono_set {h : House} {n : Nat} {b : Box} (hn : n < h.1.length) (h1 : ∀ c ∈ b.1, c ∈ (bx h.1 n).1) (h2 : ∀ c ∈ (bx h.1 n).2, c ∈ b.2) : less (shutOf (h.1.set n b) h.2 []) (shutOf h.1 h.2 []) = [] := by
  refine shut_mono (by rw [List.length_set]) (fun c hc => hc) fun i => ?_
  rw [bx_set hn]
  by_cases e : i = n
  · subst e
    rw [if_pos rfl]
    exact ⟨h1, h2⟩
  · rw [if_neg e]
    exact ⟨fun c hc => hc, fun c hc => hc⟩
def GoodAt (K : PySem.W.Frag) (S : List Nat) (v : V) (H : Hp) : Prop := ∃ x : House, HouseAt K H v x ∧ OkHouse x ∧ less (shutOf x.1 x.2 []) S = []
theorem GoodAt.keep {K : PySem.W.Frag} {S : List Nat} {v : V} {H H' : Hp} (e : KeepT H H') (g : GoodAt K S v H) : GoodAt K S v H' := by
  obtain ⟨x, h1, h2⟩ := g
  exact ⟨x, h1.keep e, h2⟩
def IsC (K : PySem.W.Frag) (cs : List Str) : V → Hp → Prop := fun v H => ∃ a, v = .ref a ∧ SqT K H a (cs.map V.str)
def IsB (K : PySem.W.Frag) (bs : List Box) : V → Hp → Prop := fun v H => ∃ a, v = .ref a ∧ BoxesT K H a bs
section
variable {P : Program} {w : World} {K : PySem.W.Frag} {σ : L2.St} {H H' : Hp} {ta tb te tl : TE} {x y z v : V}
theorem IsC.ex {cs : List Str} (e : Ex H H') (h : IsC K cs v H) : IsC K cs v H' := by
  obtain ⟨a, h1, h2⟩ := h
  exact ⟨a, h1, ex_t e h2⟩
theorem IsB.ex {bs : List Box} (e : Ex H H') (h : IsB K bs v H) : IsB K bs v H' := by
  obtain ⟨a, h1, h2⟩ := h
  exact ⟨a, h1, h2.keep (KeepT.ex e)⟩
theorem ep_pair {Φ Ψ : V → Hp → Prop} (ha : EvP ta σ H Φ) (hb : EvP tb σ H Ψ) (k1 : ∀ v H1 H2, Ex H1 H2 → Φ v H1 → Φ v H2) (k2 : ∀ v H1 H2, Ex H1 H2 → Ψ v H1 → Ψ v H2) :
    EvP (tTup (tCons ta (tCons tb tNil))) σ H (fun v H' => ∃ p x y, v = .ref p ∧ SqT K H' p [x, y] ∧ Φ x H' ∧ Ψ y H') := fun H1 e Q q =>
  ha H1 e _ fun x H2 e2 hx => hb H2 (e.trans e2) _ fun y H3 e3 hy => ⟨by show 2 ≤ sizeLine; decide, fun p hp => q _ _ ((e2.trans e3).trans (Ex.new hp)) ⟨p, x, y, rfl, st_of upd_same, k1 _ _ _ (e3.trans (Ex.new hp)) hx, k2 _ _ _ (Ex.new hp) hy⟩⟩
theorem ep_one {Φ : V → Hp → Prop} (ha : EvP ta σ H Φ) (k1 : ∀ v H1 H2, Ex H1 H2 → Φ v H1 → Φ v H2) :
    EvP (tTup (tCons ta tNil)) σ H (fun v H' => ∃ p x, v = .ref p ∧ SqT K H' p [x] ∧ Φ x H') := fun H1 e Q q =>
  ha H1 e _ fun x H2 e2 hx => ⟨by show 1 ≤ sizeLine; decide, fun p hp => q _ _ (e2.trans (Ex.new hp)) ⟨p, x, rfl, st_of upd_same, k1 _ _ _ (Ex.new hp) hx⟩⟩
theorem ep_catB {Φ Ψ : List Box → Prop} (ha : EvP ta σ H (fun v H' => ∃ bs, Φ bs ∧ IsB K bs v H')) (hb : EvP tb σ H (fun v H' => ∃ bs, Ψ bs ∧ IsB K bs v H')) (hn : ∀ bs cs, Φ bs → Ψ cs → bs.length + cs.length ≤ 100000) :
    EvP (tOp (rCatA K) ta tb) σ H (fun v H' => ∃ bs, (∃ l m, Φ l ∧ Ψ m ∧ bs = l ++ m) ∧ IsB K bs v H') := fun H1 e Q q =>
  ha H1 e _ fun v H2 e2 ⟨l, hl, a, hv, vs, hvs, hp⟩ => hb H2 (e.trans e2) _ fun u H3 e3 ⟨m, hm, b, hu, us, hus, hq⟩ => by
    have l1 : vs.length = l.length := paired_len hp
    have l2 : us.length = m.length := paired_len hq
    have hp3 : Paired (BoxAt K H3) vs l := paired_imp hp fun _ _ x => x.keep (KeepT.ex e3)
    have hpq := paired_append hp3 hq
    refine ⟨a, b, vs, us, hv, hu, ex_t e3 hvs, hus, sz_of (by rw [l1, l2]; exact hn _ _ hl hm), fun z => q _ H3 (e2.trans e3) ⟨_, ⟨l, m, hl, hm, rfl⟩, b, rfl, vs ++ us, by rw [z]; exact hus, hpq⟩, fun _ z => q _ H3 (e2.trans e3) ⟨_, ⟨l, m, hl, hm, rfl⟩, a, rfl, vs ++ us, by rw [z, List.append_nil]; exact ex_t e3 hvs, hpq⟩, fun _ _ p hp => ?_⟩
    exact q _ _ ((e2.trans e3).trans (Ex.new hp)) ⟨_, ⟨l, m, hl, hm, rfl⟩, p, rfl, vs ++ us, st_of upd_same, paired_imp hpq fun _ _ x => x.keep (KeepT.ex (Ex.new hp))⟩
theorem ep_takeB {bs : List Box} {a : Addr} {n : Nat} (hB : BoxesT K H a bs) (ha : Ev ta σ H (.ref a)) (hn : Ev tb σ H (vN n)) : EvP (tSl (rSlA K) ta tNoPart (tPart tb)) σ H (fun v H' => ∃ l, l = bs.take n ∧ IsB K l v H') := by
  obtain ⟨vs, hvs, hp⟩ := hB
  refine (ep_slT (K := K) ha eo_none (eo_some (i := (n : Int)) hn) hvs).imp fun v H1 e ⟨p, h1, h2⟩ => ⟨_, rfl, p, h1, vs.take n, ?_, paired_take n (paired_imp hp fun _ _ x => x.keep (KeepT.ex e))⟩
  rw [cut_take] at h2
  exact h2
theorem ep_dropB {bs : List Box} {a : Addr} {n : Nat} (hB : BoxesT K H a bs) (ha : Ev ta σ H (.ref a)) (hn : Ev tb σ H (vN n)) : EvP (tSl (rSlA K) ta (tPart tb) tNoPart) σ H (fun v H' => ∃ l, l = bs.drop n ∧ IsB K l v H') := by
  obtain ⟨vs, hvs, hp⟩ := hB
  refine (ep_slT (K := K) ha (eo_some (i := (n : Int)) hn) eo_none hvs).imp fun v H1 e ⟨p, h1, h2⟩ => ⟨_, rfl, p, h1, vs.drop n, ?_, paired_drop n (paired_imp hp fun _ _ x => x.keep (KeepT.ex e))⟩
  rw [cut_drop] at h2
  exact h2
theorem ep_dropC {cs : List Str} {a : Addr} (hC : SqT K H a (cs.map V.str)) (ha : Ev ta σ H (.ref a)) : EvP (tSl (rSlA K) ta (tPart (tC (.int 1))) tNoPart) σ H (IsC K (cs.drop 1)) := by
  refine (ep_slT (K := K) ha (eo_some (i := ((1 : Nat) : Int)) ev_c) eo_none hC).imp fun v H1 e ⟨p, h1, h2⟩ => ⟨p, h1, ?_⟩
  rw [cut_drop] at h2
  rw [List.map_drop]
  exact h2
theorem ep_inst {R : Box → Prop} {Φ Ψ : V → Hp → Prop} {ab : Addr} {bs : List Box} {n : Nat} (hB : BoxesT K H ab bs) (h6 : σ[6]? = some (some (.ref ab))) (h8 : σ[8]? = some (some (vN n))) (hl : bs.length ≤ 100)
    (hp : EvP ta σ H Φ) (hq : EvP tb σ H Ψ) (k1 : ∀ v H1 H2, Ex H1 H2 → Φ v H1 → Φ v H2) (k2 : ∀ v H1 H2, Ex H1 H2 → Ψ v H1 → Ψ v H2) (hR : ∀ x y H', Φ x H' → Ψ y H' → ∃ b : Box, R b ∧ IsC K b.1 x H' ∧ IsC K b.2 y H') :
    EvP (tInst K ta tb) σ H (fun v H' => ∃ b, R b ∧ IsB K (bs.take n ++ [b] ++ bs.drop (n + 1)) v H') := by
  have hm : EvP (tTup (tCons (tTup (tCons ta (tCons tb tNil))) tNil)) σ H (fun v H' => ∃ l, (∃ b, R b ∧ l = [b]) ∧ IsB K l v H') := by
    refine (ep_one (K := K) (ep_pair (K := K) hp hq k1 k2) fun v H1 H2 e ⟨p, x, y, z1, z2, z3, z4⟩ => ⟨p, x, y, z1, ex_t e z2, k1 _ _ _ e z3, k2 _ _ _ e z4⟩).imp fun v H1 e ⟨p, u, hv, hs, p2, x, y, z1, z2, z3, z4⟩ => ?_
    obtain ⟨b, hb, ⟨l, r1, r2⟩, ⟨kk, r3, r4⟩⟩ := hR x y H1 z3 z4
    subst r1 r3 z1
    exact ⟨[b], ⟨b, hb, rfl⟩, p, hv, [.ref p2], hs, .cons ⟨p2, l, kk, rfl, z2, r2, r4⟩ .nil⟩
  refine (ep_catB (K := K) (ep_catB (K := K) (ep_takeB (K := K) (n := n) hB (ev_var h6) (ev_var h8)) hm ?_) (ep_dropB (K := K) (n := n + 1) hB (ev_var h6) (ev_is (ev_op (ev_var h8) ev_c rv_I0) ?_)) ?_).imp fun v H1 e ⟨l, ⟨l1, l2, ⟨l3, l4, e3, ⟨b, hb, e4⟩, e1⟩, e2, e5⟩, hi⟩ => ?_
  · rintro l m rfl ⟨b, _, rfl⟩
    rw [List.length_take, List.length_singleton]
    omega
  · show V.int ((n : Int) + 1) = V.int ((n + 1 : Nat) : Int)
    rw [Int.natCast_succ]
  · rintro l m ⟨l3, l4, rfl, ⟨b, _, rfl⟩, rfl⟩ rfl
    rw [List.length_append, List.length_take, List.length_singleton, List.length_drop]
    omega
  · subst e5 e1 e2 e3 e4
    exact ⟨b, hb, hi⟩
theorem ep_uni {i : Nat} {a b : Addr} {xs zs : List Str} (hi : σ[i]? = some (some (.ref a))) (hk : σ[11]? = some (some (.ref b))) (h1 : SqT K H a (xs.map V.str)) (h2 : SqT K H b (zs.map V.str)) (hn : xs.length + zs.length ≤ 50) :
    EvP (tUni P w K i) σ H (fun v H' => ∃ ys, Uni xs zs ys ∧ IsC K ys v H') := by
  intro H1 e Q q
  have fin : ∀ (v : V) (H2 : Hp), Ex H1 H2 → IsT K ((xs ++ zs).map V.str) v H2 → tCB (rTupOf K) (tCons (tCB (KwS.rSortTx P w) (tCons (tCB (KwS.rSetTx K P w) (tCons (tC v) tNil)) tNil)) tNil) σ H2 Q := by
    intro v H2 e2 hv
    obtain ⟨p, rfl, hp⟩ := hv
    refine ⟨p, xs ++ zs, rfl, hp, by rw [List.length_append]; exact hn, fun s hs => ⟨s, xs ++ zs, rfl, upd_same, by rw [List.length_append]; exact hn, fun ys l nd hm hst hl => ⟨l, _, rfl, .inl ⟨sq_of upd_same, fun t ht => q _ _ (((e2.trans (Ex.new hs)).trans (Ex.new hl)).trans (Ex.new ht)) ⟨ys, ⟨nd, rising_of_sorted nd hst, hm⟩, t, rfl, st_of upd_same⟩⟩⟩⟩⟩
  refine ⟨.ref a, hi, .ref b, hk, a, b, _, _, rfl, rfl, ex_t e h1, ex_t e h2, sz_of (by rw [List.length_map, List.length_map]; omega), fun z => fin _ H1 (Ex.refl H1) ⟨b, rfl, ?_⟩, fun _ z => fin _ H1 (Ex.refl H1) ⟨a, rfl, ?_⟩, fun _ _ p hp => fin _ _ (Ex.new hp) ⟨p, rfl, ?_⟩⟩
  · rw [List.map_append, z]
    exact ex_t e h2
  · rw [List.map_append, z, List.append_nil]
    exact ex_t e h1
  · rw [List.map_append]
    exact st_of upd_same
theorem ep_take6 {Φ : List Str → Prop} (h : EvP te σ H (fun v H' => ∃ ys, Φ ys ∧ IsC K ys v H')) : EvP (tSl (rSlA K) te tNoPart (tPart (tC (.int 6)))) σ H (fun v H' => ∃ ys, Φ ys ∧ IsC K (ys.take 6) v H') := by
  intro H1 e Q q
  refine h H1 e _ fun v H2 e2 ⟨ys, hy, a, hv, hs⟩ => ?_
  subst hv
  refine ep_slT (K := K) (H := H2) (te := tC (.ref a)) (σ := σ) (lo := none) (hi := some ((6 : Nat) : Int)) ev_c eo_none (eo_some ev_c) hs H2 (Ex.refl H2) _ fun v H3 e3 ⟨p, h1, h2⟩ => q _ H3 (e2.trans e3) ⟨ys, hy, p, h1, ?_⟩
  rw [cut_take] at h2
  rw [List.map_take]
  exact h2
/-! ### loops over what is new each time -/
theorem q_forW {wi : TI} {g : TG} {tu tz : TS} {D : Ends} {n : Nat} {Y : Nat → Hp → V → Hp → Prop} (hi : EvW wi σ H n Y) (Pv : Hp → Nat → L2.St → Hp → Prop) (h0 : ∀ H1, Ex H H1 → Pv H1 0 σ H1) (hE : ∀ H1 i σ' H', Pv H1 i σ' H' → Ex H1 H')
    (hs : ∀ H1 i x σ' H2 H3, Ex H H1 → i < n → Pv H1 i σ' H2 → Y i H2 x H3 → g x σ' H3 fun σ2 H4 => tu { D with nx := Pv H1 (i + 1), ct := Pv H1 (i + 1), bk := tz D } σ2 H4) (hd : ∀ H1 σ' H2, Ex H H1 → Pv H1 n σ' H2 → tz D σ' H2) : tSeq (tFor wi g tu) tz D σ H :=
  hi H (Ex.refl H) _ fun J G H1 e w hG => for_it w (Pv H1) (h0 H1 e) (fun i σ' H' _ p => hG H' (hE H1 i σ' H' p)) (fun i x σ' H2 H3 hi p y => hs H1 i x σ' H2 H3 e hi p y) (fun σ' H2 p => hd H1 σ' H2 e p)
theorem s_forW {wi : TI} {g : TG} {tu : TS} {D : Ends} {n : Nat} {Y : Nat → Hp → V → Hp → Prop} (hi : EvW wi σ H n Y) (Pv : Hp → Nat → L2.St → Hp → Prop) (h0 : ∀ H1, Ex H H1 → Pv H1 0 σ H1) (hE : ∀ H1 i σ' H', Pv H1 i σ' H' → Ex H1 H')
    (hs : ∀ H1 i x σ' H2 H3, Ex H H1 → i < n → Pv H1 i σ' H2 → Y i H2 x H3 → g x σ' H3 fun σ2 H4 => tu { D with nx := Pv H1 (i + 1), ct := Pv H1 (i + 1), bk := D.nx } σ2 H4) (hd : ∀ H1 σ' H2, Ex H H1 → Pv H1 n σ' H2 → D.nx σ' H2) : tFor wi g tu D σ H :=
  hi H (Ex.refl H) _ fun J G H1 e w hG => for_it w (Pv H1) (h0 H1 e) (fun i σ' H' _ p => hG H' (hE H1 i σ' H' p)) (fun i x σ' H2 H3 hi p y => hs H1 i x σ' H2 H3 e hi p y) (fun σ' H2 p => hd H1 σ' H2 e p)
theorem ew_tupU {xs : List V} (h : EvU tl σ H xs) : EvW (iTup K tl) σ H xs.length (YAt xs) := fun H1 e R r => h H1 e _ fun a H2 _ e2 hx => ⟨a, rfl, ⟨xs, st_of hx⟩, r _ _ H2 e2 walk_tup fun H3 e3 => st_of (e3 _ _ hx)⟩
theorem el_subU {tu : TE} {neg : Bool} {b : Addr} {j : Nat} {vs : List Nat} {xs ys : List Nat} (ha : EvU tl σ H (xs.map vN)) (hl : xs.length ≤ 1000) (hy : SqT K H b (ys.map vN))
    (hw : ∀ x, wipe ((wipe σ vs).set j (some x)) vs = wipe σ vs ∧ ((wipe σ vs).set j (some x))[j]? = some (some x) ∧ ∀ H1, Ev tu ((wipe σ vs).set j (some x)) H1 (.ref b)) :
    EvL (tLc (iTup K tl) (gName j) (tTest (tOp (rIn K neg) (tVar j) tu)) (tVar j) vs) σ H ((xs.filter fun i => if neg then !decide (i ∈ ys) else decide (i ∈ ys)).map vN) := by
  refine el_lc (ew_tupU ha) (by rw [List.length_map]; omega) (fun i => if neg then !decide (xs.getD i 0 ∈ ys) else decide (xs.getD i 0 ∈ ys)) (fun i => vN (xs.getD i 0)) ?_ (fun i x H1 H2 Q e hi hy' k => ?_)
  · rw [List.length_map]
    exact filter_range_map xs 0 (fun i => if neg then !decide (i ∈ ys) else decide (i ∈ ys)) vN
  · obtain ⟨rfl, hx'⟩ := hy'
    have hi' : i < xs.length := by rw [List.length_map] at hi; exact hi
    have ei : xs.getD i 0 = xs[i] := by rw [List.getD_eq_getElem?_getD, List.getElem?_eq_getElem hi']; rfl
    have ex : x = vN xs[i] := by
      rw [List.getElem?_map, List.getElem?_eq_getElem hi'] at hx'
      exact (Option.some.inj hx').symm
    subst ex
    obtain ⟨w1, w2, w3⟩ := hw (vN xs[i])
    refine k _ _ (Ex.refl _) w1 ?_ fun _ => ?_
    · rw [ei, ← inV_nat]
      exact et_test (ev_op (ev_var w2) (w3 _) (rv_inT (ex_t e hy) rfl (flat_nats ys)))
    · rw [ei]
      exact ev_var w2
theorem et_subU {tu : TE} {neg : Bool} {b : Addr} {j : Nat} {vs : List Nat} {xs ys : List Nat} (ha : EvU tl σ H (xs.map vN)) (hl : xs.length ≤ 1000) (hy : SqT K H b (ys.map vN))
    (hw : ∀ x, wipe ((wipe σ vs).set j (some x)) vs = wipe σ vs ∧ ((wipe σ vs).set j (some x))[j]? = some (some x) ∧ ∀ H1, Ev tu ((wipe σ vs).set j (some x)) H1 (.ref b)) (hz : (xs.filter fun i => if neg then !decide (i ∈ ys) else decide (i ∈ ys)) = []) :
    EvT (tTest (tOp (rNeD K) (tLc (iTup K tl) (gName j) (tTest (tOp (rIn K neg) (tVar j) tu)) (tVar j) vs) (tLst tNil))) σ H false := by
  refine et_is (et_test (ev_opLL (ys := ([] : List Nat).map vN) (el_subU (neg := neg) ha hl hy hw) (el_lst ea_nil (by decide)) fun p q H1 hp hq e => rv_neLN (K := K) (sq_of hp) (sq_of hq))) ?_
  rw [hz]
  rfl
end
end Kw
set_option Elab.async false
set_option linter.all false
set_option maxRecDepth 100000
set_option maxHeartbeats 4000000
namespace Kw
open PySem PySem.Spec PyProof.Rows L2 Evl
def Slots (s0 : Addr) (σ : L2.St) : Prop := ∃ y1 y2 y3 y4 y5 y6 y7 y8 y9 y10 y11 y12 y13 y14 y15 : Option V, σ = [some (.ref s0), y1, y2, y3, y4, y5, y6, y7, y8, y9, y10, y11, y12, y13, y14, y15]
theorem lost_none (h : House) (c : Str) : ((lostOf h c).filter fun i => if false then !decide (i ∈ shutOf h.1 h.2 []) else decide (i ∈ shutOf h.1 h.2 [])) = [] := by
  rw [List.filter_eq_nil_iff]
  intro i hi z
  have h1 : decide (i ∈ shutOf h.1 h.2 []) = true := z
  have h2 := (List.mem_filter.mp hi).2
  rw [h1] at h2
  cases h2
theorem lost_len (h : House) (c : Str) : (lostOf h c).length ≤ h.1.length := by
  have h1 := less_len (shutOf (fewerBs h.1 c) (withoutL h.2 c) []) (shutOf h.1 h.2 [])
  have h2 := shutOf_len (fewerBs h.1 c) (withoutL h.2 c) []
  have h3 : (fewerBs h.1 c).length = h.1.length := List.length_map ..
  unfold lostOf
  omega
section
variable {P : Program} {w : World} {K : PySem.W.Frag} {σ : L2.St} {H H' : Hp} {ta tb te tl : TE} {x y z v : V} {D : Ends} {tz : TS}
theorem q_asgP {Φ : V → Hp → Prop} {i : Nat} (h : EvP te σ H Φ) (st : ∀ v H1 H2, Ex H1 H2 → Φ v H1 → Φ v H2) (k : ∀ p v H1, H p = none → Ex H H1 → H1 p = some (.lst [v]) → Φ v H1 → tz D (σ.set i (some (.ref p))) H1) :
    tSeq (tAsg (tLst (tCons te tNil)) (gName i)) tz D σ H :=
  h H (Ex.refl H) _ fun v H1 e hv => ⟨by show 1 ≤ sizeLine; decide, fun p hp => k p v _ (fresh_back e hp) (e.trans (Ex.new hp)) upd_same (st _ _ _ (Ex.new hp) hv)⟩
theorem q_asgCatP {Φ : V → Hp → Prop} {i j : Nat} {l : Addr} {xs : List V} (h : EvP te σ H Φ) (st : ∀ v H1 H2, Ex H1 H2 → Φ v H1 → Φ v H2) (hj : σ[j]? = some (some (.ref l))) (hM : H l = some (.lst xs)) (hx : xs.length ≤ 1000)
    (k : ∀ p v H1, H p = none → Ex H H1 → H1 p = some (.lst (xs ++ [v])) → Φ v H1 → tz D (σ.set i (some (.ref p))) H1) : tSeq (tAsg (tOp rCat (tVar j) (tLst (tCons te tNil))) (gName i)) tz D σ H :=
  ⟨.ref l, hj, h H (Ex.refl H) _ fun v H1 e hv => ⟨by show 1 ≤ sizeLine; decide, fun p hp => ⟨l, p, xs, [v], rfl, rfl, (Ex.new hp) _ _ (e _ _ hM), upd_same, sz_of (by rw [List.length_singleton]; omega), fun r hr =>
    k r v _ (fresh_back (e.trans (Ex.new hp)) hr) ((e.trans (Ex.new hp)).trans (Ex.new hr)) upd_same (st _ _ _ ((Ex.new hp).trans (Ex.new hr)) hv)⟩⟩⟩
theorem c16 {s0 s3 l ak : Addr} {v2 : V} {y1 y4 y5 y6 y7 y8 y9 y10 y13 y14 y15 : Option V} {h : House} {vs : List V} {key : List Str} (hA : HouseAt K H v2 h) (ho : OkHouse h) (hS : SqT K H s3 ((shutOf h.1 h.2 []).map vN)) (hM : H l = some (.lst vs))
    (hG : ∀ v ∈ vs, GoodAt K (shutOf h.1 h.2 []) v H) (hk : SqT K H ak (key.map V.str)) (hc : ∀ c ∈ key, colB c = true) (nx : ∀ σ' H', Slots s0 σ' → Ex H H' → D.nx σ' H') :
    tR16 K D [some (.ref s0), y1, some v2, some (.ref s3), y4, y5, y6, y7, y8, y9, y10, some (.ref ak), some (.ref l), y13, y14, y15] H := by
  have h30 := ho.2.1
  show tSeq (tFor (iList K (tVar 12)) (gName 13) (tIfS _ tNo tNext)) (tT17 K) D _ H
  refine q_forW (ew_list (K := K) (ev_var (v := .ref l) rfl) (sq_of hM)) (fun H1 _ σ' H' => (∃ z13 z15 : Option V, σ' = [some (.ref s0), y1, some v2, some (.ref s3), y4, y5, y6, y7, y8, y9, y10, some (.ref ak), some (.ref l), z13, y14, z15]) ∧ Ex H1 H') (fun H1 e => ⟨⟨_, _, rfl⟩, Ex.refl H1⟩) (fun _ _ _ _ p => p.2) (fun H1 i x σ' H2 H3 e hi hP hy => ?_) (fun H1 σ' H2 e hP => ?_)
  · obtain ⟨⟨z13, z15, rfl⟩, e2⟩ := hP
    obtain ⟨rfl, hx⟩ := hy
    have eA := e.trans e2
    obtain ⟨o, hAt, hok, hless⟩ := (hG x (List.mem_of_getElem? hx)).keep (KeepT.ex eA)
    have ho1 := shutOf_len o.1 o.2 []
    have ho2 := hok.2.1
    refine s_when (b := false) (et_subU (K := K) (neg := true) (b := s3) (j := 15) (vs := [15]) (xs := shutOf o.1 o.2 []) (ys := shutOf h.1 h.2 []) (eu_call (ea_cons (ev_var (v := x) rfl) ea_nil) fun H1 e Q q E => ⟨x, o, rfl, hAt.keep (KeepT.ex e), hok, q⟩) (by omega) (ex_t eA hS) (fun x => ⟨rfl, rfl, fun H1 => ev_var rfl⟩) hless) (fun hb => absurd hb (by decide)) (fun _ H3 e3 => ⟨⟨_, _, rfl⟩, e2.trans e3⟩)
  · obtain ⟨⟨z13, z15, rfl⟩, e2⟩ := hP
    have eA := e.trans e2
    show tFor (iTup K (tVar 11)) (gName 14) (tIfS _ tNo tNext) D _ H2
    refine s_forW (ew_tup (K := K) (ev_var (v := .ref ak) rfl) (ex_t eA hk)) (fun H1 _ σ' H' => (∃ z14 z15 : Option V, σ' = [some (.ref s0), y1, some v2, some (.ref s3), y4, y5, y6, y7, y8, y9, y10, some (.ref ak), some (.ref l), z13, z14, z15]) ∧ Ex H1 H') (fun H1 e => ⟨⟨_, _, rfl⟩, Ex.refl H1⟩) (fun _ _ _ _ p => p.2) (fun H1 i x σ' H2 H3 e hi hP hy => ?_) (fun H1 σ' H2 e hP => ?_)
    · obtain ⟨⟨z14, z15, rfl⟩, e2⟩ := hP
      obtain ⟨rfl, hx⟩ := hy
      have eB := eA.trans (e.trans e2)
      obtain ⟨c, hcm, rfl⟩ := List.mem_map.mp (List.mem_of_getElem? hx)
      have hl := lost_len h c
      refine s_when (b := false) (et_subU (K := K) (neg := false) (b := s3) (j := 15) (vs := [15]) (xs := lostOf h c) (ys := shutOf h.1 h.2 []) (eu_call (ea_cons (ev_var (v := v2) rfl) (ea_cons (ev_var (v := .str c) rfl) ea_nil)) fun H1 e Q q E => ⟨v2, h, c, rfl, hA.keep (KeepT.ex (eB.trans e)), ho, hc c hcm, q⟩) (by omega) (ex_t eB hS) (fun x => ⟨rfl, rfl, fun H1 => ev_var rfl⟩) (lost_none h c)) (fun hb => absurd hb (by decide)) (fun _ H3 e3 => ⟨⟨_, _, rfl⟩, e2.trans e3⟩)
    · obtain ⟨⟨z14, z15, rfl⟩, e2⟩ := hP
      exact nx _ _ ⟨_, _, _, _, _, _, _, _, _, _, _, _, _, _, _, rfl⟩ (eA.trans (e.trans e2))
theorem ep_good {R : Box → Prop} {Φ Ψ : V → Hp → Prop} {ab ah : Addr} {h : House} {n : Nat} (ho : OkHouse h) (hn : n < h.1.length) (hB : BoxesT K H ab h.1) (hH : SqT K H ah (h.2.map V.str)) (h6 : σ[6]? = some (some (.ref ab))) (h7 : σ[7]? = some (some (.ref ah))) (h8 : σ[8]? = some (some (vN n)))
    (hp : EvP ta σ H Φ) (hq : EvP tb σ H Ψ) (k1 : ∀ v H1 H2, Ex H1 H2 → Φ v H1 → Φ v H2) (k2 : ∀ v H1 H2, Ex H1 H2 → Ψ v H1 → Ψ v H2) (hR : ∀ x y H', Φ x H' → Ψ y H' → ∃ b : Box, R b ∧ IsC K b.1 x H' ∧ IsC K b.2 y H')
    (hg : ∀ b, R b → OkBox b ∧ (∀ c ∈ b.1, c ∈ (bx h.1 n).1) ∧ ∀ c ∈ (bx h.1 n).2, c ∈ b.2) :
    EvP (tTup (tCons (tInst K ta tb) (tCons (tVar 7) tNil))) σ H (GoodAt K (shutOf h.1 h.2 [])) := by
  have h30 := ho.2.1
  refine (ep_pair (K := K) (ep_inst (K := K) (R := R) hB h6 h8 (by omega) hp hq k1 k2 hR) (ep_var (Φ := IsC K h.2) h7 fun H1 e => ⟨ah, rfl, ex_t e hH⟩) (fun v H1 H2 e ⟨b, hb, hi⟩ => ⟨b, hb, hi.ex e⟩) (fun v H1 H2 e hi => hi.ex e)).imp fun v H1 e ⟨p, x, y, hv, hs, ⟨b, hb, a1, hx, hB1⟩, a2, hy, hC⟩ => ?_
  subst hx hy hv
  obtain ⟨g1, g2, g3⟩ := hg b hb
  rw [inst_set hn] at hB1
  exact ⟨(h.1.set n b, h.2), ⟨p, a1, a2, rfl, hs, hB1, hC⟩, ok_set ho g1, mono_set hn g2 g3⟩
end
end Kw
set_option Elab.async false
set_option linter.all false
set_option maxRecDepth 100000
set_option maxHeartbeats 4000000
namespace Kw
open PySem PySem.Spec PyProof.Rows L2 Evl
section
variable {P : Program} {w : World} {K : PySem.W.Frag} {σ : L2.St} {H H' H0 : Hp} {ta tb te tl : TE} {x y z v : V} {D : Ends} {tz : TS}
theorem s_appP {Φ : V → Hp → Prop} {j : Nat} {l : Addr} {xs : List V} (h : EvP te σ H Φ) (hj : σ[j]? = some (some (.ref l))) (hM : H l = some (.lst xs)) (hx : xs.length ≤ 1000) (k : ∀ v H1, Ex H H1 → Φ v H1 → D.nx σ (upd H1 l (.lst (xs ++ [v])))) :
    tDrop (tBM K "list" rAppend (tVar j) (tCons te tNil)) D σ H :=
  ⟨.ref l, hj, .inl ⟨rfl, _, sq_of hM⟩, h H (Ex.refl H) _ fun v H1 e hv => ⟨l, xs, v, rfl, rfl, e _ _ hM, sz_lt (by omega), k v H1 e hv⟩⟩
theorem c14 {s0 s3 l ab ah al ai ak : Addr} {v2 v0 v1 : V} {y1 y4 y5 y13 y14 y15 : Option V} {h : House} {key : List Str} {n : Nat} (e0 : Ex H0 H) (nl : H0 l = none) (hA : HouseAt K H0 v2 h) (ho : OkHouse h) (hS : SqT K H0 s3 ((shutOf h.1 h.2 []).map vN))
    (hB : BoxesT K H0 ab h.1) (hH : SqT K H0 ah (h.2.map V.str)) (hn : n < h.1.length) (hL : SqT K H0 al ((bx h.1 n).1.map V.str)) (hI : SqT K H0 ai ((bx h.1 n).2.map V.str)) (hk : SqT K H0 ak (key.map V.str)) (hc : OkCols key 1)
    (hM : H l = some (.lst [v0, v1])) (g0 : h.2.length ≠ 6 → GoodAt K (shutOf h.1 h.2 []) v0 H) (g1 : GoodAt K (shutOf h.1 h.2 []) v1 H) (nx : ∀ σ' H', Slots s0 σ' → Ex H0 H' → D.nx σ' H') :
    tR14 P w K D [some (.ref s0), y1, some v2, some (.ref s3), y4, y5, some (.ref ab), some (.ref ah), some (vN n), some (.ref al), some (.ref ai), some (.ref ak), some (.ref l), y13, y14, y15] H := by
  have rest : ∀ (H1 : Hp) (vs : List V), Ex H0 H1 → H1 l = some (.lst (v0 :: vs)) → (h.2.length ≠ 6 → GoodAt K (shutOf h.1 h.2 []) v0 H1) → (∀ v ∈ vs, GoodAt K (shutOf h.1 h.2 []) v H1) →
      tSeq (tT15 K) (tR16 K) D [some (.ref s0), y1, some v2, some (.ref s3), y4, y5, some (.ref ab), some (.ref ah), some (vN n), some (.ref al), some (.ref ai), some (.ref ak), some (.ref l), y13, y14, y15] H1 := by
    intro H1 vs e1 hm k0 k1
    refine q_when (b := decide (V.int ((h.2.length : Nat) : Int) = V.int 6)) (et_test (ev_op (ev_is (ev_lenT (K := K) (ev_var (v := .ref ah) rfl) (ex_t e1 hH)) (by rw [List.length_map])) ev_c (rv_eq rfl))) (fun hb H2 e2 => ?_) (fun hb H2 e2 => ?_)
    · refine s_asgL (xs := vs) (by
        have := el_sl (K := K) (σ := [some (.ref s0), y1, some v2, some (.ref s3), y4, y5, some (.ref ab), some (.ref ah), some (vN n), some (.ref al), some (.ref ai), some (.ref ak), some (.ref l), y13, y14, y15]) (te := tVar 12) (lo := some ((1 : Nat) : Int)) (hi := none) (ev_var (v := .ref l) rfl) (eo_some ev_c) eo_none (sq_of (e2 _ _ hm))
        rw [cut_drop] at this
        exact this) fun p H3 np e3 hp => ?_
      have eA := (e1.trans e2).trans e3
      exact c16 (hA.keep (KeepT.ex eA)) ho (ex_t eA hS) hp (fun v hv => (k1 v hv).keep (KeepT.ex (e2.trans e3))) (ex_t eA hk) hc.2.1 fun σ' H' hs e => nx σ' H' hs (eA.trans e)
    · have h6 : h.2.length ≠ 6 := fun z => by
        rw [z] at hb
        cases hb
      have eA := e1.trans e2
      refine c16 (hA.keep (KeepT.ex eA)) ho (ex_t eA hS) (e2 _ _ hm) (fun v hv => ?_) (ex_t eA hk) hc.2.1 fun σ' H' hs e => nx σ' H' hs (eA.trans e)
      rcases List.mem_cons.mp hv with rfl | hv
      · exact (k0 h6).keep (KeepT.ex e2)
      · exact (k1 v hv).keep (KeepT.ex e2)
  have hob := ok_bx ho hn
  refine q_when (b := decide ((((bx h.1 n).2.length : Nat) : Int) < 6)) (et_test (ev_op (ev_is (ev_lenT (K := K) (ev_var (v := .ref ai) rfl) (ex_t e0 hI)) (by rw [List.length_map])) ev_c rv_I0)) (fun hb H1 e1 => ?_) (fun hb H1 e1 => ?_)
  · have hlt : (bx h.1 n).2.length < 6 := by
      have := of_decide_eq_true hb
      omega
    have eA := e0.trans e1
    have hgood := ep_good (K := K) (σ := [some (.ref s0), y1, some v2, some (.ref s3), y4, y5, some (.ref ab), some (.ref ah), some (vN n), some (.ref al), some (.ref ai), some (.ref ak), some (.ref l), y13, y14, y15]) (R := fun b => b.1 = (bx h.1 n).1 ∧ Uni (bx h.1 n).2 key b.2) ho hn (hB.keep (KeepT.ex eA)) (ex_t eA hH) rfl rfl rfl
      (ep_var (i := 9) (Φ := IsC K (bx h.1 n).1) rfl fun H2 e2 => ⟨al, rfl, ex_t (eA.trans e2) hL⟩) (ep_uni (P := P) (w := w) (i := 10) rfl rfl (ex_t eA hI) (ex_t eA hk) (by have := hc.1; omega)) (fun v H1 H2 e hi => hi.ex e) (fun v H1 H2 e ⟨ys, hy, hi⟩ => ⟨ys, hy, hi.ex e⟩)
      (fun x y H' hx ⟨ys, hy, hi⟩ => ⟨((bx h.1 n).1, ys), ⟨rfl, hy⟩, hx, hi⟩) (fun b hb => ⟨⟨by rw [hb.1]; exact hob.1, hb.2.ok hob.2 hc (by omega)⟩, fun c hcm => by rw [← hb.1]; exact hcm, fun c hcm => (hb.2.2.2 c).mpr (List.mem_append_left _ hcm)⟩)
    have hM1 := e1 _ _ hM
    refine s_appP (K := K) (xs := [v0, v1]) hgood rfl hM1 (by show 2 ≤ 1000; decide) fun v H2 e2 hv => ?_
    have hM2 := e2 _ _ hM1
    have kp := KeepT.lst (ys := [v0, v1] ++ [v]) hM2
    refine rest _ [v1, v] (Ex.mut (eA.trans e2) nl) upd_same (fun z => (g0 z).keep ((KeepT.ex (e1.trans e2)).trans kp)) fun u hu => ?_
    rcases List.mem_cons.mp hu with rfl | hu
    · exact g1.keep ((KeepT.ex (e1.trans e2)).trans kp)
    · rw [List.mem_singleton.mp hu]
      exact hv.keep kp
  · refine rest H1 [v1] (e0.trans e1) (e1 _ _ hM) (fun z => (g0 z).keep (KeepT.ex e1)) fun u hu => ?_
    rw [List.mem_singleton.mp hu]
    exact g1.keep (KeepT.ex e1)
theorem c12 {s0 s3 ab ah al ai ak : Addr} {v2 : V} {y1 y4 y5 y12 y13 y14 y15 : Option V} {h : House} {key : List Str} {n : Nat} (hA : HouseAt K H v2 h) (ho : OkHouse h) (hS : SqT K H s3 ((shutOf h.1 h.2 []).map vN))
    (hB : BoxesT K H ab h.1) (hH : SqT K H ah (h.2.map V.str)) (hn : n < h.1.length) (hL : SqT K H al ((bx h.1 n).1.map V.str)) (hI : SqT K H ai ((bx h.1 n).2.map V.str)) (hk : SqT K H ak (key.map V.str)) (hc : OkCols key 1)
    (nx : ∀ σ' H', Slots s0 σ' → Ex H H' → D.nx σ' H') :
    tR12 P w K D [some (.ref s0), y1, some v2, some (.ref s3), y4, y5, some (.ref ab), some (.ref ah), some (vN n), some (.ref al), some (.ref ai), some (.ref ak), y12, y13, y14, y15] H := by
  have hob := ok_bx ho hn
  have h6 := ho.2.2.2.1
  have hk1 := hc.1
  have hfirst : EvP (tTup (tCons (tVar 6) (tCons (tSl (rSlA K) (tUni P w K 7) tNoPart (tPart (tC (.int 6)))) tNil))) [some (.ref s0), y1, some v2, some (.ref s3), y4, y5, some (.ref ab), some (.ref ah), some (vN n), some (.ref al), some (.ref ai), some (.ref ak), y12, y13, y14, y15] H (fun v H' => h.2.length ≠ 6 → GoodAt K (shutOf h.1 h.2 []) v H') := by
    refine (ep_pair (K := K) (ep_var (i := 6) (Φ := IsB K h.1) rfl fun H1 e => ⟨ab, rfl, hB.keep (KeepT.ex e)⟩) (ep_take6 (K := K) (ep_uni (P := P) (w := w) (i := 7) rfl rfl hH hk (by omega))) (fun v H1 H2 e hi => hi.ex e) (fun v H1 H2 e ⟨ys, hy, hi⟩ => ⟨ys, hy, hi.ex e⟩)).imp fun v H1 e ⟨p, x, y, hv, hs, ⟨a1, hx, hB1⟩, ys, hy, a2, hyy, hC⟩ h5 => ?_
    subst hx hyy hv
    have hoy : OkCols ys 6 := hy.ok ho.2.2.2 hc (by omega)
    rw [List.take_of_length_le hoy.1] at hC
    refine ⟨(h.1, ys), ⟨p, a1, a2, rfl, hs, hB1, hC⟩, ⟨ho.1, ho.2.1, ho.2.2.1, hoy⟩, shut_mono rfl (fun c hcm => (hy.2.2 c).mpr (List.mem_append_left _ hcm)) fun i => ⟨fun c hcm => hcm, fun c hcm => hcm⟩⟩
  refine q_asgP (i := 12) hfirst (fun v H1 H2 e g z => (g z).keep (KeepT.ex e)) fun l1 v0 H1 n1 e1 hl1 g0 => ?_
  have hgood := ep_good (K := K) (σ := [some (.ref s0), y1, some v2, some (.ref s3), y4, y5, some (.ref ab), some (.ref ah), some (vN n), some (.ref al), some (.ref ai), some (.ref ak), some (.ref l1), y13, y14, y15]) (R := fun b => b = ((bx h.1 n).1.drop 1, (bx h.1 n).2)) ho hn (hB.keep (KeepT.ex e1)) (ex_t e1 hH) rfl rfl rfl
      (ep_dropC (K := K) (ex_t e1 hL) (ev_var (i := 9) rfl)) (ep_var (i := 10) (Φ := IsC K (bx h.1 n).2) rfl fun H2 e2 => ⟨ai, rfl, ex_t (e1.trans e2) hI⟩) (fun v H1 H2 e hi => hi.ex e) (fun v H1 H2 e hi => hi.ex e)
      (fun x y H' hx hy => ⟨_, rfl, hx, hy⟩) (fun b hb => by
        subst hb
        refine ⟨⟨⟨?_, fun c hcm => hob.1.2.1 c (List.mem_of_mem_drop hcm), rising_drop hob.1.2.2 1⟩, hob.2⟩, fun c hcm => List.mem_of_mem_drop hcm, fun c hcm => hcm⟩
        have := hob.1.1
        rw [List.length_drop]
        omega)
  refine q_asgCatP (i := 12) (j := 12) hgood (fun v H1 H2 e g => g.keep (KeepT.ex e)) rfl hl1 (by show 1 ≤ 1000; decide) fun l v1 H2 n2 e2 hl g1 => ?_
  exact c14 (e1.trans e2) (fresh_back e1 n2) hA ho hS hB hH hn hL hI hk hc hl (fun z => (g0 z).keep (KeepT.ex e2)) g1 nx
theorem c8 {s0 a s3 : Addr} {v2 : V} {y4 y5 y6 y7 y8 y9 y10 y11 y12 y13 y14 y15 : Option V} {h : House} (hx : ExB a H0 H) (hb : Bag H a) (hA : HouseAt K H v2 h) (ho : OkHouse h) (hS : SqT K H s3 ((shutOf h.1 h.2 []).map vN))
    (nx : ∀ σ' H', Slots s0 σ' → ExB a H0 H' → Bag H' a → D.nx σ' H') :
    tR8 P w K D [some (.ref s0), some (.ref a), some v2, some (.ref s3), y4, y5, y6, y7, y8, y9, y10, y11, y12, y13, y14, y15] H := by
  have hA' := hA
  obtain ⟨av, ab, ah, rfl, hav, hB, hH⟩ := hA'
  have hB' := hB
  obtain ⟨vs, hvs, hpr⟩ := hB'
  have hvl : vs.length = h.1.length := paired_len hpr
  have h1 := ho.1
  refine ⟨.ref av, rfl, av, _, rfl, hav, rfl, .ref ab, [.ref ah], rfl, .ref ah, [], rfl, rfl, ?_⟩
  refine ⟨.ref a, rfl, .ref ab, rfl, ab, _, rfl, .inr hvs, a, _, rfl, hb, by rw [hvl]; omega, fun r H1 r0 r1 x1 b1 => ?_⟩
  rw [hvl] at r1
  obtain ⟨j, hj⟩ := Int.eq_ofNat_of_zero_le r0
  subst hj
  have hjn : j < h.1.length := by omega
  have k1 := hb.keepT x1
  obtain ⟨vb, hvb, pb, l1, i1, rfl, hpb, hl1, hi1⟩ := paired_get2 hpr (bx_get hjn)
  refine ⟨.ref ab, rfl, .int (j : Int), rfl, ab, vs, (j : Int), .ref pb, rfl, rfl, keep_t k1 hvs, atI_nat hvb, pb, _, rfl, keep_t k1 hpb, rfl, .ref l1, [.ref i1], rfl, .ref i1, [], rfl, rfl, ?_⟩
  refine ⟨.ref a, rfl, a, 1, 12, rfl, b1, by decide, by decide, by decide, fun p cs H2 np x2 b2 hp oc inn => ?_⟩
  have k2 := k1.trans (b1.keepT x2)
  exact c12 (hA.keep k2) ho (keep_t k2 hS) (hB.keep k2) (keep_t k2 hH) hjn (keep_t k2 hl1) (keep_t k2 hi1) (st_of hp) oc fun σ' H' hs e => nx σ' H' hs (((hx.trans x1).trans x2).trans (ExB.of e)) (b2.ex e)
end
end Kw
set_option Elab.async false
set_option linter.all false
set_option maxRecDepth 100000
set_option maxHeartbeats 4000000
namespace Kw
open PySem PySem.Spec PyProof.Rows L2 Evl
theorem risingN_of {l : List Nat} (h : l.Pairwise (· < ·)) : RisingN l := fun i x y hx hy => by
  obtain ⟨h1, rfl⟩ := List.getElem?_eq_some_iff.mp hx
  obtain ⟨h2, rfl⟩ := List.getElem?_eq_some_iff.mp hy
  exact (List.pairwise_iff_getElem.mp h) i (i + 1) h1 h2 (Nat.lt_succ_self i)
theorem shut_rising (bs : List Box) (hand : List Str) : RisingN (shutOf bs hand []) := by
  rw [shut_eq]
  exact risingN_of (List.Pairwise.filter _ List.pairwise_lt_range)
theorem range_le (n : Nat) : ((List.range n).map fun i : Nat => (i : Int)).Pairwise (· ≤ ·) := by
  rw [List.pairwise_map]
  exact List.Pairwise.imp (fun {a b} (h : a < b) => by omega) List.pairwise_lt_range
section
variable {P : Program} {w : World} {K : PySem.W.Frag} {σ : L2.St} {H H' H0 : Hp} {ta tb te tl : TE} {x y z v : V} {D : Ends} {tz : TS}
theorem el_sortedR {L : List Nat} {n : Nat} (h : EvL te σ H (L.map vN)) (hp : L.Perm (List.range n)) : EvL (tCB (rSortedI K) (tCons te tNil)) σ H ((List.range n).map vN) := fun H1 e Q q => h H1 e _ fun p H2 np e2 hp2 => by
  refine ⟨p, L.map (fun i : Nat => (i : Int)), rfl, sq_of (by rw [List.map_map]; exact hp2), fun ns r pm pw hr => ?_⟩
  have e3 : ns = (List.range n).map fun i : Nat => (i : Int) := sorted_unique (pm.trans (hp.map _)) pw (range_le n)
  subst e3
  refine q r _ (fresh_back e2 hr) (e2.trans (Ex.new hr)) ?_
  rw [upd_same, List.map_map]
  rfl
theorem c6 {s0 a s3 o : Addr} {v2 : V} {y5 y6 y7 y8 y9 y10 y11 y12 y13 y14 y15 : Option V} {h : House} (hx : ExB a H0 H) (hb : Bag H a) (hA : HouseAt K H v2 h) (ho : OkHouse h) (hS : SqT K H s3 ((shutOf h.1 h.2 []).map vN)) (hO : H o = some (.lst ((openedOf h.1 h.2).map vN)))
    (nx : ∀ σ' H', Slots s0 σ' → ExB a H0 H' → Bag H' a → D.nx σ' H') :
    tR6 P w K D [some (.ref s0), some (.ref a), some v2, some (.ref s3), some (.ref o), y5, y6, y7, y8, y9, y10, y11, y12, y13, y14, y15] H := by
  have h30 := ho.2.1
  have hsl := shutOf_len h.1 h.2 []
  have hpm := opened_still h.1 h.2
  have hpl := hpm.length_eq
  rw [List.length_append, List.length_range] at hpl
  have hA' := hA
  obtain ⟨av, ab, ah, rfl, hav, ⟨vs, hvs, hpr⟩, hH⟩ := hA'
  have hvl : vs.length = h.1.length := paired_len hpr
  refine q_when (b := false) (et_is (et_test (ev_opLL (xs := (List.range h.1.length).map vN) (ys := (List.range h.1.length).map vN) (el_sortedR (K := K) (L := openedOf h.1 h.2 ++ shutOf h.1 h.2 []) (by
      rw [List.map_append]
      exact el_cat (ev_var (v := .ref o) rfl) hO (el_listT (K := K) (ev_var (v := .ref s3) rfl) hS) (by rw [List.length_map, List.length_map]; omega)) hpm)
      (el_listR (n := h.1.length) (by rw [← hvl]; exact ev_lenT (K := K) (ev_op (ev_var (v := .ref av) rfl) ev_c (rv_ixT (K := K) hav at0)) hvs) (by omega)) fun p q H1 hp hq e => rv_neLN (K := K) (sq_of hp) (sq_of hq))) (by rw [decide_eq_true rfl]; rfl)) (fun hb => absurd hb (by decide)) (fun _ H1 e1 => ?_)
  refine q_when (b := (!decide (shutOf h.1 h.2 [] = [])) && false) (et_and (et_test (ev_opU (xs := ([] : List Nat).map vN) (ev_var (v := .ref s3) rfl) (eu_tup ea_nil (by decide)) fun p H2 hp e => rv_neTN (K := K) (ex_t (e1.trans e) hS) (st_of hp))) fun hz =>
      et_is (et_test (ev_op (ev_call (z := .bl (keptB h.1 h.2 (shutOf h.1 h.2 []))) (ea_cons (ev_var (v := .ref av) rfl) (ea_cons (ev_var (v := .ref s3) rfl) ea_nil)) (SpV.of fun H2 e2 Q q E => ⟨.ref av, .ref s3, h, .tuple (encN (shutOf h.1 h.2 [])), rfl, hA.keep (KeepT.ex (e1.trans e2)), ho, dpT_nats (ex_t (e1.trans e2) hS), by rw [keptD_lot (fun i hi => (mem_shut.mp hi).1) (shut_rising _ _) (fun z => by rw [z] at hz; cases hz)]; exact q⟩)) ev_c (rv_val (z := .bl false) fun H2 e2 Q q => ⟨true, true, by rw [shut_kept], rfl, q⟩))) rfl) (fun hb => absurd hb (by rw [Bool.and_false]; decide)) (fun _ H2 e2 => ?_)
  exact c8 (hx.trans (ExB.of (e1.trans e2))) (hb.ex (e1.trans e2)) (hA.keep (KeepT.ex (e1.trans e2))) ho (ex_t (e1.trans e2) hS) nx
theorem c4 {s0 a s3 : Addr} {v2 : V} {y4 y5 y6 y7 y8 y9 y10 y11 y12 y13 y14 y15 : Option V} {h : House} (hx : ExB a H0 H) (hb : Bag H a) (hA : HouseAt K H v2 h) (ho : OkHouse h) (hS : SqT K H s3 ((shutOf h.1 h.2 []).map vN))
    (nx : ∀ σ' H', Slots s0 σ' → ExB a H0 H' → Bag H' a → D.nx σ' H') :
    tR4 P w K D [some (.ref s0), some (.ref a), some v2, some (.ref s3), y4, y5, y6, y7, y8, y9, y10, y11, y12, y13, y14, y15] H := by
  have h30 := ho.2.1
  refine q_asgL (i := 4) (xs := []) (el_lst ea_nil (by decide)) fun o H3 n3 e3 hoo => ?_
  have hR : EvR K (tCall (spRnd K) [] E0 (tCons (tVar 2) tNil)) [some (.ref s0), some (.ref a), some v2, some (.ref s3), some (.ref o), y5, y6, y7, y8, y9, y10, y11, y12, y13, y14, y15] H3 (roundsOf h.1 h.2 (List.range h.1.length)) :=
    er_call (vs := [v2]) (ea_cons (ev_var rfl) ea_nil) fun H4 e4 Q q E => ⟨v2, h, rfl, hA.keep (KeepT.ex (e3.trans e4)), ho, q⟩
  have hfl := flatten_rounds h.1 ((List.range h.1.length).length + 1) h.2 (List.range h.1.length)
  rw [List.length_range] at hfl
  have hfl' : (roundsOf h.1 h.2 (List.range h.1.length)).flatten.length ≤ h.1.length := by
    unfold roundsOf
    rw [List.length_range]
    exact hfl
  show tSeq (tFor (iList K (tCall (spRnd K) [] E0 (tCons (tVar 2) tNil))) (gName 5) _) (tR6 P w K) D [some (.ref s0), some (.ref a), some v2, some (.ref s3), some (.ref o), y5, y6, y7, y8, y9, y10, y11, y12, y13, y14, y15] H3
  refine q_forW (ew_tups hR) (fun H4 i σ' H' => ∃ (o2 : Addr) (z5 : Option V), σ' = [some (.ref s0), some (.ref a), some v2, some (.ref s3), some (.ref o2), z5, y6, y7, y8, y9, y10, y11, y12, y13, y14, y15] ∧ Ex H4 H' ∧ H' o2 = some (.lst (((roundsOf h.1 h.2 (List.range h.1.length)).take i).flatten.map vN)))
    (fun H4 e4 => ⟨o, y5, rfl, Ex.refl H4, e4 _ _ hoo⟩) (fun H4 i σ' H' hP => by
      obtain ⟨_, _, _, eY, _⟩ := hP
      exact eY) (fun H4 i x σ' H5 H6 e4 hi hP hy => ?_) (fun H4 σ' H5 e4 hP => ?_)
  · obtain ⟨o2, z5, rfl, eY, ho2⟩ := hP
    obtain ⟨rfl, ad, r, hr', rfl, had⟩ := hy
    have hb1 := flatten_take_le (roundsOf h.1 h.2 (List.range h.1.length)) i
    have hb2 := flatten_take_le (roundsOf h.1 h.2 (List.range h.1.length)) (i + 1)
    have es : ((roundsOf h.1 h.2 (List.range h.1.length)).take (i + 1)).flatten = ((roundsOf h.1 h.2 (List.range h.1.length)).take i).flatten ++ r := by
      rw [List.take_add_one, hr', List.flatten_append]
      simp
    rw [es, List.length_append] at hb2
    refine s_asgL (xs := (((roundsOf h.1 h.2 (List.range h.1.length)).take (i + 1)).flatten).map vN) (by
      rw [es, List.map_append]
      exact el_cat (ev_var (v := .ref o2) rfl) ho2 (el_listT (K := K) (ev_var (v := .ref ad) rfl) had) (by rw [List.length_map, List.length_map]; omega)) fun o3 H7 n7 e7 ho3 => ?_
    exact ⟨o3, _, rfl, eY.trans e7, ho3⟩
  · obtain ⟨o2, z5, rfl, eY, ho2⟩ := hP
    rw [List.take_length] at ho2
    have eAll := (e3.trans e4).trans eY
    exact c6 (hx.trans (ExB.of eAll)) (hb.ex eAll) (hA.keep (KeepT.ex eAll)) ho (ex_t eAll hS) ho2 nx
theorem ob_ok {a s3 : Addr} {v2 : V} {h : House} {Q : Bool → Hp → Prop} (hb : Bag H a) (hA : HouseAt K H v2 h) (ho : OkHouse h) (hS : SqT K H s3 ((shutOf h.1 h.2 []).map vN)) (h1 : σ[1]? = some (some (.ref a))) (h2 : σ[2]? = some (some v2)) (h3 : σ[3]? = some (some (.ref s3)))
    (q : ∀ H', ExB a H H' → Bag H' a → Q false H') : tOb K σ H Q := by
  refine ⟨.ref a, h1, v2, h2, a, v2, h, rfl, hb, hA, ho, fun p H1 np x1 b1 hp => ⟨.ref s3, h3, ?_⟩⟩
  refine rv_neTN (K := K) (st_of hp) (keep_t (hb.keepT x1) hS) H1 (Ex.refl H1) _ fun H2 e2 => ⟨_, rfl, ?_⟩
  rw [decide_eq_true rfl]
  exact q H2 (x1.trans (ExB.of e2)) (b1.ex e2)
theorem c1 {s0 a : Addr} {y2 y3 y4 y5 y6 y7 y8 y9 y10 y11 y12 y13 y14 y15 : Option V} (hb : Bag H a) (nx : ∀ σ' H', Slots s0 σ' → ExB a H H' → Bag H' a → D.nx σ' H') :
    tR1 P w K D [some (.ref s0), some (.ref a), y2, y3, y4, y5, y6, y7, y8, y9, y10, y11, y12, y13, y14, y15] H := by
  refine ⟨.ref a, rfl, ?_⟩
  refine menu (K := K) (cs := [6, 30]) (ea_cons ev_c (ea_cons ev_c ea_nil)) rfl (by decide) rfl hb fun c1 H1 hc1 x1 b1 => ?_
  refine ⟨.ref a, rfl, a, 3, rfl, b1, by decide, fun r H2 r0 r1 x2 b2 => ⟨1, r, rfl, rfl, ?_⟩⟩
  refine menu (K := K) (cs := [4, 12]) (ea_cons ev_c (ea_cons ev_c ea_nil)) rfl (by decide) rfl b2 fun c2 H3 hc2 x3 b3 => ?_
  obtain ⟨j, hj⟩ := Int.eq_ofNat_of_zero_le r0
  subst hj
  have hc1' : ∃ m : Nat, c1 = (m : Int) ∧ 1 ≤ m ∧ m ≤ 30 := by
    simp only [List.mem_cons, List.mem_singleton, List.not_mem_nil, or_false] at hc1
    rcases hc1 with rfl | rfl
    · exact ⟨6, rfl, by decide, by decide⟩
    · exact ⟨30, rfl, by decide, by decide⟩
  have hc2' : ∃ m : Nat, c2 = (m : Int) ∧ 1 ≤ m ∧ m ≤ 12 := by
    simp only [List.mem_cons, List.mem_singleton, List.not_mem_nil, or_false] at hc2
    rcases hc2 with rfl | rfl
    · exact ⟨4, rfl, by decide, by decide⟩
    · exact ⟨12, rfl, by decide, by decide⟩
  obtain ⟨m1, rfl, p1, p2⟩ := hc1'
  obtain ⟨m2, rfl, p3, p4⟩ := hc2'
  refine ⟨a, m1, 1 + j, m2, ?_, b3, p1, p2, by omega, p3, p4, fun v h H4 x4 b4 hA ho hl1 hl2 hF => ?_⟩
  · show [V.ref a, V.int (m1 : Int), V.int (1 + (j : Int)), V.int (m2 : Int)] = [.ref a, .int (m1 : Int), .int ((1 + j : Nat) : Int), .int (m2 : Int)]
    rw [Int.natCast_add]
    rfl
  have xA := ((x1.trans x2).trans x3).trans x4
  refine q_asgU (i := 3) (xs := (shutOf h.1 h.2 []).map vN) (eu_call (vs := [v]) (ea_cons (ev_var (v := v) rfl) ea_nil) fun H5 e5 Q q E => ⟨v, h, rfl, hA.keep (KeepT.ex e5), ho, q⟩) fun s3 H5 n5 e5 hs5 => ?_
  have hA5 := hA.keep (KeepT.ex e5)
  have b5 := b4.ex e5
  refine ob_ok (K := K) (s3 := s3) b5 hA5 ho (st_of hs5) rfl rfl rfl fun H6 x6 b6 => ?_
  have k6 := b5.keepT x6
  show (if false = true then _ else _)
  rw [if_neg (by decide)]
  refine ob_ok (K := K) (s3 := s3) b6 (hA5.keep k6) ho (keep_t k6 (st_of hs5)) rfl rfl rfl fun H7 x7 b7 => ?_
  have k7 := k6.trans (b6.keepT x7)
  show (if false = true then _ else _)
  rw [if_neg (by decide)]
  exact c4 (((xA.trans (ExB.of e5)).trans x6).trans x7) b7 (hA5.keep k7) ho (keep_t k7 (st_of hs5)) nx
theorem law_core {a : Addr} {ns : List Int} {Q : VK} {nx bk ct : L2.St → Hp → Prop} (hS : SqL K H a (ns.map V.int)) (hl : ns.length ≤ 63) (q : ∀ H', Q (.bl true) H') :
    tLaw P w K ⟨nx, Q, bk, ct⟩ [some (.ref a), none, none, none, none, none, none, none, none, none, none, none, none, none, none, none] H := by
  refine ⟨.ref a, rfl, a, ns, rfl, hS, by omega, fun p ys H1 np e1 hp hB hne hln => ⟨p, rfl, ⟨ys, sq_of hp⟩, ?_⟩⟩
  refine for_it (walk_list (K := K) (a := p) (xs := ys)) (fun _ σ' H' => Slots a σ' ∧ H' p = some (.lst ys) ∧ BagsAt H' ys) ⟨⟨_, _, _, _, _, _, _, _, _, _, _, _, _, _, _, rfl⟩, hp, hB⟩ (fun i σ' H' _ hP => sq_of hP.2.1) (fun i x σ' H2 H3 hi hP hy => ?_) (fun σ' H2 hP => q _)
  obtain ⟨⟨y1, y2, y3, y4, y5, y6, y7, y8, y9, y10, y11, y12, y13, y14, y15, rfl⟩, hp2, hB2⟩ := hP
  obtain ⟨rfl, hx⟩ := hy
  have hm := List.mem_of_getElem? hx
  obtain ⟨b, rfl, hb⟩ := hB2 x hm
  have hpb : p ≠ b := fun z => hne _ hm (by rw [z])
  exact c1 hb fun σ'' H'' hs x2 b2 => ⟨hs, x2 _ _ hpb hp2, fun y hy => by
    obtain ⟨b', rfl, hb'⟩ := hB2 y hy
    exact ⟨b', rfl, hb'.other hb x2 b2⟩⟩
end
end Kw
set_option Elab.async false
set_option linter.all false
set_option maxRecDepth 100000
namespace Kw
open PySem PySem.Spec PyProof.Rows L2
set_option maxHeartbeats 4000000 in
theorem all_mk {l : PySem.W.OpenLaw} {w : World} {K : PySem.W.Frag} {h : Heap} {mg : Str → Option Value} {fa f1 f2 f3 f4 f5 f6 f7 f8 f9 f10 f11 f12 f13 f14 f15 f16 f17 f18 f19 f20 f21 f22 f23 f24 f25 f26 : Addr} (X : K.In h) (G : h.Ns mainGlobals mg) (hfa : mg "law" = some (.ref fa))
    {od1 an1 od2 an2 od3 an3 od4 an4 od5 an5 od6 an6 od7 an7 od8 an8 od9 an9 od10 an10 od11 an11 od12 an12 od13 an13 od14 an14 od15 an15 od16 an16 od17 an17 od18 an18 od19 an19 od20 an20 od21 an21 od22 an22 od23 an23 od24 an24 od25 an25 od26 an26 : Option Addr} {sl1 sl2 sl3 sl4 sl5 sl6 sl7 sl8 sl9 sl10 sl11 sl12 sl13 sl14 sl15 sl16 sl17 sl18 sl19 sl20 sl21 sl22 sl23 sl24 sl25 sl26 : Array (Option Value)} {oc1 kV1 dc1 pm1 cd1 ct1 oc2 kV2 dc2 pm2 cd2 ct2 oc3 kV3 dc3 pm3 cd3 ct3 oc4 kV4 dc4 pm4 cd4 ct4 oc5 kV5 dc5 pm5 cd5 ct5 oc6 kV6 dc6 pm6 cd6 ct6 oc7 kV7 dc7 pm7 cd7 ct7 oc8 kV8 dc8 pm8 cd8 ct8 oc9 kV9 dc9 pm9 cd9 ct9 oc10 kV10 dc10 pm10 cd10 ct10 oc11 kV11 dc11 pm11 cd11 ct11 oc12 kV12 dc12 pm12 cd12 ct12 oc13 kV13 dc13 pm13 cd13 ct13 oc14 kV14 dc14 pm14 cd14 ct14 oc15 kV15 dc15 pm15 cd15 ct15 oc16 kV16 dc16 pm16 cd16 ct16 oc17 kV17 dc17 pm17 cd17 ct17 oc18 kV18 dc18 pm18 cd18 ct18 oc19 kV19 dc19 pm19 cd19 ct19 oc20 kV20 dc20 pm20 cd20 ct20 oc21 kV21 dc21 pm21 cd21 ct21 oc22 kV22 dc22 pm22 cd22 ct22 oc23 kV23 dc23 pm23 cd23 ct23 oc24 kV24 dc24 pm24 cd24 ct24 oc25 kV25 dc25 pm25 cd25 ct25 oc26 kV26 dc26 pm26 cd26 ct26 : Value} {t_MOST_LETTERS t_SMALL_LETTERS t_MOST_BOXES t_MOST_LOCKS t_MOST_KEYS : Tok}
    (a1 : PySem.W.nsIn K mainGlobals "_law_cell_at" = some (some (.ref f1))) (l1 : K.lookup f1 = some ⟨oc1, od1, .func (PySem.W.fnOf "_law_cell_at" "_law_cell_at" (defArgs sCell) (defBody sCell) (defScope sCell) .none kV1 dc1 pm1 an1 cd1 ct1), sl1⟩) (c1 : PySem.W.codeIn K cd1 "_law_cell_at" = true) (k1 : PySem.W.keepIn K (.ref f1) = true)
    (a2 : PySem.W.nsIn K mainGlobals "_law_draws" = some (some (.ref f2))) (l2 : K.lookup f2 = some ⟨oc2, od2, .func (PySem.W.fnOf "_law_draws" "_law_draws" (defArgs sDraw) (defBody sDraw) (defScope sDraw) .none kV2 dc2 pm2 an2 cd2 ct2), sl2⟩) (c2 : PySem.W.codeIn K cd2 "_law_draws" = true) (k2 : PySem.W.keepIn K (.ref f2) = true)
    (a3 : PySem.W.nsIn K mainGlobals "_law_bag" = some (some (.ref f3))) (l3 : K.lookup f3 = some ⟨oc3, od3, .func (PySem.W.fnOf "_law_bag" "_law_bag" (defArgs sBag) (defBody sBag) (defScope sBag) .none kV3 dc3 pm3 an3 cd3 ct3), sl3⟩) (c3 : PySem.W.codeIn K cd3 "_law_bag" = true) (k3 : PySem.W.keepIn K (.ref f3) = true)
    (a4 : PySem.W.nsIn K mainGlobals "_law_bags" = some (some (.ref f4))) (l4 : K.lookup f4 = some ⟨oc4, od4, .func (PySem.W.fnOf "_law_bags" "_law_bags" (defArgs sBags) (defBody sBags) (defScope sBags) .none kV4 dc4 pm4 an4 cd4 ct4), sl4⟩) (c4 : PySem.W.codeIn K cd4 "_law_bags" = true) (k4 : PySem.W.keepIn K (.ref f4) = true)
    (a5 : PySem.W.nsIn K mainGlobals "_law_take" = some (some (.ref f5))) (l5 : K.lookup f5 = some ⟨oc5, od5, .func (PySem.W.fnOf "_law_take" "_law_take" (defArgs sTake) (defBody sTake) (defScope sTake) .none kV5 dc5 pm5 an5 cd5 ct5), sl5⟩) (c5 : PySem.W.codeIn K cd5 "_law_take" = true) (k5 : PySem.W.keepIn K (.ref f5) = true)
    (a6 : PySem.W.nsIn K mainGlobals "_law_some" = some (some (.ref f6))) (l6 : K.lookup f6 = some ⟨oc6, od6, .func (PySem.W.fnOf "_law_some" "_law_some" (defArgs sSome) (defBody sSome) (defScope sSome) .none kV6 dc6 pm6 an6 cd6 ct6), sl6⟩) (c6 : PySem.W.codeIn K cd6 "_law_some" = true) (k6 : PySem.W.keepIn K (.ref f6) = true)
    (a7 : PySem.W.nsIn K mainGlobals "_law_house" = some (some (.ref f7))) (l7 : K.lookup f7 = some ⟨oc7, od7, .func (PySem.W.fnOf "_law_house" "_law_house" (defArgs sHouse) (defBody sHouse) (defScope sHouse) .none kV7 dc7 pm7 an7 cd7 ct7), sl7⟩) (c7 : PySem.W.codeIn K cd7 "_law_house" = true) (k7 : PySem.W.keepIn K (.ref f7) = true)
    (a8 : PySem.W.nsIn K mainGlobals "is_pair" = some (some (.ref f8))) (l8 : K.lookup f8 = some ⟨oc8, od8, .func (PySem.W.fnOf "is_pair" "is_pair" (defArgs sPair) (defBody sPair) (defScope sPair) .none kV8 dc8 pm8 an8 cd8 ct8), sl8⟩) (c8 : PySem.W.codeIn K cd8 "is_pair" = true) (k8 : PySem.W.keepIn K (.ref f8) = true)
    (a9 : PySem.W.nsIn K mainGlobals "is_colours" = some (some (.ref f9))) (l9 : K.lookup f9 = some ⟨oc9, od9, .func (PySem.W.fnOf "is_colours" "is_colours" (defArgs sCols) (defBody sCols) (defScope sCols) .none kV9 dc9 pm9 an9 cd9 ct9), sl9⟩) (c9 : PySem.W.codeIn K cd9 "is_colours" = true) (k9 : PySem.W.keepIn K (.ref f9) = true)
    (a10 : PySem.W.nsIn K mainGlobals "is_box" = some (some (.ref f10))) (l10 : K.lookup f10 = some ⟨oc10, od10, .func (PySem.W.fnOf "is_box" "is_box" (defArgs sBox) (defBody sBox) (defScope sBox) .none kV10 dc10 pm10 an10 cd10 ct10), sl10⟩) (c10 : PySem.W.codeIn K cd10 "is_box" = true) (k10 : PySem.W.keepIn K (.ref f10) = true)
    (a11 : PySem.W.nsIn K mainGlobals "is_house" = some (some (.ref f11))) (l11 : K.lookup f11 = some ⟨oc11, od11, .func (PySem.W.fnOf "is_house" "is_house" (defArgs sIsH) (defBody sIsH) (defScope sIsH) .none kV11 dc11 pm11 an11 cd11 ct11), sl11⟩) (c11 : PySem.W.codeIn K cd11 "is_house" = true) (k11 : PySem.W.keepIn K (.ref f11) = true)
    (a12 : PySem.W.nsIn K mainGlobals "check_house" = some (some (.ref f12))) (l12 : K.lookup f12 = some ⟨oc12, od12, .func (PySem.W.fnOf "check_house" "check_house" (defArgs sChk) (defBody sChk) (defScope sChk) .none kV12 dc12 pm12 an12 cd12 ct12), sl12⟩) (c12 : PySem.W.codeIn K cd12 "check_house" = true) (k12 : PySem.W.keepIn K (.ref f12) = true)
    (a13 : PySem.W.nsIn K mainGlobals "keys_in" = some (some (.ref f13))) (l13 : K.lookup f13 = some ⟨oc13, od13, .func (PySem.W.fnOf "keys_in" "keys_in" (defArgs sKeys) (defBody sKeys) (defScope sKeys) .none kV13 dc13 pm13 an13 cd13 ct13), sl13⟩) (c13 : PySem.W.codeIn K cd13 "keys_in" = true) (k13 : PySem.W.keepIn K (.ref f13) = true)
    (a14 : PySem.W.nsIn K mainGlobals "fits" = some (some (.ref f14))) (l14 : K.lookup f14 = some ⟨oc14, od14, .func (PySem.W.fnOf "fits" "fits" (defArgs sFits) (defBody sFits) (defScope sFits) .none kV14 dc14 pm14 an14 cd14 ct14), sl14⟩) (c14 : PySem.W.codeIn K cd14 "fits" = true) (k14 : PySem.W.keepIn K (.ref f14) = true)
    (a15 : PySem.W.nsIn K mainGlobals "opened_in_rounds" = some (some (.ref f15))) (l15 : K.lookup f15 = some ⟨oc15, od15, .func (PySem.W.fnOf "opened_in_rounds" "opened_in_rounds" (defArgs sOpn) (defBody sOpn) (defScope sOpn) .none kV15 dc15 pm15 an15 cd15 ct15), sl15⟩) (c15 : PySem.W.codeIn K cd15 "opened_in_rounds" = true) (k15 : PySem.W.keepIn K (.ref f15) = true)
    (a16 : PySem.W.nsIn K mainGlobals "shut_boxes" = some (some (.ref f16))) (l16 : K.lookup f16 = some ⟨oc16, od16, .func (PySem.W.fnOf "shut_boxes" "shut_boxes" (defArgs sShB) (defBody sShB) (defScope sShB) .none kV16 dc16 pm16 an16 cd16 ct16), sl16⟩) (c16 : PySem.W.codeIn K cd16 "shut_boxes" = true) (k16 : PySem.W.keepIn K (.ref f16) = true)
    (a17 : PySem.W.nsIn K mainGlobals "shut" = some (some (.ref f17))) (l17 : K.lookup f17 = some ⟨oc17, od17, .func (PySem.W.fnOf "shut" "shut" (defArgs sShut) (defBody sShut) (defScope sShut) .none kV17 dc17 pm17 an17 cd17 ct17), sl17⟩) (c17 : PySem.W.codeIn K cd17 "shut" = true) (k17 : PySem.W.keepIn K (.ref f17) = true)
    (a18 : PySem.W.nsIn K mainGlobals "_law_one_by_one" = some (some (.ref f18))) (l18 : K.lookup f18 = some ⟨oc18, od18, .func (PySem.W.fnOf "_law_one_by_one" "_law_one_by_one" (defArgs sObo) (defBody sObo) (defScope sObo) .none kV18 dc18 pm18 an18 cd18 ct18), sl18⟩) (c18 : PySem.W.codeIn K cd18 "_law_one_by_one" = true) (k18 : PySem.W.keepIn K (.ref f18) = true)
    (a19 : PySem.W.nsIn K mainGlobals "rounds" = some (some (.ref f19))) (l19 : K.lookup f19 = some ⟨oc19, od19, .func (PySem.W.fnOf "rounds" "rounds" (defArgs sRnd) (defBody sRnd) (defScope sRnd) .none kV19 dc19 pm19 an19 cd19 ct19), sl19⟩) (c19 : PySem.W.codeIn K cd19 "rounds" = true) (k19 : PySem.W.keepIn K (.ref f19) = true)
    (a20 : PySem.W.nsIn K mainGlobals "is_whole" = some (some (.ref f20))) (l20 : K.lookup f20 = some ⟨oc20, od20, .func (PySem.W.fnOf "is_whole" "is_whole" (defArgs sWho) (defBody sWho) (defScope sWho) .none kV20 dc20 pm20 an20 cd20 ct20), sl20⟩) (c20 : PySem.W.codeIn K cd20 "is_whole" = true) (k20 : PySem.W.keepIn K (.ref f20) = true)
    (a21 : PySem.W.nsIn K mainGlobals "is_boxes" = some (some (.ref f21))) (l21 : K.lookup f21 = some ⟨oc21, od21, .func (PySem.W.fnOf "is_boxes" "is_boxes" (defArgs sIsB) (defBody sIsB) (defScope sIsB) .none kV21 dc21 pm21 an21 cd21 ct21), sl21⟩) (c21 : PySem.W.codeIn K cd21 "is_boxes" = true) (k21 : PySem.W.keepIn K (.ref f21) = true)
    (a22 : PySem.W.nsIn K mainGlobals "is_kept" = some (some (.ref f22))) (l22 : K.lookup f22 = some ⟨oc22, od22, .func (PySem.W.fnOf "is_kept" "is_kept" (defArgs sIsK) (defBody sIsK) (defScope sIsK) .none kV22 dc22 pm22 an22 cd22 ct22), sl22⟩) (c22 : PySem.W.codeIn K cd22 "is_kept" = true) (k22 : PySem.W.keepIn K (.ref f22) = true)
    (a23 : PySem.W.nsIn K mainGlobals "is_colour" = some (some (.ref f23))) (l23 : K.lookup f23 = some ⟨oc23, od23, .func (PySem.W.fnOf "is_colour" "is_colour" (defArgs sCol) (defBody sCol) (defScope sCol) .none kV23 dc23 pm23 an23 cd23 ct23), sl23⟩) (c23 : PySem.W.codeIn K cd23 "is_colour" = true) (k23 : PySem.W.keepIn K (.ref f23) = true)
    (a24 : PySem.W.nsIn K mainGlobals "without" = some (some (.ref f24))) (l24 : K.lookup f24 = some ⟨oc24, od24, .func (PySem.W.fnOf "without" "without" (defArgs sWo) (defBody sWo) (defScope sWo) .none kV24 dc24 pm24 an24 cd24 ct24), sl24⟩) (c24 : PySem.W.codeIn K cd24 "without" = true) (k24 : PySem.W.keepIn K (.ref f24) = true)
    (a25 : PySem.W.nsIn K mainGlobals "lost" = some (some (.ref f25))) (l25 : K.lookup f25 = some ⟨oc25, od25, .func (PySem.W.fnOf "lost" "lost" (defArgs sLost) (defBody sLost) (defScope sLost) .none kV25 dc25 pm25 an25 cd25 ct25), sl25⟩) (c25 : PySem.W.codeIn K cd25 "lost" = true) (k25 : PySem.W.keepIn K (.ref f25) = true)
    (a26 : PySem.W.nsIn K mainGlobals "law" = some (some (.ref f26))) (l26 : K.lookup f26 = some ⟨oc26, od26, .func (PySem.W.fnOf "law" "law" (defArgs sLaw) (defBody sLaw) (defScope sLaw) .none kV26 dc26 pm26 an26 cd26 ct26), sl26⟩) (c26 : PySem.W.codeIn K cd26 "law" = true) (k26 : PySem.W.keepIn K (.ref f26) = true)
    (z_isi : PySem.W.nsIn K mainGlobals "isinstance" = some none)    (z_tup : PySem.W.nsIn K mainGlobals "tuple" = some none)    (z_lst : PySem.W.nsIn K mainGlobals "list" = some none)    (z_str : PySem.W.nsIn K mainGlobals "str" = some none)    (z_len : PySem.W.nsIn K mainGlobals "len" = some none)    (z_all : PySem.W.nsIn K mainGlobals "all" = some none)    (z_zip : PySem.W.nsIn K mainGlobals "zip" = some none)    (z_rng : PySem.W.nsIn K mainGlobals "range" = some none)    (z_int : PySem.W.nsIn K mainGlobals "int" = some none)    (z_max : PySem.W.nsIn K mainGlobals "max" = some none)    (z_min : PySem.W.nsIn K mainGlobals "min" = some none)    (z_srt : PySem.W.nsIn K mainGlobals "sorted" = some none)    (z_enu : PySem.W.nsIn K mainGlobals "enumerate" = some none)    (z_sum : PySem.W.nsIn K mainGlobals "sum" = some none)    (z_abs : PySem.W.nsIn K mainGlobals "abs" = some none)    (z_rpr : PySem.W.nsIn K mainGlobals "repr" = some none)    (z_set : PySem.W.nsIn K mainGlobals "set" = some none)    (z_bool : PySem.W.nsIn K mainGlobals "bool" = some none)    (z_ver : PySem.W.nsIn K mainGlobals "ValueError" = some none)    (z_any : PySem.W.nsIn K mainGlobals "any" = some none)
    (m_MOST_LETTERS : PySem.W.nsIn K mainGlobals "MOST_LETTERS" = some (some (.int 8 t_MOST_LETTERS))) (m_SMALL_LETTERS : PySem.W.nsIn K mainGlobals "SMALL_LETTERS" = some (some (.str "abcdefghijklmnopqrstuvwxyz" t_SMALL_LETTERS))) (m_MOST_BOXES : PySem.W.nsIn K mainGlobals "MOST_BOXES" = some (some (.int 30 t_MOST_BOXES))) (m_MOST_LOCKS : PySem.W.nsIn K mainGlobals "MOST_LOCKS" = some (some (.int 3 t_MOST_LOCKS))) (m_MOST_KEYS : PySem.W.nsIn K mainGlobals "MOST_KEYS" = some (some (.int 6 t_MOST_KEYS))) :
    ∃ fd : FuncData, (∀ (s : Shared) (v : Value), BindsTo s fd ⟨[v], []⟩ [("script", v)]) ∧ ∀ base : Heap, K.In base → base.Ns mainGlobals mg → FnOk l.prog w K mg base CX0 20 fa fd ["script"] (spLaw K) := by
  have e := hfa.symm.trans (PySem.W.mg_of X G a26)
  cases e
  have F1 := fun_mk (st := sCell) l1 c1 k1
  have D1 : Df K mg "_law_cell_at" sCell ["script", "k"] f1 _ := ⟨F1, PySem.W.mg_of X G a1, F1.binds fun _ _ _ _ _ _ us hl => match us, hl with | [_, _], _ => rfl⟩
  have F2 := fun_mk (st := sDraw) l2 c2 k2
  have D2 : Df K mg "_law_draws" sDraw ["cell", "many", "size"] f2 _ := ⟨F2, PySem.W.mg_of X G a2, F2.binds fun _ _ _ _ _ _ us hl => match us, hl with | [_, _, _], _ => rfl⟩
  have F3 := fun_mk (st := sBag) l3 c3 k3
  have D3 : Df K mg "_law_bag" sBag ["script", "k"] f3 _ := ⟨F3, PySem.W.mg_of X G a3, F3.binds fun _ _ _ _ _ _ us hl => match us, hl with | [_, _], _ => rfl⟩
  have F4 := fun_mk (st := sBags) l4 c4 k4
  have D4 : Df K mg "_law_bags" sBags ["script", "limit"] f4 _ := ⟨F4, PySem.W.mg_of X G a4, F4.binds fun _ _ _ _ _ _ us hl => match us, hl with | [_, _], _ => rfl⟩
  have F5 := fun_mk (st := sTake) l5 c5 k5
  have D5 : Df K mg "_law_take" sTake ["bag", "many"] f5 _ := ⟨F5, PySem.W.mg_of X G a5, F5.binds fun _ _ _ _ _ _ us hl => match us, hl with | [_, _], _ => rfl⟩
  have F6 := fun_mk (st := sSome) l6 c6 k6
  have D6 : Df K mg "_law_some" sSome ["bag", "most", "wide"] f6 _ := ⟨F6, PySem.W.mg_of X G a6, F6.binds fun _ _ _ _ _ _ us hl => match us, hl with | [_, _, _], _ => rfl⟩
  have F7 := fun_mk (st := sHouse) l7 c7 k7
  have D7 : Df K mg "_law_house" sHouse ["bag", "boxes", "locks", "wide"] f7 _ := ⟨F7, PySem.W.mg_of X G a7, F7.binds fun _ _ _ _ _ _ us hl => match us, hl with | [_, _, _, _], _ => rfl⟩
  have F8 := fun_mk (st := sPair) l8 c8 k8
  have D8 : Df K mg "is_pair" sPair ["thing"] f8 _ := ⟨F8, PySem.W.mg_of X G a8, F8.binds fun _ _ _ _ _ _ us hl => match us, hl with | [_], _ => rfl⟩
  have F9 := fun_mk (st := sCols) l9 c9 k9
  have D9 : Df K mg "is_colours" sCols ["thing", "most"] f9 _ := ⟨F9, PySem.W.mg_of X G a9, F9.binds fun _ _ _ _ _ _ us hl => match us, hl with | [_, _], _ => rfl⟩
  have F10 := fun_mk (st := sBox) l10 c10 k10
  have D10 : Df K mg "is_box" sBox ["thing"] f10 _ := ⟨F10, PySem.W.mg_of X G a10, F10.binds fun _ _ _ _ _ _ us hl => match us, hl with | [_], _ => rfl⟩
  have F11 := fun_mk (st := sIsH) l11 c11 k11
  have D11 : Df K mg "is_house" sIsH ["thing"] f11 _ := ⟨F11, PySem.W.mg_of X G a11, F11.binds fun _ _ _ _ _ _ us hl => match us, hl with | [_], _ => rfl⟩
  have F12 := fun_mk (st := sChk) l12 c12 k12
  have D12 : Df K mg "check_house" sChk ["house"] f12 _ := ⟨F12, PySem.W.mg_of X G a12, F12.binds fun _ _ _ _ _ _ us hl => match us, hl with | [_], _ => rfl⟩
  have F13 := fun_mk (st := sKeys) l13 c13 k13
  have D13 : Df K mg "keys_in" sKeys ["boxes", "some"] f13 _ := ⟨F13, PySem.W.mg_of X G a13, F13.binds fun _ _ _ _ _ _ us hl => match us, hl with | [_, _], _ => rfl⟩
  have F14 := fun_mk (st := sFits) l14 c14 k14
  have D14 : Df K mg "fits" sFits ["locks", "held"] f14 _ := ⟨F14, PySem.W.mg_of X G a14, F14.binds fun _ _ _ _ _ _ us hl => match us, hl with | [_, _], _ => rfl⟩
  have F15 := fun_mk (st := sOpn) l15 c15 k15
  have D15 : Df K mg "opened_in_rounds" sOpn ["boxes", "held", "closed"] f15 _ := ⟨F15, PySem.W.mg_of X G a15, F15.binds fun _ _ _ _ _ _ us hl => match us, hl with | [_, _, _], _ => rfl⟩
  have F16 := fun_mk (st := sShB) l16 c16 k16
  have D16 : Df K mg "shut_boxes" sShB ["boxes", "hand", "broken"] f16 _ := ⟨F16, PySem.W.mg_of X G a16, F16.binds fun _ _ _ _ _ _ us hl => match us, hl with | [_, _, _], _ => rfl⟩
  have F17 := fun_mk (st := sShut) l17 c17 k17
  have D17 : Df K mg "shut" sShut ["house"] f17 _ := ⟨F17, PySem.W.mg_of X G a17, F17.binds fun _ _ _ _ _ _ us hl => match us, hl with | [_], _ => rfl⟩
  have F18 := fun_mk (st := sObo) l18 c18 k18
  have D18 : Df K mg "_law_one_by_one" sObo ["bag", "house"] f18 _ := ⟨F18, PySem.W.mg_of X G a18, F18.binds fun _ _ _ _ _ _ us hl => match us, hl with | [_, _], _ => rfl⟩
  have F19 := fun_mk (st := sRnd) l19 c19 k19
  have D19 : Df K mg "rounds" sRnd ["house"] f19 _ := ⟨F19, PySem.W.mg_of X G a19, F19.binds fun _ _ _ _ _ _ us hl => match us, hl with | [_], _ => rfl⟩
  have F20 := fun_mk (st := sWho) l20 c20 k20
  have D20 : Df K mg "is_whole" sWho ["thing"] f20 _ := ⟨F20, PySem.W.mg_of X G a20, F20.binds fun _ _ _ _ _ _ us hl => match us, hl with | [_], _ => rfl⟩
  have F21 := fun_mk (st := sIsB) l21 c21 k21
  have D21 : Df K mg "is_boxes" sIsB ["thing", "many"] f21 _ := ⟨F21, PySem.W.mg_of X G a21, F21.binds fun _ _ _ _ _ _ us hl => match us, hl with | [_, _], _ => rfl⟩
  have F22 := fun_mk (st := sIsK) l22 c22 k22
  have D22 : Df K mg "is_kept" sIsK ["house", "thing"] f22 _ := ⟨F22, PySem.W.mg_of X G a22, F22.binds fun _ _ _ _ _ _ us hl => match us, hl with | [_, _], _ => rfl⟩
  have F23 := fun_mk (st := sCol) l23 c23 k23
  have D23 : Df K mg "is_colour" sCol ["thing"] f23 _ := ⟨F23, PySem.W.mg_of X G a23, F23.binds fun _ _ _ _ _ _ us hl => match us, hl with | [_], _ => rfl⟩
  have F24 := fun_mk (st := sWo) l24 c24 k24
  have D24 : Df K mg "without" sWo ["row", "gone"] f24 _ := ⟨F24, PySem.W.mg_of X G a24, F24.binds fun _ _ _ _ _ _ us hl => match us, hl with | [_, _], _ => rfl⟩
  have F25 := fun_mk (st := sLost) l25 c25 k25
  have D25 : Df K mg "lost" sLost ["house", "colour"] f25 _ := ⟨F25, PySem.W.mg_of X G a25, F25.binds fun _ _ _ _ _ _ us hl => match us, hl with | [_, _], _ => rfl⟩
  have F26 := fun_mk (st := sLaw) l26 c26 k26
  have B : Bu mg := ⟨PySem.W.mg_none_of X G z_isi, PySem.W.mg_none_of X G z_tup, PySem.W.mg_none_of X G z_lst, PySem.W.mg_none_of X G z_str, PySem.W.mg_none_of X G z_len, PySem.W.mg_none_of X G z_all, PySem.W.mg_none_of X G z_zip, PySem.W.mg_none_of X G z_rng, PySem.W.mg_none_of X G z_int, PySem.W.mg_none_of X G z_max, PySem.W.mg_none_of X G z_min, PySem.W.mg_none_of X G z_srt, PySem.W.mg_none_of X G z_enu, PySem.W.mg_none_of X G z_sum, PySem.W.mg_none_of X G z_abs, PySem.W.mg_none_of X G z_rpr, PySem.W.mg_none_of X G z_set, PySem.W.mg_none_of X G z_bool, PySem.W.mg_none_of X G z_ver, PySem.W.mg_none_of X G z_any⟩
  have n_MOST_LETTERS := PySem.W.mg_of X G m_MOST_LETTERS
  have n_SMALL_LETTERS := PySem.W.mg_of X G m_SMALL_LETTERS
  have n_MOST_BOXES := PySem.W.mg_of X G m_MOST_BOXES
  have n_MOST_LOCKS := PySem.W.mg_of X G m_MOST_LOCKS
  have n_MOST_KEYS := PySem.W.mg_of X G m_MOST_KEYS
  refine ⟨PySem.W.fnOf "law" "law" (defArgs sLaw) (defBody sLaw) (defScope sLaw) .none kV26 dc26 pm26 an26 cd26 ct26, fun s v => .of_eq rfl, fun base _ _ => ?_⟩
  have g1 : ∀ k : Nat, FnOk l.prog w K mg base CX0 (k + 1) f1 _ ["script", "k"] (spCell K) := fun k => ok_cell F1   B
  have g2 : ∀ k : Nat, FnOk l.prog w K mg base CX0 (k + 1) f2 _ ["cell", "many", "size"] (spDraw K) := fun k => ok_draw F2   B B
  have g3 : ∀ k : Nat, FnOk l.prog w K mg base CX0 (k + 2) f3 _ ["script", "k"] (spBag K) := fun k => ok_bag F3 D1 D2 (g1 k) (g2 k) 
  have g4 : ∀ k : Nat, FnOk l.prog w K mg base CX0 (k + 3) f4 _ ["script", "limit"] (spBags K 8) := fun k => ok_bags (by decide) F4 B B D3 (g3 k)
  have g5 : ∀ k : Nat, FnOk l.prog w K mg base CX0 (k + 1) f5 _ ["bag", "many"] (spTake K) := fun k => ok_take F5   B
  have g6 : ∀ k : Nat, FnOk l.prog w K mg base CX0 (k + 2) f6 _ ["bag", "most", "wide"] (spSome K) := fun k => ok_some F6 B B D5 (g5 k)
  have g7 : ∀ k : Nat, FnOk l.prog w K mg base CX0 (k + 3) f7 _ ["bag", "boxes", "locks", "wide"] (spHs K) := fun k => ok_hs F7 B D5 D6 (g5 k) (g6 k)
  have g8 : ∀ k : Nat, FnOk l.prog w K mg base CX0 (k + 1) f8 _ ["thing"] (spPair K) := fun k => ok_pair F8   B
  have g9 : ∀ k : Nat, FnOk l.prog w K mg base CX0 (k + 1) f9 _ ["thing", "most"] (spCols K) := fun k => ok_cols F9   B n_MOST_LETTERS n_SMALL_LETTERS
  have g10 : ∀ k : Nat, FnOk l.prog w K mg base CX0 (k + 2) f10 _ ["thing"] (spBox K) := fun k => ok_box F10 D8 D9 (g8 k) (g9 k) n_MOST_LOCKS n_MOST_KEYS
  have g11 : ∀ k : Nat, FnOk l.prog w K mg base CX0 (k + 3) f11 _ ["thing"] (spIsH K) := fun k => ok_isH F11 D8 D9 D10 (g8 k) (g9 k) (g10 k) B n_MOST_BOXES n_MOST_KEYS
  have g12 : ∀ k : Nat, FnOk l.prog w K mg base CX0 (k + 4) f12 _ ["house"] (spChk K) := fun k => ok_chk F12 D11 (g11 k) 
  have g13 : ∀ k : Nat, FnOk l.prog w K mg base CX0 (k + 1) f13 _ ["boxes", "some"] (spKeys K) := fun k => ok_keys F13   
  have g14 : ∀ k : Nat, FnOk l.prog w K mg base CX0 (k + 1) f14 _ ["locks", "held"] (spFits K) := fun k => ok_fits F14   
  have g15 : ∀ k : Nat, FnOk l.prog w K mg base CX0 (k + 2) f15 _ ["boxes", "held", "closed"] (spOpn K) := fun k => ok_opn F15 D13 D14 (g13 k) (g14 k) B
  have g16 : ∀ k : Nat, FnOk l.prog w K mg base CX0 (k + 3) f16 _ ["boxes", "hand", "broken"] (spShB K) := fun k => ok_shB F16 D13 D15 (g13 k) (g15 k) B
  have g17 : ∀ k : Nat, FnOk l.prog w K mg base CX0 (k + 5) f17 _ ["house"] (spShut K) := fun k => ok_shut F17 D12 D16 (g12 k) (g16 k) 
  have g18 : ∀ k : Nat, FnOk l.prog w K mg base CX0 (k + 2) f18 _ ["bag", "house"] (spObo K) := fun k => ok_obo F18 B B.enu D5 (g5 k)
  have g19 : ∀ k : Nat, FnOk l.prog w K mg base CX0 (k + 5) f19 _ ["house"] (spRnd K) := fun k => ok_rnd F19 D12 D15 (g12 k) (g15 k) B
  have g20 : ∀ k : Nat, FnOk l.prog w K mg base CX0 (k + 1) f20 _ ["thing"] (spWho K) := fun k => ok_who F20   B
  have g21 : ∀ k : Nat, FnOk l.prog w K mg base CX0 (k + 2) f21 _ ["thing", "many"] (spIsB K) := fun k => ok_bxs F21 D20 (g20 k) B
  have g22 : ∀ k : Nat, FnOk l.prog w K mg base CX0 (k + 5) f22 _ ["house", "thing"] (spIsK K) := fun k => ok_kept F22 D12 D21 D13 D14 (g12 k) (g21 k) (g13 k) (g14 k) B
  have g23 : ∀ k : Nat, FnOk l.prog w K mg base CX0 (k + 2) f23 _ ["thing"] (spCol K) := fun k => ok_col F23 D9 (g9 k) 
  have g24 : ∀ k : Nat, FnOk l.prog w K mg base CX0 (k + 1) f24 _ ["row", "gone"] (spWo K) := fun k => ok_wo F24   B
  have g25 : ∀ k : Nat, FnOk l.prog w K mg base CX0 (k + 5) f25 _ ["house", "colour"] (spLost K) := fun k => ok_lost F25 D12 D23 D24 D16 (g12 k) (g23 k) (g24 k) (g16 k) B
  exact ok_law' (k := 13) F26 B B B.set D4 D7 D5 D17 D18 D19 D22 D6 D25 (g4 16) (g7 16) (g5 18) (g17 14) (g18 17) (g19 14) (g22 14) (g6 17) (g25 14) fun a ns H Q nx bk ct hS hl q => law_core hS hl q
end Kw
open PySem PySem.W PyProof.Rows
set_option maxHeartbeats 0 in
theorem PySem.Challenge.cw_keyswithin_k03_whole_no_order_matters_holds : PySem.Challenge.rw_keyswithin_k03_whole_no_order_matters.Holds := by
  w_on; o_law; k_head; (case hw => w_witness2)
  k_fill
  refine L2.walk_of (l := PySem.Challenge.rw_keyswithin_k03_whole_no_order_matters) (n := 63) (k := 20) (x := "script") (CX := fun _ => L2.CX0) (sp := fun w => Kw.spLaw _) rfl (by decide) rfl ⟨rfl, by decide, by decide⟩ (fun w h Y => PySem.W.kIn_of Y) ?F (fun _ _ a ns hl _ hS => ⟨a, ns, rfl, hS, hl, fun _ => rfl⟩) (fun _ _ _ _ _ h => h)
  case F =>
    intro w mg fa h KX G hmg
    refine' Kw.all_mk KX G hmg ?a1 ?l1 ?c1 ?k1 ?a2 ?l2 ?c2 ?k2 ?a3 ?l3 ?c3 ?k3 ?a4 ?l4 ?c4 ?k4 ?a5 ?l5 ?c5 ?k5 ?a6 ?l6 ?c6 ?k6 ?a7 ?l7 ?c7 ?k7 ?a8 ?l8 ?c8 ?k8 ?a9 ?l9 ?c9 ?k9 ?a10 ?l10 ?c10 ?k10 ?a11 ?l11 ?c11 ?k11 ?a12 ?l12 ?c12 ?k12 ?a13 ?l13 ?c13 ?k13 ?a14 ?l14 ?c14 ?k14 ?a15 ?l15 ?c15 ?k15 ?a16 ?l16 ?c16 ?k16 ?a17 ?l17 ?c17 ?k17 ?a18 ?l18 ?c18 ?k18 ?a19 ?l19 ?c19 ?k19 ?a20 ?l20 ?c20 ?k20 ?a21 ?l21 ?c21 ?k21 ?a22 ?l22 ?c22 ?k22 ?a23 ?l23 ?c23 ?k23 ?a24 ?l24 ?c24 ?k24 ?a25 ?l25 ?c25 ?k25 ?a26 ?l26 ?c26 ?k26 ?z_isi ?z_tup ?z_lst ?z_str ?z_len ?z_all ?z_zip ?z_rng ?z_int ?z_max ?z_min ?z_srt ?z_enu ?z_sum ?z_abs ?z_rpr ?z_set ?z_bool ?z_ver ?z_any ?m_MOST_LETTERS ?m_SMALL_LETTERS ?m_MOST_BOXES ?m_MOST_LOCKS ?m_MOST_KEYS
    (case a1 => k_is)
    (case l1 => k_is)
    (case c1 => k_is)
    (case k1 => k_is)
    (case a2 => k_is)
    (case l2 => k_is)
    (case c2 => k_is)
    (case k2 => k_is)
    (case a3 => k_is)
    (case l3 => k_is)
    (case c3 => k_is)
    (case k3 => k_is)
    (case a4 => k_is)
    (case l4 => k_is)
    (case c4 => k_is)
    (case k4 => k_is)
    (case a5 => k_is)
    (case l5 => k_is)
    (case c5 => k_is)
    (case k5 => k_is)
    (case a6 => k_is)
    (case l6 => k_is)
    (case c6 => k_is)
    (case k6 => k_is)
    (case a7 => k_is)
    (case l7 => k_is)
    (case c7 => k_is)
    (case k7 => k_is)
    (case a8 => k_is)
    (case l8 => k_is)
    (case c8 => k_is)
    (case k8 => k_is)
    (case a9 => k_is)
    (case l9 => k_is)
    (case c9 => k_is)
    (case k9 => k_is)
    (case a10 => k_is)
    (case l10 => k_is)
    (case c10 => k_is)
    (case k10 => k_is)
    (case a11 => k_is)
    (case l11 => k_is)
    (case c11 => k_is)
    (case k11 => k_is)
    (case a12 => k_is)
    (case l12 => k_is)
    (case c12 => k_is)
    (case k12 => k_is)
    (case a13 => k_is)
    (case l13 => k_is)
    (case c13 => k_is)
    (case k13 => k_is)
    (case a14 => k_is)
    (case l14 => k_is)
    (case c14 => k_is)
    (case k14 => k_is)
    (case a15 => k_is)
    (case l15 => k_is)
    (case c15 => k_is)
    (case k15 => k_is)
    (case a16 => k_is)
    (case l16 => k_is)
    (case c16 => k_is)
    (case k16 => k_is)
    (case a17 => k_is)
    (case l17 => k_is)
    (case c17 => k_is)
    (case k17 => k_is)
    (case a18 => k_is)
    (case l18 => k_is)
    (case c18 => k_is)
    (case k18 => k_is)
    (case a19 => k_is)
    (case l19 => k_is)
    (case c19 => k_is)
    (case k19 => k_is)
    (case a20 => k_is)
    (case l20 => k_is)
    (case c20 => k_is)
    (case k20 => k_is)
    (case a21 => k_is)
    (case l21 => k_is)
    (case c21 => k_is)
    (case k21 => k_is)
    (case a22 => k_is)
    (case l22 => k_is)
    (case c22 => k_is)
    (case k22 => k_is)
    (case a23 => k_is)
    (case l23 => k_is)
    (case c23 => k_is)
    (case k23 => k_is)
    (case a24 => k_is)
    (case l24 => k_is)
    (case c24 => k_is)
    (case k24 => k_is)
    (case a25 => k_is)
    (case l25 => k_is)
    (case c25 => k_is)
    (case k25 => k_is)
    (case a26 => k_is)
    (case l26 => k_is)
    (case c26 => k_is)
    (case k26 => k_is)
    (case z_isi => k_is)
    (case z_tup => k_is)
    (case z_lst => k_is)
    (case z_str => k_is)
    (case z_len => k_is)
    (case z_all => k_is)
    (case z_zip => k_is)
    (case z_rng => k_is)
    (case z_int => k_is)
    (case z_max => k_is)
    (case z_min => k_is)
    (case z_srt => k_is)
    (case z_enu => k_is)
    (case z_sum => k_is)
    (case z_abs => k_is)
    (case z_rpr => k_is)
    (case z_set => k_is)
    (case z_bool => k_is)
    (case z_ver => k_is)
    (case z_any => k_is)
    (case m_MOST_LETTERS => k_is)
    (case m_SMALL_LETTERS => k_is)
    (case m_MOST_BOXES => k_is)
    (case m_MOST_LOCKS => k_is)
    (case m_MOST_KEYS => k_is)
