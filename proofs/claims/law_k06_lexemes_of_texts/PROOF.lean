import PyProof.Rows.All
import Wide.All
import OpenK.AllK
import Wide.FinOn
import HandS.ForMost
import HandS.Exc
import HandS.TryOnly
import HandS.ExcOwn
import HandS.ExcInit
import HandS.WordsExc
import HandS.IsInst
import HandS.Deep
import HandS.Style
import HandS.Steps
import HandS.TupAny
import HandS.TupMul
import HandS.WordsDict
import HandS.RaiseMore
import HandS.ExcField
import HandS.ForSpec
import HandS.Ends
import PySem.Challenge.RW_crossties_k06_lexemes_of_texts
set_option Elab.async false
set_option linter.all false
set_option maxRecDepth 100000
set_option maxHeartbeats 4000000
/-! Values as trees over the abstract heap, and a calculus of wishes about trees. -/
namespace Ct
open PySem PySem.Spec PyProof.Rows L2

/-- a value as a tree -/
inductive D where
  | non | bl (b : Bool) | int (i : Int) | str (x : Str) | ty (n : String)
  | lst (ds : List D) | tup (ds : List D)
  | dct (kvs : List (Key × D))
  | obj (c : Nat) (fs : List (Str × D))
  | cl (c : Nat)
  | src

/-- what a whole run fixes: the written part, the classes' places -/
structure Gb where
  K : PySem.W.Frag
  C : Nat → Addr
/-- the law's source: its dict, its cells -/
abbrev So := Option (Addr × Addr)
def Srcs : So → Addr → Prop
  | none, _ => False
  | some (s, c), a => a = s ∨ a = c

/-- a tuple of the written part -/
def Kt (K : PySem.W.Frag) (a : Addr) (xs : List V) : Prop :=
  ∃ (o : Obj) (its : Array Value) (n : Nat), K.lookup a = some o ∧ o.cls = .type "tuple" ∧ o.data = .seq its n ∧ its.size ≤ sizeLine ∧ Vals xs its.toList

mutual
def Dat (G : Gb) (so : So) (W : Addr → Prop) (H : Hp) : D → V → Prop
  | .non, v => v = .non
  | .bl b, v => v = .bl b
  | .int i, v => v = .int i
  | .str x, v => v = .str x
  | .ty n, v => v = .ty n
  | .lst ds, v => ∃ a xs, v = .ref a ∧ ¬ W a ∧ H a = some (.lst xs) ∧ Dats G so W H ds xs
  | .tup ds, v => ∃ a xs, v = .ref a ∧ (¬ W a ∧ H a = some (.tup xs) ∨ Kt G.K a xs) ∧ Dats G so W H ds xs
  | .dct kvs, v => ∃ a ps, v = .ref a ∧ ¬ W a ∧ H a = some (.dK ps) ∧ Datk G so W H kvs ps
  | .obj c fs, v => ∃ a, v = .ref a ∧ ¬ W a ∧ ((∃ dx ps, H a = some (.ins (G.C c) dx ps) ∧ Datf G so W H fs ps) ∨
      (fs = [] ∧ H a = some (exo a (G.C c) none)) ∨ ∃ dx ps, H a = some (exo a (G.C c) (some dx)) ∧ ¬ W dx ∧ H dx = some (exd dx ps) ∧ Datf G so W H fs ps)
  | .cl c, v => v = .ref (G.C c)
  | .src, v => ∃ s c, so = some (s, c) ∧ v = .ref s
def Dats (G : Gb) (so : So) (W : Addr → Prop) (H : Hp) : List D → List V → Prop
  | [], vs => vs = []
  | d :: ds, vs => ∃ v r, vs = v :: r ∧ Dat G so W H d v ∧ Dats G so W H ds r
def Datk (G : Gb) (so : So) (W : Addr → Prop) (H : Hp) : List (Key × D) → List (Key × V) → Prop
  | [], ps => ps = []
  | (k, d) :: r, ps => ∃ v q, ps = (k, v) :: q ∧ Dat G so W H d v ∧ Datk G so W H r q
def Datf (G : Gb) (so : So) (W : Addr → Prop) (H : Hp) : List (Str × D) → List (Str × V) → Prop
  | [], ps => ps = []
  | (k, d) :: r, ps => ∃ v q, ps = (k, v) :: q ∧ Dat G so W H d v ∧ Datf G so W H r q
end

section
variable {G : Gb} {so : So} {W W' : Addr → Prop} {H H' : Hp}
/-- what a step from (W, H) to (W', H') leaves to all data -/
def Go (W : Addr → Prop) (H : Hp) (W' : Addr → Prop) (H' : Hp) : Prop := ∀ b o, ¬ W b → H b = some o → ¬ W' b ∧ H' b = some o
theorem Go.refl : Go W H W H := fun _ _ h e => ⟨h, e⟩
theorem Go.trans {W2 : Addr → Prop} {H2 : Hp} (a : Go W H W' H') (b : Go W' H' W2 H2) : Go W H W2 H2 := fun c o h e => let ⟨h1, e1⟩ := a c o h e; b c o h1 e1
mutual
theorem Dat.go (g : Go W H W' H') : ∀ (d : D) (v : V), Dat G so W H d v → Dat G so W' H' d v
  | .non, v, h => h
  | .bl b, v, h => h
  | .int i, v, h => h
  | .str x, v, h => h
  | .ty n, v, h => h
  | .lst ds, v, h => by
    obtain ⟨a, xs, e, w, ha, hd⟩ := h
    obtain ⟨w', ha'⟩ := g a _ w ha
    exact ⟨a, xs, e, w', ha', Dats.go g ds xs hd⟩
  | .tup ds, v, h => by
    obtain ⟨a, xs, e, q, hd⟩ := h
    refine ⟨a, xs, e, ?_, Dats.go g ds xs hd⟩
    rcases q with ⟨w, ha⟩ | q
    · exact .inl (g a _ w ha)
    · exact .inr q
  | .dct kvs, v, h => by
    obtain ⟨a, xs, e, w, ha, hd⟩ := h
    obtain ⟨w', ha'⟩ := g a _ w ha
    exact ⟨a, xs, e, w', ha', Datk.go g kvs xs hd⟩
  | .obj c fs, v, h => by
    obtain ⟨a, e, w, h⟩ := h
    rcases h with ⟨dx, ps, ha, hd⟩ | ⟨e1, ha⟩ | ⟨dx, ps, ha, wd, hx, hd⟩
    · exact ⟨a, e, (g a _ w ha).1, .inl ⟨dx, ps, (g a _ w ha).2, Datf.go g fs ps hd⟩⟩
    · exact ⟨a, e, (g a _ w ha).1, .inr (.inl ⟨e1, (g a _ w ha).2⟩)⟩
    · exact ⟨a, e, (g a _ w ha).1, .inr (.inr ⟨dx, ps, (g a _ w ha).2, (g dx _ wd hx).1, (g dx _ wd hx).2, Datf.go g fs ps hd⟩)⟩
  | .cl c, v, h => h
  | .src, v, h => h
theorem Dats.go (g : Go W H W' H') : ∀ (ds : List D) (vs : List V), Dats G so W H ds vs → Dats G so W' H' ds vs
  | [], vs, h => h
  | d :: ds, vs, h => by
    obtain ⟨v, r, e, h1, h2⟩ := h
    exact ⟨v, r, e, Dat.go g d v h1, Dats.go g ds r h2⟩
theorem Datk.go (g : Go W H W' H') : ∀ (ds : List (Key × D)) (vs : List (Key × V)), Datk G so W H ds vs → Datk G so W' H' ds vs
  | [], vs, h => h
  | (k, d) :: ds, vs, h => by
    obtain ⟨v, r, e, h1, h2⟩ := h
    exact ⟨v, r, e, Dat.go g d v h1, Datk.go g ds r h2⟩
theorem Datf.go (g : Go W H W' H') : ∀ (ds : List (Str × D)) (vs : List (Str × V)), Datf G so W H ds vs → Datf G so W' H' ds vs
  | [], vs, h => h
  | (k, d) :: ds, vs, h => by
    obtain ⟨v, r, e, h1, h2⟩ := h
    exact ⟨v, r, e, Dat.go g d v h1, Datf.go g ds r h2⟩
end
theorem Dats.nil : Dats G so W H [] [] := rfl
theorem Dats.cons {d : D} {ds : List D} {v : V} {vs : List V} (h : Dat G so W H d v) (r : Dats G so W H ds vs) : Dats G so W H (d :: ds) (v :: vs) := ⟨v, vs, rfl, h, r⟩
theorem Dats.length : ∀ {ds : List D} {vs : List V}, Dats G so W H ds vs → vs.length = ds.length
  | [], _, h => by cases h; rfl
  | d :: ds, _, h => by
    obtain ⟨v, r, rfl, _, h2⟩ := h
    have := Dats.length h2
    simp [this]
theorem Dats.get : ∀ {ds : List D} {vs : List V} {i : Nat} {d : D}, Dats G so W H ds vs → ds[i]? = some d → ∃ v, vs[i]? = some v ∧ Dat G so W H d v
  | [], _, i, d, _, e => by simp at e
  | x :: ds, _, 0, d, h, e => by
    obtain ⟨v, r, rfl, h1, _⟩ := h
    simp at e; subst e
    exact ⟨v, rfl, h1⟩
  | x :: ds, _, i + 1, d, h, e => by
    obtain ⟨v, r, rfl, _, h2⟩ := h
    obtain ⟨u, e1, e2⟩ := Dats.get (i := i) h2 (by simpa using e)
    exact ⟨u, by simpa using e1, e2⟩
theorem Dats.getV : ∀ {ds : List D} {vs : List V} {i : Nat} {v : V}, Dats G so W H ds vs → vs[i]? = some v → ∃ d, ds[i]? = some d ∧ Dat G so W H d v := fun {ds vs i v} h e => by
  have hl := h.length
  have hi : i < vs.length := (List.getElem?_eq_some_iff.mp e).1
  cases e' : ds[i]? with
  | none => rw [List.getElem?_eq_none_iff] at e'; omega
  | some d =>
    obtain ⟨u, e1, e2⟩ := h.get e'
    rw [e] at e1; cases e1
    exact ⟨d, rfl, e2⟩
theorem Dats.append : ∀ {ds es : List D} {vs us : List V}, Dats G so W H ds vs → Dats G so W H es us → Dats G so W H (ds ++ es) (vs ++ us)
  | [], _, _, _, h, k => by cases h; exact k
  | d :: ds, es, _, us, h, k => by
    obtain ⟨v, r, rfl, h1, h2⟩ := h
    exact ⟨v, r ++ us, rfl, h1, Dats.append h2 k⟩
theorem Dats.take : ∀ {ds : List D} {vs : List V} (n : Nat), Dats G so W H ds vs → Dats G so W H (ds.take n) (vs.take n)
  | [], _, n, h => by cases h; simp; exact rfl
  | d :: ds, _, 0, h => rfl
  | d :: ds, _, n + 1, h => by
    obtain ⟨v, r, rfl, h1, h2⟩ := h
    exact ⟨v, r.take n, rfl, h1, Dats.take n h2⟩
theorem Dats.drop : ∀ {ds : List D} {vs : List V} (n : Nat), Dats G so W H ds vs → Dats G so W H (ds.drop n) (vs.drop n)
  | [], _, n, h => by cases h; simp; exact rfl
  | d :: ds, _, 0, h => h
  | d :: ds, _, n + 1, h => by
    obtain ⟨v, r, rfl, h1, h2⟩ := h
    exact Dats.drop n h2
end
end Ct

set_option Elab.async false
set_option linter.all false
set_option maxRecDepth 100000
set_option maxHeartbeats 4000000
namespace Ct
open PySem PySem.Spec PyProof.Rows L2

/-- an exception: its class, its fields -/
structure Exn where
  c : Nat
  fs : List (Str × D)
/-- a slot: a value that nobody writes, a list that this def alone holds and writes, an exception that is handled, a value whose lists may still be written by this def alone -/
inductive Sl where
  | d (d : D) | own (ds : List D) | exc (x : Exn) (a : Addr) (cls : Value) (d : Option Addr) | loose (L : Addr → Prop) (d : D)
abbrev Ev := List (Option Sl)
/-- an exception that has come -/
def Exok (G : Gb) (so : So) (W : Addr → Prop) (H : Hp) (x : Exn) (cls : Value) (d : Option Addr) : Prop :=
  cls = .ref (G.C x.c) ∧ ((x.fs = [] ∧ d = none) ∨ ∃ dd ps, d = some dd ∧ ¬ W dd ∧ H dd = some (.xd ps) ∧ Datf G so W H x.fs ps)
theorem Exok.go {G : Gb} {so : So} {W W' : Addr → Prop} {H H' : Hp} {x : Exn} {cls : Value} {d : Option Addr} (g : Go W H W' H') (h : Exok G so W H x cls d) : Exok G so W' H' x cls d := by
  obtain ⟨e, h⟩ := h
  refine ⟨e, ?_⟩
  rcases h with h | ⟨dd, ps, e1, n, e2, f⟩
  · exact .inl h
  · exact .inr ⟨dd, ps, e1, (g dd _ n e2).1, (g dd _ n e2).2, Datf.go g _ _ f⟩
structure Bs where
  so : So
  H0 : Hp
  W0 : Addr → Prop

def SrcAt (H : Hp) (s c : Addr) : Prop := s ≠ c ∧ ∃ (cs : List Int) (l m t : Int),
  H s = some (.dK [(.inr "cells", .ref c), (.inr "left", .int l), (.inr "mixed", .int m), (.inr "turn", .int t)]) ∧ H c = some (.lst (cs.map V.int))
def SrcOk (so : So) (H : Hp) : Prop := ∀ s c, so = some (s, c) → SrcAt H s c
/-- nothing that was there has changed -/
def Ext (H H' : Hp) : Prop := ∀ b o, H b = some o → H' b = some o
theorem Ext.refl {H : Hp} : Ext H H := fun _ _ e => e
theorem Ext.trans {H H1 H2 : Hp} (a : Ext H H1) (b : Ext H1 H2) : Ext H H2 := fun c o e => b c o (a c o e)
theorem Ext.new {H : Hp} {p : Addr} {o : HO} (h : H p = none) : Ext H (upd H p o) := fun b u e => by rw [upd_ne (ne_of_none e h)]; exact e
theorem Ext.go {W : Addr → Prop} {H H' : Hp} (e : Ext H H') : Go W H W H' := fun b o h q => ⟨h, e b o q⟩
theorem Go.keep {W W' : Addr → Prop} {H H' : Hp} (h : ∀ b o, ¬ W b → H b = some o → H' b = some o) (hw : ∀ b, W' b → W b) : Go W H W' H' := fun b o n e => ⟨fun z => n (hw b z), h b o n e⟩

structure Sta (B : Bs) (W : Addr → Prop) (H : Hp) : Prop where
  keep : ∀ b o, B.H0 b = some o → ¬ Srcs B.so b → H b = some o
  src : SrcOk B.so H
  trk : ∀ b, W b → ∃ o, H b = some o
  wsrc : ∀ b, Srcs B.so b → W b
  wold : ∀ b, B.W0 b → W b
/-- a list and the lists in it, all of them in L -/
def Lo (L : Addr → Prop) (H : Hp) (v : V) : Prop := ∃ a xs, v = .ref a ∧ L a ∧ H a = some (.lst xs) ∧ ∀ b, V.ref b ∈ xs → L b ∧ ∃ ys, H b = some (.lst ys)
theorem Lo.keep {L : Addr → Prop} {H H' : Hp} {v : V} (h : Lo L H v) (k : ∀ b, L b → H' b = H b) : Lo L H' v := by
  obtain ⟨a, xs, e, l, h1, h2⟩ := h
  exact ⟨a, xs, e, l, by rw [k a l]; exact h1, fun b m => let ⟨l, ys, h⟩ := h2 b m; ⟨l, ys, by rw [k b l]; exact h⟩⟩
def SlOk (G : Gb) (B : Bs) (W : Addr → Prop) (H : Hp) : Sl → V → Prop
  | .d d, v => Dat G B.so W H d v
  | .own ds, v => ∃ a xs, v = .ref a ∧ W a ∧ ¬ Srcs B.so a ∧ ¬ B.W0 a ∧ B.H0 a = none ∧ H a = some (.lst xs) ∧ Dats G B.so W H ds xs
  | .exc x a cls d, v => v = .ref a ∧ Exok G B.so W H x cls d
  | .loose L d, v => Dat G B.so (fun b => W b ∧ ¬ L b) H d v ∧ (∀ b, L b → W b ∧ ¬ Srcs B.so b ∧ ¬ B.W0 b ∧ B.H0 b = none) ∧ Lo L H v
/-- the places that a slot alone may write -/
def Sl.wr : Sl → V → Addr → Prop
  | .own _, v, b => v = .ref b
  | .loose L _, _, b => L b
  | _, _, _ => False
structure Sok (G : Gb) (B : Bs) (W : Addr → Prop) (σ : L2.St) (H : Hp) (δ : Ev) : Prop where
  sta : Sta B W H
  len : σ.length = δ.length
  slot : ∀ (i : Nat) (s : Sl), δ[i]? = some (some s) → ∃ v, σ[i]? = some (some v) ∧ SlOk G B W H s v
  dist : ∀ (i j : Nat) (s t : Sl) (u v : V) (a : Addr), i ≠ j → δ[i]? = some (some s) → δ[j]? = some (some t) → σ[i]? = some (some u) → σ[j]? = some (some v) → s.wr u a → t.wr v a → False

section
variable {G : Gb} {B : Bs} {W W' : Addr → Prop} {H H' : Hp} {σ : L2.St} {δ : Ev}
theorem SrcOk.ext {so : So} (h : SrcOk so H) (e : ∀ b o, Srcs so b → H b = some o → H' b = some o) : SrcOk so H' := fun s c q => by
  obtain ⟨n, cs, l, m, t, h1, h2⟩ := h s c q
  subst q
  exact ⟨n, cs, l, m, t, e s _ (.inl rfl) h1, e c _ (.inr rfl) h2⟩
theorem Sta.ext (h : Sta B W H) (e : Ext H H') : Sta B W H' :=
  ⟨fun b o q n => e b o (h.keep b o q n), h.src.ext fun b o _ q => e b o q, fun b w => let ⟨o, q⟩ := h.trk b w; ⟨o, e b o q⟩, h.wsrc, h.wold⟩
/-- a slot stays: all data, and what it alone may write -/
theorem SlOk.keep (g : Go W H W' H') : ∀ {s : Sl} {v : V}, (∀ b, s.wr v b → W' b ∧ H' b = H b) → SlOk G B W H s v → SlOk G B W' H' s v
  | .d d, v, _, h => Dat.go g d v h
  | .own ds, v, k, h => by
    obtain ⟨a, xs, e1, h1, h2, h3, h4, h5, h6⟩ := h
    obtain ⟨k1, k2⟩ := k a e1
    exact ⟨a, xs, e1, k1, h2, h3, h4, by rw [k2]; exact h5, Dats.go g ds xs h6⟩
  | .exc x a cls d, v, _, h => ⟨h.1, h.2.go g⟩
  | .loose L d, v, k, h => by
    refine ⟨Dat.go (fun b o n e => ?_) d v h.1, fun b l => ⟨(k b l).1, (h.2.1 b l).2⟩, h.2.2.keep fun b l => (k b l).2⟩
    by_cases l : L b
    · exact ⟨fun z => z.2 l, by rw [(k b l).2]; exact e⟩
    · obtain ⟨g1, g2⟩ := g b o (fun z => n ⟨z, l⟩) e
      exact ⟨fun z => g1 z.1, g2⟩
theorem SlOk.wr : ∀ {s : Sl} {v : V} {b : Addr}, SlOk G B W H s v → s.wr v b → W b ∧ ¬ Srcs B.so b ∧ ¬ B.W0 b ∧ B.H0 b = none
  | .d d, v, b, _, w => (show False from w).elim
  | .own ds, v, b, h, w => by
    obtain ⟨a, xs, e1, h1, h2, h3, h4, h5, h6⟩ := h
    have w : v = .ref b := w
    rw [w] at e1; cases e1
    exact ⟨h1, h2, h3, h4⟩
  | .exc x a cls d, v, b, _, w => (show False from w).elim
  | .loose L d, v, b, h, w => h.2.1 b w
/-- one slot anew, the others as they were -/
theorem Sok.mk1 (h : Sok G B W σ H δ) (st : Sta B W' H') (i : Nat) {x : Option V} {so : Option Sl} (keep : ∀ j s u, j ≠ i → δ[j]? = some (some s) → σ[j]? = some (some u) → SlOk G B W H s u → SlOk G B W' H' s u)
    (new : ∀ s, so = some s → ∃ v, x = some v ∧ SlOk G B W' H' s v) (dj : ∀ s v j t u a, so = some s → x = some v → j ≠ i → δ[j]? = some (some t) → σ[j]? = some (some u) → s.wr v a → t.wr u a → False) :
    Sok G B W' (σ.set i x) H' (δ.set i so) := by
  have at_i : ∀ {s}, (δ.set i so)[i]? = some (some s) → so = some s ∧ i < δ.length := fun {s} q => by
    have hl : i < δ.length := by
      have := (List.getElem?_eq_some_iff.mp q).1
      simpa using this
    rw [List.getElem?_set_self hl] at q
    exact ⟨Option.some.inj q, hl⟩
  have at_x : ∀ {v}, (σ.set i x)[i]? = some (some v) → x = some v := fun {v} q => by
    have hl : i < σ.length := by
      have := (List.getElem?_eq_some_iff.mp q).1
      simpa using this
    rw [List.getElem?_set_self hl] at q
    exact Option.some.inj q
  refine ⟨st, by simp [h.len], fun j s q => ?_, fun j k s t u v a hjk q1 q2 q3 q4 w1 w2 => ?_⟩
  · by_cases hj : j = i
    · subst hj
      obtain ⟨e, hl⟩ := at_i q
      obtain ⟨v, e2, hv⟩ := new s e
      exact ⟨v, by rw [List.getElem?_set_self (by rw [h.len]; exact hl), e2], hv⟩
    · rw [List.getElem?_set_ne (Ne.symm hj)] at q
      obtain ⟨u, h1, h2⟩ := h.slot j s q
      exact ⟨u, by rw [List.getElem?_set_ne (Ne.symm hj)]; exact h1, keep j s u hj q h1 h2⟩
  · by_cases hj : j = i
    · subst hj
      have e := (at_i q1).1
      have ex := at_x q3
      rw [List.getElem?_set_ne hjk] at q2 q4
      exact dj s u k t v a e ex (Ne.symm hjk) q2 q4 w1 w2
    · rw [List.getElem?_set_ne (Ne.symm hj)] at q1 q3
      by_cases hk : k = i
      · subst hk
        have e := (at_i q2).1
        have ex := at_x q4
        exact dj t v j s u a e ex hj q1 q3 w2 w1
      · rw [List.getElem?_set_ne (Ne.symm hk)] at q2 q4
        exact h.dist j k s t u v a hjk q1 q2 q3 q4 w1 w2
/-- all slots as they were -/
theorem Sok.mk0 (h : Sok G B W σ H δ) (st : Sta B W' H') (keep : ∀ s u, SlOk G B W H s u → SlOk G B W' H' s u) : Sok G B W' σ H' δ :=
  ⟨st, h.len, fun i s q => let ⟨v, h1, h2⟩ := h.slot i s q; ⟨v, h1, keep s v h2⟩, h.dist⟩
theorem set_self {α : Type} {l : List α} {i : Nat} {x : α} (h : l[i]? = some x) : l.set i x = l := by
  apply List.ext_getElem?
  intro j
  by_cases hj : j = i
  · subst hj; rw [List.getElem?_set_self (List.getElem?_eq_some_iff.mp h).1, h]
  · rw [List.getElem?_set_ne (Ne.symm hj)]
theorem Sta.here (h : Sta B W H) {b : Addr} (w : W b) {H' : Hp} (e : ∀ o, H b = some o → H' b = some o) : H' b = H b := by
  obtain ⟨o, q⟩ := h.trk b w
  rw [e o q, q]
theorem Sok.ext (h : Sok G B W σ H δ) (e : Ext H H') : Sok G B W σ H' δ :=
  h.mk0 (h.sta.ext e) fun s u q => q.keep (Ext.go e) fun b w => ⟨(q.wr w).1, h.sta.here (q.wr w).1 fun o z => e b o z⟩
theorem Sta.nw (h : Sta B W H) {p : Addr} (hp : H p = none) : ¬ W p := fun w => by
  obtain ⟨o, q⟩ := h.trk p w
  rw [hp] at q; cases q
theorem Sta.nsrc (h : Sta B W H) {p : Addr} (hp : ¬ W p) : ¬ Srcs B.so p := fun z => hp (h.wsrc p z)
theorem Sta.new0 (h : Sta B W H) {p : Addr} (hp : H p = none) : B.H0 p = none := by
  cases e : B.H0 p with
  | none => rfl
  | some o =>
    have := h.keep p o e (h.nsrc (h.nw hp))
    rw [hp] at this; cases this
/-- a value is stored in a slot -/
theorem Sok.put (h : Sok G B W σ H δ) {d : D} {v : V} (i : Nat) (hv : Dat G B.so W H d v) : Sok G B W (σ.set i (some v)) H (δ.set i (some (.d d))) :=
  h.mk1 h.sta i (fun _ _ _ _ _ _ z => z) (fun s e => by cases e; exact ⟨v, rfl, hv⟩) (fun s v j t u a e _ _ _ _ w _ => by cases e; exact w)
/-- a slot is forgotten -/
theorem Sok.drop (h : Sok G B W σ H δ) (i : Nat) {x : Option V} : Sok G B W (σ.set i x) H (δ.set i none) :=
  h.mk1 h.sta i (fun _ _ _ _ _ _ z => z) (fun s e => by cases e) (fun s v j t u a e _ _ _ _ w _ => by cases e)
/-- nothing but the source has changed -/
def Xt (so : So) (H H' : Hp) : Prop := ∀ b o, H b = some o → ¬ Srcs so b → H' b = some o
theorem Xt.refl {so : So} : Xt so H H := fun _ _ e _ => e
theorem Xt.trans {so : So} {H2 : Hp} (a : Xt so H H') (b : Xt so H' H2) : Xt so H H2 := fun c o e n => b c o (a c o e n) n
theorem Ext.xt {so : So} (e : Ext H H') : Xt so H H' := fun b o q _ => e b o q
theorem Xt.back {so : So} {p : Addr} (x : Xt so H H') (hp : H' p = none) (hs : ¬ Srcs so p) : H p = none := by
  cases e : H p with
  | none => rfl
  | some o =>
    have := x p o e hs
    rw [hp] at this; cases this
theorem Xt.go (h : ∀ b, Srcs B.so b → W b) (x : Xt B.so H H') : Go W H W H' := fun b o n e => ⟨n, x b o e fun z => n (h b z)⟩
/-- .. and p, new since H, is from now on written by one -/
theorem Xt.goN {p : Addr} (h : ∀ b, Srcs B.so b → W b) (x : Xt B.so H H') (hp : H p = none) : Go W H (fun b => b = p ∨ W b) H' := fun b o n e =>
  ⟨fun z => z.elim (ne_of_none e hp) n, x b o e fun z => n (h b z)⟩
theorem go_less (h : ∀ b, W' b → W b) : Go W H W' H := fun b o n e => ⟨fun z => n (h b z), e⟩
theorem Sta.xt (h : Sta B W H) (x : Xt B.so H H') (hs : SrcOk B.so H') : Sta B W H' := by
  refine ⟨fun b o q n => x b o (h.keep b o q n) n, hs, fun b w => ?_, h.wsrc, h.wold⟩
  obtain ⟨o, q⟩ := h.trk b w
  by_cases z : Srcs B.so b
  · cases es : B.so with
    | none => rw [es] at z; exact z.elim
    | some p =>
      obtain ⟨s, c⟩ := p
      obtain ⟨_, cs, l, m, t, h1, h2⟩ := hs s c es
      rw [es] at z
      rcases z with z | z <;> subst z
      · exact ⟨_, h1⟩
      · exact ⟨_, h2⟩
  · exact ⟨o, x b o q z⟩
theorem Sok.xt (h : Sok G B W σ H δ) (x : Xt B.so H H') (hs : SrcOk B.so H') : Sok G B W σ H' δ :=
  h.mk0 (h.sta.xt x hs) fun s u q => q.keep (Xt.go h.sta.wsrc x) fun b w => ⟨(q.wr w).1, h.sta.here (q.wr w).1 fun o z => x b o z (q.wr w).2.1⟩
theorem Sta.more (h : Sta B W H) (x : Xt B.so H H') (hs : SrcOk B.so H') {L : Addr → Prop} (hl : ∀ b, L b → ∃ o, H' b = some o) : Sta B (fun b => L b ∨ W b) H' := by
  have hs' := h.xt x hs
  refine ⟨hs'.keep, hs, fun b w => ?_, fun b z => .inr (h.wsrc b z), fun b z => .inr (h.wold b z)⟩
  rcases w with w | w
  · exact hl b w
  · exact hs'.trk b w
theorem Xt.goL {L : Addr → Prop} (h : ∀ b, Srcs B.so b → W b) (x : Xt B.so H H') (hp : ∀ b, L b → H b = none) : Go W H (fun b => L b ∨ W b) H' := fun b o n e =>
  ⟨fun z => z.elim (fun l => by rw [hp b l] at e; cases e) n, x b o e fun z => n (h b z)⟩
theorem SlOk.more {s : Sl} {v : V} (st : Sta B W H) (x : Xt B.so H H') {L : Addr → Prop} (hp : ∀ b, L b → H b = none) (h : SlOk G B W H s v) : SlOk G B (fun b => L b ∨ W b) H' s v :=
  h.keep (Xt.goL st.wsrc x hp) fun b w => ⟨.inr (h.wr w).1, st.here (h.wr w).1 fun o z => x b o z (h.wr w).2.1⟩
/-- a new list is stored: the slot owns it -/
theorem Sok.putOwn (h : Sok G B W σ H δ) {ds : List D} {xs : List V} {p : Addr} (i : Nat) (hp : H p = none) (x : Xt B.so H H') (hs : SrcOk B.so H') (hl : H' p = some (.lst xs)) (hd : Dats G B.so (fun b => b = p ∨ W b) H' ds xs) :
    Sok G B (fun b => b = p ∨ W b) (σ.set i (some (.ref p))) H' (δ.set i (some (.own ds))) := by
  have pW := h.sta.nw hp
  have hn : ∀ b, b = p → H b = none := fun b e => by rw [e]; exact hp
  refine h.mk1 (h.sta.more x hs fun b e => ⟨.lst xs, by rw [e]; exact hl⟩) i (fun j s u _ _ _ q => q.more h.sta x hn) (fun s e => by cases e; exact ⟨_, rfl, p, xs, rfl, .inl rfl, h.sta.nsrc pW, fun z => pW (h.sta.wold p z), h.sta.new0 hp, hl, hd⟩) fun s v j t u a e ex _ q1 q2 w1 w2 => ?_
  cases e
  cases ex
  have w1 : V.ref p = .ref a := w1
  cases w1
  obtain ⟨u', h1, h2⟩ := h.slot j t q1
  rw [q2] at h1; cases h1
  exact pW (h2.wr w2).1
/-- .. a new value, whose lists the slot alone may write -/
theorem Sok.putLoose (h : Sok G B W σ H δ) {d : D} {v : V} {L : Addr → Prop} (i : Nat) (hp : ∀ b, L b → H b = none) (x : Xt B.so H H') (hs : SrcOk B.so H') (hl : ∀ b, L b → ∃ o, H' b = some o) (hd : Dat G B.so W H' d v) (lo : Lo L H' v) :
    Sok G B (fun b => L b ∨ W b) (σ.set i (some v)) H' (δ.set i (some (.loose L d))) := by
  have pW : ∀ b, L b → ¬ W b := fun b l => h.sta.nw (hp b l)
  refine h.mk1 (h.sta.more x hs hl) i (fun j s u _ _ _ q => q.more h.sta x hp) (fun s e => ?_) fun s v j t u a e ex _ q1 q2 w1 w2 => ?_
  · cases e
    refine ⟨_, rfl, Dat.go (fun b o n eb => ⟨fun z => z.1.elim z.2 n, eb⟩) d v hd, fun b l => ⟨.inl l, h.sta.nsrc (pW b l), fun z => pW b l (h.sta.wold b z), h.sta.new0 (hp b l)⟩, lo⟩
  · cases e
    obtain ⟨u', h1, h2⟩ := h.slot j t q1
    rw [q2] at h1; cases h1
    exact pW a w1 (h2.wr w2).1
/-- what a slot alone holds is written -/
theorem Sok.upd1 (h : Sok G B W σ H δ) {i : Nat} {s s' : Sl} {u : V} {a : Addr} {o : HO} (hi : δ[i]? = some (some s)) (ha : σ[i]? = some (some u)) (hw : s.wr u a) (new : SlOk G B W (upd H a o) s' u) (sub : ∀ b, s'.wr u b → s.wr u b) :
    Sok G B W σ (upd H a o) (δ.set i (some s')) := by
  obtain ⟨v, h1, h2⟩ := h.slot i s hi
  rw [ha] at h1; cases h1
  obtain ⟨q1, q2, q3, q4⟩ := h2.wr hw
  have g : Go W H W (upd H a o) := fun b o' n e => ⟨n, by rw [upd_ne (fun z => n (by rw [z]; exact q1))]; exact e⟩
  have st : Sta B W (upd H a o) := by
    refine ⟨fun b o' e n => ?_, h.sta.src.ext fun b o' z e => ?_, fun b w => ?_, h.sta.wsrc, h.sta.wold⟩
    · rw [upd_ne (fun z => by subst z; rw [q4] at e; cases e)]
      exact h.sta.keep b o' e n
    · rw [upd_ne (fun w => q2 (by rw [← w]; exact z))]; exact e
    · by_cases hb : b = a
      · subst hb; exact ⟨_, upd_same⟩
      · rw [upd_ne hb]; exact h.sta.trk b w
  have r := h.mk1 (x := some u) (so := some s') st i (fun j t v hj e1 e2 q => q.keep g fun b w => ⟨(q.wr w).1, upd_ne fun z => ?_⟩) (fun t e => by cases e; exact ⟨u, rfl, new⟩) (fun t v j t' u' b e ex hj e1 e2 w1 w2 => ?_)
  · rw [set_self ha] at r; exact r
  · subst z; exact h.dist j i t s v u b hj e1 hi e2 ha w hw
  · cases e
    cases ex
    exact h.dist i j s t' u u' b (Ne.symm hj) hi e1 ha e2 (sub b w1) w2
/-- an owned list is written -/
theorem Sok.write (h : Sok G B W σ H δ) {i : Nat} {ds es : List D} {a : Addr} {ys : List V} (hi : δ[i]? = some (some (.own ds))) (ha : σ[i]? = some (some (.ref a))) (hd : Dats G B.so W H es ys) :
    Sok G B W σ (upd H a (.lst ys)) (δ.set i (some (.own es))) := by
  obtain ⟨v, h1, a', xs, ev, q1, q2, q3, q4, q5, q6⟩ := h.slot i _ hi
  rw [ha] at h1; cases h1; cases ev
  refine h.upd1 hi ha rfl ⟨a, ys, rfl, q1, q2, q3, q4, upd_same, Dats.go (fun b o n e => ⟨n, by rw [upd_ne (fun z => n (by rw [z]; exact q1))]; exact e⟩) es ys hd⟩ fun b w => w
/-- an owned list is from now on a value that nobody writes -/
theorem Sok.calm (h : Sok G B W σ H δ) {i : Nat} {s : Sl} {u : V} {L : Addr → Prop} {d : D} (hi : δ[i]? = some (some s)) (ha : σ[i]? = some (some u)) (hL : ∀ b, L b → s.wr u b) (hd : Dat G B.so (fun b => W b ∧ ¬ L b) H d u) :
    Sok G B (fun b => W b ∧ ¬ L b) σ H (δ.set i (some (.d d))) := by
  obtain ⟨v, h1, h2⟩ := h.slot i s hi
  rw [ha] at h1; cases h1
  have r := h.mk1 (x := some u) (so := some (.d d)) (W' := fun b => W b ∧ ¬ L b) (H' := H) ⟨h.sta.keep, h.sta.src, fun b w => h.sta.trk b w.1, fun b z => ⟨h.sta.wsrc b z, fun l => (h2.wr (hL b l)).2.1 z⟩, fun b z => ⟨h.sta.wold b z, fun l => (h2.wr (hL b l)).2.2.1 z⟩⟩ i
    (fun j t v hj e1 e2 q => q.keep (go_less fun b z => z.1) fun b w => ⟨⟨(q.wr w).1, fun l => h.dist j i t s v u b hj e1 hi e2 ha w (hL b l)⟩, rfl⟩) (fun t e => by cases e; exact ⟨u, rfl, hd⟩) (fun t v j t' u' b e ex hj e1 e2 w1 w2 => by cases e; exact w1)
  rw [set_self ha] at r
  exact r
theorem Sok.freeze (h : Sok G B W σ H δ) {i : Nat} {ds : List D} {a : Addr} (hi : δ[i]? = some (some (.own ds))) (ha : σ[i]? = some (some (.ref a))) :
    Sok G B (fun b => W b ∧ ¬ b = a) σ H (δ.set i (some (.d (.lst ds)))) := by
  obtain ⟨v, h1, a', xs, ev, q1, q2, q3, q4, q5, q6⟩ := h.slot i _ hi
  rw [ha] at h1; cases h1; cases ev
  exact h.calm (L := fun b => b = a) hi ha (fun b e => by rw [e]; rfl) ⟨a, xs, rfl, fun z => z.2 rfl, q5, Dats.go (go_less fun b z => z.1) ds xs q6⟩
end

/-! ### wishes about trees: an expression, arguments, a test, a new list, a statement -/
abbrev M := Ev → (D → Prop) → (Exn → Prop) → Prop
abbrev MA := Ev → (List D → Prop) → (Exn → Prop) → Prop
abbrev MT := Ev → (Bool → Prop) → (Exn → Prop) → Prop
def lift (G : Gb) (B : Bs) (Wx : WX) (m : M) : TE := fun σ H Q => ∃ W δ Qd Qx, Sok G B W σ H δ ∧ m δ Qd Qx ∧
  (∀ d v H', Qd d → Xt B.so H H' → SrcOk B.so H' → Dat G B.so W H' d v → Q v H') ∧ (∀ x cls dd H', Qx x → Xt B.so H H' → SrcOk B.so H' → Exok G B.so W H' x cls dd → Wx cls dd σ H')
def liftA (G : Gb) (B : Bs) (Wx : WX) (m : MA) : TA := fun σ H Q => ∃ W δ Qd Qx, Sok G B W σ H δ ∧ m δ Qd Qx ∧
  (∀ ds vs H', Qd ds → Xt B.so H H' → SrcOk B.so H' → Dats G B.so W H' ds vs → Q vs H') ∧ (∀ x cls dd H', Qx x → Xt B.so H H' → SrcOk B.so H' → Exok G B.so W H' x cls dd → Wx cls dd σ H')
def liftT (G : Gb) (B : Bs) (Wx : WX) (m : MT) : TT := fun σ H Q => ∃ W δ Qd Qx, Sok G B W σ H δ ∧ m δ Qd Qx ∧
  (∀ b H', Qd b → Xt B.so H H' → SrcOk B.so H' → Q b H') ∧ (∀ x cls dd H', Qx x → Xt B.so H H' → SrcOk B.so H' → Exok G B.so W H' x cls dd → Wx cls dd σ H')
def liftN (G : Gb) (B : Bs) (Wx : WX) (m : MA) : TE := fun σ H Q => ∃ W δ Qd Qx, Sok G B W σ H δ ∧ m δ Qd Qx ∧
  (∀ ds p xs H', Qd ds → H p = none → Xt B.so H H' → SrcOk B.so H' → H' p = some (.lst xs) → Dats G B.so (fun b => b = p ∨ W b) H' ds xs → Q (.ref p) H') ∧
  (∀ x cls dd H', Qx x → Xt B.so H H' → SrcOk B.so H' → Exok G B.so W H' x cls dd → Wx cls dd σ H')
structure PD where
  nx : Ev → Prop
  rt : D → Prop
  bk : Ev → Prop := fun _ => False
  ct : Ev → Prop := fun _ => False
  ex : Exn → Ev → Prop := fun _ _ => False
  rtn : List D → Prop := fun _ => False
  rtl : D → Prop := fun _ => False
abbrev MS := PD → Ev → Prop
theorem PE.weak {X : Cx} {e : Expr} {t t' : TE} (h : PE X e t) (k : ∀ σ H Q, t' σ H Q → t σ H Q) : PE X e t' := ⟨fun pins s σ H Q I q => h.run pins s σ H Q I (k σ H Q q)⟩
theorem PA.weak {X : Cx} {e : List Expr} {t t' : TA} (h : PA X e t) (k : ∀ σ H Q, t' σ H Q → t σ H Q) : PA X e t' := ⟨fun pos pins s σ H Q I q => h.run pos pins s σ H Q I (k σ H Q q)⟩
theorem PT.weak {X : Cx} {e : Expr} {t t' : TT} (h : PT X e t) (k : ∀ σ H Q, t' σ H Q → t σ H Q) : PT X e t' := ⟨fun pins s σ H Q I q => h.run pins s σ H Q I (k σ H Q q)⟩
theorem PW.weak {X : Cx} {e : Expr} {t t' : TT} (h : PW X e t) (k : ∀ σ H Q, t' σ H Q → t σ H Q) : PW X e t' := ⟨fun w pins s σ H Q I q => h.run w pins s σ H Q I (k σ H Q q)⟩
theorem PS.weak {X : Cx} {e : Stmt} {t t' : TS} (h : PS X e t) (k : ∀ E σ H, t' E σ H → t E σ H) : PS X e t' := ⟨fun pins s σ H E I q => h.run pins s σ H E I (k E σ H q)⟩
theorem PSs.weak {X : Cx} {e : List Stmt} {t t' : TS} (h : PSs X e t) (k : ∀ E σ H, t' E σ H → t E σ H) : PSs X e t' := ⟨fun pins s σ H E I q => h.run pins s σ H E I (k E σ H q)⟩
end Ct

set_option Elab.async false
set_option linter.all false
set_option maxRecDepth 100000
set_option maxHeartbeats 4000000
namespace Ct
open PySem PySem.Spec PyProof.Rows L2

/-- what a body's context gives -/
structure Gd (X : Cx) (G : Gb) (Wx : WX) (k : Nat) : Prop where
  hK : X.K = G.K
  room : Room k X.A
  calm : X.calm = true
  tk : Takes X Wx

abbrev DE (X : Cx) (G : Gb) (B : Bs) (Wx : WX) (e : Expr) (m : M) : Prop := PE X e (lift G B Wx m)
abbrev DA (X : Cx) (G : Gb) (B : Bs) (Wx : WX) (e : List Expr) (m : MA) : Prop := PA X e (liftA G B Wx m)
abbrev DT (X : Cx) (G : Gb) (B : Bs) (Wx : WX) (e : Expr) (m : MT) : Prop := PT X e (liftT G B Wx m)
abbrev DW (X : Cx) (G : Gb) (B : Bs) (Wx : WX) (e : Expr) (m : MT) : Prop := PW X e (liftT G B Wx m)
abbrev NE (X : Cx) (G : Gb) (B : Bs) (Wx : WX) (e : Expr) (m : MA) : Prop := PE X e (liftN G B Wx m)

/-! ### operands: what is looked at, not kept -/
/-- a value that is looked at: a list that is written by one may stand here -/
def SD (G : Gb) (so : So) (W : Addr → Prop) (H : Hp) : D → V → Prop
  | .lst ds, v => ∃ a xs, v = .ref a ∧ ¬ Srcs so a ∧ H a = some (.lst xs) ∧ Dats G so W H ds xs
  | .non, v => v = .non
  | .bl b, v => v = .bl b
  | .int i, v => v = .int i
  | .str x, v => v = .str x
  | .ty n, v => v = .ty n
  | .tup ds, v => Dat G so W H (.tup ds) v
  | .dct kvs, v => Dat G so W H (.dct kvs) v
  | .obj c fs, v => Dat G so W H (.obj c fs) v
  | .cl c, v => Dat G so W H (.cl c) v
  | .src, v => Dat G so W H .src v
section
variable {G : Gb} {so : So} {W : Addr → Prop} {H H' : Hp}
theorem SD.of (hw : ∀ b, Srcs so b → W b) : ∀ {d : D} {v : V}, Dat G so W H d v → SD G so W H d v
  | .lst ds, v, h => by
    obtain ⟨a, xs, e, w, h1, h2⟩ := h
    exact ⟨a, xs, e, fun z => w (hw a z), h1, h2⟩
  | .non, v, h => h
  | .bl b, v, h => h
  | .int i, v, h => h
  | .str x, v, h => h
  | .ty n, v, h => h
  | .tup ds, v, h => h
  | .dct kvs, v, h => h
  | .obj c fs, v, h => h
  | .cl c, v, h => h
  | .src, v, h => h
theorem xgo (hw : ∀ b, Srcs so b → W b) (x : Xt so H H') : Go W H W H' := fun b o n e => ⟨n, x b o e fun z => n (hw b z)⟩
theorem SD.xt (hw : ∀ b, Srcs so b → W b) (x : Xt so H H') : ∀ {d : D} {v : V}, SD G so W H d v → SD G so W H' d v
  | .lst ds, v, h => by
    obtain ⟨a, xs, e, w, h1, h2⟩ := h
    exact ⟨a, xs, e, w, x a _ h1 w, Dats.go (xgo hw x) ds xs h2⟩
  | .non, v, h => h
  | .bl b, v, h => h
  | .int i, v, h => h
  | .str x, v, h => h
  | .ty n, v, h => h
  | .tup ds, v, h => Dat.go (xgo hw x) (.tup ds) v h
  | .dct kvs, v, h => Dat.go (xgo hw x) (.dct kvs) v h
  | .obj c fs, v, h => Dat.go (xgo hw x) (.obj c fs) v h
  | .cl c, v, h => h
  | .src, v, h => h
end
def liftO (G : Gb) (B : Bs) (Wx : WX) (m : M) : TE := fun σ H Q => ∃ W δ Qd Qx, Sok G B W σ H δ ∧ m δ Qd Qx ∧
  (∀ d v H', Qd d → Xt B.so H H' → SrcOk B.so H' → SD G B.so W H' d v → Q v H') ∧ (∀ x cls dd H', Qx x → Xt B.so H H' → SrcOk B.so H' → Exok G B.so W H' x cls dd → Wx cls dd σ H')
abbrev OE (X : Cx) (G : Gb) (B : Bs) (Wx : WX) (e : Expr) (m : M) : Prop := PE X e (liftO G B Wx m)
def liftOA (G : Gb) (B : Bs) (Wx : WX) (m : MA) : TA := fun σ H Q => ∃ W δ Qd Qx, Sok G B W σ H δ ∧ m δ Qd Qx ∧
  (∀ ds vs H', Qd ds → Xt B.so H H' → SrcOk B.so H' → Paired (fun d v => SD G B.so W H' d v) ds vs → Q vs H') ∧ (∀ x cls dd H', Qx x → Xt B.so H H' → SrcOk B.so H' → Exok G B.so W H' x cls dd → Wx cls dd σ H')
abbrev OA (X : Cx) (G : Gb) (B : Bs) (Wx : WX) (e : List Expr) (m : MA) : Prop := PA X e (liftOA G B Wx m)
theorem Exok.xt {G : Gb} {so : So} {W : Addr → Prop} {H H' : Hp} {x : Exn} {cls : Value} {d : Option Addr} (hw : ∀ b, Srcs so b → W b) (xt : Xt so H H') (h : Exok G so W H x cls d) : Exok G so W H' x cls d := by
  obtain ⟨e, h⟩ := h
  refine ⟨e, ?_⟩
  rcases h with h | ⟨dd, ps, e1, n, e2, f⟩
  · exact .inl h
  · exact .inr ⟨dd, ps, e1, n, xt dd _ e2 fun z => n (hw dd z), Datf.go (xgo hw xt) _ _ f⟩

section
variable {X : Cx} {G : Gb} {B : Bs} {Wx : WX} {k : Nat} {e a b c : Expr} {es : List Expr} {m ma mb mc : M} {ms : MA} {mt mu : MT} {pos : Pos}

theorem DE.o (h : DE X G B Wx e m) : OE X G B Wx e m := PE.weak h fun σ H Q ⟨W, δ, Qd, Qx, ok, hm, k, kx⟩ =>
  ⟨W, δ, Qd, Qx, ok, hm, fun d v H' q x s hd => k d v H' q x s (SD.of ok.sta.wsrc hd), kx⟩

/-! ### names, constants -/
@[simp] def mV (i : Nat) : M := fun δ Q _ => match δ[i]? with
  | some (some (.d d)) => Q d
  | _ => False
@[simp] def mO (i : Nat) : M := fun δ Q _ => match δ[i]? with
  | some (some (.d d)) => Q d
  | some (some (.own ds)) => Q (.lst ds)
  | _ => False
@[simp] def mC (d : D) : M := fun _ Q _ => Q d
theorem de_v (i : Nat) {x : Str} (hN : X.N[i]? = some x := by rfl) (hv : Vis X.env.scope x := by first | exact Or.inl rfl | exact Or.inr (Or.inl rfl) | exact Or.inr (Or.inr rfl)) (hd : (x == ("__debug__" : Str)) = false := by decide)
    (hcd : (x == ("__classdict__" : Str)) = false := by decide) : DE X G B Wx (.Name x pos) (mV i) := by
  refine PE.weak (pe_var hN hv hd hcd) fun σ H Q ⟨W, δ, Qd, Qx, ok, hm, k, _⟩ => ?_
  unfold mV at hm
  split at hm
  · rename_i d e
    obtain ⟨v, h1, h2⟩ := ok.slot i _ e
    exact ⟨v, h1, k d v H hm Xt.refl ok.sta.src h2⟩
  · exact hm.elim
theorem oe_v (i : Nat) {x : Str} (hN : X.N[i]? = some x := by rfl) (hv : Vis X.env.scope x := by first | exact Or.inl rfl | exact Or.inr (Or.inl rfl) | exact Or.inr (Or.inr rfl)) (hd : (x == ("__debug__" : Str)) = false := by decide)
    (hcd : (x == ("__classdict__" : Str)) = false := by decide) : OE X G B Wx (.Name x pos) (mO i) := by
  refine PE.weak (pe_var hN hv hd hcd) fun σ H Q ⟨W, δ, Qd, Qx, ok, hm, k, _⟩ => ?_
  unfold mO at hm
  split at hm
  · rename_i d e
    obtain ⟨v, h1, h2⟩ := ok.slot i _ e
    exact ⟨v, h1, k d v H hm Xt.refl ok.sta.src (SD.of ok.sta.wsrc h2)⟩
  · rename_i ds e
    obtain ⟨v, h1, a, xs, ev, h2, h3, h4, h5, h6, h7⟩ := ok.slot i _ e
    exact ⟨v, h1, k _ v H hm Xt.refl ok.sta.src ⟨a, xs, ev, h3, h6, h7⟩⟩
  · exact hm.elim
theorem de_int {i : Int} {j} : DE X G B Wx (.Constant (.int i) j pos) (mC (.int i)) := PE.weak pe_int fun σ H Q ⟨W, δ, Qd, Qx, ok, hm, k, _⟩ => k _ _ H hm Xt.refl ok.sta.src rfl
theorem de_bl {i : Bool} {j} : DE X G B Wx (.Constant (.bool i) j pos) (mC (.bl i)) := PE.weak pe_bl fun σ H Q ⟨W, δ, Qd, Qx, ok, hm, k, _⟩ => k _ _ H hm Xt.refl ok.sta.src rfl
theorem de_non {j} : DE X G B Wx (.Constant .none j pos) (mC .non) := PE.weak pe_non fun σ H Q ⟨W, δ, Qd, Qx, ok, hm, k, _⟩ => k _ _ H hm Xt.refl ok.sta.src rfl
theorem de_str {x : Str} {j} : DE X G B Wx (.Constant (.str x) j pos) (mC (.str x)) := PE.weak pe_str fun σ H Q ⟨W, δ, Qd, Qx, ok, hm, k, _⟩ => k _ _ H hm Xt.refl ok.sta.src rfl
/-- a module's constant -/
theorem de_glob {x : Str} {d : D} {v : V} {u : Value} (hg : Gl X x) (hm : X.mg x = some u) (r : RelV v u) (hd : ∀ so W H, Dat G so W H d v) (hdb : (x == ("__debug__" : Str)) = false := by decide) : DE X G B Wx (.Name x pos) (mC d) :=
  PE.weak (pe_glob hg hm r hdb) fun σ H Q ⟨W, δ, Qd, Qx, ok, hm, k, _⟩ => k _ _ H hm Xt.refl ok.sta.src (hd _ _ _)
theorem de_ty {x : Str} {n : String} (hg : Gl X x) (hm : X.mg x = none) (hv : bootBuiltins x = some (.type n)) (hn : x ≠ "__name__" := by decide) (hdb : (x == ("__debug__" : Str)) = false := by decide) : DE X G B Wx (.Name x pos) (mC (.ty n)) :=
  PE.weak (pe_bltn (v := .ty n) hg hm hv rfl hn hdb) fun σ H Q ⟨W, δ, Qd, Qx, ok, hm, k, _⟩ => k _ _ H hm Xt.refl ok.sta.src rfl

/-! ### two places -/
abbrev F2 := D → D → (D → Prop) → Prop
/-- by trees: the operands are looked at; the answer may be new -/
def rD (G : Gb) (so : So) (f : F2) : R2 := fun x y H Q => ∃ W d e Qd, (∀ b, W b → ∃ o, H b = some o) ∧ SD G so W H d x ∧ SD G so W H e y ∧ f d e Qd ∧ (∀ z v H', Qd z → Ext H H' → Dat G so W H' z v → Q v H')
@[simp] def mOp (f : F2) (ma mb : M) : M := fun δ Q X => ma δ (fun x => mb δ (fun y => f x y Q) X) X
theorem lift_op {f : F2} {σ : L2.St} {H : Hp} {Q : VK} (h : lift G B Wx (mOp f ma mb) σ H Q) : tOp (rD G B.so f) (liftO G B Wx ma) (liftO G B Wx mb) σ H Q := by
  obtain ⟨W, δ, Qd, Qx, ok, hm, k, kx⟩ := h
  refine ⟨W, δ, _, Qx, ok, hm, fun d v H1 q1 x1 s1 h1 => ?_, kx⟩
  have ok1 := ok.xt x1 s1
  refine ⟨W, δ, _, Qx, ok1, q1, fun e u H2 q2 x2 s2 h2 => ?_, fun y cls dd H' q x s ex => kx y cls dd H' q (x1.trans x) s ex⟩
  have ok2 := ok1.xt x2 s2
  exact ⟨W, d, e, Qd, ok2.sta.trk, h1.xt ok.sta.wsrc x2, h2, q2, fun z v H' q e hd => k z v H' q ((x1.trans x2).trans e.xt) (ok2.sta.src.ext fun b o _ q => e b o q) hd⟩
theorem de_op {op : Operator} {f : F2} (ho : OpR X (binaryOp op) (rD G B.so f)) (ha : OE X G B Wx a ma) (hb : OE X G B Wx b mb) : DE X G B Wx (.BinOp a op b pos) (mOp f ma mb) :=
  PE.weak (pe_op ho ha hb) fun σ H Q h => lift_op h
theorem de_cmp {op : CmpOp} {f : F2} (ho : OpR X (compareOp op) (rD G B.so f)) (ha : OE X G B Wx a ma) (hb : OE X G B Wx b mb) (hm : behindInMarks op b = false) : DE X G B Wx (.Compare a [op] [b] pos) (mOp f ma mb) :=
  PE.weak (pe_cmpR ho ha hb hm) fun σ H Q h => lift_op h
@[simp] def mTest (m : M) : MT := fun δ Q X => m δ (fun d => ∃ b, d = .bl b ∧ Q b) X
theorem lift_test {t : TE} {σ : L2.St} {H : Hp} {Q : Bool → Hp → Prop} (h : liftT G B Wx (mTest m) σ H Q) (ht : ∀ Q : VK, lift G B Wx m σ H Q → t σ H Q) : tTest t σ H Q := by
  obtain ⟨W, δ, Qd, Qx, ok, hm, k, kx⟩ := h
  refine ht _ ⟨W, δ, _, Qx, ok, hm, fun d v H1 q x s hd => ?_, kx⟩
  obtain ⟨c, rfl, q⟩ := q
  exact ⟨c, hd, k c H1 q x s⟩
theorem dt_cmp {op : CmpOp} {f : F2} (ho : OpR X (compareOp op) (rD G B.so f)) (ha : OE X G B Wx a ma) (hb : OE X G B Wx b mb) (hm : behindInMarks op b = false) : DT X G B Wx (.Compare a [op] [b] pos) (mTest (mOp f ma mb)) :=
  PT.weak (pt_cmpR ho ha hb hm) fun σ H Q h => lift_test h fun Q h => lift_op h
/-- an expression that gives a bool -/
theorem dt_val (h : DE X G B Wx e m) (he : ∀ whole, isTrue e X.env whole = (do let v ← whole; standAt e.pos; holding [v] (truthy v)) := by intro _; rfl) : DT X G B Wx e (mTest m) :=
  PT.weak (pt_val h he) fun σ H Q h => lift_test h fun Q h => h

/-! ### and, or, not -/
@[simp] def mAnd (ma mb : MT) : MT := fun δ Q X => ma δ (fun c => if c = true then mb δ Q X else Q false) X
@[simp] def mOr (ma mb : MT) : MT := fun δ Q X => ma δ (fun c => if c = true then Q true else mb δ Q X) X
@[simp] def mNot (ma : MT) : MT := fun δ Q X => ma δ (fun c => Q (!c)) X
theorem dw_and1 (ha : DT X G B Wx a mt) : DW X G B Wx (.BoolOp .And [a] pos) mt := pw_and1 ha
theorem dw_or1 (ha : DT X G B Wx a mt) : DW X G B Wx (.BoolOp .Or [a] pos) mt := pw_or1 ha
theorem dw_and {rest : List Expr} (ha : DT X G B Wx a mt) (hb : DW X G B Wx (.BoolOp .And (b :: rest) pos) mu) : DW X G B Wx (.BoolOp .And (a :: b :: rest) pos) (mAnd mt mu) := by
  refine PW.weak (pw_and ha hb) fun σ H Q ⟨W, δ, Qd, Qx, ok, hm, k, kx⟩ => ?_
  refine ⟨W, δ, _, Qx, ok, hm, fun c H1 q x s => ?_, kx⟩
  cases c with
  | true => exact ⟨W, δ, Qd, Qx, ok.xt x s, q, fun c' H2 q' x' s' => k c' H2 q' (x.trans x') s', fun y cls dd H' q' x' s' ex => kx y cls dd H' q' (x.trans x') s' ex⟩
  | false => exact k false H1 q x s
theorem dw_or {rest : List Expr} (ha : DT X G B Wx a mt) (hb : DW X G B Wx (.BoolOp .Or (b :: rest) pos) mu) : DW X G B Wx (.BoolOp .Or (a :: b :: rest) pos) (mOr mt mu) := by
  refine PW.weak (pw_or ha hb) fun σ H Q ⟨W, δ, Qd, Qx, ok, hm, k, kx⟩ => ?_
  refine ⟨W, δ, _, Qx, ok, hm, fun c H1 q x s => ?_, kx⟩
  cases c with
  | true => exact k true H1 q x s
  | false => exact ⟨W, δ, Qd, Qx, ok.xt x s, q, fun c' H2 q' x' s' => k c' H2 q' (x.trans x') s', fun y cls dd H' q' x' s' ex => kx y cls dd H' q' (x.trans x') s' ex⟩
theorem dt_w (h : DW X G B Wx e mt) : DT X G B Wx e mt := h.pt
theorem dt_not (ha : DT X G B Wx a mt) : DT X G B Wx (.UnaryOp .Not a pos) (mNot mt) := by
  refine PT.weak (pt_not ha) fun σ H Q ⟨W, δ, Qd, Qx, ok, hm, k, kx⟩ => ?_
  exact ⟨W, δ, _, Qx, ok, hm, fun c H1 q x s => k (!c) H1 q x s, kx⟩
/-- .. as values -/
@[simp] def mAndV (ma mb : M) : M := fun δ Q X => ma δ (fun x => ∃ c, x = .bl c ∧ if c = true then mb δ Q X else Q (.bl false)) X
@[simp] def mOrV (ma mb : M) : M := fun δ Q X => ma δ (fun x => ∃ c, x = .bl c ∧ if c = true then Q (.bl true) else mb δ Q X) X
@[simp] def mNotV (ma : M) : M := fun δ Q X => ma δ (fun x => ∃ c, x = .bl c ∧ Q (.bl (!c))) X
theorem de_one {op} (ha : DE X G B Wx a ma) : DE X G B Wx (.BoolOp op [a] pos) ma := pe_one ha
theorem de_and {rest : List Expr} (ha : DE X G B Wx a ma) (hb : DE X G B Wx (.BoolOp .And (b :: rest) pos) mb) : DE X G B Wx (.BoolOp .And (a :: b :: rest) pos) (mAndV ma mb) := by
  refine PE.weak (pe_and ha hb) fun σ H Q ⟨W, δ, Qd, Qx, ok, hm, k, kx⟩ => ?_
  refine ⟨W, δ, _, Qx, ok, hm, fun c v H1 q x s hd => ?_, kx⟩
  obtain ⟨c', rfl, q⟩ := q
  refine ⟨c', hd, ?_⟩
  cases c' with
  | true => exact ⟨W, δ, Qd, Qx, ok.xt x s, q, fun c' v' H2 q' x' s' => k c' v' H2 q' (x.trans x') s', fun y cls dd H' q' x' s' ex => kx y cls dd H' q' (x.trans x') s' ex⟩
  | false => exact k _ _ H1 q x s rfl
theorem de_or {rest : List Expr} (ha : DE X G B Wx a ma) (hb : DE X G B Wx (.BoolOp .Or (b :: rest) pos) mb) : DE X G B Wx (.BoolOp .Or (a :: b :: rest) pos) (mOrV ma mb) := by
  refine PE.weak (pe_or ha hb) fun σ H Q ⟨W, δ, Qd, Qx, ok, hm, k, kx⟩ => ?_
  refine ⟨W, δ, _, Qx, ok, hm, fun c v H1 q x s hd => ?_, kx⟩
  obtain ⟨c', rfl, q⟩ := q
  refine ⟨c', hd, ?_⟩
  cases c' with
  | true => exact k _ _ H1 q x s rfl
  | false => exact ⟨W, δ, Qd, Qx, ok.xt x s, q, fun c' v' H2 q' x' s' => k c' v' H2 q' (x.trans x') s', fun y cls dd H' q' x' s' ex => kx y cls dd H' q' (x.trans x') s' ex⟩
theorem de_not (ha : DE X G B Wx a ma) : DE X G B Wx (.UnaryOp .Not a pos) (mNotV ma) := by
  refine PE.weak (pe_not ha) fun σ H Q ⟨W, δ, Qd, Qx, ok, hm, k, kx⟩ => ?_
  refine ⟨W, δ, _, Qx, ok, hm, fun c v H1 q x s hd => ?_, kx⟩
  obtain ⟨c', rfl, q⟩ := q
  exact ⟨c', hd, k _ _ H1 q x s rfl⟩
@[simp] def mIf (mt : MT) (ma mb : M) : M := fun δ Q X => mt δ (fun c => if c = true then ma δ Q X else mb δ Q X) X
theorem de_if (hc : DT X G B Wx c mt) (ha : DE X G B Wx a ma) (hb : DE X G B Wx b mb) : DE X G B Wx (.IfExp c a b pos) (mIf mt ma mb) := by
  refine PE.weak (pe_ifExp hc ha hb) fun σ H Q ⟨W, δ, Qd, Qx, ok, hm, k, kx⟩ => ?_
  refine ⟨W, δ, _, Qx, ok, hm, fun c H1 q x s => ?_, kx⟩
  cases c with
  | true => exact ⟨W, δ, Qd, Qx, ok.xt x s, q, fun c' v' H2 q' x' s' => k c' v' H2 q' (x.trans x') s', fun y cls dd H' q' x' s' ex => kx y cls dd H' q' (x.trans x') s' ex⟩
  | false => exact ⟨W, δ, Qd, Qx, ok.xt x s, q, fun c' v' H2 q' x' s' => k c' v' H2 q' (x.trans x') s', fun y cls dd H' q' x' s' ex => kx y cls dd H' q' (x.trans x') s' ex⟩

/-! ### arguments, displays -/
@[simp] def mNil : MA := fun _ Q _ => Q []
@[simp] def mCons (ma : M) (ms : MA) : MA := fun δ Q X => ma δ (fun d => ms δ (fun ds => Q (d :: ds)) X) X
theorem da_nil : DA X G B Wx [] mNil := PA.weak pa_nil fun σ H Q ⟨W, δ, Qd, Qx, ok, hm, k, _⟩ => k [] [] H hm Xt.refl ok.sta.src rfl
theorem da_cons (ha : DE X G B Wx e m) (hr : DA X G B Wx es ms) (hs : starEach (e :: es) X.env = (false, eval e X.env) :: starEach es X.env := by rfl) : DA X G B Wx (e :: es) (mCons m ms) := by
  refine PA.weak (pa_cons ha hr hs) fun σ H Q ⟨W, δ, Qd, Qx, ok, hm, k, kx⟩ => ?_
  refine ⟨W, δ, _, Qx, ok, hm, fun d v H1 q x s hd => ?_, kx⟩
  refine ⟨W, δ, _, Qx, ok.xt x s, q, fun ds vs H2 q' x' s' hds => ?_, fun y cls dd H' q' x' s' ex => kx y cls dd H' q' (x.trans x') s' ex⟩
  exact k _ _ H2 q' (x.trans x') s' (Dats.cons (Dat.go (xgo ok.sta.wsrc x') d v hd) hds)
theorem oa_nil : OA X G B Wx [] mNil := PA.weak pa_nil fun σ H Q ⟨W, δ, Qd, Qx, ok, hm, k, _⟩ => k [] [] H hm Xt.refl ok.sta.src .nil
theorem pairedXt {so : So} {W : Addr → Prop} {H H' : Hp} (hw : ∀ b, Srcs so b → W b) (x : Xt so H H') {ds : List D} {vs : List V} (h : Paired (fun d v => SD G so W H d v) ds vs) : Paired (fun d v => SD G so W H' d v) ds vs := Paired.mapP h fun d v q => q.xt hw x
theorem oa_cons (ha : OE X G B Wx e m) (hr : OA X G B Wx es ms) (hs : starEach (e :: es) X.env = (false, eval e X.env) :: starEach es X.env := by rfl) : OA X G B Wx (e :: es) (mCons m ms) := by
  refine PA.weak (pa_cons ha hr hs) fun σ H Q ⟨W, δ, Qd, Qx, ok, hm, k, kx⟩ => ?_
  refine ⟨W, δ, _, Qx, ok, hm, fun d v H1 q x s hd => ?_, kx⟩
  refine ⟨W, δ, _, Qx, ok.xt x s, q, fun ds vs H2 q' x' s' hds => ?_, fun y cls dd H' q' x' s' ex => kx y cls dd H' q' (x.trans x') s' ex⟩
  exact k _ _ H2 q' (x.trans x') s' (.cons (hd.xt ok.sta.wsrc x') hds)
@[simp] def mTup (ms : MA) : M := fun δ Q X => ms δ (fun ds => ds.length ≤ 1000000 ∧ Q (.tup ds)) X
@[simp] def mLst (ms : MA) : MA := fun δ Q X => ms δ (fun ds => ds.length ≤ 1000000 ∧ Q ds) X
theorem sz6 {n : Nat} (h : n ≤ 1000000) : n ≤ sizeLine := Nat.le_trans h (by rw [sizeLine_eq]; decide)
theorem de_tup {x1} (h : DA X G B Wx es ms) : DE X G B Wx (.Tuple es x1 pos) (mTup ms) := by
  refine PE.weak (pe_tup h) fun σ H Q ⟨W, δ, Qd, Qx, ok, hm, k, kx⟩ => ?_
  refine ⟨W, δ, _, Qx, ok, hm, fun ds vs H1 q x s hds => ?_, kx⟩
  refine ⟨by rw [hds.length]; exact sz6 q.1, fun p hp => k _ _ _ q.2 (x.trans (Ext.new hp).xt) (s.ext fun b o _ q => Ext.new hp b o q) ⟨p, vs, rfl, .inl ⟨(ok.xt x s).sta.nw hp, upd_same⟩, Dats.go (Ext.go (Ext.new hp)) ds vs hds⟩⟩
theorem ne_lst (h : DA X G B Wx es ms) : NE X G B Wx (.List es pos) (mLst ms) := by
  refine PE.weak (pe_lst h) fun σ H Q ⟨W, δ, Qd, Qx, ok, hm, k, kx⟩ => ?_
  refine ⟨W, δ, _, Qx, ok, hm, fun ds vs H1 q x s hds => ?_, kx⟩
  have ok1 := ok.xt x s
  refine ⟨by rw [hds.length]; exact sz6 q.1, fun p hp => k ds p vs _ q.2 (x.back hp (ok1.sta.nsrc (ok1.sta.nw hp))) (x.trans (Ext.new hp).xt) (s.ext fun b o _ q => Ext.new hp b o q) upd_same (Dats.go (fun b o n eb => ⟨fun z => z.elim (ne_of_none eb hp) n, Ext.new hp b o eb⟩) ds vs hds)⟩
/-- a new list as a value -/
@[simp] def mN (ms : MA) : M := fun δ Q X => ms δ (fun ds => Q (.lst ds)) X
theorem NE.d (h : NE X G B Wx e ms) : DE X G B Wx e (mN ms) := by
  refine PE.weak h fun σ H Q ⟨W, δ, Qd, Qx, ok, hm, k, kx⟩ => ?_
  refine ⟨W, δ, _, Qx, ok, hm, fun ds p xs H1 q hp x s hl hds => ?_, kx⟩
  exact k _ _ H1 q x s ⟨p, xs, rfl, ok.sta.nw hp, hl, Dats.go (go_less fun b w => .inr w) ds xs hds⟩

/-! ### calls of the text's own defs -/
abbrev Spec := List D → (D → Prop) → (Exn → Prop) → Prop
def spOf (G : Gb) (f : Spec) : Sp := fun vs H Q E => ∃ so W ds Qd Qx, Sta ⟨so, H, W⟩ W H ∧ Dats G so W H ds vs ∧ f ds Qd Qx ∧
  (∀ W' d v H', Qd d → Sta ⟨so, H, W⟩ W' H' → Dat G so W' H' d v → Q v H') ∧ (∀ W' x cls dd H', Qx x → Sta ⟨so, H, W⟩ W' H' → Exok G so W' H' x cls dd → E cls dd H')
@[simp] def mCall (f : Spec) (ms : MA) : M := fun δ Q X => ms δ (fun ds => f ds Q X) X
theorem Sta.self {W : Addr → Prop} {H : Hp} (h : Sta B W H) : Sta ⟨B.so, H, W⟩ W H := ⟨fun _ _ e _ => e, h.src, h.trk, h.wsrc, fun _ w => w⟩
theorem de_call {f : Spec} {x : Str} {fa : Addr} {fd : FuncData} {ps : List Str} {p : Pos} {kf : Nat} (g : Gd X G Wx k) (F : FnOk X.prog X.w X.K X.mg X.base (L2.CX X.prog X.w) kf fa fd ps (spOf G f)) (hk : kf ≤ k) (hm : X.mg x = some (.ref fa)) (kp : PySem.W.keepIn X.K (.ref fa) = true) (hb : Binds X.K fd ps [])
    (ha : DA X G B Wx (e :: es) ms) (hg : Gl X x := by rfl) (hdb : (x == ("__debug__" : Str)) = false := by decide) (he : starEach (e :: es) X.env = (false, eval e X.env) :: starEach es X.env := by rfl) (hpl : (backTo pos (starEach es X.env)).any (·.1) = false := by rfl) :
    DE X G B Wx (.Call (.Name x p) (e :: es) [] pos) (mCall f ms) := by
  refine PE.weak (pe_callS F (g.room.mono hk) hg hm kp hb (fun σ => passAt g.tk σ) ha hdb he hpl) fun σ H Q ⟨W, δ, Qd, Qx, ok, hm, k, kx⟩ => ?_
  refine ⟨W, δ, _, Qx, ok, hm, fun ds vs H1 q x s hds => ?_, kx⟩
  have ok1 := ok.xt x s
  refine ⟨B.so, W, ds, Qd, Qx, ok1.sta.self, hds, q, fun W' d v H' q' st hd => ?_, fun W' y cls dd H' q' st ex => ?_⟩
  · have xx : Xt B.so H1 H' := fun b o eb n => st.keep b o eb n
    exact k d v H' q' (x.trans xx) st.src (Dat.go (go_less st.wold) d v hd)
  · have xx : Xt B.so H1 H' := fun b o eb n => st.keep b o eb n
    refine kx y cls dd H' q' (x.trans xx) st.src ?_
    obtain ⟨e1, e2⟩ := ex
    refine ⟨e1, ?_⟩
    rcases e2 with e2 | ⟨a, ps, h1, h2, h3, h4⟩
    · exact .inl e2
    · exact .inr ⟨a, ps, h1, fun z => h2 (st.wold a z), h3, Datf.go (go_less st.wold) _ _ h4⟩

/-! ### built-ins by values -/
abbrev F1 := List D → (D → Prop) → Prop
def rDs (G : Gb) (so : So) (f : F1) : List V → Hp → VK → Prop := fun xs H Q => ∃ W ds Qd, (∀ b, W b → ∃ o, H b = some o) ∧ Paired (fun d v => SD G so W H d v) ds xs ∧ f ds Qd ∧ (∀ z v H', Qd z → Ext H H' → Dat G so W H' z v → Q v H')
@[simp] def mBi (f : F1) (ms : MA) : M := fun δ Q X => ms δ (fun ds => f ds Q) X
theorem lift_bi {f : F1} {σ : L2.St} {H : Hp} {Q : VK} (h : lift G B Wx (mBi f ms) σ H Q) : tCB (rDs G B.so f) (liftOA G B Wx ms) σ H Q := by
  obtain ⟨W, δ, Qd, Qx, ok, hm, k, kx⟩ := h
  refine ⟨W, δ, _, Qx, ok, hm, fun ds vs H1 q x s hds => ?_, kx⟩
  have ok1 := ok.xt x s
  exact ⟨W, ds, Qd, ok1.sta.trk, hds, q, fun z v H' q e hd => k z v H' q (x.trans e.xt) (s.ext fun b o _ q => e b o q) hd⟩
theorem de_bi {f : F1} {id : String} {x : Str} {p : Pos} (hc : CallR X (.builtin id) (rDs G B.so f)) (hm : X.mg x = none) (hv : bootBuiltins x = some (.builtin id)) (ha : OA X G B Wx (e :: es) ms) (hg : Gl X x := by rfl) (hn : x ≠ "__name__" := by decide) (hdb : (x == ("__debug__" : Str)) = false := by decide)
    (he : starEach (e :: es) X.env = (false, eval e X.env) :: starEach es X.env := by rfl) (hpl : (backTo pos (starEach es X.env)).any (·.1) = false := by rfl) : DE X G B Wx (.Call (.Name x p) (e :: es) [] pos) (mBi f ms) :=
  PE.weak (pe_callB hc hg hm hv ha hn hdb he hpl) fun σ H Q h => lift_bi h
theorem de_biT {f : F1} {id : String} {x : Str} {p : Pos} (hc : CallR X (.type id) (rDs G B.so f)) (hm : X.mg x = none) (hv : bootBuiltins x = some (.type id)) (ha : OA X G B Wx (e :: es) ms) (hg : Gl X x := by rfl) (hn : x ≠ "__name__" := by decide) (hdb : (x == ("__debug__" : Str)) = false := by decide)
    (he : starEach (e :: es) X.env = (false, eval e X.env) :: starEach es X.env := by rfl) (hpl : (backTo pos (starEach es X.env)).any (·.1) = false := by rfl) : DE X G B Wx (.Call (.Name x p) (e :: es) [] pos) (mBi f ms) :=
  PE.weak (pe_callTy hc hg hm hv ha hn hdb he hpl) fun σ H Q h => lift_bi h
end
end Ct

set_option Elab.async false
set_option linter.all false
set_option maxRecDepth 100000
set_option maxHeartbeats 4000000
namespace Ct
open PySem PySem.Spec PyProof.Rows L2

/-! ### plain data -/
mutual
def toPy : D → Option PyData
  | .non => some .none
  | .bl b => some (.bool b)
  | .int i => some (.int i)
  | .str x => some (.str x)
  | .lst ds => (toPys ds).map .list
  | .tup ds => (toPys ds).map .tuple
  | .ty _ => none
  | .dct _ => none
  | .obj _ _ => none
  | .cl _ => none
  | .src => none
def toPys : List D → Option (List PyData)
  | [] => some []
  | d :: ds => match toPy d, toPys ds with
    | some p, some ps => some (p :: ps)
    | _, _ => none
end
section
variable {G : Gb} {so : So} {W : Addr → Prop} {H : Hp}
theorem sqT_of {a : Addr} {xs : List V} (h : (¬ W a ∧ H a = some (.tup xs)) ∨ Kt G.K a xs) : SqT G.K H a xs := h.elim (fun z => SqT.of z.2) fun z => .inr z
mutual
theorem Dat.dp : ∀ (d : D) {v : V} {p : PyData}, Dat G so W H d v → toPy d = some p → Dp G.K H v p
  | .non, v, p, h, e => by cases h; cases e; exact .non
  | .bl b, v, p, h, e => by cases h; cases e; exact .bl b
  | .int i, v, p, h, e => by cases h; cases e; exact .int i
  | .str x, v, p, h, e => by cases h; cases e; exact .str x
  | .lst ds, v, p, h, e => by
    obtain ⟨a, xs, rfl, w, ha, hd⟩ := h
    obtain ⟨ps, e1, rfl⟩ := Option.map_eq_some_iff.mp e
    exact .lst (SqL.of ha) (Dats.dp ds hd e1)
  | .tup ds, v, p, h, e => by
    obtain ⟨a, xs, rfl, w, hd⟩ := h
    obtain ⟨ps, e1, rfl⟩ := Option.map_eq_some_iff.mp e
    exact .tup (sqT_of w) (Dats.dp ds hd e1)
  | .ty _, v, p, h, e => by cases e
  | .dct _, v, p, h, e => by cases e
  | .obj _ _, v, p, h, e => by cases e
  | .cl _, v, p, h, e => by cases e
  | .src, v, p, h, e => by cases e
theorem Dats.dp : ∀ (ds : List D) {vs : List V} {ps : List PyData}, Dats G so W H ds vs → toPys ds = some ps → DpAll G.K H vs ps
  | [], vs, ps, h, e => by cases h; cases e; exact .nil
  | d :: ds, vs, ps, h, e => by
    obtain ⟨v, r, rfl, h1, h2⟩ := h
    unfold toPys at e
    split at e
    · rename_i p ps' e1 e2
      cases e
      exact .cons (Dat.dp d h1 e1) (Dats.dp ds h2 e2)
    · cases e
end
theorem SD.dp {d : D} {v : V} {p : PyData} (h : SD G so W H d v) (e : toPy d = some p) : Dp G.K H v p := by
  cases d with
  | lst ds =>
    obtain ⟨a, xs, rfl, w, ha, hd⟩ := h
    obtain ⟨ps, e1, rfl⟩ := Option.map_eq_some_iff.mp e
    exact .lst (SqL.of ha) (Dats.dp ds hd e1)
  | non => cases h; cases e; exact .non
  | bl b => cases h; cases e; exact .bl b
  | int i => cases h; cases e; exact .int i
  | str x => cases h; cases e; exact .str x
  | tup ds => exact Dat.dp _ h e
  | _ => cases e
theorem nwOf {W : Addr → Prop} {H : Hp} {r : Addr} (trk : ∀ b, W b → ∃ o, H b = some o) (hr : H r = none) : ¬ W r := fun w => by
  obtain ⟨o, z⟩ := trk r w
  rw [hr] at z
  cases z
end
/-! ### operators by trees -/
@[simp] def addD : F2
  | .int i, .int j, Q => Q (.int (i + j))
  | .str s, .str t, Q => s.length + t.length ≤ 1000000 ∧ Q (.str (s ++ t))
  | .lst s, .lst t, Q => s.length + t.length ≤ 1000000 ∧ Q (.lst (s ++ t))
  | .tup s, .tup t, Q => s.length + t.length ≤ 1000000 ∧ Q (.tup (s ++ t))
  | _, _, _ => False
@[simp] def subD : F2
  | .int i, .int j, Q => Q (.int (i - j))
  | _, _, _ => False
/-- one of the two below 2 ^ 64 -/
def mulD : F2
  | .int i, .int j, Q => ((-(2 ^ 64) < i ∧ i < 2 ^ 64) ∨ (-(2 ^ 64) < j ∧ j < 2 ^ 64)) ∧ Q (.int (i * j))
  | .lst s, .int j, Q => 0 ≤ j ∧ j ≤ 1000000 ∧ s.length * j.toNat ≤ 1000000 ∧ Q (.lst (List.replicate j.toNat s).flatten)
  | _, _, _ => False
def modD : F2
  | .int i, .int j, Q => 0 < j ∧ Q (.int (i % j))
  | _, _, _ => False
def fdivD : F2
  | .int i, .int j, Q => (0 < j ∧ j < 1073741824) ∧ Q (.int (i / j))
  | _, _, _ => False
@[simp] def ordD (p : Int → Int → Bool) (q : List Nat → List Nat → Bool) : F2
  | .int i, .int j, Q => Q (.bl (p i j))
  | .str s, .str t, Q => Q (.bl (q s.cps.toList t.cps.toList))
  | _, _, _ => False
@[simp] def eqG (n : Bool → Bool) : F2
  | .int i, .int j, Q => Q (.bl (n (decide (i = j))))
  | .str s, .str t, Q => Q (.bl (n (decide (s = t))))
  | d, e, Q => ∃ p q, toPy d = some p ∧ toPy e = some q ∧ SeqAt.shaped p = true ∧ SeqAt.shaped q = true ∧ Q (.bl (n (PyData.eqv p q)))
@[simp] def inG (n : Bool → Bool) : F2
  | .str s, .str t, Q => ∃ c, s = ⟨#[c]⟩ ∧ Q (.bl (n (decide (c ∈ t.cps.toList))))
  | d, .lst es, Q => ∃ p ps, toPy d = some p ∧ toPys es = some ps ∧ SeqAt.shaped p = true ∧ SeqAt.shaped (.list ps) = true ∧ Q (.bl (n (ps.any fun z => PyData.eqv z p)))
  | _, _, _ => False
def isNG (n : Bool → Bool) : F2
  | .non, .non, Q => Q (.bl (n true))
  | .bl _, .non, Q => Q (.bl (n false))
  | .int _, .non, Q => Q (.bl (n false))
  | .str _, .non, Q => Q (.bl (n false))
  | .lst _, .non, Q => Q (.bl (n false))
  | .tup _, .non, Q => Q (.bl (n false))
  | .dct _, .non, Q => Q (.bl (n false))
  | .obj _ _, .non, Q => Q (.bl (n false))
  | _, _, _ => False
@[simp] def idxD : F2
  | .lst ds, .int i, Q => ∃ d, atI ds i = some d ∧ Q d
  | .tup ds, .int i, Q => ∃ d, atI ds i = some d ∧ Q d
  | .str s, .int i, Q => s.length ≤ 1000000 ∧ ∃ c, atI s.cps.toList i = some c ∧ Q (.str ⟨#[c]⟩)
  | _, _, _ => False
section
variable {X : Cx} {G : Gb} {so : So}
theorem ixN_len {α β : Type} {xs : List α} {ys : List β} (h : xs.length = ys.length) (i : Int) : ixN xs.length i = ixN ys.length i := by rw [h]
theorem atI_dats {W : Addr → Prop} {H : Hp} {ds : List D} {xs : List V} {i : Int} {d : D} (hd : Dats G so W H ds xs) (h : atI ds i = some d) : ∃ v, atI xs i = some v ∧ Dat G so W H d v := by
  unfold atI at h ⊢
  rw [hd.length]
  cases e : ixN ds.length i with
  | none => rw [e] at h; cases h
  | some j =>
    rw [e] at h
    obtain ⟨v, h1, h2⟩ := hd.get (show ds[j]? = some d from h)
    exact ⟨v, h1, h2⟩
theorem opD_add (g : X.K = G.K) : OpR X (binaryOp .Add) (rD G so addD) := by
  intro pins s σ H x y v u Q I rx ry ⟨W, d, e, Qd, trk, hx, hy, hf, k⟩
  cases d with
  | int i =>
    cases e with
    | int j => exact op_add pins s σ H x y v u Q I rx ry ⟨i, j, hx, hy, k _ _ H hf Ext.refl rfl⟩
    | _ => exact (show False from hf).elim
  | str a =>
    cases e with
    | str b => exact op_add_str pins s σ H x y v u Q I rx ry ⟨a, b, hx, hy, sz6 hf.1, k _ _ H hf.2 Ext.refl rfl⟩
    | _ => exact (show False from hf).elim
  | lst a =>
    cases e with
    | lst b =>
      obtain ⟨p, xs, rfl, w1, h1, d1⟩ := hx
      obtain ⟨q, ys, rfl, w2, h2, d2⟩ := hy
      refine op_cat pins s σ H _ _ v u Q I rx ry ⟨p, q, xs, ys, rfl, rfl, h1, h2, by rw [d1.length, d2.length]; exact sz6 hf.1, fun r hr => ?_⟩
      exact k _ _ _ hf.2 (Ext.new hr) ⟨r, _, rfl, nwOf trk hr, upd_same, Dats.go (Ext.go (Ext.new hr)) _ _ (d1.append d2)⟩
    | _ => exact (show False from hf).elim
  | tup a =>
    cases e with
    | tup b =>
      obtain ⟨p, xs, rfl, w1, d1⟩ := hx
      obtain ⟨q, ys, rfl, w2, d2⟩ := hy
      refine op_catA pins s σ H _ _ v u Q I rx ry ⟨p, q, xs, ys, rfl, rfl, by rw [g]; exact sqT_of w1, by rw [g]; exact sqT_of w2, by rw [d1.length, d2.length]; exact sz6 hf.1, fun e => ?_, fun e1 e2 => ?_, fun e1 e2 r hr => ?_⟩
      · subst e
        have : a = [] := List.length_eq_zero_iff.mp d1.length.symm
        subst this
        exact k _ _ H hf.2 Ext.refl ⟨q, ys, rfl, w2, d2⟩
      · subst e2
        have : b = [] := List.length_eq_zero_iff.mp d2.length.symm
        subst this
        refine k _ _ H hf.2 Ext.refl ⟨p, xs, rfl, w1, ?_⟩
        rw [List.append_nil]; exact d1
      · exact k _ _ _ hf.2 (Ext.new hr) ⟨r, _, rfl, .inl ⟨nwOf trk hr, upd_same⟩, Dats.go (Ext.go (Ext.new hr)) _ _ (d1.append d2)⟩
    | _ => exact (show False from hf).elim
  | _ => exact (show False from hf).elim
theorem opD_sub : OpR X (binaryOp .Sub) (rD G so subD) := by
  intro pins s σ H x y v u Q I rx ry ⟨W, d, e, Qd, trk, hx, hy, hf, k⟩
  cases d with
  | int i =>
    cases e with
    | int j => exact op_sub pins s σ H x y v u Q I rx ry ⟨i, j, hx, hy, k _ _ H hf Ext.refl rfl⟩
    | _ => exact (show False from hf).elim
  | _ => exact (show False from hf).elim
theorem opD_mul : OpR X (binaryOp .Mult) (rD G so mulD) := by
  intro pins s σ H x y v u Q I rx ry ⟨W, d, e, Qd, trk, hx, hy, hf, k⟩
  cases d with
  | int i =>
    cases e with
    | int j => exact op_mul pins s σ H x y v u Q I rx ry ⟨i, j, hx, hy, hf.1, k _ _ H hf.2 Ext.refl rfl⟩
    | _ => exact (show False from hf).elim
  | lst a =>
    cases e with
    | int j =>
      obtain ⟨p, xs, rfl, w1, h1, d1⟩ := hx
      obtain ⟨f1, f2, f3, f4⟩ := hf
      refine op_rep pins s σ H _ _ v u Q I rx ry ⟨p, j, xs, rfl, hy, h1, by omega, by omega, by rw [d1.length]; exact sz6 f3, fun r hr => ?_⟩
      have key : ∀ n : Nat, Dats G so W (upd H r (.lst (List.replicate j.toNat xs).flatten)) (List.replicate n a).flatten (List.replicate n xs).flatten := by
        intro n
        induction n with
        | zero => exact rfl
        | succ n ih =>
          rw [List.replicate_succ, List.replicate_succ, List.flatten_cons, List.flatten_cons]
          exact Dats.append (Dats.go (Ext.go (Ext.new hr)) _ _ d1) ih
      exact k _ _ _ f4 (Ext.new hr) ⟨r, _, rfl, nwOf trk hr, upd_same, key _⟩
    | _ => exact (show False from hf).elim
  | _ => exact (show False from hf).elim
theorem opD_mod : OpR X (binaryOp .Mod) (rD G so modD) := by
  intro pins s σ H x y v u Q I rx ry ⟨W, d, e, Qd, trk, hx, hy, hf, k⟩
  cases d with
  | int i =>
    cases e with
    | int j => exact op_mod pins s σ H x y v u Q I rx ry ⟨i, j, hx, hy, hf.1, k _ _ H hf.2 Ext.refl rfl⟩
    | _ => exact (show False from hf).elim
  | _ => exact (show False from hf).elim
theorem opD_fdiv : OpR X (binaryOp .FloorDiv) (rD G so fdivD) := by
  intro pins s σ H x y v u Q I rx ry ⟨W, d, e, Qd, trk, hx, hy, hf, k⟩
  cases d with
  | int i =>
    cases e with
    | int j => exact op_fdiv pins s σ H x y v u Q I rx ry ⟨i, j, hx, hy, hf.1, k _ _ H hf.2 Ext.refl rfl⟩
    | _ => exact (show False from hf).elim
  | _ => exact (show False from hf).elim
theorem opD_ord {op : CmpOp} {p : Int → Int → Bool} {q : List Nat → List Nat → Bool} (h1 : OpR X (compareOp op) (rI0 fun i j => .bl (p i j))) (h2 : OpR X (compareOp op) (fun x y H Q => ∃ i j, x = .str i ∧ y = .str j ∧ Q (.bl (q i.cps.toList j.cps.toList)) H)) :
    OpR X (compareOp op) (rD G so (ordD p q)) := by
  intro pins s σ H x y v u Q I rx ry ⟨W, d, e, Qd, trk, hx, hy, hf, k⟩
  cases d with
  | int i =>
    cases e with
    | int j => exact h1 pins s σ H x y v u Q I rx ry ⟨i, j, hx, hy, k _ _ H hf Ext.refl rfl⟩
    | _ => exact (show False from hf).elim
  | str i =>
    cases e with
    | str j => exact h2 pins s σ H x y v u Q I rx ry ⟨i, j, hx, hy, k _ _ H hf Ext.refl rfl⟩
    | _ => exact (show False from hf).elim
  | _ => exact (show False from hf).elim
abbrev ltD : F2 := ordD (fun i j => decide (i < j)) fun a b => decide (a < b)
abbrev leD : F2 := ordD (fun i j => decide (i ≤ j)) fun a b => !decide (b < a)
abbrev gtD : F2 := ordD (fun i j => decide (j < i)) fun a b => decide (b < a)
abbrev geD : F2 := ordD (fun i j => decide (j ≤ i)) fun a b => !decide (a < b)
theorem opD_lt : OpR X (compareOp .Lt) (rD G so ltD) := opD_ord op_lt op_lt_str
theorem opD_le : OpR X (compareOp .LtE) (rD G so leD) := opD_ord op_le op_le_str
theorem opD_gt : OpR X (compareOp .Gt) (rD G so gtD) := opD_ord op_gt op_gt_str
theorem opD_ge : OpR X (compareOp .GtE) (rD G so geD) := opD_ord op_ge op_ge_str
abbrev eqD : F2 := eqG id
abbrev neD : F2 := eqG not
theorem opD_eqG {op : CmpOp} {n : Bool → Bool} (h1 : OpR X (compareOp op) (fun x y H Q => scal x y = true ∧ Q (.bl (n (decide (x = y)))) H)) (h2 : OpR X (compareOp op) (fun x y H Q => ∃ d e, Dp X.K H x d ∧ Dp X.K H y e ∧ SeqAt.shaped d = true ∧ SeqAt.shaped e = true ∧ Q (.bl (n (PyData.eqv d e))) H))
    (g : X.K = G.K) : OpR X (compareOp op) (rD G so (eqG n)) := by
  intro pins s σ H x y v u Q I rx ry ⟨W, d, e, Qd, trk, hx, hy, hf, k⟩
  unfold eqG at hf
  split at hf
  · cases hx
    cases hy
    rename_i i j
    refine h1 pins s σ H _ _ v u Q I rx ry ⟨rfl, ?_⟩
    have e2 : decide (V.int i = V.int j) = decide (i = j) := by simp
    rw [e2]
    exact k _ _ H hf Ext.refl rfl
  · cases hx
    cases hy
    rename_i i j
    refine h1 pins s σ H _ _ v u Q I rx ry ⟨rfl, ?_⟩
    have e2 : decide (V.str i = V.str j) = decide (i = j) := by simp
    rw [e2]
    exact k _ _ H hf Ext.refl rfl
  · obtain ⟨p, q, e1, e2, s1, s2, hq⟩ := hf
    exact h2 pins s σ H x y v u Q I rx ry ⟨p, q, by rw [g]; exact hx.dp e1, by rw [g]; exact hy.dp e2, s1, s2, k _ _ H hq Ext.refl rfl⟩
theorem opD_eq (g : X.K = G.K) (hu : X.A.units + 64 < cLine) : OpR X (compareOp .Eq) (rD G so eqD) := opD_eqG op_eq (op_eqD hu) g
theorem opD_ne (g : X.K = G.K) (hu : X.A.units + 64 < cLine) : OpR X (compareOp .NotEq) (rD G so neD) := opD_eqG op_ne (op_neD hu) g
abbrev inD : F2 := inG id
abbrev ninD : F2 := inG not
theorem opD_inG {op : CmpOp} {n : Bool → Bool} (h1 : OpR X (compareOp op) (fun x y H Q => ∃ (c : Nat) (z : Str), x = .str ⟨#[c]⟩ ∧ y = .str z ∧ Q (.bl (n (decide (c ∈ z.cps.toList)))) H))
    (h2 : OpR X (compareOp op) (fun x y H Q => ∃ d ds, Dp X.K H x d ∧ Dp X.K H y (.list ds) ∧ SeqAt.shaped d = true ∧ SeqAt.shaped (.list ds) = true ∧ Q (.bl (n (ds.any fun z => PyData.eqv z d))) H))
    (g : X.K = G.K) : OpR X (compareOp op) (rD G so (inG n)) := by
  intro pins s σ H x y v u Q I rx ry ⟨W, d, e, Qd, trk, hx, hy, hf, k⟩
  unfold inG at hf
  split at hf
  · obtain ⟨c, rfl, q⟩ := hf
    exact h1 pins s σ H _ _ v u Q I rx ry ⟨c, _, hx, hy, k _ _ H q Ext.refl rfl⟩
  · obtain ⟨p, ps, e1, e2, s1, s2, hq⟩ := hf
    refine h2 pins s σ H x y v u Q I rx ry ⟨p, ps, by rw [g]; exact hx.dp e1, by rw [g]; exact hy.dp (show toPy (.lst _) = _ by unfold toPy; rw [e2]; rfl), s1, s2, k _ _ H hq Ext.refl rfl⟩
  · exact hf.elim
theorem opD_in (g : X.K = G.K) (hu : X.A.units + 65 < cLine) : OpR X (compareOp .In) (rD G so inD) := opD_inG op_in_sign (op_inD hu) g
theorem opD_nin (g : X.K = G.K) (hu : X.A.units + 65 < cLine) : OpR X (compareOp .NotIn) (rD G so ninD) := opD_inG op_notIn_sign (op_notInD hu) g
theorem opD_isNG {op : CmpOp} {n : Bool → Bool} (h1 : OpR X (compareOp op) (fun x y H Q => y = .non ∧ Q (.bl (n (decide (x = .non)))) H)) : OpR X (compareOp op) (rD G so (isNG n)) := by
  intro pins s σ H x y v u Q I rx ry ⟨W, d, e, Qd, trk, hx, hy, hf, k⟩
  have fin : ∀ (b : Bool), e = .non → decide (x = .non) = b → Qd (.bl (n b)) → wpAny (model X.prog X.w) X.A (compareOp op v u) (EP X pins σ Q) X.xe s := fun b he hb q => by
    subst he
    exact h1 pins s σ H x y v u Q I rx ry ⟨hy, by rw [hb]; exact k _ _ H q Ext.refl rfl⟩
  cases d with
  | non => cases e with
    | non => exact fin true rfl (by cases hx; rfl) hf
    | _ => exact (show False from hf).elim
  | bl b => cases e with
    | non => exact fin false rfl (by cases hx; rfl) hf
    | _ => exact (show False from hf).elim
  | int b => cases e with
    | non => exact fin false rfl (by cases hx; rfl) hf
    | _ => exact (show False from hf).elim
  | str b => cases e with
    | non => exact fin false rfl (by cases hx; rfl) hf
    | _ => exact (show False from hf).elim
  | lst b => cases e with
    | non => exact fin false rfl (by obtain ⟨a, xs, rfl, _⟩ := hx; rfl) hf
    | _ => exact (show False from hf).elim
  | tup b => cases e with
    | non => exact fin false rfl (by obtain ⟨a, xs, rfl, _⟩ := hx; rfl) hf
    | _ => exact (show False from hf).elim
  | dct b => cases e with
    | non => exact fin false rfl (by obtain ⟨a, xs, rfl, _⟩ := hx; rfl) hf
    | _ => exact (show False from hf).elim
  | obj c b => cases e with
    | non => exact fin false rfl (by obtain ⟨a, rfl, _⟩ := hx; rfl) hf
    | _ => exact (show False from hf).elim
  | _ => exact (show False from hf).elim
theorem opD_is : OpR X (compareOp .Is) (rD G so (isNG id)) := opD_isNG op_isN
theorem opD_isnot : OpR X (compareOp .IsNot) (rD G so (isNG not)) := opD_isNG op_notN
end
section
variable {X : Cx} {G : Gb} {B : Bs} {Wx : WX} {k : Nat} {e a b c : Expr} {es : List Expr} {m ma mb mc : M} {ms : MA} {mt mu : MT} {pos : Pos}
theorem de_idx (g : X.K = G.K) (ha : OE X G B Wx a ma) (hb : OE X G B Wx b mb) (hs : PlainIx b := by exact fun _ _ => rfl) : DE X G B Wx (.Subscript a b pos) (mOp idxD ma mb) := by
  have hi : IxR X (rD G B.so idxD) := by
    intro va sl pins s σ H x y v u Q I rx ry ⟨W, d, e, Qd, trk, hx, hy, hf, k⟩ hq
    cases d with
    | lst ds =>
      cases e with
      | int i =>
        obtain ⟨d, hd, q⟩ := hf
        obtain ⟨p, xs, rfl, w1, h1, d1⟩ := hx
        obtain ⟨w, hw, dw⟩ := atI_dats d1 hd
        exact ix_list va sl pins s σ H _ _ v u Q I rx ry ⟨p, xs, i, w, rfl, hy, SqL.of h1, hw, k _ _ H q Ext.refl dw⟩ hq
      | _ => exact (show False from hf).elim
    | tup ds =>
      cases e with
      | int i =>
        obtain ⟨d, hd, q⟩ := hf
        obtain ⟨p, xs, rfl, w1, d1⟩ := hx
        obtain ⟨w, hw, dw⟩ := atI_dats d1 hd
        exact ix_tup va sl pins s σ H _ _ v u Q I rx ry ⟨p, xs, i, w, rfl, hy, by rw [g]; exact sqT_of w1, hw, k _ _ H q Ext.refl dw⟩ hq
      | _ => exact (show False from hf).elim
    | str z =>
      cases e with
      | int i =>
        obtain ⟨hz, c, hc, q⟩ := hf
        exact ix_str va sl pins s σ H _ _ v u Q I rx ry ⟨z, i, c, hx, hy, sz6 hz, hc, k _ _ H q Ext.refl rfl⟩ hq
      | _ => exact (show False from hf).elim
    | _ => exact (show False from hf).elim
  exact PE.weak (pe_ix hi ha hb hs) fun σ H Q h => lift_op h

/-! ### slices -/
abbrev MP := Ev → (Option Int → Prop) → (Exn → Prop) → Prop
def liftP (G : Gb) (B : Bs) (Wx : WX) (m : MP) : TO := fun σ H Q => ∃ W δ Qd Qx, Sok G B W σ H δ ∧ m δ Qd Qx ∧
  (∀ o H', Qd o → Xt B.so H H' → SrcOk B.so H' → Q o H') ∧ (∀ x cls dd H', Qx x → Xt B.so H H' → SrcOk B.so H' → Exok G B.so W H' x cls dd → Wx cls dd σ H')
@[simp] def mNoP : MP := fun _ Q _ => Q none
@[simp] def mP (m : M) : MP := fun δ Q X => m δ (fun d => ∃ i, d = .int i ∧ Q (some i)) X
theorem PO.weak {o : Option Expr} {t t' : TO} (h : PO X o t) (k : ∀ σ H Q, t' σ H Q → t σ H Q) : PO X o t' := ⟨fun pins s σ H Q I q => h.run pins s σ H Q I (k σ H Q q)⟩
theorem dp_none : PO X none (liftP G B Wx mNoP) := PO.weak po_none fun σ H Q ⟨W, δ, Qd, Qx, ok, hm, k, _⟩ => k _ H hm Xt.refl ok.sta.src
theorem dp_some (h : DE X G B Wx e m) : PO X (some e) (liftP G B Wx (mP m)) := PO.weak (po_some h) fun σ H Q ⟨W, δ, Qd, Qx, ok, hm, k, kx⟩ =>
  ⟨W, δ, _, Qx, ok, hm, fun d v H1 q x s hd => by
    obtain ⟨i, rfl, q⟩ := q
    exact ⟨i, hd, k _ H1 q x s⟩, kx⟩
def cutG {α : Type} (xs : List α) (lo hi : Option Int) : List α := (xs.drop (HT.sIx xs.length 0 lo)).take (HT.sIx xs.length xs.length hi - HT.sIx xs.length 0 lo)
@[simp] def slD : D → Option Int → Option Int → (D → Prop) → Prop
  | .lst ds, lo, hi, Q => Q (.lst (cutG ds lo hi))
  | .tup ds, lo, hi, Q => Q (.tup (cutG ds lo hi))
  | .str s, lo, hi, Q => s.length ≤ 1000000 ∧ Q (.str (cutS s lo hi))
  | _, _, _, _ => False
theorem cut_dats {so : So} {W : Addr → Prop} {H : Hp} {ds : List D} {xs : List V} (h : Dats G so W H ds xs) (lo hi : Option Int) : Dats G so W H (cutG ds lo hi) (cutV xs lo hi) := by
  unfold cutG cutV
  rw [h.length]
  exact (h.drop _).take _
@[simp] def mSl (ma : M) (ml mh : MP) : M := fun δ Q X => ma δ (fun d => ml δ (fun lo => mh δ (fun hi => slD d lo hi Q) X) X) X
theorem de_slice {lo hi : Option Expr} {p2 : Pos} {ml mh : MP} (g : X.K = G.K) (ha : OE X G B Wx a ma) (hl : PO X lo (liftP G B Wx ml)) (hu : PO X hi (liftP G B Wx mh)) : DE X G B Wx (.Subscript a (.Slice lo hi none p2) pos) (mSl ma ml mh) := by
  refine PE.weak (pe_slice (SlR.or sl_list (SlR.or sl_tupA sl_str)) ha hl hu) fun σ H Q ⟨W, δ, Qd, Qx, ok, hm, k, kx⟩ => ?_
  refine ⟨W, δ, _, Qx, ok, hm, fun d v H1 q1 x1 s1 hd => ?_, kx⟩
  refine ⟨W, δ, _, Qx, ok.xt x1 s1, q1, fun l H2 q2 x2 s2 => ?_, fun y cls dd H' q x s ex => kx y cls dd H' q (x1.trans x) s ex⟩
  have ok2 := (ok.xt x1 s1).xt x2 s2
  refine ⟨W, δ, _, Qx, ok2, q2, fun u H3 q3 x3 s3 => ?_, fun y cls dd H' q x s ex => kx y cls dd H' q ((x1.trans x2).trans x) s ex⟩
  have ok3 := ok2.xt x3 s3
  have hd := (hd.xt ok.sta.wsrc x2).xt ok.sta.wsrc x3
  have xx := (x1.trans x2).trans x3
  cases d with
  | lst ds =>
    obtain ⟨a, xs, rfl, w, h1, d1⟩ := hd
    refine .inl ⟨a, xs, rfl, SqL.of h1, fun p hp => ?_⟩
    exact k _ _ _ q3 (xx.trans (Ext.new hp).xt) (s3.ext fun b o _ q => Ext.new hp b o q) ⟨p, _, rfl, ok3.sta.nw hp, upd_same, Dats.go (Ext.go (Ext.new hp)) _ _ (cut_dats d1 l u)⟩
  | tup ds =>
    obtain ⟨a, xs, rfl, w, d1⟩ := hd
    refine .inr (.inl ⟨a, xs, rfl, by rw [g]; exact sqT_of w, fun z => ?_, fun _ p hp => ?_⟩)
    · have e : cutG ds l u = ds := by
        unfold cutG
        rw [← d1.length, z.1, z.2]
        simp [d1.length]
      refine k _ _ H3 q3 xx s3 ⟨a, xs, rfl, w, ?_⟩
      rw [e]; exact d1
    · exact k _ _ _ q3 (xx.trans (Ext.new hp).xt) (s3.ext fun b o _ q => Ext.new hp b o q) ⟨p, _, rfl, .inl ⟨ok3.sta.nw hp, upd_same⟩, Dats.go (Ext.go (Ext.new hp)) _ _ (cut_dats d1 l u)⟩
  | str z => exact .inr (.inr ⟨z, hd, sz6 q3.1, k _ _ H3 q3.2 xx s3 rfl⟩)
  | _ => exact (show False from q3).elim
/-- a[::-1] of a list -/
def mRev (ma : M) : MA := fun δ Q X => ma δ (fun d => ∃ ds, d = .lst ds ∧ Q ds.reverse) X
theorem Dats.rev {so : So} {W : Addr → Prop} {H : Hp} : ∀ {ds : List D} {xs : List V}, Dats G so W H ds xs → Dats G so W H ds.reverse xs.reverse
  | [], _, h => by cases h; exact rfl
  | d :: ds, _, h => by
    obtain ⟨v, r, rfl, h1, h2⟩ := h
    rw [List.reverse_cons, List.reverse_cons]
    exact Dats.append (Dats.rev h2) ⟨v, [], rfl, h1, rfl⟩
theorem ne_rev {kk : Nat} {p1 p2 p3 : Pos} (ha : OE X G B Wx a ma) : NE X G B Wx (.Subscript a (.Slice none none (some (.UnaryOp .USub (.Constant (.int 1) kk p1) p2)) p3) pos) (mRev ma) := by
  refine PE.weak (pe_revL ha) fun σ H Q ⟨W, δ, Qd, Qx, ok, hm, k, kx⟩ => ?_
  refine ⟨W, δ, _, Qx, ok, hm, fun d v H1 q x s hd => ?_, kx⟩
  obtain ⟨ds, rfl, q⟩ := q
  obtain ⟨a, xs, rfl, w, h1, d1⟩ := hd
  have ok1 := ok.xt x s
  refine ⟨a, xs, rfl, SqL.of h1, fun p hp => k _ p _ _ q (x.back hp (ok1.sta.nsrc (ok1.sta.nw hp))) (x.trans (Ext.new hp).xt) (s.ext fun b o _ q => Ext.new hp b o q) upd_same
    (Dats.go (fun b o n eb => ⟨fun z => z.elim (ne_of_none eb hp) n, Ext.new hp b o eb⟩) _ _ d1.rev)⟩
/-- a + b of lists, a new one -/
@[simp] def mCat (ma mb : M) : MA := fun δ Q X => ma δ (fun x => mb δ (fun y => ∃ s t, x = .lst s ∧ y = .lst t ∧ s.length + t.length ≤ 1000000 ∧ Q (s ++ t)) X) X
theorem ne_cat (ha : OE X G B Wx a ma) (hb : OE X G B Wx b mb) : NE X G B Wx (.BinOp a .Add b pos) (mCat ma mb) := by
  refine PE.weak (pe_op op_cat ha hb) fun σ H Q ⟨W, δ, Qd, Qx, ok, hm, k, kx⟩ => ?_
  refine ⟨W, δ, _, Qx, ok, hm, fun d v H1 q x s hd => ?_, kx⟩
  refine ⟨W, δ, _, Qx, ok.xt x s, q, fun e u H2 q2 x2 s2 he => ?_, fun y cls dd H' q x' s ex => kx y cls dd H' q (x.trans x') s ex⟩
  obtain ⟨as, bs, rfl, rfl, hz, q⟩ := q2
  obtain ⟨p, xs, rfl, w1, h1, d1⟩ := hd.xt ok.sta.wsrc x2
  obtain ⟨r, ys, rfl, w2, h2, d2⟩ := he
  have ok2 := (ok.xt x s).xt x2 s2
  refine ⟨p, r, xs, ys, rfl, rfl, h1, h2, by rw [d1.length, d2.length]; exact sz6 hz, fun l hl => ?_⟩
  exact k _ l _ _ q ((x.trans x2).back hl (ok2.sta.nsrc (ok2.sta.nw hl))) ((x.trans x2).trans (Ext.new hl).xt) (s2.ext fun b o _ q => Ext.new hl b o q) upd_same
    (Dats.go (fun b o n eb => ⟨fun z => z.elim (ne_of_none eb hl) n, Ext.new hl b o eb⟩) _ _ (d1.append d2))
end

/-! ### built-ins -/
@[simp] def lenD : F1
  | [.lst ds], Q => Q (.int ds.length)
  | [.tup ds], Q => Q (.int ds.length)
  | [.str s], Q => s.length ≤ 1000000 ∧ Q (.int s.length)
  | [.dct kvs], Q => Q (.int kvs.length)
  | _, _ => False
def absD : F1
  | [.int i], Q => Q (.int (if i < 0 then -i else i))
  | _, _ => False
def maxD : F1
  | [.int i, .int j], Q => Q (.int (if j > i then j else i))
  | _, _ => False
def minD : F1
  | [.int i, .int j], Q => Q (.int (if j < i then j else i))
  | _, _ => False
def intD : F1
  | [.int i], Q => Q (.int i)
  | [.bl b], Q => Q (.int (if b then 1 else 0))
  | _, _ => False
def strD : F1
  | [.int i], Q => i.natAbs.log2 < 1920 ∧ Q (.str (toString i))
  | _, _ => False
section
variable {X : Cx} {G : Gb} {so : So}
theorem Datk.length {W : Addr → Prop} {H : Hp} : ∀ {ds : List (Key × D)} {vs : List (Key × V)}, Datk G so W H ds vs → vs.length = ds.length
  | [], _, h => by cases h; rfl
  | (k, d) :: ds, _, h => by
    obtain ⟨v, r, rfl, _, h2⟩ := h
    have := Datk.length h2
    simp [this]
theorem call_lenG (g : X.K = G.K) : CallR X (.builtin "len") (rDs G so lenD) := by
  intro pins s σ H xs us Q I r ⟨W, ds, Qd, trk, hp, hf, k⟩
  match ds, hf with
  | [.lst ds], hf =>
    cases hp with
    | cons h1 h2 =>
      cases h2
      obtain ⟨p, ys, rfl, w, hh, hd⟩ := h1
      exact call_len_seq pins s σ H _ us Q I r ⟨p, ys, rfl, .inl (SqL.of hh), by rw [hd.length]; exact k _ _ H hf Ext.refl rfl⟩
  | [.tup ds], hf =>
    cases hp with
    | cons h1 h2 =>
      cases h2
      obtain ⟨p, ys, rfl, w, hd⟩ := h1
      exact call_len_seq pins s σ H _ us Q I r ⟨p, ys, rfl, .inr (by rw [g]; exact sqT_of w), by rw [hd.length]; exact k _ _ H hf Ext.refl rfl⟩
  | [.str z], hf =>
    cases hp with
    | cons h1 h2 =>
      cases h2
      cases h1
      exact call_len_str pins s σ H _ us Q I r ⟨z, rfl, sz6 hf.1, k _ _ H hf.2 Ext.refl rfl⟩
  | [.dct kvs], hf =>
    cases hp with
    | cons h1 h2 =>
      cases h2
      obtain ⟨p, ys, rfl, w, hh, hd⟩ := h1
      exact call_lenD pins s σ H _ us Q I r ⟨p, ys, rfl, hh, by rw [hd.length]; exact k _ _ H hf Ext.refl rfl⟩
theorem call_absG : CallR X (.builtin "abs") (rDs G so absD) := by
  intro pins s σ H xs us Q I r ⟨W, ds, Qd, trk, hp, hf, k⟩
  match ds, hf with
  | [.int i], hf =>
    cases hp with
    | cons h1 h2 => cases h2; cases h1; exact call_abs pins s σ H _ us Q I r ⟨i, rfl, k _ _ H hf Ext.refl rfl⟩
theorem call_maxG (hc : X.calm = true) : CallR X (.builtin "max") (rDs G so maxD) := by
  intro pins s σ H xs us Q I r ⟨W, ds, Qd, trk, hp, hf, k⟩
  match ds, hf with
  | [.int i, .int j], hf =>
    cases hp with
    | cons h1 h2 =>
      cases h2 with
      | cons h2 h3 => cases h3; cases h1; cases h2; exact call_max2 hc pins s σ H _ us Q I r ⟨i, j, rfl, k _ _ H hf Ext.refl rfl⟩
theorem call_minG (hc : X.calm = true) : CallR X (.builtin "min") (rDs G so minD) := by
  intro pins s σ H xs us Q I r ⟨W, ds, Qd, trk, hp, hf, k⟩
  match ds, hf with
  | [.int i, .int j], hf =>
    cases hp with
    | cons h1 h2 =>
      cases h2 with
      | cons h2 h3 => cases h3; cases h1; cases h2; exact call_min2 hc pins s σ H _ us Q I r ⟨i, j, rfl, k _ _ H hf Ext.refl rfl⟩
theorem call_intG : CallR X (.type "int") (rDs G so intD) := by
  intro pins s σ H xs us Q I r ⟨W, ds, Qd, trk, hp, hf, k⟩
  match ds, hf with
  | [.int i], hf =>
    cases hp with
    | cons h1 h2 => cases h2; cases h1; exact call_int1 pins s σ H _ us Q I r (.inl ⟨i, rfl, k _ _ H hf Ext.refl rfl⟩)
  | [.bl i], hf =>
    cases hp with
    | cons h1 h2 => cases h2; cases h1; exact call_int1 pins s σ H _ us Q I r (.inr ⟨i, rfl, k _ _ H hf Ext.refl rfl⟩)
theorem call_strG : CallR X (.type "str") (rDs G so strD) := by
  intro pins s σ H xs us Q I r ⟨W, ds, Qd, trk, hp, hf, k⟩
  match ds, hf with
  | [.int i], hf =>
    cases hp with
    | cons h1 h2 => cases h2; cases h1; exact call_str_int pins s σ H _ us Q I r ⟨i, rfl, hf.1, k _ _ H hf.2 Ext.refl rfl⟩
end
end Ct

set_option Elab.async false
set_option linter.all false
set_option maxRecDepth 100000
set_option maxHeartbeats 4000000
namespace Ct
open PySem PySem.Spec PyProof.Rows L2

section
variable {G : Gb} {B : Bs}
theorem Sok.grow {W : Addr → Prop} {H H' : Hp} {σ : L2.St} {δ : Ev} {p : Addr} {o : HO} (h : Sok G B W σ H δ) (hp : H p = none) (x : Xt B.so H H') (hs : SrcOk B.so H') (hl : H' p = some o) : Sok G B (fun b => b = p ∨ W b) σ H' δ :=
  h.mk0 (h.sta.more x hs fun b e => ⟨o, by rw [e]; exact hl⟩) fun s u q => q.more h.sta x fun b e => by rw [e]; exact hp
end
/-! ### statements: from (W0, H0) on -/
structure LinkG (G : Gb) (B : Bs) (Wx : WX) (W0 : Addr → Prop) (H0 : Hp) (E : Ends) (P : PD) : Prop where
  nx : ∀ W δ σ H, P.nx δ → Sok G B W σ H δ → Go W0 H0 W H → E.nx σ H
  rt : ∀ W d v H, P.rt d → Sta B W H → Dat G B.so W H d v → E.rt v H
  bk : ∀ W δ σ H, P.bk δ → Sok G B W σ H δ → Go W0 H0 W H → E.bk σ H
  ct : ∀ W δ σ H, P.ct δ → Sok G B W σ H δ → Go W0 H0 W H → E.ct σ H
  ex : ∀ x cls dd W δ σ H, P.ex x δ → Sok G B W σ H δ → Go W0 H0 W H → Exok G B.so W H x cls dd → Wx cls dd σ H
  rtn : ∀ W ds a xs H, P.rtn ds → Sta B W H → W a → ¬ Srcs B.so a → ¬ B.W0 a → B.H0 a = none → H a = some (.lst xs) → Dats G B.so W H ds xs → E.rt (.ref a) H
  rtl : ∀ (W L : Addr → Prop) (d : D) (v : V) (H : Hp), P.rtl d → Sta B W H → (∀ b, L b → W b ∧ ¬ Srcs B.so b ∧ ¬ B.W0 b ∧ B.H0 b = none) → Dat G B.so (fun b => W b ∧ ¬ L b) H d v → Lo L H v → E.rt v H
def liftG (G : Gb) (B : Bs) (Wx : WX) (m : MS) : TS := fun E σ H => ∃ W δ P, Sok G B W σ H δ ∧ m P δ ∧ LinkG G B Wx W H E P
theorem LinkG.from {G : Gb} {B : Bs} {Wx : WX} {W0 W1 : Addr → Prop} {H0 H1 : Hp} {E : Ends} {P : PD} (l : LinkG G B Wx W0 H0 E P) (g : Go W0 H0 W1 H1) : LinkG G B Wx W1 H1 E P :=
  ⟨fun W δ σ H p s q => l.nx W δ σ H p s (g.trans q), l.rt, fun W δ σ H p s q => l.bk W δ σ H p s (g.trans q), fun W δ σ H p s q => l.ct W δ σ H p s (g.trans q), fun x cls dd W δ σ H p s q => l.ex x cls dd W δ σ H p s (g.trans q), l.rtn, l.rtl⟩
abbrev DS (X : Cx) (G : Gb) (B : Bs) (Wx : WX) (s : Stmt) (m : MS) : Prop := PS X s (liftG G B Wx m)
abbrev DB (X : Cx) (G : Gb) (B : Bs) (Wx : WX) (s : List Stmt) (m : MS) : Prop := PSs X s (liftG G B Wx m)

section
variable {X : Cx} {G : Gb} {B : Bs} {Wx : WX} {k : Nat} {e a b c : Expr} {es : List Expr} {m ma mb mc : M} {ms : MA} {mt mu : MT} {pos : Pos} {s : Stmt} {ss tt : List Stmt} {n n' : MS}
@[simp] def mNext : MS := fun P δ => P.nx δ
@[simp] def mSeq (n n' : MS) : MS := fun P δ => n { P with nx := n' P } δ
theorem db_nil : DB X G B Wx [] mNext := PSs.weak pss_nil fun E σ H ⟨W, δ, P, ok, hm, l⟩ => l.nx W δ σ H hm ok Go.refl
theorem db_cons (h : DS X G B Wx s n) (h' : DB X G B Wx ss n') : DB X G B Wx (s :: ss) (mSeq n n') := by
  refine PSs.weak (pss_cons h h') fun E σ H ⟨W, δ, P, ok, hm, l⟩ => ?_
  exact ⟨W, δ, _, ok, hm, ⟨fun W' δ' σ' H' p s g => ⟨W', δ', P, s, p, l.from g⟩, l.rt, l.bk, l.ct, l.ex, l.rtn, l.rtl⟩⟩
theorem db_one (h : DS X G B Wx s n) : DB X G B Wx [s] n := pss_one h
theorem ds_pass : DS X G B Wx (.Pass pos) mNext := PS.weak ps_pass fun E σ H ⟨W, δ, P, ok, hm, l⟩ => l.nx W δ σ H hm ok Go.refl
theorem ds_break : DS X G B Wx (.Break pos) (fun P δ => P.bk δ) := PS.weak ps_break fun E σ H ⟨W, δ, P, ok, hm, l⟩ => l.bk W δ σ H hm ok Go.refl
theorem ds_continue : DS X G B Wx (.Continue pos) (fun P δ => P.ct δ) := PS.weak ps_continue fun E σ H ⟨W, δ, P, ok, hm, l⟩ => l.ct W δ σ H hm ok Go.refl
@[simp] def mDrop (m : M) : MS := fun P δ => m δ (fun _ => P.nx δ) (fun x => P.ex x δ)
theorem ds_expr (h : DE X G B Wx e m) (hs : swapsWith e none pos.line X.env = pure false := by rfl) : DS X G B Wx (.Expr e pos) (mDrop m) := by
  refine PS.weak (ps_expr h hs) fun E σ H ⟨W, δ, P, ok, hm, l⟩ => ?_
  exact ⟨W, δ, _, _, ok, hm, fun d v H' q x s _ => l.nx W δ σ H' q (ok.xt x s) (Xt.go ok.sta.wsrc x), fun y cls dd H' q x s ex => l.ex y cls dd W δ σ H' q (ok.xt x s) (Xt.go ok.sta.wsrc x) ex⟩
@[simp] def mRet (m : M) : MS := fun P δ => m δ P.rt (fun x => P.ex x δ)
theorem ds_ret (h : DE X G B Wx e m) : DS X G B Wx (.Return (some e) pos) (mRet m) := by
  refine PS.weak (ps_ret h) fun E σ H ⟨W, δ, P, ok, hm, l⟩ => ?_
  exact ⟨W, δ, _, _, ok, hm, fun d v H' q x s hd => l.rt W d v H' q (ok.sta.xt x s) hd, fun y cls dd H' q x s ex => l.ex y cls dd W δ σ H' q (ok.xt x s) (Xt.go ok.sta.wsrc x) ex⟩
theorem ds_retN : DS X G B Wx (.Return none pos) (fun P δ => P.rt .non) := PS.weak ps_retN fun E σ H ⟨W, δ, P, ok, hm, l⟩ => l.rt W .non .non H hm ok.sta rfl
/-- return of a list that this def has made -/
@[simp] def mRetO (i : Nat) : MS := fun P δ => match δ[i]? with
  | some (some (.d d)) => P.rt d
  | some (some (.own ds)) => P.rt (.lst ds)
  | _ => False
theorem ds_retO (i : Nat) {x : Str} {pp : Pos} (hN : X.N[i]? = some x := by rfl) (hv : Vis X.env.scope x := by first | exact Or.inl rfl | exact Or.inr (Or.inl rfl) | exact Or.inr (Or.inr rfl)) (hd : (x == ("__debug__" : Str)) = false := by decide)
    (hcd : (x == ("__classdict__" : Str)) = false := by decide) : DS X G B Wx (.Return (some (.Name x pp)) pos) (mRetO i) := by
  refine PS.weak (ps_ret (pe_var hN hv hd hcd)) fun E σ H ⟨W, δ, P, ok, hm, l⟩ => ?_
  unfold mRetO at hm
  split at hm
  · rename_i d e
    obtain ⟨v, h1, h2⟩ := ok.slot i _ e
    exact ⟨v, h1, l.rt W d v H hm ok.sta h2⟩
  · rename_i ds e
    obtain ⟨v, h1, a, xs, ev, h2, h3, h4, h5, h6, h7⟩ := ok.slot i _ e
    subst ev
    have ok2 := ok.freeze e h1
    obtain ⟨v2, q1, q2⟩ := ok2.slot i (.d (.lst ds)) (List.getElem?_set_self (List.getElem?_eq_some_iff.mp e).1)
    rw [h1] at q1; cases q1
    exact ⟨_, h1, l.rt _ _ _ H hm ok2.sta q2⟩
  · exact hm.elim
/-- .. and nobody else holds it: the caller may write it -/
@[simp] def mRetN (i : Nat) : MS := fun P δ => match δ[i]? with
  | some (some (.own ds)) => P.rtn ds
  | _ => False
theorem ds_retNm (i : Nat) {x : Str} {pp : Pos} (hN : X.N[i]? = some x := by rfl) (hv : Vis X.env.scope x := by first | exact Or.inl rfl | exact Or.inr (Or.inl rfl) | exact Or.inr (Or.inr rfl)) (hd : (x == ("__debug__" : Str)) = false := by decide)
    (hcd : (x == ("__classdict__" : Str)) = false := by decide) : DS X G B Wx (.Return (some (.Name x pp)) pos) (mRetN i) := by
  refine PS.weak (ps_ret (pe_var hN hv hd hcd)) fun E σ H ⟨W, δ, P, ok, hm, l⟩ => ?_
  unfold mRetN at hm
  split at hm
  · rename_i ds e
    obtain ⟨v, h1, a, xs, ev, h2, h3, h4, h5, h6, h7⟩ := ok.slot i _ e
    subst ev
    exact ⟨_, h1, l.rtn W ds a xs H hm ok.sta h2 h3 h4 h5 h6 h7⟩
  · exact hm.elim
@[simp] def mRetE (m : MA) : MS := fun P δ => m δ P.rtn (fun x => P.ex x δ)
theorem ds_retE (h : NE X G B Wx e ms) : DS X G B Wx (.Return (some e) pos) (mRetE ms) := by
  refine PS.weak (ps_ret h) fun E σ H ⟨W, δ, P, ok, hm, l⟩ => ?_
  refine ⟨W, δ, _, _, ok, hm, fun ds p xs H' q hp x s hl hd => ?_, fun y cls dd H' q x s ex => l.ex y cls dd W δ σ H' q (ok.xt x s) (Xt.go ok.sta.wsrc x) ex⟩
  have nW := ok.sta.nw hp
  exact l.rtn _ ds p xs H' q (ok.grow hp x s hl).sta (.inl rfl) (ok.sta.nsrc nW) (fun z => nW (ok.sta.wold p z)) (ok.sta.new0 hp) hl hd
@[simp] def mIfS (mt : MT) (n n' : MS) : MS := fun P δ => mt δ (fun c => if c = true then n P δ else n' P δ) (fun x => P.ex x δ)
theorem ds_if (hc : DT X G B Wx c mt) (h : DB X G B Wx ss n) (h' : DB X G B Wx tt n') : DS X G B Wx (.If c ss tt pos) (mIfS mt n n') := by
  refine PS.weak (ps_if hc h h') fun E σ H ⟨W, δ, P, ok, hm, l⟩ => ?_
  refine ⟨W, δ, _, _, ok, hm, fun b H' q x s => ?_, fun y cls dd H' q x s ex => l.ex y cls dd W δ σ H' q (ok.xt x s) (Xt.go ok.sta.wsrc x) ex⟩
  cases b with
  | true => exact ⟨W, δ, P, ok.xt x s, q, l.from (Xt.go ok.sta.wsrc x)⟩
  | false => exact ⟨W, δ, P, ok.xt x s, q, l.from (Xt.go ok.sta.wsrc x)⟩

/-! ### stores -/
@[simp] def mSet (i : Nat) (m : M) : MS := fun P δ => m δ (fun d => P.nx (δ.set i (some (.d d)))) (fun x => P.ex x δ)
theorem ds_set {i : Nat} {x : Str} {p' : Pos} (hN : X.N.Nodup) (he : DE X G B Wx e m) (hi : X.N[i]? = some x := by rfl) (hx : Loc X.env.scope x := by first | exact Or.inl rfl | exact Or.inr rfl)
    (hs : swapsWith e (some (.Name x p')) pos.line X.env = pure false := by rfl) (hf : X.fn x = true ∨ X.env.scope.names.lookup x = some .local := by first | exact .inl rfl | exact .inr rfl) : DS X G B Wx (.Assign [.Name x p'] e pos) (mSet i m) := by
  refine PS.weak (ps_set hN hi hx he hs hf) fun E σ H ⟨W, δ, P, ok, hm, l⟩ => ?_
  exact ⟨W, δ, _, _, ok, hm, fun d v H' q x s hd => l.nx W _ _ H' q ((ok.xt x s).put i hd) (Xt.go ok.sta.wsrc x), fun y cls dd H' q x s ex => l.ex y cls dd W δ σ H' q (ok.xt x s) (Xt.go ok.sta.wsrc x) ex⟩
/-- a new list: the slot alone holds it -/
@[simp] def mSetN (i : Nat) (m : MA) : MS := fun P δ => m δ (fun ds => P.nx (δ.set i (some (.own ds)))) (fun x => P.ex x δ)
theorem put_new {E : Ends} {P : PD} {W : Addr → Prop} {H H' : Hp} {σ : L2.St} {δ : Ev} {i : Nat} {ds : List D} {p : Addr} {xs : List V} (ok : Sok G B W σ H δ) (l : LinkG G B Wx W H E P) (q : P.nx (δ.set i (some (.own ds)))) (hp : H p = none) (x : Xt B.so H H') (s : SrcOk B.so H')
    (hl : H' p = some (.lst xs)) (hd : Dats G B.so (fun b => b = p ∨ W b) H' ds xs) : E.nx (σ.set i (some (.ref p))) H' :=
  l.nx _ _ _ H' q (ok.putOwn i hp x s hl hd) (Xt.goN ok.sta.wsrc x hp)
theorem ds_setN {i : Nat} {x : Str} {p' : Pos} (hN : X.N.Nodup) (he : NE X G B Wx e ms) (hi : X.N[i]? = some x := by rfl) (hx : Loc X.env.scope x := by first | exact Or.inl rfl | exact Or.inr rfl)
    (hs : swapsWith e (some (.Name x p')) pos.line X.env = pure false := by rfl) (hf : X.fn x = true ∨ X.env.scope.names.lookup x = some .local := by first | exact .inl rfl | exact .inr rfl) : DS X G B Wx (.Assign [.Name x p'] e pos) (mSetN i ms) := by
  refine PS.weak (ps_set hN hi hx he hs hf) fun E σ H ⟨W, δ, P, ok, hm, l⟩ => ?_
  exact ⟨W, δ, _, _, ok, hm, fun ds p xs H' q hp x s hl hd => put_new ok l q hp x s hl hd, fun y cls dd H' q x s ex => l.ex y cls dd W δ σ H' q (ok.xt x s) (Xt.go ok.sta.wsrc x) ex⟩
/-- from here on a list that was written by one is a value -/
def frz (δ : Ev) (i : Nat) : Ev := match δ[i]? with
  | some (some (.own ds)) => δ.set i (some (.d (.lst ds)))
  | some (some (.loose _ d)) => δ.set i (some (.d d))
  | _ => δ
def mFrz (i : Nat) (n : MS) : MS := fun P δ => n P (frz δ i)
theorem ds_frz (i : Nat) (h : DS X G B Wx s n) : DS X G B Wx s (mFrz i n) := by
  refine PS.weak h fun E σ H ⟨W, δ, P, ok, hm, l⟩ => ?_
  unfold mFrz frz at hm
  split at hm
  · rename_i ds e
    obtain ⟨v, h1, a, xs, ev, h2, h3, h4, h5, h6, h7⟩ := ok.slot i _ e
    subst ev
    exact ⟨_, _, P, ok.freeze e h1, hm, l.from (go_less fun b z => z.1)⟩
  · rename_i L d e
    obtain ⟨v, h1, h2, h3, h4⟩ := ok.slot i _ e
    exact ⟨_, _, P, ok.calm (L := L) e h1 (fun b z => z) h2, hm, l.from (go_less fun b z => z.1)⟩
  · exact ⟨W, δ, P, ok, hm, l⟩
/-- x op= e of numbers -/
@[simp] def mAug (i : Nat) (f : F2) (m : M) : MS := fun P δ => match δ[i]? with
  | some (some (.d d)) => m δ (fun e => f d e (fun z => P.nx (δ.set i (some (.d z))))) (fun x => P.ex x δ)
  | _ => False
theorem ds_aug {i : Nat} {x : Str} {p' : Pos} {op : Operator} {f : Int → Int → Int} {fD : F2} (hN : X.N.Nodup) (ho : PIp X op (ipI f)) (hf2 : ∀ d e Q, fD d e Q → ∃ i j, d = .int i ∧ e = .int j ∧ Q (.int (f i j))) (he : DE X G B Wx e m) (hi : X.N[i]? = some x := by rfl)
    (hx : Loc X.env.scope x := by first | exact Or.inl rfl | exact Or.inr rfl) (hf : X.fn x = true ∨ X.env.scope.names.lookup x = some .local := by first | exact .inl rfl | exact .inr rfl) : DS X G B Wx (.AugAssign (.Name x p') op e pos) (mAug i fD m) := by
  refine PS.weak (ps_aug hN hi hx he ho hf) fun E σ H ⟨W, δ, P, ok, hm, l⟩ => ?_
  unfold mAug at hm
  split at hm
  · rename_i d e0
    obtain ⟨v, h1, h2⟩ := ok.slot i _ e0
    refine ⟨v, h1, W, δ, _, _, ok, hm, fun d' v' H' q x s hd => ?_, fun y cls dd H' q x s ex => l.ex y cls dd W δ σ H' q (ok.xt x s) (Xt.go ok.sta.wsrc x) ex⟩
    obtain ⟨i1, j1, e1, e2, q2⟩ := hf2 _ _ _ q
    subst e1
    subst e2
    exact ⟨i1, j1, h2, hd, l.nx W _ _ H' q2 ((ok.xt x s).put i (d := .int (f i1 j1)) rfl) (Xt.go ok.sta.wsrc x)⟩
  · exact hm.elim
@[simp] def addI : F2
  | .int i, .int j, Q => Q (.int (i + j))
  | _, _, _ => False
@[simp] def subI : F2
  | .int i, .int j, Q => Q (.int (i - j))
  | _, _, _ => False
theorem augAdd : ∀ (d e : D) (Q : D → Prop), addI d e Q → ∃ i j, d = D.int i ∧ e = D.int j ∧ Q (.int (i + j)) := fun d e Q h => by
  cases d <;> cases e <;> first | exact ⟨_, _, rfl, rfl, h⟩ | exact (show False from h).elim
theorem augSub : ∀ (d e : D) (Q : D → Prop), subI d e Q → ∃ i j, d = D.int i ∧ e = D.int j ∧ Q (.int (i - j)) := fun d e Q h => by
  cases d <;> cases e <;> first | exact ⟨_, _, rfl, rfl, h⟩ | exact (show False from h).elim
/-- xs.append(e), xs held by this slot alone -/
@[simp] def mApp (i : Nat) (m : M) : MS := fun P δ => match δ[i]? with
  | some (some (.own ds)) => m δ (fun d => ds.length < 1000000 ∧ P.nx (δ.set i (some (.own (ds ++ [d]))))) (fun x => P.ex x δ)
  | _ => False
theorem ds_app {i : Nat} {c : Expr} (h : PE X c (tBM X.K "list" rAppend (tVar i) (tCons (lift G B Wx m) tNil))) (hs : swapsWith c none pos.line X.env = pure false := by rfl) : DS X G B Wx (.Expr c pos) (mApp i m) := by
  refine PS.weak (ps_expr h hs) fun E σ H ⟨W, δ, P, ok, hm, l⟩ => ?_
  unfold mApp at hm
  split at hm
  · rename_i ds e0
    obtain ⟨v, h1, a, xs, ev, h2, h3, h4, h5, h6, h7⟩ := ok.slot i _ e0
    subst ev
    refine ⟨_, h1, .inl ⟨rfl, xs, SqL.of h6⟩, W, δ, _, _, ok, hm, fun d v' H' q x s hd => ?_, fun y cls dd H' q x s ex => l.ex y cls dd W δ σ H' q (ok.xt x s) (Xt.go ok.sta.wsrc x) ex⟩
    obtain ⟨q1, q2⟩ := q
    have h6' := x a _ h6 h3
    have d7 := Dats.go (xgo ok.sta.wsrc x) _ _ h7
    refine ⟨a, xs, v', rfl, rfl, h6', Nat.lt_of_lt_of_le (by rw [h7.length]; exact q1) (sz6 (Nat.le_refl _)), ?_⟩
    exact l.nx W _ _ _ q2 ((ok.xt x s).write e0 h1 (Dats.append d7 ⟨v', [], rfl, hd, rfl⟩)) ((Xt.go ok.sta.wsrc x).trans fun b o n eb => ⟨n, by rw [upd_ne (fun z => n (by rw [z]; exact h2))]; exact eb⟩)
  · exact hm.elim

/-! ### several targets -/
/-- what is stored: a value, or a new list that the slot alone shall hold -/
abbrev MST := Ev → (Sl → Prop) → (Exn → Prop) → Prop
def StOk (G : Gb) (B : Bs) (W : Addr → Prop) (H H' : Hp) : Sl → V → Prop
  | .d d, v => Dat G B.so W H' d v
  | .own ds, v => ∃ a xs, v = .ref a ∧ W a ∧ H a = none ∧ ¬ Srcs B.so a ∧ ¬ B.W0 a ∧ B.H0 a = none ∧ H' a = some (.lst xs) ∧ Dats G B.so W H' ds xs
  | .exc _ _ _ _, _ => False
  | .loose _ _, _ => False
def liftST (G : Gb) (B : Bs) (Wx : WX) (m : MST) : TE := fun σ H Q => ∃ W δ Qd Qx, Sok G B W σ H δ ∧ m δ Qd Qx ∧
  (∀ s v W' H', Qd s → Sok G B W' σ H' δ → Go W H W' H' → Xt B.so H H' → (∀ b, W b → W' b) → StOk G B W' H H' s v → Q v H') ∧
  (∀ x cls dd H', Qx x → Xt B.so H H' → SrcOk B.so H' → Exok G B.so W H' x cls dd → Wx cls dd σ H')
abbrev SE (X : Cx) (G : Gb) (B : Bs) (Wx : WX) (e : Expr) (m : MST) : Prop := PE X e (liftST G B Wx m)
@[simp] def mSD (m : M) : MST := fun δ Q X => m δ (fun d => Q (.d d)) X
@[simp] def mSN (m : MA) : MST := fun δ Q X => m δ (fun ds => Q (.own ds)) X
theorem se_d (h : DE X G B Wx e m) : SE X G B Wx e (mSD m) := PE.weak h fun σ H Q ⟨W, δ, Qd, Qx, ok, hm, k, kx⟩ =>
  ⟨W, δ, _, Qx, ok, hm, fun d v H' q x s hd => k (.d d) v W H' q (ok.xt x s) (Xt.go ok.sta.wsrc x) x (fun _ w => w) hd, kx⟩
theorem se_n (h : NE X G B Wx e ms) : SE X G B Wx e (mSN ms) := PE.weak h fun σ H Q ⟨W, δ, Qd, Qx, ok, hm, k, kx⟩ =>
  ⟨W, δ, _, Qx, ok, hm, fun ds p xs H' q hp x s hl hd => k (.own ds) _ _ H' q (ok.grow hp x s hl) (Xt.goN ok.sta.wsrc x hp) x (fun _ w => .inr w)
    ⟨p, xs, rfl, .inl rfl, hp, ok.sta.nsrc (ok.sta.nw hp), fun z => ok.sta.nw hp (ok.sta.wold p z), ok.sta.new0 hp, hl, hd⟩, kx⟩
/-- one is stored; what is in the other slots stays apart from it -/
theorem Sok.store {W : Addr → Prop} {H H' : Hp} {σ : L2.St} {δ : Ev} {s : Sl} {v : V} (h : Sok G B W σ H' δ) (i : Nat) (hs : StOk G B W H H' s v) (hold : ∀ (j : Nat) (t : Sl) (u : V) (a : Addr), δ[j]? = some (some t) → σ[j]? = some (some u) → t.wr u a → H a = none → False) :
    Sok G B W (σ.set i (some v)) H' (δ.set i (some s)) := by
  cases s with
  | d d => exact h.put i hs
  | exc x a cls d => exact (show False from hs).elim
  | loose L d => exact (show False from hs).elim
  | own ds =>
    obtain ⟨a, xs, rfl, w, hn, h1, h2, h3, h4, h5⟩ := hs
    refine h.mk1 h.sta i (fun _ _ _ _ _ _ z => z) (fun s e => by cases e; exact ⟨_, rfl, a, xs, rfl, w, h1, h2, h3, h4, h5⟩) fun s v j t u b e ex _ q1 q2 w1 w2 => ?_
    cases e
    cases ex
    have w1 : V.ref a = .ref b := w1
    cases w1
    exact hold j t u a q1 q2 w2 hn
theorem own_there {W : Addr → Prop} {H : Hp} {σ : L2.St} {δ : Ev} (h : Sok G B W σ H δ) (j : Nat) (t : Sl) (u : V) (a : Addr) (e1 : δ[j]? = some (some t)) (e2 : σ[j]? = some (some u)) (w : t.wr u a) (hn : H a = none) : False := by
  obtain ⟨v, h1, h2⟩ := h.slot j _ e1
  rw [e2] at h1; cases h1
  exact h.sta.nw hn (h2.wr w).1
theorem StOk.wr {W : Addr → Prop} {H H' : Hp} {s : Sl} {v : V} {a : Addr} (h : StOk G B W H H' s v) (w : s.wr v a) : H' a ≠ none := by
  cases s with
  | d d => exact (show False from w).elim
  | exc x a cls d => exact (show False from h).elim
  | loose L d => exact (show False from h).elim
  | own ds =>
    obtain ⟨b, xs, e, _, _, _, _, _, h4, _⟩ := h
    have w : v = .ref a := w
    rw [w] at e; cases e
    rw [h4]; simp
theorem own_set {H : Hp} {σ : L2.St} {δ : Ev} {i : Nat} {s : Sl} {v : V} {W : Addr → Prop} {H1 : Hp} (ho : ∀ (j : Nat) (t : Sl) (u : V) (a : Addr), δ[j]? = some (some t) → σ[j]? = some (some u) → t.wr u a → H a = none → False) (hs : StOk G B W H1 H s v) :
    ∀ (j : Nat) (t : Sl) (u : V) (a : Addr), (δ.set i (some s))[j]? = some (some t) → (σ.set i (some v))[j]? = some (some u) → t.wr u a → H a = none → False := fun j t u a e1 e2 w hn => by
  by_cases hj : j = i
  · subst hj
    have hl' : j < δ.length := by
      have := (List.getElem?_eq_some_iff.mp e1).1
      simpa using this
    have hl2 : j < σ.length := by
      have := (List.getElem?_eq_some_iff.mp e2).1
      simpa using this
    rw [List.getElem?_set_self hl'] at e1
    rw [List.getElem?_set_self hl2] at e2
    cases e1
    cases e2
    exact hs.wr w hn
  · rw [List.getElem?_set_ne (Ne.symm hj)] at e1 e2
    exact ho j t u a e1 e2 w hn
@[simp] def mPar (i j : Nat) (ma mb : MST) : MS := fun P δ => ma δ (fun s => mb δ (fun t => P.nx ((δ.set i (some s)).set j (some t))) (fun x => P.ex x δ)) (fun x => P.ex x δ)
theorem StOk.more {W W' : Addr → Prop} {H H1 H2 : Hp} {s : Sl} {v : V} (g : Go W H1 W' H2) (x : Xt B.so H1 H2) (w : ∀ b, W b → W' b) (h : StOk G B W H H1 s v) : StOk G B W' H H2 s v := by
  cases s with
  | d d => exact Dat.go g d v h
  | own ds =>
    obtain ⟨a, xs, e, h1, h2, h3, h4, h5, h6, h7⟩ := h
    exact ⟨a, xs, e, w a h1, h2, h3, h4, h5, x a _ h6 h3, Dats.go g ds xs h7⟩
  | loose L d => exact (show False from h).elim
  | exc x a cls d => exact (show False from h).elim
theorem par_core {E : Ends} {P : PD} {W : Addr → Prop} {H : Hp} {σ : L2.St} {δ : Ev} {i j : Nat} {na nb : MST} (ok : Sok G B W σ H δ) (hm : mPar i j na nb P δ) (l : LinkG G B Wx W H E P) (T : V → V → Hp → Prop) (hT : ∀ v u W' H', (∀ o p, H' p = none → Ext H' (upd H' p o)) → Sok G B W' ((σ.set i (some v)).set j (some u)) H' ((δ.set i none).set j none) → True) :
    liftST G B Wx na σ H (fun v H1 => liftST G B Wx nb σ H1 (fun u H2 => E.nx ((σ.set i (some v)).set j (some u)) H2)) := by
  refine ⟨W, δ, _, _, ok, hm, fun s v W1 H1 q ok1 g1 x1 w1 hs => ?_, fun y cls dd H' q x s ex => l.ex y cls dd W δ σ H' q (ok.xt x s) (Xt.go ok.sta.wsrc x) ex⟩
  refine ⟨W1, δ, _, _, ok1, q, fun t u W2 H2 q2 ok2 g2 x2 w2 ht => ?_, fun y cls dd H' q x s ex => l.ex y cls dd W1 δ σ H' q (ok1.xt x s) (g1.trans (Xt.go ok1.sta.wsrc x)) ex⟩
  have hs2 := hs.more g2 x2 w2
  have okA := ok2.store (s := s) (v := v) (H := H) i hs2 (own_there ok)
  have okB := okA.store (s := t) (v := u) (H := H1) j ht (own_set (own_there ok1) hs)
  exact l.nx W2 _ _ H2 q2 okB (g1.trans g2)
/-- a, b = x, y of plain local names -/
theorem ds_par {i j : Nat} {x y : Str} {px py pt : Pos} {kt k2 pt2} {na nb : MST} (gd : Gd X G Wx k) (hN : X.N.Nodup) (ha : SE X G B Wx a na) (hb : SE X G B Wx b nb) (hi : X.N[i]? = some x := by rfl) (hj : X.N[j]? = some y := by rfl) (hij : i ≠ j := by decide)
    (hx : X.env.scope.names.lookup x = some .local := by rfl) (hy : X.env.scope.names.lookup y = some .local := by rfl) (he : starEach [a, b] X.env = (false, eval a X.env) :: starEach [b] X.env := by rfl) (he2 : starEach [b] X.env = (false, eval b X.env) :: starEach [] X.env := by rfl)
    (hw : swappedStores [.Tuple [.Name x px, .Name y py] kt pt] (.Tuple [a, b] k2 pt2) X.env = pure (some [x, y]) := by rfl)
    (hs : swapsWithSole [.Tuple [.Name x px, .Name y py] kt pt] (.Tuple [a, b] k2 pt2) pos.line X.env = pure false := by rfl) :
    DS X G B Wx (.Assign [.Tuple [.Name x px, .Name y py] kt pt] (.Tuple [a, b] k2 pt2) pos) (mPar i j na nb) := by
  refine PS.weak (ps_par gd.calm hN hi hj hij hx hy (pa_cons ha (pa_cons hb pa_nil he2) he) hw hs) fun E σ H ⟨W, δ, P, ok, hm, l⟩ => ?_
  have h := par_core ok hm l (fun _ _ _ => True) (fun _ _ _ _ _ _ => True.intro)
  obtain ⟨W, δ, Qd, Qx, ok, hm, k1, k2⟩ := h
  refine ⟨W, δ, Qd, Qx, ok, hm, fun s v W' H' q o g x w st => ?_, k2⟩
  obtain ⟨W, δ, Qd, Qx, ok, hm, k1, k2⟩ := k1 s v W' H' q o g x w st
  refine ⟨W, δ, Qd, Qx, ok, hm, fun s v W' H' q o g x w st => ?_, k2⟩
  exact ⟨_, _, rfl, k1 s v W' H' q o g x w st⟩
end
end Ct

set_option Elab.async false
set_option linter.all false
set_option maxRecDepth 100000
set_option maxHeartbeats 4000000
namespace Ct
open PySem PySem.Spec PyProof.Rows L2

/-! ### what is walked -/
/-- from (W, H) on the iterator J gives the items ds, one a turn -/
structure Walks (G : Gb) (so : So) (J : It) (W : Addr → Prop) (H : Hp) (ds : List D) : Prop where
  go : ∀ (i : Nat) W' H', Go W H W' H' → i < ds.length → J.go i H'
  stop : ∀ (i : Nat) W' H', Go W H W' H' → i = ds.length → J.stop i H'
  yld : ∀ (i : Nat) W' H' x H'', Go W H W' H' → i < ds.length → (∀ b, W' b → ∃ o, H' b = some o) → J.yld i H' x H'' → ∃ d, ds[i]? = some d ∧ Ext H' H'' ∧ Dat G so W' H'' d x
abbrev MI := MA
def liftI (G : Gb) (B : Bs) (Wx : WX) (m : MI) : TI := fun σ H R => ∃ W δ Qd Qx, Sok G B W σ H δ ∧ m δ Qd Qx ∧
  (∀ ds J H', Qd ds → Xt B.so H H' → SrcOk B.so H' → Walks G B.so J W H' ds → R J H') ∧ (∀ x cls dd H', Qx x → Xt B.so H H' → SrcOk B.so H' → Exok G B.so W H' x cls dd → Wx cls dd σ H')
abbrev DI (X : Cx) (G : Gb) (B : Bs) (Wx : WX) (tg e : Expr) (m : MI) : Prop := PI X tg e (liftI G B Wx m)
theorem PI.weak {X : Cx} {tg e : Expr} {t t' : TI} (h : PI X tg e t) (k : ∀ σ H Q, t' σ H Q → t σ H Q) : PI X tg e t' := ⟨fun pins s σ H Q I q => h.run pins s σ H Q I (k σ H Q q)⟩
section
variable {X : Cx} {G : Gb} {B : Bs} {Wx : WX} {k : Nat} {tg e a b c : Expr} {es : List Expr} {m ma mb mc : M} {ms : MA} {mt mu : MT} {pos : Pos}
/-- a list or a tuple that nobody writes -/
def itD (d : D) (Q : List D → Prop) : Prop := match d with
  | .lst ds => Q ds
  | _ => False
def mIt (m : M) : MI := fun δ Q X => m δ (fun d => itD d Q) X
theorem walks_list {K : PySem.W.Frag} {so : So} {W : Addr → Prop} {H : Hp} {a : Addr} {xs : List V} {ds : List D} (w : ¬ W a) (h : H a = some (.lst xs)) (hd : Dats G so W H ds xs) : Walks G so (Itl K a) W H ds := by
  refine ⟨fun i W' H' g hi => ?_, fun i W' H' g hi => ?_, fun i W' H' x H'' g hi tr y => ?_⟩
  · obtain ⟨_, h'⟩ := g a _ w h
    have hi' : i < xs.length := by rw [hd.length]; exact hi
    exact ⟨xs, xs[i], SqL.of h', by simp [hi']⟩
  · obtain ⟨_, h'⟩ := g a _ w h
    exact ⟨xs, SqL.of h', by rw [hd.length]; omega⟩
  · obtain ⟨_, h'⟩ := g a _ w h
    obtain ⟨rfl, y⟩ := y
    obtain ⟨d, e1, e2⟩ := hd.getV (y xs (SqL.of h'))
    exact ⟨d, e1, Ext.refl, Dat.go g d x e2⟩
theorem walks_tup {so : So} {W : Addr → Prop} {H : Hp} {a : Addr} {xs : List V} {ds : List D} (w : (¬ W a ∧ H a = some (.tup xs)) ∨ Kt G.K a xs) (hd : Dats G so W H ds xs) : Walks G so (Itt G.K a) W H ds := by
  have sq : ∀ {W' H'}, Go W H W' H' → SqT G.K H' a xs := fun {W' H'} g => w.elim (fun z => SqT.of (g a _ z.1 z.2).2) fun z => .inr z
  refine ⟨fun i W' H' g hi => ?_, fun i W' H' g hi => ?_, fun i W' H' x H'' g hi tr y => ?_⟩
  · have hi' : i < xs.length := by rw [hd.length]; exact hi
    exact ⟨xs, xs[i], sq g, by simp [hi']⟩
  · exact ⟨xs, sq g, by rw [hd.length]; omega⟩
  · obtain ⟨rfl, y⟩ := y
    obtain ⟨d, e1, e2⟩ := hd.getV (y xs (sq g))
    exact ⟨d, e1, Ext.refl, Dat.go g d x e2⟩
theorem di_list (h : DE X G B Wx e m) : DI X G B Wx tg e (mIt m) := by
  refine PI.weak (pi_list h) fun σ H Q ⟨W, δ, Qd, Qx, ok, hm, k, kx⟩ => ?_
  refine ⟨W, δ, _, Qx, ok, hm, fun d v H1 q x s hd => ?_, kx⟩
  unfold itD at q
  split at q
  · obtain ⟨a, xs, rfl, w, h1, h2⟩ := hd
    exact ⟨a, rfl, ⟨xs, SqL.of h1⟩, k _ _ H1 q x s (walks_list w h1 h2)⟩
  · exact q.elim
def mItT (m : M) : MI := fun δ Q X => m δ (fun d => ∃ ds, d = .tup ds ∧ Q ds) X
theorem di_tup (g : X.K = G.K) (h : DE X G B Wx e m) : DI X G B Wx tg e (mItT m) := by
  refine PI.weak (pi_tup h) fun σ H Q ⟨W, δ, Qd, Qx, ok, hm, k, kx⟩ => ?_
  refine ⟨W, δ, _, Qx, ok, hm, fun d v H1 q x s hd => ?_, kx⟩
  obtain ⟨ds, rfl, q⟩ := q
  obtain ⟨a, xs, rfl, w, h2⟩ := hd
  rw [g]
  exact ⟨a, rfl, ⟨xs, sqT_of w⟩, k _ _ H1 q x s (walks_tup w h2)⟩
def signsOf (s : Str) : List D := s.cps.toList.map fun c => .str ⟨#[c]⟩
def mItS (m : M) : MI := fun δ Q X => m δ (fun d => ∃ s, d = .str s ∧ Q (signsOf s)) X
theorem di_str (h : DE X G B Wx e m) : DI X G B Wx tg e (mItS m) := by
  refine PI.weak (pi_str h) fun σ H Q ⟨W, δ, Qd, Qx, ok, hm, k, kx⟩ => ?_
  refine ⟨W, δ, _, Qx, ok, hm, fun d v H1 q x s hd => ?_, kx⟩
  obtain ⟨z, rfl, q⟩ := q
  refine ⟨z, hd, k _ _ H1 q x s ⟨fun i W' H' g hi => ?_, fun i W' H' g hi => ?_, fun i W' H' x H'' g hi tr y => ?_⟩⟩
  · unfold signsOf at hi
    show i < z.cps.size
    simpa using hi
  · unfold signsOf at hi
    show z.cps.size ≤ i
    rw [hi]; simp
  · obtain ⟨rfl, c, hc, rfl⟩ := y
    refine ⟨.str ⟨#[c]⟩, ?_, Ext.refl, rfl⟩
    unfold signsOf
    rw [List.getElem?_map]
    simp [hc]
def rangeOf (lo : Int) (n : Nat) : List D := (List.range n).map fun (i : Nat) => .int (lo + (i : Int))
def mRng1 (m : M) : MI := fun δ Q X => m δ (fun d => ∃ j, d = .int j ∧ -1000000 ≤ j ∧ j ≤ 1000000 ∧ Q (rangeOf 0 j.toNat)) X
def mRng2 (m m' : M) : MI := fun δ Q X => m δ (fun d => m' δ (fun d' => ∃ i j, d = .int i ∧ d' = .int j ∧ -1000000 ≤ i ∧ i ≤ 1000000 ∧ -1000000 ≤ j ∧ j ≤ 1000000 ∧ Q (rangeOf i (j - i).toNat)) X) X
theorem walks_range {so : So} {W : Addr → Prop} {H : Hp} {lo : Int} {n : Nat} : Walks G so (Itr lo n) W H (rangeOf lo n) := by
  refine ⟨fun i W' H' g hi => ?_, fun i W' H' g hi => ?_, fun i W' H' x H'' g hi tr y => ?_⟩
  · unfold rangeOf at hi
    show i < n
    simpa using hi
  · unfold rangeOf at hi
    show n ≤ i
    rw [hi]; simp
  · obtain ⟨rfl, rfl⟩ := y
    refine ⟨.int (lo + (i : Int)), ?_, Ext.refl, rfl⟩
    unfold rangeOf at hi ⊢
    have hi' : i < n := by simpa using hi
    simp [hi']
theorem six2 : (1000000 : Int) < 2 ^ 62 := by decide
theorem di_range1 {p : Pos} (h : DE X G B Wx e m) (hm : X.mg "range" = none) (hg : Gl X "range" := by rfl) (hs : starEach [e] X.env = [(false, eval e X.env)] := by rfl) : DI X G B Wx tg (.Call (.Name "range" p) [e] [] pos) (mRng1 m) := by
  refine PI.weak (pi_range1 hg hm (pa_cons h pa_nil hs) hs) fun σ H Q ⟨W, δ, Qd, Qx, ok, hm, k, kx⟩ => ?_
  refine ⟨W, δ, _, Qx, ok, hm, fun d v H1 q x s hd => ?_, kx⟩
  obtain ⟨j, rfl, h1, h2, q⟩ := q
  cases hd
  exact ⟨j, rfl, by omega, by omega, k _ _ H1 q x s walks_range⟩
theorem di_range2 {p : Pos} (h : DE X G B Wx a ma) (h' : DE X G B Wx b mb) (hm : X.mg "range" = none) (hg : Gl X "range" := by rfl) (hs : starEach [a, b] X.env = [(false, eval a X.env), (false, eval b X.env)] := by rfl) (hs2 : starEach [b] X.env = [(false, eval b X.env)] := by rfl) :
    DI X G B Wx tg (.Call (.Name "range" p) [a, b] [] pos) (mRng2 ma mb) := by
  refine PI.weak (pi_range2 hg hm (pa_cons h (pa_cons h' pa_nil hs2) (by rw [hs, hs2])) hs hs2) fun σ H Q ⟨W, δ, Qd, Qx, ok, hm, k, kx⟩ => ?_
  refine ⟨W, δ, _, Qx, ok, hm, fun d v H1 q x s hd => ?_, kx⟩
  refine ⟨W, δ, _, Qx, ok.xt x s, q, fun d' v' H2 q2 x2 s2 hd' => ?_, fun y cls dd H' q x' s ex => kx y cls dd H' q (x.trans x') s ex⟩
  obtain ⟨i, j, rfl, rfl, h1, h2, h3, h4, q⟩ := q2
  cases hd
  cases hd'
  exact ⟨i, j, rfl, ⟨by omega, by omega, by omega, by omega⟩, k _ _ H2 q (x.trans x2) s2 walks_range⟩
/-- the items by twos with their numbers -/
def enumOf (ds : List D) : List D := (List.range ds.length).zipWith (fun (i : Nat) d => .tup [.int (i : Int), d]) ds
def mEnum (m : M) : MI := fun δ Q X => m δ (fun d => itD d fun ds => Q (enumOf ds)) X
theorem enumOf_get {ds : List D} {i : Nat} {d : D} (h : ds[i]? = some d) : (enumOf ds)[i]? = some (.tup [.int (i : Int), d]) := by
  unfold enumOf
  have hi := (List.getElem?_eq_some_iff.mp h).1
  rw [List.getElem?_zipWith, List.getElem?_range hi, h]
theorem enumOf_len {ds : List D} : (enumOf ds).length = ds.length := by
  unfold enumOf
  simp
theorem di_enum {p tpos : Pos} {elts : List Expr} {kk : Nat} (gK : X.K = G.K) (h : DE X G B Wx e m) (hm : X.mg "enumerate" = none) (hg : Gl X "enumerate" := by rfl) (hs : starEach [e] X.env = [(false, eval e X.env)] := by rfl) : DI X G B Wx (.Tuple elts kk tpos) (.Call (.Name "enumerate" p) [e] [] pos) (mEnum m) := by
  refine PI.weak (pi_enum hg hm (pa_cons h pa_nil hs) hs) fun σ H Q ⟨W, δ, Qd, Qx, ok, hm, k, kx⟩ => ?_
  refine ⟨W, δ, _, Qx, ok, hm, fun d v H1 q x s hd => ?_, kx⟩
  unfold itD at q
  split at q
  · rename_i ds
    obtain ⟨a, xs, rfl, w, h1, h2⟩ := hd
    refine ⟨a, xs, rfl, SqL.of h1, k _ _ H1 q x s ⟨fun i W' H' g hi => ?_, fun i W' H' g hi => ?_, fun i W' H' x H'' g hi tr y => ?_⟩⟩
    · obtain ⟨_, h'⟩ := g a _ w h1
      have hi' : i < xs.length := by rw [h2.length]; rw [enumOf_len] at hi; exact hi
      exact ⟨xs, xs[i], SqL.of h', by simp [hi']⟩
    · obtain ⟨_, h'⟩ := g a _ w h1
      exact ⟨xs, SqL.of h', by rw [h2.length]; rw [enumOf_len] at hi; omega⟩
    · obtain ⟨_, h'⟩ := g a _ w h1
      obtain ⟨T, z, rfl, hT, rfl, y⟩ := y
      obtain ⟨d, e1, e2⟩ := h2.getV (y xs (SqL.of h'))
      refine ⟨_, enumOf_get e1, Ext.new hT, T, _, rfl, .inl ⟨nwOf tr hT, upd_same⟩, _, _, rfl, rfl, z, [], rfl, ?_, rfl⟩
      exact Dat.go (g.trans (Ext.go (Ext.new hT))) d z e2
  · exact q.elim

/-! ### targets -/
abbrev MG := D → Ev → (Ev → Prop) → Prop
abbrev MGs := List D → Ev → (Ev → Prop) → Prop
def liftTg (G : Gb) (B : Bs) (ix : List Nat) (m : MG) : TG := fun v σ H Q => ∃ W δ d Qe, Sok G B W σ H δ ∧ Dat G B.so W H d v ∧ m d δ Qe ∧ (∀ δ' σ', Qe δ' → Sok G B W σ' H δ' → (∀ j, j ∉ ix → σ'[j]? = σ[j]?) → σ'.length = σ.length → Q σ' H)
def liftTgs (G : Gb) (B : Bs) (ix : List Nat) (m : MGs) : TGs := fun vs σ H Q => ∃ W δ ds Qe, Sok G B W σ H δ ∧ Dats G B.so W H ds vs ∧ m ds δ Qe ∧ (∀ δ' σ', Qe δ' → Sok G B W σ' H δ' → (∀ j, j ∉ ix → σ'[j]? = σ[j]?) → σ'.length = σ.length → Q σ' H)
theorem PG.weak {X : Cx} {e : Expr} {t t' : TG} (h : PG X e t) (k : ∀ v σ H Q, t' v σ H Q → t v σ H Q) : PG X e t' := ⟨fun pins s σ H v u Q I r q => h.run pins s σ H v u Q I r (k v σ H Q q)⟩
theorem PGs.weak {X : Cx} {e : List Expr} {t t' : TGs} (h : PGs X e t) (k : ∀ v σ H Q, t' v σ H Q → t v σ H Q) : PGs X e t' := ⟨fun pins s σ H v u Q I r q => h.run pins s σ H v u Q I r (k v σ H Q q)⟩
abbrev DG (X : Cx) (G : Gb) (B : Bs) (ix : List Nat) (e : Expr) (m : MG) : Prop := PG X e (liftTg G B ix m)
abbrev DGs (X : Cx) (G : Gb) (B : Bs) (ix : List Nat) (e : List Expr) (m : MGs) : Prop := PGs X e (liftTgs G B ix m)
@[simp] def mgN (i : Nat) : MG := fun d δ Q => Q (δ.set i (some (.d d)))
theorem set_other {α : Type} {l : List α} {i j : Nat} {x : α} (h : j ∉ [i]) : (l.set i x)[j]? = l[j]? := by
  have : j ≠ i := fun e => h (by simp [e])
  rw [List.getElem?_set_ne (Ne.symm this)]
theorem dg_name {i : Nat} {x : Str} (hN : X.N.Nodup) (hi : X.N[i]? = some x := by rfl) (hx : Loc X.env.scope x := by first | exact Or.inl rfl | exact Or.inr rfl) (hf : X.fn x = true ∨ X.env.scope.names.lookup x = some .local := by first | exact .inl rfl | exact .inr rfl) : DG X G B [i] (.Name x pos) (mgN i) :=
  PG.weak (pg_name hN hi hx hf) fun v σ H Q ⟨W, δ, d, Qe, ok, hd, hm, k⟩ => k _ _ hm (ok.put i hd) (fun j hj => set_other hj) (by simp)
@[simp] def mgNil : MGs := fun ds δ Q => ds = [] ∧ Q δ
@[simp] def mgCons (m : MG) (ms : MGs) : MGs := fun ds δ Q => ∃ d r, ds = d :: r ∧ m d δ (fun δ' => ms r δ' Q)
theorem dgs_nil : DGs X G B [] [] mgNil := PGs.weak pgs_nil fun vs σ H Q ⟨W, δ, ds, Qe, ok, hd, hm, k⟩ => by
  obtain ⟨rfl, q⟩ := hm
  exact ⟨hd, k δ σ q ok (fun _ _ => rfl) rfl⟩
theorem dgs_cons {ix jx : List Nat} {m : MG} {ms : MGs} (h1 : DG X G B ix e m) (h2 : DGs X G B jx es ms) (hs : (assignEach (e :: es) X.env).map (·.2) = assign e X.env :: (assignEach es X.env).map (·.2) := by rfl) : DGs X G B (ix ++ jx) (e :: es) (mgCons m ms) := by
  refine PGs.weak (pgs_cons h1 h2 hs) fun vs σ H Q ⟨W, δ, ds, Qe, ok, hd, hm, k⟩ => ?_
  obtain ⟨d, r, rfl, hm⟩ := hm
  obtain ⟨v, vr, rfl, hd1, hd2⟩ := hd
  refine ⟨v, vr, rfl, W, δ, d, _, ok, hd1, hm, fun δ' σ' q ok' ag ln => ?_⟩
  refine ⟨W, δ', r, Qe, ok', hd2, q, fun δ2 σ2 q2 ok2 ag2 ln2 => k δ2 σ2 q2 ok2 (fun j hj => ?_) (ln2.trans ln)⟩
  rw [ag2 j (fun z => hj (List.mem_append_right _ z)), ag j (fun z => hj (List.mem_append_left _ z))]
@[simp] def mgTup (n : Nat) (ms : MGs) : MG := fun d δ Q => ∃ ds, d = .tup ds ∧ ds.length = n ∧ ms ds δ Q
theorem dg_tup {ix : List Nat} {kk n : Nat} {ms : MGs} (gK : X.K = G.K) (hc : X.calm = true) (h : DGs X G B ix es ms) (hn : (assignEach es X.env).length = n := by rfl) (hst : (assignEach es X.env).findIdx? (·.1) = none := by rfl) : DG X G B ix (.Tuple es kk pos) (mgTup n ms) := by
  refine PG.weak (pg_tup hc h hn hst) fun v σ H Q ⟨W, δ, d, Qe, ok, hd, hm, k⟩ => ?_
  obtain ⟨ds, rfl, hl, hm⟩ := hm
  obtain ⟨a, xs, rfl, w, h2⟩ := hd
  exact ⟨a, xs, rfl, by rw [gK]; exact sqT_of w, by rw [h2.length]; exact hl, W, δ, ds, Qe, ok, h2, hm, k⟩
/-- a, b = e -/
@[simp] def mTo (m : M) (g : MG) : MS := fun P δ => m δ (fun d => g d δ P.nx) (fun x => P.ex x δ)
theorem ds_to {tg e : Expr} {ix : List Nat} {g : MG} (he : DE X G B Wx e m) (hg : DG X G B ix tg g) (hs : swapsWithSole [tg] e pos.line X.env = pure false := by rfl) (hw : swappedStores [tg] e X.env = pure none := by rfl) (h1 : (assignEach [tg] X.env).map (·.2) = [assign tg X.env] := by rfl) :
    DS X G B Wx (.Assign [tg] e pos) (mTo m g) := by
  refine PS.weak (ps_asg he hg hs hw h1) fun E σ H ⟨W, δ, P, ok, hm, l⟩ => ?_
  exact ⟨W, δ, _, _, ok, hm, fun d v H' q x s hd => ⟨W, δ, d, _, ok.xt x s, hd, q, fun δ' σ' q' ok' _ _ => l.nx W δ' σ' H' q' ok' (Xt.go ok.sta.wsrc x)⟩, fun y cls dd H' q x s ex => l.ex y cls dd W δ σ H' q (ok.xt x s) (Xt.go ok.sta.wsrc x) ex⟩

/-! ### for, while -/
def forGo (g : MG) (n : MS) (P : PD) : List D → Ev → Prop
  | [], δ => P.nx δ
  | d :: ds, δ => g d δ (fun δ' => n { nx := forGo g n P ds, rt := P.rt, bk := P.nx, ct := forGo g n P ds, ex := P.ex, rtn := P.rtn, rtl := P.rtl } δ')
def mFor (mi : MI) (g : MG) (n : MS) : MS := fun P δ => mi δ (fun ds => forGo g n P ds δ) (fun x => P.ex x δ)
theorem drop_get {α : Type} {ds : List α} {i : Nat} {d : α} (h : ds[i]? = some d) : ds.drop i = d :: ds.drop (i + 1) := by
  have hi := (List.getElem?_eq_some_iff.mp h).1
  rw [List.drop_eq_getElem_cons hi]
  rw [(List.getElem?_eq_some_iff.mp h).2]
theorem ds_for {iter : Expr} {body : List Stmt} {mi : MI} {ix : List Nat} {g : MG} {n : MS} (hp : PassesOwn (model X.prog X.w) X.A X.env X.xe) (hc : X.calm = true) (hi : DI X G B Wx tg iter mi) (hg : DG X G B ix tg g) (hb : DB X G B Wx body n)
    (hs : ∀ x, foldedSetIterable iter X.env x = pure x := by intro _; rfl) : DS X G B Wx (.For tg iter body [] pos) (mFor mi g n) := by
  refine PS.weak (ps_for hp hc hi hg hb hs) fun E σ H ⟨W, δ, P, ok, hm, l⟩ => ?_
  refine ⟨W, δ, _, _, ok, hm, fun ds J H1 q x s wk => ?_, fun y cls dd H' q x s ex => l.ex y cls dd W δ σ H' q (ok.xt x s) (Xt.go ok.sta.wsrc x) ex⟩
  have ok1 := ok.xt x s
  refine ⟨fun i m σ' H' => m = ds.length - i ∧ i ≤ ds.length ∧ ∃ W' δ', Sok G B W' σ' H' δ' ∧ Go W H1 W' H' ∧ forGo g n P (ds.drop i) δ', ⟨ds.length, by simp, Nat.zero_le _, W, δ, ok1, Go.refl, q⟩, ?_⟩
  rintro i mm σ' H' ⟨rfl, hi, W', δ', ok', go', q'⟩
  by_cases hlt : i < ds.length
  · refine .inr ⟨wk.go i W' H' go' hlt, fun σ2 H2 => ∃ W2 δ2, Sok G B W2 σ2 H2 δ2 ∧ Go W H1 W2 H2 ∧ forGo g n P (ds.drop (i + 1)) δ2, fun σ2 H2 ⟨W2, δ2, o2, g2, q2⟩ => ⟨ds.length - (i + 1), by omega, rfl, hlt, W2, δ2, o2, g2, q2⟩, fun v H2 y => ?_⟩
    obtain ⟨d, e1, e2, e3⟩ := wk.yld i W' H' v H2 go' hlt ok'.sta.trk y
    rw [drop_get e1] at q'
    have go2 : Go W H1 W' H2 := go'.trans (Ext.go e2)
    refine ⟨W', δ', d, _, ok'.ext e2, e3, q', fun δ2 σ2 q2 o2 _ _ => ?_⟩
    refine ⟨W', δ2, _, o2, q2, ?_⟩
    refine ⟨fun W3 δ3 σ3 H3 p3 o3 g3 => ⟨W3, δ3, o3, go2.trans g3, p3⟩, l.rt, fun W3 δ3 σ3 H3 p3 o3 g3 => ?_, fun W3 δ3 σ3 H3 p3 o3 g3 => ⟨W3, δ3, o3, go2.trans g3, p3⟩, fun y cls dd W3 δ3 σ3 H3 p3 o3 g3 ex => ?_, l.rtn, l.rtl⟩
    · exact l.nx W3 δ3 σ3 H3 p3 o3 (((Xt.go ok.sta.wsrc x).trans go2).trans g3)
    · exact l.ex y cls dd W3 δ3 σ3 H3 p3 o3 (((Xt.go ok.sta.wsrc x).trans go2).trans g3) ex
  · have he : i = ds.length := by omega
    refine .inl ⟨wk.stop i W' H' go' he, ?_⟩
    rw [he, List.drop_length] at q'
    exact l.nx W' δ' σ' H' q' ok' ((Xt.go ok.sta.wsrc x).trans go')
/-- a while, by what holds ahead of each turn, with a number that falls -/
def mWhile (mt : MT) (n : MS) : MS := fun P δ => ∃ I : Nat → Ev → Prop, (∃ j, I j δ) ∧ ∀ j δ', I j δ' → mt δ' (fun c => if c = true then n { nx := fun δ2 => ∃ j', j' < j ∧ I j' δ2, rt := P.rt, bk := P.nx, ct := fun δ2 => ∃ j', j' < j ∧ I j' δ2, ex := P.ex, rtn := P.rtn, rtl := P.rtl } δ' else P.nx δ') (fun x => P.ex x δ')
theorem ds_while {body : List Stmt} {n : MS} (hp : PassesOwn (model X.prog X.w) X.A X.env X.xe) (hc : DT X G B Wx c mt) (hb : DB X G B Wx body n) : DS X G B Wx (.While c body [] pos) (mWhile mt n) := by
  refine PS.weak (ps_while hp hc hb) fun E σ H ⟨W, δ, P, ok, hm, l⟩ => ?_
  obtain ⟨I, ⟨j0, i0⟩, hI⟩ := hm
  refine ⟨fun j σ' H' => ∃ W' δ', Sok G B W' σ' H' δ' ∧ Go W H W' H' ∧ I j δ', ⟨j0, W, δ, ok, Go.refl, i0⟩, ?_⟩
  rintro j σ' H' ⟨W', δ', ok', go', i'⟩
  refine ⟨W', δ', _, _, ok', hI j δ' i', fun b H2 q x s => ?_, fun y cls dd H2 q x s ex => l.ex y cls dd W' δ' σ' H2 q (ok'.xt x s) (go'.trans (Xt.go ok'.sta.wsrc x)) ex⟩
  have go2 := go'.trans (Xt.go ok'.sta.wsrc x)
  cases b with
  | true =>
    refine ⟨fun σ3 H3 => ∃ j', j' < j ∧ ∃ W3 δ3, Sok G B W3 σ3 H3 δ3 ∧ Go W H W3 H3 ∧ I j' δ3, fun σ3 H3 ⟨j', hj, w⟩ => ⟨j', hj, w⟩, W', δ', _, ok'.xt x s, q, ?_⟩
    refine ⟨fun W3 δ3 σ3 H3 ⟨j', hj, p3⟩ o3 g3 => ⟨j', hj, W3, δ3, o3, go2.trans g3, p3⟩, l.rt, fun W3 δ3 σ3 H3 p3 o3 g3 => l.nx W3 δ3 σ3 H3 p3 o3 (go2.trans g3), fun W3 δ3 σ3 H3 ⟨j', hj, p3⟩ o3 g3 => ⟨j', hj, W3, δ3, o3, go2.trans g3, p3⟩, fun y cls dd W3 δ3 σ3 H3 p3 o3 g3 ex => l.ex y cls dd W3 δ3 σ3 H3 p3 o3 (go2.trans g3) ex, l.rtn, l.rtl⟩
  | false => exact l.nx W' δ' σ' H2 q (ok'.xt x s) go2
end
end Ct

set_option Elab.async false
set_option linter.all false
set_option maxRecDepth 100000
set_option maxHeartbeats 4000000
namespace Ct
open PySem PySem.Spec PyProof.Rows L2

/-! ### comprehensions -/
def wipeE (δ : Ev) : List Nat → Ev
  | [] => δ
  | v :: vs => (wipeE δ vs).set v none
theorem wipe_get (σ : L2.St) (j : Nat) : ∀ vs : List Nat, (wipe σ vs)[j]? = if j ∈ vs then (if j < σ.length then some none else none) else σ[j]?
  | [] => by simp [wipe]
  | v :: vs => by
    have ih := wipe_get σ j vs
    have hl := wipe_length σ vs
    show ((wipe σ vs).set v none)[j]? = _
    by_cases h : j = v
    · subst h
      by_cases hj : j < σ.length
      · rw [List.getElem?_set_self (by rw [hl]; exact hj)]
        simp [hj]
      · rw [List.getElem?_eq_none (by simp [hl]; omega)]
        simp [hj]
    · rw [List.getElem?_set_ne (Ne.symm h), ih]
      simp [h]
theorem wipe_agree {σ σ' : L2.St} {vs ix : List Nat} (h : ∀ j, j ∉ ix → σ'[j]? = (wipe σ vs)[j]?) (hs : ∀ j ∈ ix, j ∈ vs) (hl : σ'.length = (wipe σ vs).length) : wipe σ' vs = wipe σ vs := by
  have hl' : σ'.length = σ.length := by rw [hl, wipe_length]
  apply List.ext_getElem?
  intro j
  rw [wipe_get σ' j vs, wipe_get σ j vs, hl']
  by_cases hj : j ∈ vs
  · rw [if_pos hj, if_pos hj]
  · rw [if_neg hj, if_neg hj, h j (fun z => hj (hs j z)), wipe_get, if_neg hj]
section
variable {X : Cx} {G : Gb} {B : Bs} {Wx : WX} {k : Nat} {tg e a b c : Expr} {es : List Expr} {m ma mb mc : M} {ms : MA} {mt mu : MT} {pos : Pos}
theorem Sok.wipe {W : Addr → Prop} {H : Hp} {σ : L2.St} {δ : Ev} (h : Sok G B W σ H δ) : ∀ vs : List Nat, Sok G B W (L2.wipe σ vs) H (wipeE δ vs)
  | [] => h
  | v :: vs => (Sok.wipe h vs).drop v
abbrev W0 : WX := fun _ _ _ _ => False
abbrev noX : Exn → Prop := fun _ => False
def lcGo (g : MG) (mt : MT) (me : M) (Q : List D → Prop) (δw : Ev) : List D → List D → Prop
  | [], acc => Q acc
  | d :: ds, acc => g d δw (fun δ2 => mt δ2 (fun b => if b = true then me δ2 (fun y => acc.length < 1000000 ∧ lcGo g mt me Q δw ds (acc ++ [y])) noX else lcGo g mt me Q δw ds acc) noX)
def mLc (mi : MI) (g : MG) (mt : MT) (me : M) (vs : List Nat) : MA := fun δ Q X => mi δ (fun ds => lcGo g mt me Q (wipeE δ vs) ds []) X
abbrev Blk (X : Cx) (s : Shared) (H : Hp) (scope : Scope) (C : Addr) (cl : List (Str × Addr)) (fp : List Addr) : Cx := X.blk s H scope (compEnvC scope cl C X.env) fp
def mYes : MT := fun _ Q _ => Q true
theorem dts_nil : PTs X [] (liftT G B Wx mYes) := ⟨fun pins s σ H Q I ⟨W, δ, Qd, Qx, ok, hm, k, kx⟩ => pts_nil.run pins s σ H Q I (k true H hm Xt.refl ok.sta.src)⟩
theorem dts_one (h : DT X G B Wx c mt) : PTs X [c] (liftT G B Wx mt) := pts_one h
theorem lc_lift {σ : L2.St} {H : Hp} {Q : VK} {mi : MI} {g : MG} {me : M} {ix vs : List Nat} (hs : ∀ j ∈ ix, j ∈ vs) (h : liftN G B Wx (mLc mi g mt me vs) σ H Q) : tLc (liftI G B Wx mi) (liftTg G B ix g) (liftT G B W0 mt) (lift G B W0 me) vs σ H Q := by
  obtain ⟨W, δ, Qd, Qx, ok, hm, k, kx⟩ := h
  refine ⟨W, δ, _, Qx, ok, hm, fun ds J H1 q x s wk Dl hD => ?_, kx⟩
  have ok1 := ok.xt x s
  have nW := ok1.sta.nw hD
  have nS := ok1.sta.nsrc nW
  have hD0 := x.back hD nS
  refine ⟨fun i m H' => m = ds.length - i ∧ i ≤ ds.length ∧ Xt B.so H1 H' ∧ SrcOk B.so H' ∧ ∃ acc accV, H' Dl = some (.lst accV) ∧ Dats G B.so (fun b => b = Dl ∨ W b) H' acc accV ∧ lcGo g mt me Qd (wipeE δ vs) (ds.drop i) acc,
    ⟨ds.length, by simp, Nat.zero_le _, (Ext.new hD).xt, s.ext fun b o _ q => Ext.new hD b o q, [], [], upd_same, rfl, q⟩, ?_⟩
  rintro i mm H' ⟨rfl, hi, x', s', acc, accV, hl, hd, q'⟩
  have ok' : Sok G B (fun b => b = Dl ∨ W b) σ H' δ := ok1.grow hD x' s' hl
  have go' : Go W H1 (fun b => b = Dl ∨ W b) H' := Xt.goN ok.sta.wsrc x' hD
  by_cases hlt : i < ds.length
  · refine .inr ⟨wk.go i _ H' go' hlt, fun H2 => Xt B.so H1 H2 ∧ SrcOk B.so H2 ∧ ∃ acc accV, H2 Dl = some (.lst accV) ∧ Dats G B.so (fun b => b = Dl ∨ W b) H2 acc accV ∧ lcGo g mt me Qd (wipeE δ vs) (ds.drop (i + 1)) acc, fun H2 ⟨x2, s2, w⟩ => ⟨ds.length - (i + 1), by omega, rfl, hlt, x2, s2, w⟩, fun v H2 y => ?_⟩
    obtain ⟨d, e1, e2, e3⟩ := wk.yld i _ H' v H2 go' hlt ok'.sta.trk y
    rw [drop_get e1] at q'
    have ok2 := (ok'.ext e2).wipe vs
    refine ⟨_, _, d, _, ok2, e3, q', fun δ2 σ2 q2 o2 ag ln => ⟨wipe_agree ag hs ln, ?_⟩⟩
    refine ⟨_, δ2, _, _, o2, q2, fun b H3 q3 x3 s3 => ?_, fun _ _ _ _ z => z.elim⟩
    have x03 : Xt B.so H' H3 := (Ext.xt e2).trans x3
    cases b with
    | true =>
      refine ⟨_, δ2, _, _, o2.xt x3 s3, q3, fun yd yv H4 q4 x4 s4 hy => ?_, fun _ _ _ _ z => z.elim⟩
      have x04 : Xt B.so H' H4 := x03.trans x4
      have hl4 := x04 Dl _ hl nS
      have hd4 := Dats.go (Xt.go ok'.sta.wsrc x04) _ _ hd
      have gu : ∀ o, Go (fun b => b = Dl ∨ W b) H4 (fun b => b = Dl ∨ W b) (upd H4 Dl o) := fun o b o' n eb => ⟨n, by rw [upd_ne (fun z => n (.inl z))]; exact eb⟩
      refine ⟨accV, hl4, Nat.lt_of_lt_of_le (by rw [hd.length]; exact q4.1) (sz6 (Nat.le_refl _)), ?_, ?_, acc ++ [yd], accV ++ [yv], upd_same, Dats.go (gu _) _ _ (Dats.append hd4 ⟨yv, [], rfl, hy, rfl⟩), q4.2⟩
      · exact fun b o eb n => by rw [upd_ne (ne_of_none eb hD)]; exact x04 b o (x' b o eb n) n
      · exact s4.ext fun b o z eb => by rw [upd_ne (fun w => nS (by rw [← w]; exact z))]; exact eb
    | false => exact ⟨x'.trans x03, s3, acc, accV, x03 Dl _ hl nS, Dats.go (Xt.go ok'.sta.wsrc x03) _ _ hd, q3⟩
  · have he : i = ds.length := by omega
    refine .inl ⟨wk.stop i _ H' go' he, ?_⟩
    rw [he, List.drop_length] at q'
    exact k acc Dl accV H' q' hD0 (x.trans x') s' hl hd
theorem ne_lc {elt iter : Expr} {ifs : List Expr} {scope : Scope} {own : List (Str × Nat)} {mi : MI} {g : MG} {me : M} {ix : List Nat} (hc : X.calm = true) (hN : X.N.Nodup) (hi : DI X G B Wx tg iter mi) (ok : BlkOk X.N X.env.scope scope own)
    (hg : ∀ (s : Shared) (H : Hp) (C : Addr) (cl : List (Str × Addr)) (fp : List Addr), DG (Blk X s H scope C cl fp) G B ix tg g) (ht : ∀ (s : Shared) (H : Hp) (C : Addr) (cl : List (Str × Addr)) (fp : List Addr), PTs (Blk X s H scope C cl fp) ifs (liftT G B W0 mt))
    (he : ∀ (s : Shared) (H : Hp) (C : Addr) (cl : List (Str × Addr)) (fp : List Addr), DE (Blk X s H scope C cl fp) G B W0 elt me) (hix : ∀ j ∈ ix, j ∈ own.map (·.2)) (hs : ∀ x, foldedSetIterable iter X.env x = pure x := by intro _; rfl) :
    NE X G B Wx (.ListComp elt [⟨tg, iter, ifs, 0⟩] scope pos) (mLc mi g mt me (own.map (·.2))) :=
  PE.weak (pe_lc hc hN hi ok hg ht he hs) fun σ H Q h => lc_lift hix h
/-- x = [..] on one line -/
theorem ds_setLc {i : Nat} {y : Str} {py spos : Pos} {elt iter : Expr} {ifs : List Expr} {scope : Scope} {own : List (Str × Nat)} {mi : MI} {g : MG} {me : M} {ix : List Nat} (hc : X.calm = true) (hN : X.N.Nodup) (hi : DI X G B Wx tg iter mi) (ok : BlkOk X.N X.env.scope scope own)
    (hg : ∀ (s : Shared) (H : Hp) (C : Addr) (cl : List (Str × Addr)) (fp : List Addr), DG (Blk X s H scope C cl fp) G B ix tg g) (ht : ∀ (s : Shared) (H : Hp) (C : Addr) (cl : List (Str × Addr)) (fp : List Addr), PTs (Blk X s H scope C cl fp) ifs (liftT G B W0 mt))
    (he : ∀ (s : Shared) (H : Hp) (C : Addr) (cl : List (Str × Addr)) (fp : List Addr), DE (Blk X s H scope C cl fp) G B W0 elt me) (hix : ∀ j ∈ ix, j ∈ own.map (·.2))
    (hsw : swapsWith (.ListComp elt [⟨tg, iter, ifs, 0⟩] scope pos) (some (.Name y py)) spos.line X.env = pure true) (hy : X.N[i]? = some y := by rfl) (hyl : X.env.scope.names.lookup y = some .local := by rfl) (hs : ∀ x, foldedSetIterable iter X.env x = pure x := by intro _; rfl) :
    DS X G B Wx (.Assign [.Name y py] (.ListComp elt [⟨tg, iter, ifs, 0⟩] scope pos) spos) (mSetN i (mLc mi g mt me (own.map (·.2)))) := by
  refine PS.weak (ps_setLc hc hN hy hyl hsw hi ok hg ht he hs) fun E σ H ⟨W, δ, P, ok, hm, l⟩ => ?_
  refine lc_lift hix ⟨W, δ, _, _, ok, hm, fun ds p xs H' q hp x s hl hd => put_new ok l q hp x s hl hd, fun y cls dd H' q x s ex => l.ex y cls dd W δ σ H' q (ok.xt x s) (Xt.go ok.sta.wsrc x) ex⟩
end

/-! ### a def by its body's wish -/
def startE (N : List Str) (ds : List D) : Ev := ds.map (fun d => some (.d d)) ++ List.replicate (N.length - ds.length) none
section
variable {P : Program} {w : World} {K : PySem.W.Frag} {mg : Str → Option Value} {base : Heap} {G : Gb}
theorem dats_slot {so : So} {W : Addr → Prop} {H : Hp} {ds : List D} {vs : List V} (h : Dats G so W H ds vs) : ∀ {i : Nat} {d : D}, ds[i]? = some d → ∃ v, vs[i]? = some v ∧ Dat G so W H d v := fun {i d} e => h.get e
theorem sok_start {N : List Str} {so : So} {W : Addr → Prop} {H : Hp} {ds : List D} {vs : List V} (st : Sta ⟨so, H, W⟩ W H) (h : Dats G so W H ds vs) : Sok G ⟨so, H, W⟩ W (L2.start N vs) H (startE N ds) := by
  have hl := h.length
  have key : ∀ (i : Nat) (s : Sl), (startE N ds)[i]? = some (some s) → ∃ d, s = .d d ∧ ds[i]? = some d := fun i s e => by
    unfold startE at e
    by_cases hi : i < ds.length
    · rw [List.getElem?_append_left (by simpa using hi), List.getElem?_map] at e
      cases e2 : ds[i]? with
      | none => rw [e2] at e; cases e
      | some d => rw [e2] at e; cases e; exact ⟨d, rfl, rfl⟩
    · rw [List.getElem?_append_right (by simpa using hi), List.getElem?_replicate] at e
      split at e <;> cases e
  refine ⟨st, ?_, fun i s e => ?_, fun i j s t u v a hij e1 e2 _ _ w1 _ => ?_⟩
  · unfold L2.start startE
    simp [hl]
  · obtain ⟨d, rfl, e2⟩ := key i s e
    obtain ⟨v, h1, h2⟩ := h.get e2
    refine ⟨v, ?_, h2⟩
    unfold L2.start
    have hi : i < vs.length := (List.getElem?_eq_some_iff.mp h1).1
    rw [List.getElem?_append_left (by simpa using hi), List.getElem?_map, h1]
    rfl
  · obtain ⟨d, rfl, _⟩ := key i _ e1
    exact w1
/-- a def keeps what its body's wish says -/
abbrev Xof (P : Program) (w : World) (K : PySem.W.Frag) (mg : Str → Option Value) (base : Heap) (N : List Str) (qual : Str) (st : Stmt) (f : Addr) (cdv : Value) (A : Around) (outer : List Env) (s : Shared) (H : Hp) (E : XK) : Cx :=
  cxOf (L2.CX P w) P w K mg base N qual (defScope st) f cdv A outer s H E
abbrev Wof (E : XK) : WX := fun cls d _ H => E cls d H
theorem fn_ct {x qual : Str} {st : Stmt} {f : Addr} {fd : FuncData} {N ps : List Str} {k : Nat} {sp : Spec} {n : MS} (F : Fun K x qual st f fd) (S : FnScope N ps (defScope st)) (gK : K = G.K) (len : ∀ ds Q X, sp ds Q X → ds.length = ps.length)
    (body : ∀ (cdv : Value) (A : Around) (outer : List Env) (s : Shared) (H : Hp) (E : XK) (B : Bs), Gd (Xof P w K mg base N qual st f cdv A outer s H E) G (Wof E) k → DB (Xof P w K mg base N qual st f cdv A outer s H E) G B (Wof E) (defBody st) n)
    (hn : ∀ ds Q Qx, sp ds Q Qx → n { nx := fun _ => Q .non, rt := Q, ex := fun x _ => Qx x } (startE N ds)) : FnOk P w K mg base (L2.CX P w) (k + 1) f fd ps (spOf G sp) := by
  refine F.okX S (fun vs H Q E h => ?_) (fun cdv A outer s H vs Q E hr h => ?_)
  · obtain ⟨so, W, ds, Qd, Qx, _, hd, hs, _⟩ := h
    rw [hd.length]; exact len ds Qd Qx hs
  · obtain ⟨so, W, ds, Qd, Qx, st0, hd, hs, kQ, kX⟩ := h
    have hb := body cdv A outer s H E ⟨so, H, W⟩ ⟨gK, hr, rfl, takes_of rfl rfl rfl rfl⟩
    refine ⟨_, hb, W, startE N ds, _, sok_start st0 hd, hn ds Qd Qx hs, ?_⟩
    exact ⟨fun W' δ σ H' q o g => kQ W' .non .non H' q o.sta rfl, fun W' d v H' q o hd => kQ W' d v H' q o hd, fun _ _ _ _ z => z.elim, fun _ _ _ _ z => z.elim, fun x cls dd W' δ σ H' q o g ex => kX W' x cls dd H' q o.sta ex, fun _ _ _ _ _ z => z.elim, fun _ _ _ _ _ z => z.elim⟩
end
end Ct

set_option Elab.async false
set_option linter.all false
set_option maxRecDepth 100000
set_option maxHeartbeats 4000000
namespace Ct
open PySem PySem.Spec PyProof.Rows L2

/-! ### defs that run where nothing is being shown (repr) -/
structure FnG (P : Program) (w : World) (K : PySem.W.Frag) (mg : Str → Option Value) (base : Heap) (k : Nat) (f : Addr) (fd : FuncData) (ps : List Str) (sp : Sp) : Prop where
  ln : ∀ vs H Q E, sp vs H Q E → vs.length = ps.length
  go : ∀ (A : Around) (outer : List Env) (s : Shared) (H : Hp) (args : Args) (us : List Value) (vs : List V) (Q : VK) (E : XK), A.guards = some [] → Room k A → Env0 P w K mg base A outer s H →
    BindsTo s fd args (ps.zip us) → Vals vs us → sp vs H Q E → codeAny (model P w) A (.call (.ref f) args) (CR (L2.CX P w) outer P w H s Q E) s
section
variable {P : Program} {w : World} {K : PySem.W.Frag} {mg : Str → Option Value} {base : Heap} {k : Nat} {f : Addr} {fd : FuncData} {ps : List Str} {sp : Sp}
theorem FnG.of (F : FnOk P w K mg base (L2.CX P w) k f fd ps sp) : FnG P w K mg base k f fd ps sp := ⟨F.len, fun A outer s H args us vs Q E _ => F.run A outer s H args us vs Q E⟩
theorem guards_deeper (A : Around) (env : Env) : (A.deeper env).guards = A.guards := rfl
/-- how the parameters' names lie -/
theorem binds_lie {N : List Str} {sc : Scope} {us : List Value} {n : Nat} (S : FnScope N ps sc) : ∀ y ∈ ps.zip us, sc.names.lookup y.1 = some .local ∨ (sc.names.lookup y.1 = some .cell ∧ ((cellsFrom n sc.names []).lookup y.1).isSome = true) := by
  intro y hy
  obtain ⟨n', v⟩ := y
  cases S.par n' (List.of_mem_zip hy).1 with
  | inl q => exact Or.inl q
  | inr q => exact Or.inr ⟨q, PySem.W.cellsFrom_some _ _ _ (Or.inl q)⟩
/-- one call of a def of the written part: its block is run from its start, where its first arguments lie -/
theorem entered {x qual : Str} {st : Stmt} {N : List Str} {t : TS} {A : Around} {outer : List Env} {s : Shared} {H : Hp} {args : Args} {us : List Value} {vs : List V} {Q : VK} {E : XK} (F : Fun K x qual st f fd) (S : FnScope N ps (defScope st))
    (room : Room (k + 1) A) (env : Env0 P w K mg base A outer s H) (binds : BindsTo s fd args (ps.zip us)) (lie : Vals vs us) (many : vs.length = ps.length)
    (block : ∀ cdv : Value, PSs (Xof P w K mg base N qual st f cdv A outer s H E) (defBody st) t) (wish : t { nx := fun _ H1 => Q .non H1, rt := Q } (L2.start N vs) H) :
    codeAny (model P w) A (.call (.ref f) args) (CR (L2.CX P w) outer P w H s Q E) s := by
  have up : ∀ b o, base.get? b = some o → s.heap.get? b = some o := fun b o e => (env.bs b o e).1
  have written : K.In s.heap := env.mod.kin.keeps up
  obtain ⟨_, _, _, _, _, _, cdv, _, _, rfl, at', code⟩ := F.ex
  apply codeAny_call_function room.depth (written f _ at') rfl S.co S.gen rfl (PySem.W.codeRec_of written code)
  apply binds
  refine wpAny_newFunctionEnv_cells S.kind (binds_lie S) ?_
  rintro _ rfl s1 start
  refine ⟨(env.mod.nolimit.keeps up).keeps start.toInCall.keep, codeAny_func ?_⟩
  refine wpAny_mono ((block cdv).run [] s1 (L2.start N vs) H _ (inv_start S room.hd env many lie start) wish) ?_ fun _ _ z => z
  intro how s2 z
  match how, z with
  | .ret u, ⟨v, _, H2, J, same, q⟩ => exact ⟨v, H2, J.os, J.bare, J.base, J.hok, same, q⟩
  | .next, ⟨_, H2, J, q⟩ => exact ⟨.non, H2, J.os, J.bare, J.base, J.hok, rfl, q⟩
  | .brk, ⟨_, _, _, no⟩ => exact no.elim
  | .cont, ⟨_, _, _, no⟩ => exact no.elim
theorem fn_ctG {G : Gb} {x qual : Str} {st : Stmt} {N : List Str} {sp : Spec} {n : MS} (F : Fun K x qual st f fd) (S : FnScope N ps (defScope st)) (gK : K = G.K) (len : ∀ ds Q X, sp ds Q X → ds.length = ps.length)
    (body : ∀ (cdv : Value) (A : Around) (outer : List Env) (s : Shared) (H : Hp) (E : XK) (B : Bs), (Xof P w K mg base N qual st f cdv A outer s H E).A.guards = some [] → Gd (Xof P w K mg base N qual st f cdv A outer s H E) G (Wof E) k →
      DB (Xof P w K mg base N qual st f cdv A outer s H E) G B (Wof E) (defBody st) n)
    (hn : ∀ ds Q Qx, sp ds Q Qx → n { nx := fun _ => Q .non, rt := Q, ex := fun x _ => Qx x } (startE N ds)) : FnG P w K mg base (k + 1) f fd ps (spOf G sp) := by
  have many : ∀ {vs : List V} {H : Hp} {Q : VK} {E : XK}, spOf G sp vs H Q E → vs.length = ps.length := by
    rintro vs H Q E ⟨_, _, ds, Qd, Qx, _, trees, q, _⟩
    exact trees.length.trans (len ds Qd Qx q)
  refine ⟨fun _ _ _ _ => many, fun A outer s H args us vs Q E shown room env binds lie q => ?_⟩
  have long := many q
  obtain ⟨so, W, ds, Qd, Qx, sta, trees, q, onRet, onExc⟩ := q
  refine entered (t := liftG G ⟨so, H, W⟩ (Wof E) n) F S room env binds lie long (fun cdv => ⟨(body cdv A outer s H E ⟨so, H, W⟩ shown ⟨gK, room.deeper _, rfl, takes_of rfl rfl rfl rfl⟩).run⟩) ?_
  refine ⟨W, startE N ds, _, sok_start sta trees, hn ds Qd Qx q, ?_⟩
  constructor
  · exact fun W1 _ _ H1 q1 o _ => onRet W1 .non .non H1 q1 o.sta rfl
  · exact fun W1 d v H1 q1 o h => onRet W1 d v H1 q1 o h
  · exact fun _ _ _ _ no => no.elim
  · exact fun _ _ _ _ no => no.elim
  · exact fun x cls dd W1 _ _ H1 q1 o _ h => onExc W1 x cls dd H1 q1 o.sta h
  · exact fun _ _ _ _ _ no => no.elim
  · exact fun _ _ _ _ _ no => no.elim
end
section
variable {X : Cx} {G : Gb} {B : Bs} {Wx : WX} {k : Nat} {e a b c : Expr} {es : List Expr} {m ma mb mc : M} {ms : MA} {mt mu : MT} {pos : Pos}
theorem de_callG {f : Spec} {x : Str} {fa : Addr} {fd : FuncData} {ps : List Str} {p : Pos} {kf : Nat} (hG : X.A.guards = some []) (g : Gd X G Wx k) (F : FnG X.prog X.w X.K X.mg X.base kf fa fd ps (spOf G f)) (hk : kf ≤ k) (hm : X.mg x = some (.ref fa)) (kp : PySem.W.keepIn X.K (.ref fa) = true) (hb : Binds X.K fd ps [])
    (ha : DA X G B Wx (e :: es) ms) (hg : Gl X x := by rfl) (hdb : (x == ("__debug__" : Str)) = false := by decide) (he : starEach (e :: es) X.env = (false, eval e X.env) :: starEach es X.env := by rfl) (hpl : (backTo pos (starEach es X.env)).any (·.1) = false := by rfl) :
    DE X G B Wx (.Call (.Name x p) (e :: es) [] pos) (mCall f ms) := by
  constructor
  intro pins s σ H Q I h
  apply wpAny_Call_Name_kw (ld_glob I hg hm _ hdb)
  obtain ⟨W, δ, Qd, Qx, ok, hm', k1, kx⟩ := h
  apply PySem.W.callWith_K (h₀ := X.base) I.ok.mod.kin kp _ he hpl
  apply thn (ha.run pos pins s σ H (fun vs H1 => spOf G f vs H1 Q (WE Wx σ)) I ?_)
  · rintro us s1 ⟨vs, H1, I1, r, q⟩
    refine ⟨I1.kIn, ?_⟩
    have hlen : (us ++ []).length = ps.length := by
      rw [List.append_nil, ← r.length]
      exact F.ln _ _ _ _ q
    have bd := hb s1 us I1.kIn hlen
    rw [List.append_nil] at bd
    apply wpAny_call
    apply codeAny_mono (F.go X.A X.stack s1 H1 ⟨us, []⟩ us vs Q (WE Wx σ) hG (g.room.mono hk) I1.env0 bd r q)
    intro r' s' hq
    match r', hq with
    | .error e', hq => exact passAt g.tk σ pins H1 s1 e' s' I1 hq
    | .ok (.ret u), hq => exact I1.after hq
    | .ok .next, hq => exact False.elim hq
    | .ok .brk, hq => exact False.elim hq
    | .ok .cont, hq => exact False.elim hq
  · refine ⟨W, δ, _, Qx, ok, hm', fun ds vs H1 q x s hds => ?_, kx⟩
    have ok1 := ok.xt x s
    refine ⟨B.so, W, ds, Qd, Qx, ok1.sta.self, hds, q, fun W' d v H' q' st hd => ?_, fun W' y cls dd H' q' st ex => ?_⟩
    · exact k1 d v H' q' (x.trans fun b o eb n => st.keep b o eb n) st.src (Dat.go (go_less st.wold) d v hd)
    · refine kx y cls dd H' q' (x.trans fun b o eb n => st.keep b o eb n) st.src ?_
      obtain ⟨e1, e2⟩ := ex
      refine ⟨e1, e2.imp id ?_⟩
      rintro ⟨a, ps, h1, h2, h3, h4⟩
      exact ⟨a, ps, h1, fun z => h2 (st.wold a z), h3, Datf.go (go_less st.wold) _ _ h4⟩

/-! ### repr of plain data -/
mutual
theorem py_noDict : ∀ (d : D) {p : PyData}, toPy d = some p → p.hasDict = false
  | .non, _, e => by cases e; simp only [PyData.hasDict]
  | .bl b, _, e => by cases e; simp only [PyData.hasDict]
  | .int i, _, e => by cases e; simp only [PyData.hasDict]
  | .str x, _, e => by cases e; simp only [PyData.hasDict]
  | .lst ds, p, e => by
    obtain ⟨ps, e1, rfl⟩ := Option.map_eq_some_iff.mp e
    simp only [PyData.hasDict]
    exact pys_noDict ds e1
  | .tup ds, p, e => by
    obtain ⟨ps, e1, rfl⟩ := Option.map_eq_some_iff.mp e
    simp only [PyData.hasDict]
    exact pys_noDict ds e1
  | .ty _, p, e => by cases e
  | .dct _, p, e => by cases e
  | .obj _ _, p, e => by cases e
  | .cl _, p, e => by cases e
  | .src, p, e => by cases e
theorem pys_noDict : ∀ (ds : List D) {ps : List PyData}, toPys ds = some ps → PyData.hasDictAll ps = false
  | [], ps, e => by cases e; simp only [PyData.hasDictAll]
  | d :: ds, ps, e => by
    unfold toPys at e
    split at e
    · rename_i p ps' e1 e2
      cases e
      simp only [PyData.hasDictAll, py_noDict d e1, pys_noDict ds e2, Bool.or_self]
    · cases e
end
def reprD : F1
  | [d], Q => ∃ p, toPy d = some p ∧ p.showable = true ∧ p.depth ≤ 64 ∧ p.shown.length ≤ 10000000 ∧ Q (.str p.shown)
  | _, _ => False
theorem sz7 {n : Nat} (h : n ≤ 10000000) : n ≤ sizeLine := Nat.le_trans h (by rw [sizeLine_eq]; decide)
theorem call_reprG {so : So} (gK : X.K = G.K) (hG : X.A.guards = some []) (hr : X.A.units + 66 < cLine) : CallR X (.builtin "repr") (rDs G so reprD) := by
  intro pins s σ H xs us Q I r ⟨W, ds, Qd, trk, hp, hf, k⟩
  match ds, hf with
  | [d], hf =>
    cases hp with
    | @cons _ v _ _ h1 h2 =>
      cases h2
      obtain ⟨u, rfl, ru⟩ := vals1 r
      obtain ⟨p, e, sh, dep, sz, q⟩ := hf
      have fin : ∀ {h' : Heap} {u : Tok} {tk : Nat}, (∀ b o, s.heap.get? b = some o → h'.get? b = some o) → EP X pins σ Q (.str p.shown u) { s with heap := h', toks := tk } := fun {h' u tk} kp => ⟨.str p.shown, H, I.kept kp, ⟨_, rfl⟩, k _ _ H q Ext.refl rfl⟩
      have dp := h1.dp e
      rw [← gK] at dp
      obtain ⟨as, rd⟩ := Dp.reads I p v u dp ru
      have leaf : (∀ a, u ≠ .ref a) → wpAny (model X.prog X.w) X.A (call (.builtin "repr") [u]) (EP X pins σ Q) X.xe s := fun hu => by
        cases rd with
        | none => exact PySem.P.repr_of_none (by have z := fin (h' := s.heap) (u := s.toks) (tk := s.toks + 1) (fun _ _ z => z); simp only [PyData.shown] at z; exact z)
        | bool b => exact PySem.P.repr_of_bool (by have z := fin (h' := s.heap) (u := s.toks) (tk := s.toks + 1) (fun _ _ z => z); simp only [PyData.shown] at z; exact z)
        | int i t => exact PySem.P.repr_of_int (by simpa only [PyData.showable, decide_eq_true_eq] using sh) (by have z := fin (h' := s.heap) (u := s.toks) (tk := s.toks + 1) (fun _ _ z => z); simp only [PyData.shown] at z; exact z)
        | str x t => exact PySem.P.repr_of_str (by have z := fin (h' := s.heap) (u := s.toks) (tk := s.toks + 1) (fun _ _ z => z); simp only [PyData.shown] at z; exact z) (by have := sz7 sz; simp only [PyData.shown] at this; exact this)
        | list _ _ _ _ => exact absurd rfl (hu _)
        | tuple _ _ _ _ => exact absurd rfl (hu _)
        | dict _ _ _ _ _ => exact absurd rfl (hu _)
      by_cases hu : ∃ a, u = .ref a
      · obtain ⟨a, rfl⟩ := hu
        exact PySem.repr_of_reads' rd sh (PyData.noDict_hsm (py_noDict d e)) hG (by omega) (fun _ _ z => z) (fun h' u tk kp => fin kp) (sz7 sz)
      · exact leaf fun a z => hu ⟨a, z⟩
end
end Ct

set_option Elab.async false
set_option linter.all false
set_option maxRecDepth 100000
set_option maxHeartbeats 4000000
namespace Ct
open PySem PySem.Spec PyProof.Rows L2

/-! ### exceptions with one field, that __init__ stores: as it is, or as a tuple -/
def spEx (C : Addr) (f : Str) : Sp := fun vs H Q _ => ∃ (a : Addr) (y : V), vs = [.ref a, y] ∧ H a = some (exo a C none) ∧ ∀ dx, H dx = none → dx ≠ a → Q .non (upd (upd H dx (exd dx [(f, y)])) a (exo a C (some dx)))
def spExT (K : PySem.W.Frag) (C : Addr) (f : Str) : Sp := fun vs H Q _ => ∃ (a p : Addr) (xs : List V), vs = [.ref a, .ref p] ∧ SqT K H p xs ∧ H a = some (exo a C none) ∧ ∀ dx, H dx = none → dx ≠ a → Q .non (upd (upd H dx (exd dx [(f, .ref p)])) a (exo a C (some dx)))
section
variable {X : Cx} {G : Gb} {B : Bs} {Wx : WX} {k : Nat} {e a b c : Expr} {es : List Expr} {m ma mb mc : M} {ms : MA} {mt mu : MT} {pos : Pos}
def mRaise (c : Nat) (f : Str) (m : M) : MS := fun P δ => m δ (fun d => P.ex ⟨c, [(f, d)]⟩ δ) (fun x => P.ex x δ)
def mRaiseT (c : Nat) (f : Str) (m : M) : MS := fun P δ => m δ (fun d => ∃ ds, d = .tup ds ∧ P.ex ⟨c, [(f, .tup ds)]⟩ δ) (fun x => P.ex x δ)
/-- the exception's own object is let go, its dict stays -/
theorem made_ext {H1 : Hp} {a dx C : Addr} {f : Str} {v : V} (ha : H1 a = none) (hdx : upd H1 a (exo a C none) dx = none) (hne : dx ≠ a) :
    Ext H1 (upd (del (upd (upd (upd H1 a (exo a C none)) dx (exd dx [(f, v)])) a (exo a C (some dx))) a) dx (.xd [(f, v)])) ∧ H1 dx = none := by
  have hd : H1 dx = none := by rw [upd_ne hne] at hdx; exact hdx
  refine ⟨fun b o eb => ?_, hd⟩
  have n1 : b ≠ dx := ne_of_none eb hd
  have n2 : b ≠ a := ne_of_none eb ha
  rw [upd_ne n1, del_ne n2, upd_ne n2, upd_ne n1, upd_ne n2]
  exact eb
theorem ds_raise {x f : Str} {cn : Nat} {fI : Addr} {fd : FuncData} {ps : List Str} {p cp : Pos} {kf : Nat} (g : Gd X G Wx k) (hk : kf + 1 ≤ k) (T : OexC X.K (G.C cn)) (iC : PySem.W.findIn X.K (.ref (G.C cn)) "__init__" = some (some (.ref fI))) (tI : PySem.W.typeIn X.K (.ref fI) = some (.type "function"))
    (F1 : FnOk X.prog X.w X.K X.mg X.base CX0 kf fI fd ps (spEx (G.C cn) f)) (hb : Binds X.K fd ps []) (hm : X.mg x = some (.ref (G.C cn))) (ha : DE X G B Wx e m) (hg : Gl X x := by rfl) (hs : starEach [e] X.env = (false, eval e X.env) :: starEach [] X.env := by rfl) (hdb : (x == ("__debug__" : Str)) = false := by decide)
    (hpl : (backTo cp (starEach [] X.env)).any (·.1) = false := by rfl) : DS X G B Wx (.Raise (some (.Call (.Name x p) [e] [] cp)) none pos) (mRaise cn f m) := by
  refine PS.weak (ps_raise g.calm g.tk (pmk_oex T iC tI F1 (g.room.mono hk) hb .nil pass0 hg hm (pa_cons ha pa_nil hs) hdb hs hpl)) fun E σ H ⟨W, δ, P, ok, hm, l⟩ => ?_
  refine ⟨W, δ, _, _, ok, hm, fun d v H1 q x s hd => ⟨(by show 1 ≤ 1000; decide), fun a0 ha0 => ?_⟩, fun y cls dd H' q x s ex => l.ex y cls dd W δ σ H' q (ok.xt x s) (Xt.go ok.sta.wsrc x) ex⟩
  refine ⟨a0, v, rfl, upd_same, fun dx hdx hne => ⟨rfl, dx, [(f, v)], upd_same, ?_, ?_, ?_⟩⟩
  · rw [upd_ne hne, upd_same]
  · exact (made_ext (v := v) (f := f) ha0 hdx hne).2
  · obtain ⟨e1, e2⟩ := made_ext (v := v) (f := f) ha0 hdx hne
    have ok1 := ok.xt x s
    refine l.ex _ _ _ W δ σ _ q (ok1.ext e1) ((Xt.go ok.sta.wsrc x).trans (Ext.go e1)) ⟨rfl, .inr ⟨dx, _, rfl, ok1.sta.nw e2, upd_same, v, [], rfl, Dat.go (Ext.go e1) d v hd, rfl⟩⟩
theorem ds_raiseT {x f : Str} {cn : Nat} {fI : Addr} {fd : FuncData} {ps : List Str} {p cp : Pos} {kf : Nat} (g : Gd X G Wx k) (hk : kf + 1 ≤ k) (T : OexC X.K (G.C cn)) (iC : PySem.W.findIn X.K (.ref (G.C cn)) "__init__" = some (some (.ref fI))) (tI : PySem.W.typeIn X.K (.ref fI) = some (.type "function"))
    (F1 : FnOk X.prog X.w X.K X.mg X.base CX0 kf fI fd ps (spExT X.K (G.C cn) f)) (hb : Binds X.K fd ps []) (hm : X.mg x = some (.ref (G.C cn))) (ha : DE X G B Wx e m) (hg : Gl X x := by rfl) (hs : starEach [e] X.env = (false, eval e X.env) :: starEach [] X.env := by rfl) (hdb : (x == ("__debug__" : Str)) = false := by decide)
    (hpl : (backTo cp (starEach [] X.env)).any (·.1) = false := by rfl) : DS X G B Wx (.Raise (some (.Call (.Name x p) [e] [] cp)) none pos) (mRaiseT cn f m) := by
  refine PS.weak (ps_raise g.calm g.tk (pmk_oex T iC tI F1 (g.room.mono hk) hb .nil pass0 hg hm (pa_cons ha pa_nil hs) hdb hs hpl)) fun E σ H ⟨W, δ, P, ok, hm, l⟩ => ?_
  refine ⟨W, δ, _, _, ok, hm, fun d v H1 q x s hd => ⟨(by show 1 ≤ 1000; decide), fun a0 ha0 => ?_⟩, fun y cls dd H' q x s ex => l.ex y cls dd W δ σ H' q (ok.xt x s) (Xt.go ok.sta.wsrc x) ex⟩
  obtain ⟨ds, rfl, q⟩ := q
  obtain ⟨pt, xs, rfl, wt, hds⟩ := id hd
  have sq : SqT X.K (upd H1 a0 (exo a0 (G.C cn) none)) pt xs := by
    rw [g.hK]
    rcases wt with wt | wt
    · exact SqT.of (by rw [upd_ne (ne_of_none wt.2 ha0)]; exact wt.2)
    · exact .inr wt
  refine ⟨a0, pt, xs, rfl, sq, upd_same, fun dx hdx hne => ⟨rfl, dx, [(f, .ref pt)], upd_same, ?_, ?_, ?_⟩⟩
  · rw [upd_ne hne, upd_same]
  · exact (made_ext (v := .ref pt) (f := f) ha0 hdx hne).2
  · obtain ⟨e1, e2⟩ := made_ext (v := .ref pt) (f := f) ha0 hdx hne
    have ok1 := ok.xt x s
    refine l.ex _ _ _ W δ σ _ q (ok1.ext e1) ((Xt.go ok.sta.wsrc x).trans (Ext.go e1)) ⟨rfl, .inr ⟨dx, _, rfl, ok1.sta.nw e2, upd_same, _, [], rfl, Dat.go (Ext.go e1) _ _ hd, rfl⟩⟩
/-- try: .. except C as n: .. -/
def tryEx (c i : Nat) (ns : Addr → Value → Option Addr → MS) (P : PD) : Exn → Ev → Prop := fun x δ' => x.c = c ∧ ∀ a cls d,
  ns a cls d { nx := fun δ2 => P.nx (δ2.set i none), rt := P.rt, bk := fun δ2 => P.bk (δ2.set i none), ct := fun δ2 => P.ct (δ2.set i none), ex := fun _ _ => False, rtn := P.rtn, rtl := P.rtl } (δ'.set i (some (.exc x a cls d)))
def mTry (c i : Nat) (nb : MS) (ns : Addr → Value → Option Addr → MS) : MS := fun P δ => nb { nx := P.nx, rt := P.rt, bk := P.bk, ct := P.ct, ex := tryEx c i ns P, rtn := P.rtn, rtl := P.rtl } δ
theorem Sok.putExc {W : Addr → Prop} {H : Hp} {σ : L2.St} {δ : Ev} (h : Sok G B W σ H δ) {x : Exn} {a : Addr} {cls : Value} {d : Option Addr} (i : Nat) (ex : Exok G B.so W H x cls d) : Sok G B W (σ.set i (some (.ref a))) H (δ.set i (some (.exc x a cls d))) :=
  h.mk1 h.sta i (fun _ _ _ _ _ _ z => z) (fun s e => by cases e; exact ⟨_, rfl, rfl, ex⟩) (fun s v j t u b e _ _ _ _ w _ => by cases e; exact w)
theorem ds_try {cn i : Nat} {x n : Str} {body suite : List Stmt} {b0 : Stmt} {np pos' : Pos} {nb : MS} {ns : Addr → Value → Option Addr → MS} (gd : Gd X G Wx k) (hN : X.N.Nodup) (hc : Names X x (.ref (G.C cn))) (hex : PySem.W.exmOne X.K (.ref (G.C cn)) (.ref (G.C cn)) = some true)
    (hb : ∀ (W : WX) (pn : List (Addr × Obj)) (xe : Value → Shared → Prop), Takes (X.tr pn xe) W → PassesOwn (model X.prog X.w) X.A X.env xe → DB (X.tr pn xe) G B W body nb)
    (hsu : ∀ (a : Addr) (oe : Obj) (cls : Value) (d : Option Addr) (pn : List (Addr × Obj)), Zc cls d oe → (∃ vs, oe.data = .fields vs) → DB (X.suite a ((a, oe) :: pn)) G B W0 (b0 :: suite) (ns a cls d))
    (hs : X.stack = X.env :: X.outer := by rfl) (hf : X.env.frame = some X.env.locals := by rfl) (hi : X.N[i]? = some n := by rfl) (hln : X.env.kindOf n = some .local := by rfl) :
    DS X G B Wx (.Try body [.ExceptHandler (some (.Name x np)) (some n) (b0 :: suite) pos'] [] [] pos) (mTry cn i nb ns) := by
  refine PS.weak (ps_try_as hs hf hN hi hln hc gd.tk hb hsu) fun E σ H ⟨W, δ, P, ok, hm, l⟩ => ?_
  refine ⟨W, δ, _, ok, hm, ⟨l.nx, l.rt, l.bk, l.ct, fun y cls dd W' δ' σ' H' q o g ex => ?_, l.rtn, l.rtl⟩⟩
  obtain ⟨q1, q2⟩ := q
  have ecls : cls = .ref (G.C cn) := by rw [ex.1, q1]
  refine ⟨true, by rw [ecls]; exact hex, fun _ a _ => ?_, fun z => by cases z⟩
  refine ⟨W', _, _, o.putExc i ex, q2 a cls dd, ⟨fun W2 δ2 σ2 H2 q2 o2 g2 => l.nx W2 _ _ H2 q2 (o2.drop i) (g.trans g2), l.rt, fun W2 δ2 σ2 H2 q2 o2 g2 => l.bk W2 _ _ H2 q2 (o2.drop i) (g.trans g2), fun W2 δ2 σ2 H2 q2 o2 g2 => l.ct W2 _ _ H2 q2 (o2.drop i) (g.trans g2), fun _ _ _ _ _ _ _ z => z.elim, l.rtn, l.rtl⟩⟩
/-- n.f in the suite -/
def mXf (i : Nat) (a : Addr) (cls : Value) (d : Option Addr) (cn : Nat) (f : Str) : M := fun δ Q _ => match δ[i]? with
  | some (some (.exc x a' cls' d')) => a' = a ∧ cls' = cls ∧ d' = d ∧ x.c = cn ∧ ∃ z, x.fs.lookup f = some z ∧ Q z
  | _ => False
theorem lookup_at {α : Type} (f g : Str) (y : α) (fs : List (Str × α)) : ((g, y) :: fs).lookup f = if f = g then some y else fs.lookup f := by
  by_cases h : f = g
  · subst h
    simp [List.lookup]
  · have e : (f == g) = false := by simpa using h
    rw [if_neg h]
    simp [List.lookup, e]
theorem Datf.lookup {so : So} {W : Addr → Prop} {H : Hp} {f : Str} {z : D} : ∀ {fs : List (Str × D)} {ps : List (Str × V)}, Datf G so W H fs ps → fs.lookup f = some z → ∃ v, ps.lookup f = some v ∧ Dat G so W H z v
  | [], _, _, e => by simp [List.lookup] at e
  | (g, d) :: r, _, h, e => by
    obtain ⟨v, q, rfl, h1, h2⟩ := h
    rw [lookup_at] at e ⊢
    by_cases hf : f = g
    · rw [if_pos hf] at e ⊢
      cases e
      exact ⟨v, rfl, h1⟩
    · rw [if_neg hf] at e ⊢
      exact Datf.lookup h2 e
theorem de_xf {i cn : Nat} {a0 : Addr} {oe : Obj} {cls : Value} {d : Option Addr} {pn : List (Addr × Obj)} {n f : Str} {np : Pos} {Wy : WX} (T : XfC X.K (G.C cn)) (hno : PySem.W.findIn X.K (.ref (G.C cn)) f = some none) (hz : Zc cls d oe) (hf : ∃ vs, oe.data = .fields vs)
    (hN : X.N[i]? = some n := by rfl) (hv : Vis X.env.scope n := by first | exact Or.inl rfl | exact Or.inr (Or.inl rfl) | exact Or.inr (Or.inr rfl)) (hd : (n == ("__debug__" : Str)) = false := by decide) (hcd : (n == ("__classdict__" : Str)) = false := by decide)
    (hb : attributeBase (.Name n np) f X.env (eval (.Name n np) X.env) = eval (.Name n np) X.env := by rfl) : DE (X.suite a0 ((a0, oe) :: pn)) G B Wy (.Attribute (.Name n np) f pos) (mXf i a0 cls d cn f) := by
  refine PE.weak (pe_xf (X := X) T hno hz hf (pe_var hN hv hd hcd) hb) fun σ H Q ⟨W, δ, Qd, Qx, ok, hm, k, _⟩ => ?_
  unfold mXf at hm
  split at hm
  · rename_i x a' cls' d' e
    obtain ⟨rfl, rfl, rfl, hc, z, hz1, q⟩ := hm
    obtain ⟨v, h1, rfl, ex1, ex2⟩ := ok.slot i _ e
    refine ⟨_, h1, rfl, by rw [ex1, hc], ?_⟩
    rcases ex2 with ⟨e1, _⟩ | ⟨dd, ps, e1, w, e2, e3⟩
    · rw [e1] at hz1; cases hz1
    · obtain ⟨v, l1, l2⟩ := Datf.lookup e3 hz1
      exact ⟨dd, ps, v, e1, e2, l1, k z v H q Xt.refl ok.sta.src l2⟩
  · exact hm.elim
end
end Ct

set_option Elab.async false
set_option linter.all false
set_option maxRecDepth 100000
set_option maxHeartbeats 4000000
namespace Ct
open PySem PySem.Spec PyProof.Rows L2

theorem if_true_of' {c : Bool} {A B : Prop} (hc : c = true) (h : A) : if c = true then A else B := by
  rw [if_pos hc]
  exact h
theorem if_false_of' {c : Bool} {A B : Prop} (hc : c = false) (h : B) : if c = true then A else B := by
  rw [hc, if_neg Bool.false_ne_true]
  exact h
/-! ### the law's source -/
abbrev kC : Key := .inr "cells"
abbrev kL : Key := .inr "left"
abbrev kM : Key := .inr "mixed"
abbrev kT : Key := .inr "turn"
def srcL (c : Addr) (l m t : Int) : List (Key × V) := [(kC, .ref c), (kL, .int l), (kM, .int m), (kT, .int t)]
theorem key_ne {a b : Str} (h : ¬ a = b) : ¬ (Sum.inr a : Key) = .inr b := fun e => h (Sum.inr.inj e)
theorem scl : ¬ Str.ofString "cells" = Str.ofString "left" := by decide +kernel
theorem sct : ¬ Str.ofString "cells" = Str.ofString "turn" := by decide +kernel
theorem slt : ¬ Str.ofString "left" = Str.ofString "turn" := by decide +kernel
theorem smt : ¬ Str.ofString "mixed" = Str.ofString "turn" := by decide +kernel
theorem scm : ¬ Str.ofString "cells" = Str.ofString "mixed" := by decide +kernel
theorem slm : ¬ Str.ofString "left" = Str.ofString "mixed" := by decide +kernel
theorem sml : ¬ Str.ofString "mixed" = Str.ofString "left" := by decide +kernel
theorem stl : ¬ Str.ofString "turn" = Str.ofString "left" := by decide +kernel
theorem ncl : ¬ kC = kL := key_ne (by decide +kernel)
theorem ncm : ¬ kC = kM := key_ne (by decide +kernel)
theorem nct : ¬ kC = kT := key_ne (by decide +kernel)
theorem nlm : ¬ kL = kM := key_ne (by decide +kernel)
theorem nlt : ¬ kL = kT := key_ne (by decide +kernel)
theorem nmt : ¬ kM = kT := key_ne (by decide +kernel)
section
variable {c : Addr} {l m t l' : Int}
theorem srcL_c : valV (srcL c l m t) kC = some (.ref c) := valV_pos rfl
theorem valV_neg' {p : Key × V} {r : List (Key × V)} {k : Key} (e : ¬ p.1 = k) : valV (p :: r) k = valV r k := by simp [valV, List.find?_cons, e]
theorem srcL_l : valV (srcL c l m t) kL = some (.int l) := by
  unfold srcL
  rw [valV_neg' ncl]
  exact valV_pos rfl
theorem srcL_m : valV (srcL c l m t) kM = some (.int m) := by
  unfold srcL
  rw [valV_neg' ncm, valV_neg' nlm]
  exact valV_pos rfl
theorem srcL_t : valV (srcL c l m t) kT = some (.int t) := by
  unfold srcL
  rw [valV_neg' nct, valV_neg' nlt, valV_neg' nmt]
  exact valV_pos rfl
theorem srcL_putL : putK (srcL c l m t) kL (.int l') = srcL c l' m t := by
  unfold srcL putK
  simp [scl, sml, stl]
theorem srcL_putT : putK (srcL c l m t) kT (.int l') = srcL c l m l' := by
  unfold srcL putK
  simp [sct, slt, smt]
end
def SrcIs (H : Hp) (s c : Addr) (cs : List Int) (l m t : Int) : Prop := H s = some (.dK (srcL c l m t)) ∧ H c = some (.lst (cs.map V.int))
theorem SrcAt.is {H : Hp} {s c : Addr} (h : SrcAt H s c) : s ≠ c ∧ ∃ cs l m t, SrcIs H s c cs l m t := ⟨h.1, let ⟨cs, l, m, t, h1, h2⟩ := h.2; ⟨cs, l, m, t, h1, h2⟩⟩
theorem SrcIs.at {H : Hp} {s c : Addr} {cs : List Int} {l m t : Int} (n : s ≠ c) (h : SrcIs H s c cs l m t) : SrcAt H s c := ⟨n, cs, l, m, t, h.1, h.2⟩
/-- pick: a number below many, whatever the source; only the source has changed -/
def spPick : Sp := fun vs H Q _ => ∃ (s c : Addr) (many : Int), vs = [.ref s, .int many] ∧ many < 1000000 ∧ SrcAt H s c ∧ ∀ (r : Int) H', 0 ≤ r → r < max 1 many → SrcAt H' s c → (∀ b o, H b = some o → ¬ (b = s ∨ b = c) → H' b = some o) → Q (.int r) H'
def pickS : Spec := fun ds Q _ => ∃ many, ds = [.src, .int many] ∧ many < 1000000 ∧ ∀ r : Int, 0 ≤ r → r < max 1 many → Q (.int r)
theorem pick_sp {G : Gb} {vs : List V} {H : Hp} {Q : VK} {E : XK} (h : spOf G pickS vs H Q E) : spPick vs H Q E := by
  obtain ⟨so, W, ds, Qd, Qx, st, hd, ⟨many, rfl, hm, k⟩, kq, _⟩ := h
  obtain ⟨v, r, rfl, ⟨s, c, rfl, rfl⟩, v2, r2, rfl, hv, hr⟩ := hd
  cases hr
  cases hv
  refine ⟨s, c, many, rfl, hm, st.src s c rfl, fun r H' h0 h1 ha hk => kq W (.int r) (.int r) H' (k r h0 h1) ⟨hk, fun s' c' e => by cases e; exact ha, fun b w => ?_, st.wsrc, st.wold⟩ rfl⟩
  by_cases hb : b = s ∨ b = c
  · obtain ⟨n, cs, l, m, t, q1, q2⟩ := ha
    rcases hb with e | e <;> subst e
    · exact ⟨_, q1⟩
    · exact ⟨_, q2⟩
  · obtain ⟨o, q⟩ := st.trk b w
    exact ⟨o, hk b o q hb⟩
/-- the body of pick as a reading: slots source, many, left, mixed -/
abbrev rLt : R2 := rI0 fun i j => .bl (decide (i < j))
abbrev rGt : R2 := rI0 fun i j => .bl (decide (j < i))
abbrev rAd : R2 := rI0 fun i j => .int (i + j)
abbrev rMu : R2 := rI CMul fun i j => .int (i * j)
abbrev rMo : R2 := rI (fun _ j => 0 < j) fun i j => .int (i % j)
abbrev rFd : R2 := rI CDiv fun i j => .int (i / j)
abbrev sK (x : Str) : TE := tDGet (tVar 0) (tC (.str x))
abbrev rLenS (K : PySem.W.Frag) : List V → Hp → VK → Prop := fun xs H Q => ∃ p ys, xs = [.ref p] ∧ (SqL K H p ys ∨ SqT K H p ys) ∧ Q (.int ys.length) H
abbrev rInt1 : List V → Hp → VK → Prop := fun xs H Q => (∃ i, xs = [.int i] ∧ Q (.int i) H) ∨ ∃ k, xs = [.bl k] ∧ Q (.int (if k then 1 else 0)) H
abbrev rMax2' : List V → Hp → VK → Prop := fun xs H Q => ∃ i j, xs = [.int i, .int j] ∧ Q (.int (if j > i then j else i)) H
def t_pick (K : PySem.W.Frag) : TS :=
  tSeq (tWhile (tAnd (tTest (tOp rGt (tVar 1) (tC (.int 1)))) (tAnd (tTest (tOp rLt (sK "left") (tC (.int 2)))) (tTest (tOp rGt (tCB (rLenS K) (tCons (sK "cells") tNil)) (tC (.int 0))))))
    (sDPut (tVar 0) (tC (.str "left")) (tBM0 K "list" rPop (sK "cells"))))
  (tSeq (tAsg (sK "left") (gName 2))
  (tSeq (tIfS (tOr (tTest (tOp rLt (tVar 1) (tC (.int 2)))) (tTest (tOp rGt (tVar 2) (tC (.int 1)))))
      (tSeq (sDPut (tVar 0) (tC (.str "left")) (tOp rFd (tVar 2) (tCB rMax2' (tCons (tC (.int 1)) (tCons (tVar 1) tNil)))))
        (tRet (tOp rMo (tCB rInt1 (tCons (tVar 2) tNil)) (tCB rMax2' (tCons (tC (.int 1)) (tCons (tVar 1) tNil)))))) tNext)
  (tSeq (sDPut (tVar 0) (tC (.str "turn")) (tOp rAd (sK "turn") (tC (.int 1))))
  (tSeq (tAsg (tOp rMo (tCB rInt1 (tCons (tOp rAd (sK "mixed") (tOp rMu (sK "turn") (tC (.int 104729)))) tNil)) (tC (.int 998244353))) (gName 3))
  (tSeq (tAsg (tOp rMo (tCB rInt1 (tCons (tOp rAd (tOp rMu (tVar 3) (tVar 3)) (tOp rMu (sK "turn") (tC (.int 17)))) tNil)) (tC (.int 2147483647))) (gName 3))
  (tRet (tOp rMo (tCB rInt1 (tCons (tOp rFd (tVar 3) (tC (.int 16))) tNil)) (tVar 1))))))))
theorem pure_pick {K : PySem.W.Frag} {vs : List V} {H : Hp} {Q : VK} {E : XK} {N : List Str} (hN : N.length = 4) (h : spPick vs H Q E) : t_pick K { nx := fun _ H' => Q .non H', rt := Q } (L2.start N vs) H := by
  obtain ⟨s, c, many, rfl, hm, ha, k⟩ := h
  obtain ⟨nsc, cs, l, m, t, hi⟩ := ha.is
  have eσ : L2.start N [V.ref s, V.int many] = [some (.ref s), some (.int many), none, none] := by
    unfold L2.start
    rw [hN]
    rfl
  rw [eσ]
  let Fr : Hp → Prop := fun H' => ∀ b o, H b = some o → ¬ (b = s ∨ b = c) → H' b = some o
  have frU : ∀ {H1 : Hp} {a : Addr} {o : HO}, Fr H1 → (a = s ∨ a = c) → Fr (upd H1 a o) := fun {H1 a o} f ha b ob e n => by
    rw [upd_ne (fun z => n (by rw [z]; exact ha))]
    exact f b ob e n
  have putL : ∀ {H1 : Hp} {cs l m t} (z : Int), SrcIs H1 s c cs l m t → SrcIs (upd H1 s (.dK (srcL c z m t))) s c cs z m t := fun {H1 cs l m t} z q => ⟨upd_same, by rw [upd_ne nsc.symm]; exact q.2⟩
  have len4 : ∀ {l m t : Int}, (srcL c l m t).length < sizeLine := fun {l m t} => Nat.lt_of_lt_of_le (show 4 < 1000000 by decide) (sz6 (Nat.le_refl _))
  refine ⟨fun n σ H' => ∃ cs l m t, σ = [some (.ref s), some (.int many), none, none] ∧ SrcIs H' s c cs l m t ∧ Fr H' ∧ n = cs.length, ⟨_, cs, l, m, t, rfl, hi, fun _ _ e _ => e, rfl⟩, ?_⟩
  rintro n σ H1 ⟨cs, l, m, t, rfl, hi, fr, rfl⟩
  -- what comes behind the loop
  have after : ∀ {H1 : Hp} {cs l m t}, SrcIs H1 s c cs l m t → Fr H1 → (tSeq (tAsg (sK "left") (gName 2))
      (tSeq (tIfS (tOr (tTest (tOp rLt (tVar 1) (tC (.int 2)))) (tTest (tOp rGt (tVar 2) (tC (.int 1)))))
      (tSeq (sDPut (tVar 0) (tC (.str "left")) (tOp rFd (tVar 2) (tCB rMax2' (tCons (tC (.int 1)) (tCons (tVar 1) tNil)))))
        (tRet (tOp rMo (tCB rInt1 (tCons (tVar 2) tNil)) (tCB rMax2' (tCons (tC (.int 1)) (tCons (tVar 1) tNil)))))) tNext)
      (tSeq (sDPut (tVar 0) (tC (.str "turn")) (tOp rAd (sK "turn") (tC (.int 1))))
      (tSeq (tAsg (tOp rMo (tCB rInt1 (tCons (tOp rAd (sK "mixed") (tOp rMu (sK "turn") (tC (.int 104729)))) tNil)) (tC (.int 998244353))) (gName 3))
      (tSeq (tAsg (tOp rMo (tCB rInt1 (tCons (tOp rAd (tOp rMu (tVar 3) (tVar 3)) (tOp rMu (sK "turn") (tC (.int 17)))) tNil)) (tC (.int 2147483647))) (gName 3))
      (tRet (tOp rMo (tCB rInt1 (tCons (tOp rFd (tVar 3) (tC (.int 16))) tNil)) (tVar 1)))))))) { nx := fun _ H' => Q .non H', rt := Q } [some (.ref s), some (.int many), none, none] H1 := by
    intro H1 cs l m t hi fr
    refine ⟨_, rfl, s, .int l, rfl, by rw [← srcL_l (c := c) (m := m) (t := t)]; exact DGet.k (k := kL) hi.1, ?_⟩
    -- if many < 2 or left > 1
    have big : (if many > (1 : Int) then many else 1) = max 1 many := by omega
    have tail1 : ∀ σ, σ = [some (.ref s), some (.int many), some (.int l), none] → (tSeq (sDPut (tVar 0) (tC (.str "left")) (tOp rFd (tVar 2) (tCB rMax2' (tCons (tC (.int 1)) (tCons (tVar 1) tNil)))))
        (tRet (tOp rMo (tCB rInt1 (tCons (tVar 2) tNil)) (tCB rMax2' (tCons (tC (.int 1)) (tCons (tVar 1) tNil)))))) { nx := fun _ H' => Q .non H', rt := Q } σ H1 := by
      rintro σ rfl
      refine ⟨_, rfl, _, rfl, 1, many, rfl, l, _, rfl, rfl, ⟨by omega, by omega⟩, _, rfl, s, _, rfl, DPut.k (k := kL) hi.1 len4, ?_⟩
      rw [srcL_putL]
      refine ⟨_, rfl, .inl ⟨l, rfl, _, rfl, 1, many, rfl, l, _, rfl, rfl, by omega, ?_⟩⟩
      refine k _ _ (Int.emod_nonneg _ (by omega)) (by rw [big]; exact Int.emod_lt_of_pos _ (by omega)) ((putL _ hi).at nsc) (frU fr (.inl rfl))
    -- the way by mixing anew
    have tail2 : ∀ σ, σ = [some (.ref s), some (.int many), some (.int l), none] → ¬ many < 2 → (tSeq (sDPut (tVar 0) (tC (.str "turn")) (tOp rAd (sK "turn") (tC (.int 1))))
      (tSeq (tAsg (tOp rMo (tCB rInt1 (tCons (tOp rAd (sK "mixed") (tOp rMu (sK "turn") (tC (.int 104729)))) tNil)) (tC (.int 998244353))) (gName 3))
      (tSeq (tAsg (tOp rMo (tCB rInt1 (tCons (tOp rAd (tOp rMu (tVar 3) (tVar 3)) (tOp rMu (sK "turn") (tC (.int 17)))) tNil)) (tC (.int 2147483647))) (gName 3))
      (tRet (tOp rMo (tCB rInt1 (tCons (tOp rFd (tVar 3) (tC (.int 16))) tNil)) (tVar 1)))))) { nx := fun _ H' => Q .non H', rt := Q } σ H1 := by
      rintro σ rfl h2
      have gT : DGet H1 s (.str "turn") (some (.int t)) := by rw [← srcL_t (c := c) (l := l) (m := m)]; exact DGet.k (k := kT) hi.1
      refine ⟨_, rfl, s, .int t, rfl, gT, t, 1, rfl, rfl, _, rfl, s, _, rfl, DPut.k (k := kT) hi.1 len4, ?_⟩
      rw [srcL_putT]
      have hi2 : SrcIs (upd H1 s (.dK (srcL c l m (t + 1)))) s c cs l m (t + 1) := ⟨upd_same, by rw [upd_ne nsc.symm]; exact hi.2⟩
      have fr2 := frU (o := .dK (srcL c l m (t + 1))) fr (.inl rfl)
      have gT2 : DGet (upd H1 s (.dK (srcL c l m (t + 1)))) s (.str "turn") (some (.int (t + 1))) := by rw [← srcL_t (c := c) (l := l) (m := m)]; exact DGet.k (k := kT) hi2.1
      have gM2 : DGet (upd H1 s (.dK (srcL c l m (t + 1)))) s (.str "mixed") (some (.int m)) := by rw [← srcL_m (c := c) (l := l) (t := t + 1)]; exact DGet.k (k := kM) hi2.1
      refine ⟨_, rfl, s, _, rfl, gM2, _, rfl, s, _, rfl, gT2, _, _, rfl, rfl, .inr ⟨by omega, by omega⟩, _, _, rfl, rfl, .inl ⟨_, rfl, _, _, rfl, rfl, by omega, ?_⟩⟩
      have hm0 := Int.emod_nonneg (m + (t + 1) * 104729) (show (998244353 : Int) ≠ 0 by omega)
      have hm1 := Int.emod_lt_of_pos (m + (t + 1) * 104729) (show (0 : Int) < 998244353 by omega)
      refine ⟨_, rfl, _, rfl, (m + (t + 1) * 104729) % 998244353, (m + (t + 1) * 104729) % 998244353, rfl, rfl, .inl ⟨by omega, by omega⟩, _, rfl, s, _, rfl, gT2, _, _, rfl, rfl, .inr ⟨by omega, by omega⟩, _, _, rfl, rfl, .inl ⟨_, rfl, _, _, rfl, rfl, by omega, ?_⟩⟩
      refine ⟨_, rfl, _, _, rfl, rfl, ⟨by omega, by omega⟩, .inl ⟨_, rfl, _, rfl, _, many, rfl, rfl, by omega, ?_⟩⟩
      exact k _ _ (Int.emod_nonneg _ (by omega)) (by have := Int.emod_lt_of_pos (((m + (t + 1) * 104729) % 998244353 * ((m + (t + 1) * 104729) % 998244353) + (t + 1) * 17) % 2147483647 / 16) (show 0 < many by omega); omega) (hi2.at nsc) fr2
    refine ⟨_, rfl, _, _, rfl, rfl, _, rfl, ?_⟩
    by_cases h2 : many < 2
    · refine if_true_of' (decide_eq_true h2) ?_
      exact iteT (tail1 _ rfl)
    · refine if_false_of' (decide_eq_false h2) ?_
      refine ⟨_, rfl, _, _, rfl, rfl, _, rfl, ?_⟩
      by_cases h3 : 1 < l
      · exact if_true_of' (decide_eq_true h3) (tail1 _ rfl)
      · exact if_false_of' (decide_eq_false h3) (tail2 _ rfl h2)
  have gL : DGet H1 s (.str "left") (some (.int l)) := by rw [← srcL_l (c := c) (m := m) (t := t)]; exact DGet.k (k := kL) hi.1
  have gC : DGet H1 s (.str "cells") (some (.ref c)) := by rw [← srcL_c (l := l) (m := m) (t := t)]; exact DGet.k (k := kC) hi.1
  refine ⟨_, rfl, _, _, rfl, rfl, _, rfl, ?_⟩
  by_cases h1 : 1 < many
  · refine if_true_of' (decide_eq_true h1) ?_
    refine ⟨_, rfl, s, _, rfl, gL, _, _, rfl, rfl, _, rfl, ?_⟩
    by_cases h2 : l < 2
    · refine if_true_of' (decide_eq_true h2) ?_
      refine ⟨_, rfl, s, _, rfl, gC, c, cs.map V.int, rfl, .inl (SqL.of hi.2), _, _, rfl, rfl, _, rfl, ?_⟩
      rw [List.length_map]
      by_cases h3 : 0 < (cs.length : Int)
      · refine if_true_of' (decide_eq_true h3) ?_
        obtain ⟨z, hz⟩ : ∃ z, cs[cs.length - 1]? = some z := ⟨cs[cs.length - 1], by simp⟩
        have hi' : SrcIs (upd H1 c (.lst (cs.map V.int).dropLast)) s c cs.dropLast l m t := ⟨by rw [upd_ne nsc]; exact hi.1, by rw [upd_same, List.map_dropLast]⟩
        refine ⟨fun σ' H' => ∃ cs' l', cs'.length < cs.length ∧ σ' = [some (.ref s), some (.int many), none, none] ∧ SrcIs H' s c cs' l' m t ∧ Fr H', fun σ' H' ⟨cs', l', hl, e, q, f⟩ => ⟨cs'.length, hl, cs', l', m, t, e, q, f, rfl⟩, ?_⟩
        refine ⟨_, rfl, s, _, rfl, gC, .inl ⟨rfl, _, SqL.of hi.2⟩, c, cs.map V.int, .int z, rfl, rfl, hi.2, by rw [List.length_map, List.getElem?_map, hz]; rfl, ?_⟩
        refine ⟨_, rfl, s, _, rfl, DPut.k (k := kL) hi'.1 len4, ?_⟩
        rw [srcL_putL]
        refine ⟨cs.dropLast, z, by rw [List.length_dropLast]; omega, rfl, putL z hi', frU (frU fr (.inr rfl)) (.inl rfl)⟩
      · exact if_false_of' (decide_eq_false h3) (after hi fr)
    · refine if_false_of' (decide_eq_false h2) ?_
      exact iteF (after hi fr)
  · refine if_false_of' (decide_eq_false h1) ?_
    exact iteF (after hi fr)
end Ct
namespace Ct
open PySem PySem.Spec PyProof.Rows L2
/-! ### the source is made -/
def spSource (K : PySem.W.Frag) : Sp := fun vs H Q _ => ∃ (a : Addr) (ns : List Int), vs = [.ref a] ∧ SqL K H a (ns.map V.int) ∧ ns.length ≤ 63 ∧ ∀ s c H', H s = none → H c = none → SrcAt H' s c → Ext H H' → Q (.ref s) H'
abbrev rAbs : List V → Hp → VK → Prop := fun xs H Q => ∃ i, xs = [.int i] ∧ Q (.int (if i < 0 then -i else i)) H
def t_source (K : PySem.W.Frag) : TS :=
  tSeq (tAsg (tC (.int 11)) (gName 1))
  (tSeq (tFor (iList K (tVar 0)) (gName 2) (tAsg (tOp rMo (tCB rInt1 (tCons (tOp rAd (tOp rAd (tOp rMu (tVar 1) (tC (.int 69069))) (tOp rMu (tVar 2) (tC (.int 31)))) (tC (.int 5))) tNil)) (tC (.int 2147483629))) (gName 1)))
  (tRet (tDisp [(tC (.str "cells"), tRevL K (tLc (iList K (tVar 0)) (gName 2) tYes (tCB rAbs (tCons (tVar 2) tNil)) [2])), (tC (.str "left"), tC (.int 1)), (tC (.str "mixed"), tVar 1), (tC (.str "turn"), tC (.int 0))])))
theorem Ext.sqL {K : PySem.W.Frag} {H H' : Hp} {a : Addr} {xs : List V} (e : Ext H H') (h : SqL K H a xs) : SqL K H' a xs := by
  rcases h with (h | ⟨o, h⟩) | h
  · exact .inl (.inl (e _ _ h))
  · exact .inl (.inr ⟨o, e _ _ h⟩)
  · exact .inr h
theorem int_at {ns : List Int} {i : Nat} {x : V} (h : (ns.map V.int)[i]? = some x) : ∃ z, x = .int z := by
  rw [List.getElem?_map] at h
  cases e : ns[i]? with
  | none => rw [e] at h; cases h
  | some z => rw [e] at h; exact ⟨z, (Option.some.inj h).symm⟩
theorem pure_source {K : PySem.W.Frag} {vs : List V} {H : Hp} {Q : VK} {E : XK} {N : List Str} (hN : N.length = 3) (h : spSource K vs H Q E) : t_source K { nx := fun _ H' => Q .non H', rt := Q } (L2.start N vs) H := by
  obtain ⟨a, ns, rfl, hs, hl, k⟩ := h
  have eσ : L2.start N [V.ref a] = [some (.ref a), none, none] := by
    unfold L2.start
    rw [hN]
    rfl
  rw [eσ]
  refine ⟨_, rfl, a, rfl, ⟨_, hs⟩, for_list (K := K) (a := a) (xs := ns.map V.int) (fun i σ H' => H' = H ∧ ∃ m z, σ = [some (.ref a), some (.int m), z]) ⟨rfl, 11, none, rfl⟩ (fun i σ H' _ ⟨e, _⟩ => by rw [e]; exact hs) ?_ ?_⟩
  · rintro i x σ H' hi ⟨rfl, m, z, rfl⟩
    obtain ⟨z', rfl⟩ := int_at hi
    refine ⟨_, rfl, _, _, rfl, rfl, .inr ⟨by omega, by omega⟩, _, rfl, _, _, rfl, rfl, .inr ⟨by omega, by omega⟩, _, _, rfl, rfl, _, _, rfl, rfl, .inl ⟨_, rfl, _, _, rfl, rfl, by omega, ?_⟩⟩
    exact ⟨rfl, _, _, rfl⟩
  · rintro σ H' ⟨rfl, m, z, rfl⟩
    intro p hp
    -- the cells, while the dict stands empty
    refine ⟨_, rfl, a, rfl, ⟨_, Ext.sqL (Ext.new hp) hs⟩, fun Dl hD => ?_⟩
    have hDp : Dl ≠ p := fun e => by rw [e, upd_same] at hD; cases hD
    have hD' : H' Dl = none := by rw [upd_ne hDp] at hD; exact hD
    refine lc_list (K := K) (a := a) (xs := ns.map V.int) (fun i H2 => ∃ acc : List Int, acc.length = i ∧ H2 Dl = some (.lst (acc.map V.int)) ∧ H2 p = some (.dK []) ∧ Ext H' H2) ⟨[], rfl, upd_same, by rw [upd_ne hDp.symm, upd_same], (Ext.new hp).trans (Ext.new hD)⟩
      (fun i H2 _ ⟨acc, _, _, _, e⟩ => e.sqL hs) ?_ ?_
    · rintro i x H2 hi ⟨acc, ha, h1, h2, e⟩
      obtain ⟨z', rfl⟩ := int_at hi
      have hi' : i < 63 := by
        have := (List.getElem?_eq_some_iff.mp hi).1
        rw [List.length_map] at this
        omega
      refine ⟨rfl, ?_⟩
      simp only [tYes, if_true]
      refine ⟨_, rfl, _, rfl, acc.map V.int, h1, Nat.lt_of_lt_of_le (by rw [List.length_map]; omega : (acc.map V.int).length < 1000000) (sz6 (Nat.le_refl _)), acc ++ [if z' < 0 then -z' else z'], by simp [ha], ?_, by rw [upd_ne hDp.symm]; exact h2, fun b o eb => by rw [upd_ne (ne_of_none eb hD')]; exact e b o eb⟩
      rw [upd_same, List.map_append]
      rfl
    · rintro H2 ⟨acc, ha, h1, h2, e⟩
      refine ⟨Dl, _, rfl, SqL.of h1, fun r hr => ?_⟩
      have hrp : r ≠ p := fun z => by rw [z, h2] at hr; cases hr
      have hr' : H' r = none := by
        cases q : H' r with
        | none => rfl
        | some o => rw [e r o q] at hr; cases hr
      refine ⟨_, rfl, ?_⟩
      refine ⟨by rw [upd_ne hrp.symm]; exact h2, [(kC, .ref r), (kL, .int 1), (kM, .int m), (kT, .int 0)], rfl, by show 4 ≤ 15; decide, ?_⟩
      have em : mergeK [] [(kC, V.ref r), (kL, V.int 1), (kM, V.int m), (kT, V.int 0)] = srcL r 1 m 0 := by
        unfold mergeK srcL
        simp [putK, scl, sct, slt, smt, scm, slm]
      rw [em]
      refine k p r _ hp hr' ⟨hrp.symm, acc.reverse, 1, m, 0, upd_same, ?_⟩ fun b o eb => ?_
      · rw [upd_ne hrp, upd_same, List.map_reverse]
      · rw [upd_ne (ne_of_none eb hp), upd_ne (ne_of_none eb hr')]
        exact e b o eb
end Ct

set_option Elab.async false
set_option linter.all false
set_option maxRecDepth 100000
set_option maxHeartbeats 4000000
namespace Ct
open PySem PySem.Spec PyProof.Rows L2

section
variable {X : Cx} {G : Gb} {B : Bs} {Wx : WX} {k : Nat} {e a b c : Expr} {es : List Expr} {m ma mb mc : M} {ms : MA} {mt mu : MT} {pos : Pos}

/-! ### a < b < c -/
def mChain (f g : F2) (ma mb mc : M) : M := fun δ Q X => ma δ (fun x => mb δ (fun y => f x y (fun r => ∃ t, r = .bl t ∧ if t = true then mc δ (fun z => g y z Q) X else Q (.bl false))) X) X
theorem lift_chain {f g : F2} {σ : L2.St} {H : Hp} {Q : VK} (h : lift G B Wx (mChain f g ma mb mc) σ H Q) : tChain (rD G B.so f) (rD G B.so g) (liftO G B Wx ma) (liftO G B Wx mb) (liftO G B Wx mc) σ H Q := by
  obtain ⟨W, δ, Qd, Qx, ok, hm, k, kx⟩ := h
  refine ⟨W, δ, _, Qx, ok, hm, fun d v H1 q1 x1 s1 h1 => ?_, kx⟩
  have ok1 := ok.xt x1 s1
  refine ⟨W, δ, _, Qx, ok1, q1, fun e u H2 q2 x2 s2 h2 => ?_, fun y cls dd H' q x s ex => kx y cls dd H' q (x1.trans x) s ex⟩
  have ok2 := ok1.xt x2 s2
  refine ⟨W, d, e, _, ok2.sta.trk, h1.xt ok.sta.wsrc x2, h2, q2, fun z v H3 q e3 hd => ?_⟩
  obtain ⟨t, rfl, q⟩ := q
  have ok3 := ok2.ext e3
  refine ⟨t, hd, ?_⟩
  have x3 := (x1.trans x2).trans e3.xt
  cases t with
  | true =>
    refine ⟨W, δ, _, Qx, ok3, q, fun z u H4 q4 x4 s4 h4 => ?_, fun y cls dd H' q x s ex => kx y cls dd H' q (x3.trans x) s ex⟩
    have ok4 := ok3.xt x4 s4
    exact ⟨W, _, z, Qd, ok4.sta.trk, (h2.xt ok.sta.wsrc e3.xt).xt ok.sta.wsrc x4, h4, q4, fun z v H' q e hd => k z v H' q ((x3.trans x4).trans e.xt) (s4.ext fun b o _ q => e b o q) hd⟩
  | false => exact k _ _ H3 q x3 ok3.sta.src rfl
theorem dt_chain {op op' : CmpOp} {f g : F2} (ho : OpR X (compareOp op) (rD G B.so f)) (ho' : OpR X (compareOp op') (rD G B.so g)) (ha : OE X G B Wx a ma) (hb : OE X G B Wx b mb) (hc : OE X G B Wx c mc) (hm : lastMarks [op, op'] [b, c] = false := by with_unfolding_all rfl) :
    DT X G B Wx (.Compare a [op, op'] [b, c] pos) (mTest (mChain f g ma mb mc)) := PT.weak (pt_chain ho ho' ha hb hc hm) fun σ H Q h => lift_test h fun Q h => lift_chain h
theorem de_chain {op op' : CmpOp} {f g : F2} (ho : OpR X (compareOp op) (rD G B.so f)) (ho' : OpR X (compareOp op') (rD G B.so g)) (ha : OE X G B Wx a ma) (hb : OE X G B Wx b mb) (hc : OE X G B Wx c mc) (hm : lastMarks [op, op'] [b, c] = false := by with_unfolding_all rfl) :
    DE X G B Wx (.Compare a [op, op'] [b, c] pos) (mChain f g ma mb mc) := PE.weak (pe_chain ho ho' ha hb hc hm) fun σ H Q h => lift_chain h

/-! ### texts -/
@[simp] def mM0 (g : Str → D) (m : M) : M := fun δ Q X => m δ (fun d => ∃ s, d = .str s ∧ Q (g s)) X
theorem de_m0b {id : String} {name : Str} {apos cpos : Pos} {g : Str → Bool} (slot : Slot "str" name id) (ty : typeOf (.builtin id) = pure (.type "method_descriptor")) (rule : MtR X id (fun x xs H Q => ∃ a, x = .str a ∧ xs = [] ∧ True ∧ Q (.bl (g a)) H)) (ho : DE X G B Wx e m)
    (hbase : attributeBase e name X.env (eval e X.env) = eval e X.env := by rfl) (hline : (apos.endLine == cpos.line) = true := by rfl) : DE X G B Wx (.Call (.Attribute e name apos) [] [] cpos) (mM0 (fun s => .bl (g s)) m) :=
  PE.weak (pe_bm0 (PySem.F.plainAttrs_str) slot ty rule ho hbase hline) fun σ H Q ⟨W, δ, Qd, Qx, ok, hm, k, kx⟩ =>
    ⟨W, δ, _, Qx, ok, hm, fun d v H1 q x s hd => by
      obtain ⟨z, rfl, q⟩ := q
      cases hd
      exact ⟨rfl, z, rfl, rfl, True.intro, k _ _ H1 q x s rfl⟩, kx⟩
/-- text * int -/
def mulSD : F2
  | .str s, .int j, Q => 0 ≤ j ∧ j ≤ 1000000 ∧ s.length * j.toNat ≤ 1000000 ∧ Q (.str (Txt.mul s j))
  | _, _, _ => False
theorem opD_mulS : OpR X (binaryOp .Mult) (rD G B.so mulSD) := by
  intro pins s σ H x y v u Q I rx ry ⟨W, d, e, Qd, trk, hx, hy, hf, k⟩
  cases d with
  | str z =>
    cases e with
    | int j =>
      cases hx
      cases hy
      obtain ⟨t, rfl⟩ := rx
      obtain ⟨t', rfl⟩ := ry
      obtain ⟨h0, h1, h2, q⟩ := hf
      refine SB.mul ⟨?_, fun h3 h4 => ?_, fun h3 h4 => ?_⟩ fun t' tk => ⟨.str _, H, I.tok _, ⟨_, rfl⟩, k _ _ H q Ext.refl rfl⟩
      · have a1 : decide (j < -(2 ^ 63 : Int)) = false := decide_eq_false (by omega)
        have a2 : decide (j ≥ 2 ^ 63) = false := decide_eq_false (by omega)
        rw [a1, a2]; rfl
      · have hj : 1 ≤ j := by omega
        have hz : (z.length : Int) ≤ 1000000 := by
          have : z.length * 1 ≤ z.length * j.toNat := Nat.mul_le_mul_left _ (by omega)
          omega
        have : (1000000 : Int) ≤ (2 ^ 63 - 1) / j := by
          apply Int.le_ediv_of_mul_le (by omega)
          have : (1000000 : Int) * j ≤ 1000000 * 1000000 := Int.mul_le_mul_of_nonneg_left h1 (by omega)
          omega
        omega
      · unfold Builtin.Str.tooLong
        exact decide_eq_false (by have := sz6 h2; omega)
    | _ => exact (show False from hf).elim
  | _ => exact (show False from hf).elim
def powD : F2
  | .int i, .int j, Q => (0 ≤ j ∧ j ≤ 1000000 ∧ i.natAbs < 2 ^ 64) ∧ Q (.int (i ^ j.toNat))
  | _, _, _ => False
theorem opD_pow : OpR X (binaryOp .Pow) (rD G B.so powD) := by
  intro pins s σ H x y v u Q I rx ry ⟨W, d, e, Qd, trk, hx, hy, hf, k⟩
  cases d with
  | int i =>
    cases e with
    | int j => exact op_pow pins s σ H x y v u Q I rx ry ⟨i, j, hx, hy, hf.1, k _ _ H hf.2 Ext.refl rfl⟩
    | _ => exact (show False from hf).elim
  | _ => exact (show False from hf).elim

/-! ### isinstance, of built-in types -/
def tyOf : D → Option String
  | .non => some "NoneType"
  | .bl _ => some "bool"
  | .int _ => some "int"
  | .str _ => some "str"
  | .lst _ => some "list"
  | .tup _ => some "tuple"
  | .dct _ => some "dict"
  | _ => none
def isiD : F1
  | [d, .ty n], Q => ∃ t b, tyOf d = some t ∧ kitB t n = some b ∧ Q (.bl b)
  | _, _ => False
theorem tyx_of {so : So} {W : Addr → Prop} {H : Hp} {d : D} {v : V} {t : String} (gK : X.K = G.K) (h : SD G so W H d v) (e : tyOf d = some t) : TyX X.K H v (.type t) := by
  cases d with
  | non => cases h; cases e; exact .base .non
  | bl b => cases h; cases e; exact .base (.bl b)
  | int i => cases h; cases e; exact .base (.int i)
  | str x => cases h; cases e; exact .base (.str x)
  | lst ds => obtain ⟨a, xs, rfl, _, h1, _⟩ := h; cases e; exact .base (.lst h1)
  | tup ds =>
    obtain ⟨a, xs, rfl, w, _⟩ := h
    cases e
    rcases w with w | ⟨o, its, n, h1, h2, _⟩
    · exact .base (.tup w.2)
    · rw [gK]; exact .kTuple h1 h2
  | dct ds => obtain ⟨a, xs, rfl, _, h1, _⟩ := h; cases e; exact .base (.dK h1)
  | _ => cases e
theorem call_isiG (gK : X.K = G.K) : CallR X (.builtin "isinstance") (rDs G B.so isiD) := by
  intro pins s σ H xs us Q I r ⟨W, ds, Qd, trk, hp, hf, k⟩
  match ds, hf with
  | [d, .ty n], hf =>
    cases hp with
    | @cons _ v _ _ h1 h2 =>
      cases h2 with
      | cons h2 h3 =>
        cases h3
        cases h2
        obtain ⟨t, b, e1, e2, q⟩ := hf
        exact call_isi pins s σ H _ us Q I r ⟨v, .ty n, .type t, .type n, b, rfl, .ty n, tyx_of gK h1 e1, kit_ty e2, k _ _ H q Ext.refl rfl⟩

/-! ### dicts that are written and looked into -/
/-- {k: v, ..}.get(e, f) of a small written dict of texts -/
def lookD (kvs : List (Str × D)) (x : Str) (z : D) : D := match kvs.find? (fun kv => decide (kv.1 = x)) with
  | some kv => kv.2
  | none => z
end

/-! ### tg = xs.pop() -/
section
variable {X : Cx} {G : Gb} {B : Bs} {Wx : WX} {k : Nat} {e a b c tg : Expr} {es : List Expr} {m ma mb mc : M} {ms : MA} {mt mu : MT} {pos : Pos}
def mPopTo (i : Nat) (g : MG) : MS := fun P δ => match δ[i]? with
  | some (some (.own ds)) => ∃ d, ds[ds.length - 1]? = some d ∧ g d (δ.set i (some (.own ds.dropLast))) P.nx
  | _ => False
theorem Dats.dropLast {so : So} {W : Addr → Prop} {H : Hp} {ds : List D} {xs : List V} (h : Dats G so W H ds xs) : Dats G so W H ds.dropLast xs.dropLast := by
  rw [List.dropLast_eq_take, List.dropLast_eq_take, h.length]
  exact h.take _
theorem ds_popTo {i : Nat} {ix : List Nat} {g : MG} (h : PE X c (tBM0 X.K "list" rPop (tVar i))) (hg : DG X G B ix tg g) (hs : swapsWithSole [tg] c pos.line X.env = pure false := by rfl) (hw : swappedStores [tg] c X.env = pure none := by rfl) (h1 : (assignEach [tg] X.env).map (·.2) = [assign tg X.env] := by rfl) :
    DS X G B Wx (.Assign [tg] c pos) (mPopTo i g) := by
  refine PS.weak (ps_asg h hg hs hw h1) fun E σ H ⟨W, δ, P, ok, hm, l⟩ => ?_
  unfold mPopTo at hm
  split at hm
  · rename_i ds e0
    obtain ⟨v, h1, a, xs, ev, h2, h3, h4, h5, h6, h7⟩ := ok.slot i _ e0
    subst ev
    obtain ⟨d, hd, q⟩ := hm
    obtain ⟨y, hy, dy⟩ := h7.get hd
    rw [← h7.length] at hy
    have gg : Go W H W (upd H a (.lst xs.dropLast)) := fun b o n eb => ⟨n, by rw [upd_ne (fun z => n (by rw [z]; exact h2))]; exact eb⟩
    refine ⟨_, h1, .inl ⟨rfl, xs, SqL.of h6⟩, a, xs, y, rfl, rfl, h6, hy, ?_⟩
    exact ⟨W, _, d, _, ok.write e0 h1 h7.dropLast, Dat.go gg d y dy, q, fun δ' σ' q' ok' _ _ => l.nx W δ' σ' _ q' ok' gg⟩
  · exact hm.elim

/-! ### defs that hand back a new list -/
abbrev SpecN := List D → (List D → Prop) → (Exn → Prop) → Prop
def spOfN (G : Gb) (f : SpecN) : Sp := fun vs H Q E => ∃ so W ds Qd Qx, Sta ⟨so, H, W⟩ W H ∧ Dats G so W H ds vs ∧ f ds Qd Qx ∧
  (∀ W' es p xs H', Qd es → Sta ⟨so, H, W⟩ W' H' → H p = none → H' p = some (.lst xs) → Dats G so (fun b => b = p ∨ W' b) H' es xs → Q (.ref p) H') ∧ (∀ W' x cls dd H', Qx x → Sta ⟨so, H, W⟩ W' H' → Exok G so W' H' x cls dd → E cls dd H')
@[simp] def mCallN (f : SpecN) (ms : MA) : MA := fun δ Q X => ms δ (fun ds => f ds Q X) X
theorem ne_call {f : SpecN} {x : Str} {fa : Addr} {fd : FuncData} {ps : List Str} {p : Pos} {kf : Nat} (g : Gd X G Wx k) (F : FnOk X.prog X.w X.K X.mg X.base (L2.CX X.prog X.w) kf fa fd ps (spOfN G f)) (hk : kf ≤ k) (hm : X.mg x = some (.ref fa)) (kp : PySem.W.keepIn X.K (.ref fa) = true) (hb : Binds X.K fd ps [])
    (ha : DA X G B Wx (e :: es) ms) (hg : Gl X x := by rfl) (hdb : (x == ("__debug__" : Str)) = false := by decide) (he : starEach (e :: es) X.env = (false, eval e X.env) :: starEach es X.env := by rfl) (hpl : (backTo pos (starEach es X.env)).any (·.1) = false := by rfl) :
    NE X G B Wx (.Call (.Name x p) (e :: es) [] pos) (mCallN f ms) := by
  refine PE.weak (pe_callS F (g.room.mono hk) hg hm kp hb (fun σ => passAt g.tk σ) ha hdb he hpl) fun σ H Q ⟨W, δ, Qd, Qx, ok, hm, k, kx⟩ => ?_
  refine ⟨W, δ, _, Qx, ok, hm, fun ds vs H1 q x s hds => ?_, kx⟩
  have ok1 := ok.xt x s
  refine ⟨B.so, W, ds, Qd, Qx, ok1.sta.self, hds, q, fun W' es p xs H' q' st hp hl hd => ?_, fun W' y cls dd H' q' st ex => ?_⟩
  · have xx : Xt B.so H1 H' := fun b o eb n => st.keep b o eb n
    exact k es p xs H' q' (x.back hp (ok1.sta.nsrc (ok1.sta.nw hp))) (x.trans xx) st.src hl (Dats.go (go_less fun b z => z.elim .inl fun w => .inr (st.wold b w)) _ _ hd)
  · have xx : Xt B.so H1 H' := fun b o eb n => st.keep b o eb n
    exact kx y cls dd H' q' (x.trans xx) st.src (ex.go (go_less st.wold))
end
section
variable {P : Program} {w : World} {K : PySem.W.Frag} {mg : Str → Option Value} {base : Heap} {G : Gb}
theorem fn_ctN {x qual : Str} {st : Stmt} {f : Addr} {fd : FuncData} {N ps : List Str} {k : Nat} {sp : SpecN} {n : MS} (F : Fun K x qual st f fd) (S : FnScope N ps (defScope st)) (gK : K = G.K) (len : ∀ ds Q X, sp ds Q X → ds.length = ps.length)
    (body : ∀ (cdv : Value) (A : Around) (outer : List Env) (s : Shared) (H : Hp) (E : XK) (B : Bs), Gd (Xof P w K mg base N qual st f cdv A outer s H E) G (Wof E) k → DB (Xof P w K mg base N qual st f cdv A outer s H E) G B (Wof E) (defBody st) n)
    (hn : ∀ ds Q Qx, sp ds Q Qx → n { nx := fun _ => False, rt := fun _ => False, ex := fun x _ => Qx x, rtn := Q } (startE N ds)) : FnOk P w K mg base (L2.CX P w) (k + 1) f fd ps (spOfN G sp) := by
  refine F.okX S (fun vs H Q E h => ?_) (fun cdv A outer s H vs Q E hr h => ?_)
  · obtain ⟨so, W, ds, Qd, Qx, _, hd, hs, _⟩ := h
    rw [hd.length]; exact len ds Qd Qx hs
  · obtain ⟨so, W, ds, Qd, Qx, st0, hd, hs, kQ, kX⟩ := h
    have hb := body cdv A outer s H E ⟨so, H, W⟩ ⟨gK, hr, rfl, takes_of rfl rfl rfl rfl⟩
    refine ⟨_, hb, W, startE N ds, _, sok_start st0 hd, hn ds Qd Qx hs, ?_⟩
    refine ⟨fun _ _ _ _ z => z.elim, fun _ _ _ _ z => z.elim, fun _ _ _ _ z => z.elim, fun _ _ _ _ z => z.elim, fun x cls dd W' δ σ H' q o g ex => kX W' x cls dd H' q o.sta ex, fun W' es a xs H' q o hw hs h0 hn hl hd => ?_, fun _ _ _ _ _ z => z.elim⟩
    refine kQ (fun b => W' b ∧ b ≠ a) es a xs H' q ⟨o.keep, o.src, fun b z => o.trk b z.1, fun b z => ⟨o.wsrc b z, fun e => hs (by rw [← e]; exact z)⟩, fun b z => ⟨o.wold b z, fun e => h0 (by rw [← e]; exact z)⟩⟩ hn hl ?_
    refine Dats.go (go_less fun b z => ?_) _ _ hd
    rcases z with z | z
    · rw [z]; exact hw
    · exact z.1
end
end Ct

set_option Elab.async false
set_option linter.all false
set_option maxRecDepth 100000
set_option maxHeartbeats 4000000
namespace Ct
open PySem PySem.Spec PyProof.Rows L2

section
variable {X : Cx} {G : Gb} {B : Bs} {Wx : WX} {k : Nat} {e a b c tg : Expr} {es : List Expr} {m ma mb mc : M} {ms : MA} {mt mu : MT} {pos : Pos}
/-! ### a test of what may still be written -/
def mFrzT (i : Nat) (mt : MT) : MT := fun δ Q _ => mt (frz δ i) Q noX
theorem Sok.frz {W : Addr → Prop} {H : Hp} {σ : L2.St} {δ : Ev} (ok : Sok G B W σ H δ) (i : Nat) : ∃ W', Sok G B W' σ H (frz δ i) ∧ ∀ b, W' b → W b := by
  unfold Ct.frz
  split
  · rename_i ds e
    obtain ⟨v, h1, a, xs, ev, h2, h3, h4, h5, h6, h7⟩ := ok.slot i _ e
    subst ev
    exact ⟨_, ok.freeze e h1, fun b z => z.1⟩
  · rename_i L d e
    obtain ⟨v, h1, h2, h3, h4⟩ := ok.slot i _ e
    exact ⟨_, ok.calm (L := L) e h1 (fun b z => z) h2, fun b z => z.1⟩
  · exact ⟨W, ok, fun b z => z⟩
theorem dt_frz (i : Nat) (h : DT X G B Wx e mt) : DT X G B Wx e (mFrzT i mt) :=
  PT.weak h fun σ H Q ⟨W, δ, Qd, Qx, ok, hm, k, kx⟩ => let ⟨W', ok', _⟩ := ok.frz i; ⟨W', _, Qd, noX, ok', hm, k, fun _ _ _ _ z => z.elim⟩

/-! ### written dicts of texts -/
theorem pps_str {pos p1 p2 : Pos} {keys : List (Option Expr)} {values : List Expr} {trs : List (TE × TE)} {x y : Str} {j1 j2} (h : PPs X pos keys values trs) :
    PPs X pos (some (.Constant (.str x) j1 p1) :: keys) (.Constant (.str y) j2 p2 :: values) ((tC (.str x), tC (.str y)) :: trs) := pps_cons pe_str pe_str h
def kvD (kvs : List (Str × Str)) : List (Key × D) := kvs.map fun p => (.inr p.1, .str p.2)
def kvV (kvs : List (Str × Str)) : List (Key × V) := kvs.map fun p => (.inr p.1, .str p.2)
theorem tPairs_str {σ : L2.St} {H : Hp} : ∀ {kvs : List (Str × Str)} {Q : List (V × V) → Hp → Prop}, Q (kvs.map fun p => (.str p.1, .str p.2)) H → tPairs (kvs.map fun p => (tC (.str p.1), tC (.str p.2))) σ H Q
  | [], _, h => h
  | p :: r, Q, h => tPairs_str (kvs := r) (Q := fun ps H3 => Q ((.str p.1, .str p.2) :: ps) H3) h
theorem datk_str {W : Addr → Prop} {H : Hp} : ∀ {kvs : List (Str × Str)}, Datk G B.so W H (kvD kvs) (kvV kvs)
  | [] => rfl
  | p :: r => ⟨.str p.2, kvV r, rfl, rfl, datk_str (kvs := r)⟩
theorem putK_new {kvs : List (Key × V)} {k : Key} {v : V} (h : ∀ p ∈ kvs, ¬ p.1 = k) : putK kvs k v = kvs ++ [(k, v)] := by
  have e : (kvs.any fun kv => decide (kv.1 = k)) = false := by
    rw [List.any_eq_false]
    intro p hp
    simpa using h p hp
  unfold putK
  rw [e]
  rfl
theorem merge_new : ∀ {more acc : List (Key × V)}, (acc ++ more).Pairwise (fun p q => ¬ p.1 = q.1) → mergeK acc more = acc ++ more
  | [], acc, _ => by simp [mergeK]
  | p :: r, acc, h => by
    have e : mergeK acc (p :: r) = mergeK (putK acc p.1 p.2) r := rfl
    rw [e, putK_new (fun q hq => (List.pairwise_append.mp h).2.2 q hq p List.mem_cons_self)]
    have e2 : acc ++ [(p.1, p.2)] ++ r = acc ++ p :: r := by simp
    rw [merge_new (by rw [e2]; exact h), e2]
theorem de_dctC (kvs : List (Str × Str)) {keys : List (Option Expr)} {values : List Expr} (h : PPs X pos keys values (kvs.map fun p => (tC (.str p.1), tC (.str p.2)))) (hd : (kvs.map (·.1)).Nodup := by decide +kernel) (hall : keys.all (·.isSome) = true := by rfl) (hl : keys.length = values.length := by rfl) (h0 : keys ≠ [] := by intro z; cases z)
    (h15 : keys.length ≤ 15 := by decide) (h15' : kvs.length ≤ 15 := by decide) : DE X G B Wx (.Dict keys values pos) (mC (.dct (kvD kvs))) := by
  refine PE.weak (pe_disp h hall hl h0 h15) fun σ H Q ⟨W, δ, Qd, Qx, ok, hm, k, _⟩ => fun p hp => tPairs_str ?_
  have mk : mergeK [] (kvV kvs) = kvV kvs := by
    rw [merge_new, List.nil_append]
    rw [List.nil_append]
    unfold kvV
    rw [List.pairwise_map]
    have := List.pairwise_map.mp hd
    exact this.imp fun hne e => hne (Sum.inr.inj e)
  refine ⟨upd_same, kvV kvs, by unfold kvV; rw [List.map_map]; rfl, by unfold kvV; rw [List.length_map]; exact h15', ?_⟩
  rw [mk]
  have e : Ext H (upd (upd H p (.dK [])) p (.dK (kvV kvs))) := fun b o eb => by rw [upd_ne (ne_of_none eb hp), upd_ne (ne_of_none eb hp)]; exact eb
  exact k _ _ _ hm e.xt (ok.sta.src.ext fun b o _ q => e b o q) ⟨p, _, rfl, ok.sta.nw hp, upd_same, datk_str⟩
def keyD : D → Option Key
  | .int i => some (.inl i)
  | .str x => some (.inr x)
  | _ => none
def atK (kvs : List (Key × D)) (k : Key) : Option D := match kvs with
  | [] => none
  | p :: r => if p.1 = k then some p.2 else atK r k
theorem datk_at {so : So} {W : Addr → Prop} {H : Hp} {k : Key} : ∀ {kvs : List (Key × D)} {ps : List (Key × V)}, Datk G so W H kvs ps → (∀ d, atK kvs k = some d → ∃ v, valV ps k = some v ∧ Dat G so W H d v) ∧ (atK kvs k = none → valV ps k = none)
  | [], _, h => by
    cases h
    refine ⟨fun d e => ?_, fun _ => rfl⟩
    unfold atK at e
    cases e
  | (k', d') :: r, _, h => by
    obtain ⟨v, q, rfl, h1, h2⟩ := h
    have ih := datk_at (k := k) h2
    unfold atK
    by_cases hk : k' = k
    · have e : (if ((k', d') : Key × D).1 = k then some ((k', d') : Key × D).2 else atK r k) = some d' := if_pos hk
      rw [e]
      exact ⟨fun d e => by cases e; exact ⟨v, valV_pos hk, h1⟩, fun e => by cases e⟩
    · have e : (if ((k', d') : Key × D).1 = k then some ((k', d') : Key × D).2 else atK r k) = atK r k := if_neg hk
      rw [e, valV_neg' (p := (k', v)) hk]
      exact ih
/-- d.get(x, y) -/
@[simp] def mGet2 (ma mb mc : M) : M := fun δ Q X => ma δ (fun d => ∃ kvs, d = .dct kvs ∧ mb δ (fun x => ∃ key, keyD x = some key ∧ mc δ (fun y => Q ((atK kvs key).getD y)) X) X) X
theorem keyD_kV {so : So} {W : Addr → Prop} {H : Hp} {d : D} {v : V} {key : Key} (h : Dat G so W H d v) (e : keyD d = some key) : v = kV key := by
  cases d with
  | int i => cases e; exact h
  | str x => cases e; exact h
  | _ => cases e
theorem de_get2 {apos : Pos} (hu : X.A.units + 1 < cLine) (ha : DE X G B Wx a ma) (hb : DE X G B Wx b mb) (hc : DE X G B Wx c mc) (h2 : M2 X a "get" apos b c pos) : DE X G B Wx (.Call (.Attribute a "get" apos) [b, c] [] pos) (mGet2 ma mb mc) := by
  refine PE.weak (pe_dget2 hu ha hb hc h2) fun σ H Q ⟨W, δ, Qd, Qx, ok, hm, k, kx⟩ => ?_
  refine ⟨W, δ, _, Qx, ok, hm, fun d v H1 q x1 s1 hd => ?_, kx⟩
  obtain ⟨kvs, rfl, q⟩ := q
  obtain ⟨p, ps, rfl, w, hp, hk⟩ := hd
  have ok1 := ok.xt x1 s1
  refine ⟨p, rfl, .inl ⟨ps, .inl hp⟩, W, δ, _, Qx, ok1, q, fun xk vk H2 q2 x2 s2 hx => ?_, fun y cls dd H' q x s ex => kx y cls dd H' q (x1.trans x) s ex⟩
  obtain ⟨key, ek, q2⟩ := q2
  have ok2 := ok1.xt x2 s2
  have evk := keyD_kV hx ek
  subst evk
  refine ⟨W, δ, _, Qx, ok2, q2, fun y u H3 q3 x3 s3 hy => ?_, fun y cls dd H' q x s ex => kx y cls dd H' q ((x1.trans x2).trans x) s ex⟩
  have g3 : Go W H1 W H3 := Xt.go ok.sta.wsrc (x2.trans x3)
  obtain ⟨w3, hp3⟩ := g3 p _ w hp
  have hk3 := Datk.go g3 _ _ hk
  refine ⟨valV ps key, DGet.k hp3, ?_⟩
  obtain ⟨i1, i2⟩ := datk_at (k := key) hk3
  cases e : atK kvs key with
  | some d =>
    obtain ⟨v, e1, e2⟩ := i1 d e
    rw [e1]
    rw [e] at q3
    exact k _ _ H3 q3 ((x1.trans x2).trans x3) s3 e2
  | none =>
    rw [i2 e]
    rw [e] at q3
    exact k _ _ H3 q3 ((x1.trans x2).trans x3) s3 hy

/-! ### defs that hand back what the caller may write -/
abbrev Spec2 := List D → (D → Prop) → (D → Prop) → (Exn → Prop) → Prop
/-- by Qd: a value; by Ql: a list, and what is a list in it, that nobody else holds -/
def spOfL (G : Gb) (f : Spec2) : Sp := fun vs H Q E => ∃ so W ds Qd Ql Qx, Sta ⟨so, H, W⟩ W H ∧ Dats G so W H ds vs ∧ f ds Qd Ql Qx ∧
  (∀ W' d v H', Qd d → Sta ⟨so, H, W⟩ W' H' → Dat G so W' H' d v → Q v H') ∧
  (∀ (W' L : Addr → Prop) d v H', Ql d → Sta ⟨so, H, W⟩ W' H' → (∀ b, L b → H b = none) → (∀ b, L b → ∃ o, H' b = some o) → Dat G so W' H' d v → Lo L H' v → Q v H') ∧ (∀ W' x cls dd H', Qx x → Sta ⟨so, H, W⟩ W' H' → Exok G so W' H' x cls dd → E cls dd H')
/-- .. to a caller who writes nothing -/
def plainS (f : Spec2) : Spec := fun ds Q X => f ds Q Q X
theorem spOf_L {f : Spec2} {vs : List V} {H : Hp} {Q : VK} {E : XK} (h : spOf G (plainS f) vs H Q E) : spOfL G f vs H Q E := by
  obtain ⟨so, W, ds, Qd, Qx, st, hd, hf, k, kx⟩ := h
  exact ⟨so, W, ds, Qd, Qd, Qx, st, hd, hf, k, fun W' _ d v H' q s _ _ h _ => k W' d v H' q s h, kx⟩
theorem FnOk_L {P : Program} {w : World} {K : PySem.W.Frag} {mg : Str → Option Value} {base : Heap} {CX : CXT} {kf : Nat} {fa : Addr} {fd : FuncData} {ps : List Str} {f : Spec2} (F : FnOk P w K mg base CX kf fa fd ps (spOfL G f)) : FnOk P w K mg base CX kf fa fd ps (spOf G (plainS f)) :=
  ⟨fun vs H Q E h => F.len vs H Q E (spOf_L h), fun A outer s H args us vs Q E hr e0 hb r hsp => F.run A outer s H args us vs Q E hr e0 hb r (spOf_L hsp)⟩
def mSetL (i : Nat) (f : Spec2) (ms : MA) : MS := fun P δ => ms δ (fun ds => f ds (fun d => P.nx (δ.set i (some (.d d)))) (fun d => ∀ L, P.nx (δ.set i (some (.loose L d)))) (fun x => P.ex x δ)) (fun x => P.ex x δ)
theorem ds_setL {i : Nat} {y : Str} {py : Pos} {f : Spec2} {x : Str} {fa : Addr} {fd : FuncData} {ps : List Str} {p cp : Pos} {kf : Nat} (hN : X.N.Nodup) (g : Gd X G Wx k) (F : FnOk X.prog X.w X.K X.mg X.base (L2.CX X.prog X.w) kf fa fd ps (spOfL G f)) (hk : kf ≤ k) (hm : X.mg x = some (.ref fa)) (kp : PySem.W.keepIn X.K (.ref fa) = true) (hb : Binds X.K fd ps [])
    (ha : DA X G B Wx (e :: es) ms) (hg : Gl X x := by rfl) (hdb : (x == ("__debug__" : Str)) = false := by decide) (he : starEach (e :: es) X.env = (false, eval e X.env) :: starEach es X.env := by rfl) (hpl : (backTo cp (starEach es X.env)).any (·.1) = false := by rfl)
    (hi : X.N[i]? = some y := by rfl) (hx : Loc X.env.scope y := by first | exact Or.inl rfl | exact Or.inr rfl) (hs : swapsWith (.Call (.Name x p) (e :: es) [] cp) (some (.Name y py)) pos.line X.env = pure false := by rfl) (hf : X.fn y = true ∨ X.env.scope.names.lookup y = some .local := by first | exact .inl rfl | exact .inr rfl) :
    DS X G B Wx (.Assign [.Name y py] (.Call (.Name x p) (e :: es) [] cp) pos) (mSetL i f ms) := by
  refine PS.weak (ps_set hN hi hx (pe_callS F (g.room.mono hk) hg hm kp hb (fun σ => passAt g.tk σ) ha hdb he hpl) hs hf) fun E σ H ⟨W, δ, P, ok, hm, l⟩ => ?_
  refine ⟨W, δ, _, _, ok, hm, fun ds vs H1 q x s hds => ?_, fun y cls dd H' q x s ex => l.ex y cls dd W δ σ H' q (ok.xt x s) (Xt.go ok.sta.wsrc x) ex⟩
  have ok1 := ok.xt x s
  refine ⟨B.so, W, ds, _, _, _, ok1.sta.self, hds, q, fun W' d v H' q' st hd => ?_, fun W' L d v H' q' st hL hL' hd lo => ?_, fun W' y cls dd H' q' st ex => ?_⟩
  · have xx : Xt B.so H1 H' := fun b o eb n => st.keep b o eb n
    exact l.nx _ _ _ H' q' ((ok1.xt xx st.src).put i (Dat.go (go_less st.wold) d v hd)) ((Xt.go ok.sta.wsrc x).trans (Xt.go ok.sta.wsrc xx))
  · have xx : Xt B.so H1 H' := fun b o eb n => st.keep b o eb n
    exact l.nx _ _ _ H' (q' L) (ok1.putLoose i hL xx st.src hL' (Dat.go (go_less st.wold) d v hd) lo) ((Xt.go ok.sta.wsrc x).trans (Xt.goL ok.sta.wsrc xx hL))
  · have xx : Xt B.so H1 H' := fun b o eb n => st.keep b o eb n
    exact l.ex y cls dd W δ σ H' q' (ok1.xt xx st.src) (Xt.go ok.sta.wsrc (x.trans xx)) (ex.go (go_less st.wold))
/-- no place -/
def flat : D → Prop
  | .non => True | .bl _ => True | .int _ => True | .str _ => True | _ => False
theorem flat_nr {so : So} {W : Addr → Prop} {H : Hp} {d : D} {v : V} (h : Dat G so W H d v) (f : flat d) (b : Addr) : v ≠ .ref b := by
  cases d with
  | non => cases h; intro z; cases z
  | bl _ => cases h; intro z; cases z
  | int _ => cases h; intro z; cases z
  | str _ => cases h; intro z; cases z
  | _ => exact (show False from f).elim
/-- x[j].append(None), of which nothing is looked at again -/
def mAppL (i : Nat) (j : Int) : MS := fun P δ => match δ[i]? with
  | some (some (.loose _ d)) => (∃ ds es, d = .lst ds ∧ atI ds j = some (.lst es) ∧ es.length < 1000000) ∧ P.nx (δ.set i none)
  | _ => False
theorem ds_appL {i : Nat} {j : Int} {c : Expr} (gK : X.K = G.K) (h : PE X c (tBM X.K "list" rAppend (tOp (rIxL X.K) (tVar i) (tC (.int j))) (tCons (tC .non) tNil))) (hs : swapsWith c none pos.line X.env = pure false := by rfl) : DS X G B Wx (.Expr c pos) (mAppL i j) := by
  refine PS.weak (ps_expr h hs) fun E σ H ⟨W, δ, P, ok, hm, l⟩ => ?_
  unfold mAppL at hm
  split at hm
  · rename_i L d e0
    obtain ⟨⟨ds, es, rfl, hj, hl⟩, hn⟩ := hm
    obtain ⟨v, h1, h2, h3, h4⟩ := ok.slot i _ e0
    obtain ⟨a, xs, rfl, w, ha, hds⟩ := h2
    obtain ⟨u, hu, b, ys, rfl, wb, hb, hes⟩ := atI_dats hds hj
    have wrb : L b := by
      obtain ⟨a', xs', e, la, ha', hx⟩ := h4
      cases e
      rw [ha] at ha'; cases ha'
      have mem : V.ref b ∈ xs := by
        unfold atI at hu
        cases q : ixN xs.length j with
        | none => rw [q] at hu; cases hu
        | some n => rw [q] at hu; exact List.mem_of_getElem? hu
      exact (hx b mem).1
    refine ⟨_, h1, a, xs, j, _, rfl, rfl, SqL.of ha, hu, .inl ⟨rfl, ys, SqL.of hb⟩, b, ys, .non, rfl, rfl, hb, Nat.lt_of_lt_of_le (by rw [hes.length]; exact hl) (sz6 (Nat.le_refl _)), ?_⟩
    obtain ⟨wb1, wb2, wb3, wb4⟩ := h3 b wrb
    have ok1 := ok.drop i (x := some (.ref a))
    rw [set_self h1] at ok1
    refine l.nx W (δ.set i none) σ _ hn ?_ (fun b' o n eb => ⟨n, by rw [upd_ne (fun z => n (by rw [z]; exact wb1))]; exact eb⟩)
    have g : Go W H W (upd H b (.lst (ys ++ [.non]))) := fun b' o n eb => ⟨n, by rw [upd_ne (fun z => n (by rw [z]; exact wb1))]; exact eb⟩
    have st : Sta B W (upd H b (.lst (ys ++ [.non]))) := by
      refine ⟨fun b' o' e n => ?_, ok.sta.src.ext fun b' o' z e => ?_, fun b' w => ?_, ok.sta.wsrc, ok.sta.wold⟩
      · rw [upd_ne (fun z => by subst z; rw [wb4] at e; cases e)]
        exact ok.sta.keep b' o' e n
      · rw [upd_ne (fun w => wb2 (by rw [← w]; exact z))]; exact e
      · by_cases hb : b' = b
        · subst hb; exact ⟨_, upd_same⟩
        · rw [upd_ne hb]; exact ok.sta.trk b' w
    have r := ok.mk1 (x := some (.ref a)) (so := none) st i (fun j t v hj e1 e2 q => q.keep g fun b' w => ⟨(q.wr w).1, upd_ne fun z => ?_⟩) (fun t e => by cases e) (fun t v j t' u' b e ex hj e1 e2 w1 w2 => by cases e)
    · rw [set_self h1] at r; exact r
    · subst z; exact ok.dist j i t _ v _ b' hj e1 e0 e2 h1 w wrb
  · exact hm.elim
/-- return [a, b], b a new list -/
def mRetL2 (ma : M) (mb : MA) : MS := fun P δ => ma δ (fun d => mb δ (fun ds => flat d ∧ P.rtl (.lst [d, .lst ds])) (fun x => P.ex x δ)) (fun x => P.ex x δ)
theorem ds_retL2 {p2 : Pos} (ha : DE X G B Wx a ma) (hb : NE X G B Wx b ms) (hs : starEach (a :: [b]) X.env = (false, eval a X.env) :: starEach [b] X.env := by rfl) (hs2 : starEach (b :: []) X.env = (false, eval b X.env) :: starEach [] X.env := by rfl) :
    DS X G B Wx (.Return (some (.List [a, b] p2)) pos) (mRetL2 ma ms) := by
  refine PS.weak (ps_ret (pe_lst (pa_cons ha (pa_cons hb pa_nil hs2) hs))) fun E σ H ⟨W, δ, P, ok, hm, l⟩ => ?_
  refine ⟨W, δ, _, _, ok, hm, fun d v H1 q x s hd => ?_, fun y cls dd H' q x s ex => l.ex y cls dd W δ σ H' q (ok.xt x s) (Xt.go ok.sta.wsrc x) ex⟩
  have ok1 := ok.xt x s
  refine ⟨W, δ, _, _, ok1, q, fun ds p xs H2 q2 hp x2 s2 hl hds => ?_, fun y cls dd H' q x2 s ex => l.ex y cls dd W δ σ H' q (ok1.xt x2 s) (Xt.go ok.sta.wsrc (x.trans x2)) ex⟩
  refine ⟨by show 2 ≤ sizeLine; exact sz6 (by decide), fun r hr => ?_⟩
  have ok2 := ok1.grow hp x2 s2 hl
  have pW := ok1.sta.nw hp
  have ok3 := ok2.grow (o := .lst [v, .ref p]) hr (Ext.new hr).xt (s2.ext fun b o _ q => Ext.new hr b o q) upd_same
  have hrp : r ≠ p := fun z => by rw [z, hl] at hr; cases hr
  obtain ⟨qf, q2⟩ := q2
  refine l.rtl _ (fun b => b = p ∨ b = r) _ _ _ q2 ok3.sta (fun b z => ?_) ⟨r, [v, .ref p], rfl, fun z => z.2 (.inr rfl), upd_same, v, [.ref p], rfl, ?_, .ref p, [], rfl, ⟨p, xs, rfl, fun z => z.2 (.inl rfl), by rw [upd_ne hrp.symm]; exact hl, ?_⟩, rfl⟩ ⟨r, [v, .ref p], rfl, .inr rfl, upd_same, fun b m => ?_⟩
  · rcases z with z | z
    · rw [z]; exact ⟨.inr (.inl rfl), ok1.sta.nsrc pW, fun w => pW (ok1.sta.wold p w), ok1.sta.new0 hp⟩
    · rw [z]
      have rW := ok2.sta.nw hr
      exact ⟨.inl rfl, ok2.sta.nsrc rW, fun w => rW (ok2.sta.wold r w), ok2.sta.new0 hr⟩
  · refine Dat.go (fun b o n eb => ⟨fun z => ?_, Ext.new hr b o (x2 b o eb fun w => n (ok1.sta.wsrc b w))⟩) d v hd
    obtain ⟨z1, z2⟩ := z
    rcases z1 with z1 | z1 | z1
    · exact z2 (.inr z1)
    · exact z2 (.inl z1)
    · exact n z1
  · refine Dats.go (fun b o n eb => ⟨fun z => ?_, Ext.new hr b o eb⟩) _ _ hds
    obtain ⟨z1, z2⟩ := z
    rcases z1 with z1 | z1 | z1
    · exact z2 (.inr z1)
    · exact z2 (.inl z1)
    · exact n (.inr z1)
  · cases m with
    | head => exact (flat_nr hd qf b rfl).elim
    | tail _ m =>
      cases m with
      | head => exact ⟨.inl rfl, xs, by rw [upd_ne hrp.symm]; exact hl⟩
      | tail _ m => cases m
end
section
variable {P : Program} {w : World} {K : PySem.W.Frag} {mg : Str → Option Value} {base : Heap} {G : Gb}
theorem fn_ctL {x qual : Str} {st : Stmt} {f : Addr} {fd : FuncData} {N ps : List Str} {k : Nat} {sp : Spec2} {n : MS} (F : Fun K x qual st f fd) (S : FnScope N ps (defScope st)) (gK : K = G.K) (len : ∀ ds Q Ql X, sp ds Q Ql X → ds.length = ps.length)
    (body : ∀ (cdv : Value) (A : Around) (outer : List Env) (s : Shared) (H : Hp) (E : XK) (B : Bs), Gd (Xof P w K mg base N qual st f cdv A outer s H E) G (Wof E) k → DB (Xof P w K mg base N qual st f cdv A outer s H E) G B (Wof E) (defBody st) n)
    (hn : ∀ ds Q Ql Qx, sp ds Q Ql Qx → n { nx := fun _ => Q .non, rt := Q, ex := fun x _ => Qx x, rtl := Ql } (startE N ds)) : FnOk P w K mg base (L2.CX P w) (k + 1) f fd ps (spOfL G sp) := by
  refine F.okX S (fun vs H Q E h => ?_) (fun cdv A outer s H vs Q E hr h => ?_)
  · obtain ⟨so, W, ds, Qd, Ql, Qx, _, hd, hs, _⟩ := h
    rw [hd.length]; exact len ds Qd Ql Qx hs
  · obtain ⟨so, W, ds, Qd, Ql, Qx, st0, hd, hs, kQ, kL, kX⟩ := h
    have hb := body cdv A outer s H E ⟨so, H, W⟩ ⟨gK, hr, rfl, takes_of rfl rfl rfl rfl⟩
    refine ⟨_, hb, W, startE N ds, _, sok_start st0 hd, hn ds Qd Ql Qx hs, ?_⟩
    refine ⟨fun W' δ σ H' q o g => kQ W' .non .non H' q o.sta rfl, fun W' d v H' q o hd => kQ W' d v H' q o hd, fun _ _ _ _ z => z.elim, fun _ _ _ _ z => z.elim, fun x cls dd W' δ σ H' q o g ex => kX W' x cls dd H' q o.sta ex, fun _ _ _ _ _ z => z.elim, fun W' L d v H' q o hL hd lo => ?_⟩
    exact kL (fun b => W' b ∧ ¬ L b) L d v H' q ⟨o.keep, o.src, fun b z => o.trk b z.1, fun b z => ⟨o.wsrc b z, fun l => (hL b l).2.1 z⟩, fun b z => ⟨o.wold b z, fun l => (hL b l).2.2.1 z⟩⟩ (fun b l => (hL b l).2.2.2) (fun b l => o.trk b (hL b l).1) hd lo
end
end Ct

set_option Elab.async false
set_option linter.all false
set_option maxRecDepth 100000
set_option maxHeartbeats 4000000
namespace Ct
open PySem PySem.Spec PyProof.Rows L2
/-- the script is handed in; the law says True -/
def spLaw (K : PySem.W.Frag) : Sp := fun vs H Q _ => ∃ (a : Addr) (ns : List Int), vs = [.ref a] ∧ SqL K H a (ns.map V.int) ∧ ns.length ≤ 63 ∧ ∀ H', Q (.bl true) H'
section
variable {P : Program} {w : World} {K : PySem.W.Frag} {mg : Str → Option Value} {base : Heap} {G : Gb}
/-- slots of the law behind its first statement: the script (not looked at again), the source -/
def lawE (N : List Str) : Ev := none :: some (.d .src) :: List.replicate (N.length - 2) none
theorem fn_law {x qual : Str} {st s0 : Stmt} {ss : List Stmt} {f fS : Addr} {fd fdS : FuncData} {N : List Str} {k kS : Nat} {n : MS} (F : Fun K x qual st f fd) (S : FnScope N ["_law_script"] (defScope st)) (gK : K = G.K) (hb : defBody st = s0 :: ss) (h2 : 2 ≤ N.length)
    (first : ∀ (cdv : Value) (A : Around) (outer : List Env) (s : Shared) (H : Hp) (E : XK), Room k (Xof P w K mg base N qual st f cdv A outer s H E).A → PS (Xof P w K mg base N qual st f cdv A outer s H E) s0 (tAsg (tCallS (spSource K) (fun _ _ _ _ => False) (tCons (tVar 0) tNil)) (gName 1)))
    (body : ∀ (cdv : Value) (A : Around) (outer : List Env) (s : Shared) (H : Hp) (E : XK) (B : Bs), (Xof P w K mg base N qual st f cdv A outer s H E).A.guards = some [] → Gd (Xof P w K mg base N qual st f cdv A outer s H E) G (Wof E) k →
      DB (Xof P w K mg base N qual st f cdv A outer s H E) G B (Wof E) ss n)
    (hn : n { nx := fun _ => False, rt := fun d => d = .bl true } (lawE N)) : FnG P w K mg base (k + 1) f fd ["_law_script"] (spLaw K) := by
  refine ⟨?_, ?_⟩
  · rintro _ _ _ _ ⟨_, _, rfl, _⟩
    rfl
  rintro A outer s H args us vs Q E shown room env binds lie ⟨a, ns, rfl, script, few, q⟩
  have room' : ∀ cdv, Room k (Xof P w K mg base N qual st f cdv A outer s H E).A := fun _ => room.deeper _
  refine entered (t := tSeq (tAsg (tCallS (spSource K) (fun _ _ _ _ => False) (tCons (tVar 0) tNil)) (gName 1)) fun D σ H1 => ∃ B, liftG G B (Wof E) n D σ H1) F S room env binds lie rfl (fun cdv => ?_) ?_
  · rw [hb]
    refine pss_cons (first cdv A outer s H E (room' cdv)) ⟨?_⟩
    rintro pins s1 σ H1 D I ⟨B, q1⟩
    exact (body cdv A outer s H E B shown ⟨gK, room' cdv, rfl, takes_of rfl rfl rfl rfl⟩).run pins s1 σ H1 D I q1
  · have from2 : L2.start N [V.ref a] = some (.ref a) :: none :: List.replicate (N.length - 2) none := by
      obtain ⟨R, e⟩ : ∃ R, N.length = R + 2 := ⟨N.length - 2, by omega⟩
      unfold L2.start
      rw [e]
      rfl
    have nothing : ∀ {i : Nat} {z : Sl}, (List.replicate (N.length - 2) (none : Option Sl))[i]? = some (some z) → False := by
      intro i z e
      rw [List.getElem?_replicate] at e
      split at e <;> cases e
    rw [from2]
    refine ⟨_, rfl, a, ns, rfl, script, few, fun sa ca H1 _ _ src _ => ?_⟩
    have src' := src
    obtain ⟨_, cs, l, m, t, d1, d2⟩ := src'
    refine ⟨⟨some (sa, ca), H1, fun b => b = sa ∨ b = ca⟩, fun b => b = sa ∨ b = ca, lawE N, { nx := fun _ => False, rt := fun d => d = .bl true }, ⟨⟨fun _ _ e _ => e, ?_, ?_, fun _ z => z, fun _ z => z⟩, ?_, ?_, ?_⟩, hn, ?_⟩
    · rintro _ _ ⟨⟩
      exact src
    · rintro b (rfl | rfl)
      · exact ⟨_, d1⟩
      · exact ⟨_, d2⟩
    · simp [lawE]
    · intro i z e
      match i, e with
      | 0, e => cases e
      | 1, e =>
        cases e
        exact ⟨_, rfl, sa, ca, rfl, rfl⟩
      | i + 2, e => exact (nothing (i := i) e).elim
    · intro i j z t' u v b _ e1 _ _ _ w1 _
      match i, e1 with
      | 0, e => cases e
      | 1, e =>
        cases e
        exact w1
      | i + 2, e => exact (nothing (i := i) e).elim
    · constructor
      · exact fun _ _ _ _ no => no.elim
      · rintro _ d v H2 rfl _ rfl
        exact q H2
      · exact fun _ _ _ _ no => no.elim
      · exact fun _ _ _ _ no => no.elim
      · exact fun _ _ _ _ _ _ _ no => no.elim
      · exact fun _ _ _ _ _ no => no.elim
      · exact fun _ _ _ _ _ no => no.elim
end
end Ct

set_option Elab.async false
set_option linter.all false
set_option maxRecDepth 100000
set_option maxHeartbeats 4000000
namespace Ct
open PySem PySem.Spec PySem.W PyProof.Rows L2

/-- a heap that holds a list which nobody writes: what a call may take for fixed, and what it may read -/
structure Laid (P : Program) (w : World) (K : PySem.W.Frag) (h : Heap) (a : Addr) (xs : List V) (base : Heap) (H : Hp) : Prop where
  below : ∀ b o, base.get? b = some o → h.get? b = some o ∧ H b = none
  size : base.objs.size ≤ h.objs.size
  inK : K.In base
  names : ∀ b m, h.Ns b m → base.Ns b m
  ok : HOk P w H h
  list : SqL K H a xs
  kept : ∀ (H' : Hp) (h' : Heap), Un [] [] H H' h h' → HOk P w H' h' → ∀ b o, h.get? b = some o → h'.get? b = some o

theorem laid_of {P : Program} {w : World} {K : PySem.W.Frag} {h : Heap} {a : Addr} {xs : List V} {us : List Value} (inK : K.In h) (at' : h.get? a = some { cls := .type "list", data := .seq us.toArray }) (vs : Vals xs us) (len : xs.length ≤ sizeLine) :
    ∃ base H, Laid P w K h a xs base H := by
  have same : us.length = xs.length := vs.length.symm
  cases q : K.lookup a with
  | some o =>
    have e := inK a o q
    rw [at'] at e
    cases e
    exact ⟨h, fun _ => none, ⟨fun b o e => ⟨e, rfl⟩, Nat.le_refl _, inK, fun _ _ n => n, fun _ _ z => by simp at z,
      Or.inr ⟨_, us.toArray, _, q, rfl, rfl, rfl, by simpa [same] using len, by simpa using vs⟩, fun H' h' u _ b o e => u.keep b o e rfl (by simp) (by simp)⟩⟩
  | none =>
    refine ⟨hideAll h [a], upd (fun _ => none) a (.frz { cls := .type "list", data := .seq us.toArray } (.lst xs)), ?_⟩
    have notA : ∀ b o, (hideAll h [a]).get? b = some o → b ≠ a := by
      rintro b o e rfl
      rw [hideAll_none [b] (List.mem_singleton.mpr rfl)] at e
      cases e
    constructor
    · intro b o e
      exact ⟨of_hideAll [a] e, upd_ne (notA b o e)⟩
    · rw [hideAll_size]
      exact Nat.le_refl _
    · intro b o e
      refine hideAll_get [a] (inK b o e) ?_
      intro m
      rw [List.mem_singleton.mp m, q] at e
      cases e
    · rintro b m ⟨o, es, ep, e, d, r⟩
      refine ⟨o, es, ep, hideAll_get [a] e ?_, d, r⟩
      intro z
      rw [List.mem_singleton.mp z, at'] at e
      cases e
      cases d
    · intro b o e
      by_cases z : b = a
      · subst z
        rw [upd_same] at e
        cases e
        exact ⟨at', len, us, _, vs, at'⟩
      · rw [upd_ne z] at e
        cases e
    · exact Or.inl (Or.inr ⟨_, upd_same⟩)
    · intro H' h' u ok b o e
      by_cases z : b = a
      · subst z
        have t := (ok b _ (u.frzs b _ _ upd_same)).1
        rw [at'] at e
        cases e
        exact t
      · exact u.keep b o e (upd_ne z) (by simp) (by simp)

/-- the law's def, shown where nothing is shown, is what the claim asks -/
theorem walkG {l : OpenLaw} {q : Program} {loose : List Str} {XP : (Str → Option Value) → Heap → Prop} {YP : World → Heap → Prop} {d : DefRec} {K : Params → PySem.W.Frag} {k : Nat}
    (most : l.most = some 63) (plain : d.params.defaults = []) (room : Room k callerA) (inK : ∀ w h, YP w h → (K w.params).In h)
    (F : ∀ (w : World) (mg : Str → Option Value) (fa : Addr) (h : Heap), (K w.params).In h → h.Ns mainGlobals mg → mg d.name = some (.ref fa) →
      ∃ fd : FuncData, (∀ (s : Shared) (v : Value), BindsTo s fd ⟨[v], []⟩ [("_law_script", v)]) ∧
        ∀ base : Heap, (K w.params).In base → base.Ns mainGlobals mg → FnG l.prog w (K w.params) mg base k fa fd ["_law_script"] (spLaw (K w.params))) :
    WalkO q loose XP YP l.row.toRowW d [] (fun f vs => PySem.call f vs) := by
  refine Att.attach_call most plain fun w s₀ s₁ mg mb fa o pm cd doc a vs ns G Y ho hd hcd hmg at' nums few none => ?_
  have kIn := inK w s₁.heap Y
  obtain ⟨fd, binds, f⟩ := F w mg fa s₁.heap kIn G.T.g hmg
  have vals := vals_of_ints nums
  have small : (ns.map V.int).length ≤ sizeLine := by
    rw [List.length_map]
    exact Nat.le_trans few (by rw [sizeLine_eq]; decide)
  obtain ⟨base, H, L⟩ := laid_of (P := l.prog) (w := w) kIn at' vals small
  have env : Env0 l.prog w (K w.params) mg base callerA [] s₁ H :=
    { frames := rfl
      mod := ⟨L.inK, L.names _ _ G.T.g, ⟨mb, L.names _ _ G.T.b, G.T.builtins⟩, let ⟨mc, n1, n2⟩ := G.T.nolimit; ⟨mc, L.names _ _ n1, n2⟩⟩
      bs := L.below
      bsz := L.size
      funs := ?funs
      frf := fun b hb => by simp [frs] at hb
      hok := L.ok
      bare := AllBare.of_eq none }
  case funs => trivial
  refine codeAny_mono ((f base L.inK (L.names _ _ G.T.g)).go callerA [] s₁ H ⟨[.ref a], []⟩ [.ref a] [.ref a] (fun v _ => v = .bl true) (fun _ _ _ => False) rfl room env (binds s₁ (.ref a)) ?v ⟨a, ns, rfl, L.list, few, fun _ => rfl⟩) fun r s' end' => ?e
  case v => exact .cons rfl .nil
  case e =>
    match r, end' with
    | .ok (.ret u), e =>
      obtain ⟨v, H', os, bare, un, ok, rv, rfl⟩ := e
      refine ⟨?_, OldK.of_keep (L.kept H' s'.heap un ok), os, bare⟩
      cases u <;> first | (cases rv; rfl) | cases rv
    | .ok .next, e => exact e.elim
    | .ok .brk, e => exact e.elim
    | .ok .cont, e => exact e.elim
    | .error _, e =>
      obtain ⟨_, _, _, _, _, _, _, _, _, _, _, _, no⟩ := e
      exact no.elim
end Ct

set_option Elab.async false
set_option linter.all false
set_option maxRecDepth 100000
set_option maxHeartbeats 4000000
namespace Ct
open PySem PySem.Spec PyProof.Rows L2
section
variable {X : Cx} {G : Gb} {B : Bs} {Wx : WX} {k : Nat} {e a b c : Expr} {es : List Expr} {m ma mb mc : M} {ms : MA} {mt mu : MT} {pos : Pos}
/-! ### a, b, c = x, y, z by a tuple -/
def mPar3 (i j l : Nat) (na nb nc : MST) : MS := fun P δ => na δ (fun s => nb δ (fun t => nc δ (fun u => P.nx (((δ.set i (some s)).set j (some t)).set l (some u))) (fun x => P.ex x δ)) (fun x => P.ex x δ)) (fun x => P.ex x δ)
theorem ds_par3 {i j l : Nat} {x y z : Str} {px py pz pt : Pos} {kt k2 pt2} {na nb nc : MST} (gd : Gd X G Wx k) (hN : X.N.Nodup) (ha : SE X G B Wx a na) (hb : SE X G B Wx b nb) (hc : SE X G B Wx c nc) (hi : X.N[i]? = some x := by rfl) (hj : X.N[j]? = some y := by rfl) (hl : X.N[l]? = some z := by rfl)
    (hx : Loc X.env.scope x := by first | exact Or.inl rfl | exact Or.inr rfl) (hy : Loc X.env.scope y := by first | exact Or.inl rfl | exact Or.inr rfl) (hz : Loc X.env.scope z := by first | exact Or.inl rfl | exact Or.inr rfl)
    (fx : X.fn x = true ∨ X.env.scope.names.lookup x = some .local := by first | exact .inl rfl | exact .inr rfl) (fy : X.fn y = true ∨ X.env.scope.names.lookup y = some .local := by first | exact .inl rfl | exact .inr rfl) (fz : X.fn z = true ∨ X.env.scope.names.lookup z = some .local := by first | exact .inl rfl | exact .inr rfl)
    (he : starEach [a, b, c] X.env = (false, eval a X.env) :: starEach [b, c] X.env := by rfl) (he2 : starEach [b, c] X.env = (false, eval b X.env) :: starEach [c] X.env := by rfl) (he3 : starEach [c] X.env = (false, eval c X.env) :: starEach [] X.env := by rfl)
    (hs : swapsWithSole [.Tuple [.Name x px, .Name y py, .Name z pz] kt pt] (.Tuple [a, b, c] k2 pt2) pos.line X.env = pure false := by rfl)
    (hw : swappedStores [.Tuple [.Name x px, .Name y py, .Name z pz] kt pt] (.Tuple [a, b, c] k2 pt2) X.env = pure none := by rfl)
    (h1 : (assignEach [.Tuple [.Name x px, .Name y py, .Name z pz] kt pt] X.env).map (·.2) = [assign (.Tuple [.Name x px, .Name y py, .Name z pz] kt pt) X.env] := by rfl)
    (h2 : (assignEach [.Name x px, .Name y py, .Name z pz] X.env).map (·.2) = assign (.Name x px) X.env :: (assignEach [.Name y py, .Name z pz] X.env).map (·.2) := by rfl)
    (h3 : (assignEach [.Name y py, .Name z pz] X.env).map (·.2) = assign (.Name y py) X.env :: (assignEach [.Name z pz] X.env).map (·.2) := by rfl)
    (h4 : (assignEach [.Name z pz] X.env).map (·.2) = assign (.Name z pz) X.env :: (assignEach [] X.env).map (·.2) := by rfl)
    (h5 : (assignEach [.Name x px, .Name y py, .Name z pz] X.env).length = 3 := by rfl) (h6 : (assignEach [.Name x px, .Name y py, .Name z pz] X.env).findIdx? (·.1) = none := by rfl) :
    DS X G B Wx (.Assign [.Tuple [.Name x px, .Name y py, .Name z pz] kt pt] (.Tuple [a, b, c] k2 pt2) pos) (mPar3 i j l na nb nc) := by
  refine PS.weak (ps_asg (pe_tup (pa_cons ha (pa_cons hb (pa_cons hc pa_nil he3) he2) he)) (pg_tup gd.calm (pgs_cons (pg_name hN hi hx fx) (pgs_cons (pg_name hN hj hy fy) (pgs_cons (pg_name hN hl hz fz) pgs_nil h4) h3) h2) h5 h6) hs hw h1) fun E σ H ⟨W, δ, P, ok, hm, lk⟩ => ?_
  refine ⟨W, δ, _, _, ok, hm, fun s v W1 H1 q ok1 g1 x1 w1 hs => ?_, fun y cls dd H' q x s ex => lk.ex y cls dd W δ σ H' q (ok.xt x s) (Xt.go ok.sta.wsrc x) ex⟩
  refine ⟨W1, δ, _, _, ok1, q, fun t u W2 H2 q2 ok2 g2 x2 w2 ht => ?_, fun y cls dd H' q x s ex => lk.ex y cls dd W1 δ σ H' q (ok1.xt x s) (g1.trans (Xt.go ok1.sta.wsrc x)) ex⟩
  refine ⟨W2, δ, _, _, ok2, q2, fun r w W3 H3 q3 ok3 g3 x3 w3 hr => ?_, fun y cls dd H' q x s ex => lk.ex y cls dd W2 δ σ H' q (ok2.xt x s) ((g1.trans g2).trans (Xt.go ok2.sta.wsrc x)) ex⟩
  have hs2 := hs.more g2 x2 w2
  have hs3 := hs2.more g3 x3 w3
  have ht3 := ht.more g3 x3 w3
  have okA := ok3.store (s := s) (v := v) (H := H) i hs3 (own_there ok)
  have okB := okA.store (s := t) (v := u) (H := H1) j ht3 (own_set (own_there ok1) hs)
  have okC := okB.store (s := r) (v := w) (H := H2) l hr (own_set (own_set (own_there ok2) hs2) ht)
  refine ⟨by show 3 ≤ sizeLine; exact sz6 (by decide), fun p hp => ⟨p, _, rfl, SqT.of upd_same, rfl, v, _, rfl, u, _, rfl, w, _, rfl, rfl, ?_⟩⟩
  exact lk.nx W3 _ _ _ q3 (okC.ext (Ext.new hp)) (((g1.trans g2).trans g3).trans (Ext.go (Ext.new hp)))
end
end Ct

set_option Elab.async false
set_option linter.all false
set_option maxRecDepth 100000
set_option maxHeartbeats 4000000
namespace Ct
open PySem PySem.Spec PyProof.Rows L2
/-- a def of the text, as a caller needs it -/
structure Cal (P : Program) (w : World) (K : PySem.W.Frag) (mg : Str → Option Value) (base : Heap) (x : Str) (k : Nat) (ps : List Str) (sp : Sp) : Prop where
  ex : ∃ f fd, mg x = some (.ref f) ∧ PySem.W.keepIn K (.ref f) = true ∧ Binds K fd ps [] ∧ FnOk P w K mg base (L2.CX P w) k f fd ps sp
theorem Cal.plain {P : Program} {w : World} {K : PySem.W.Frag} {mg : Str → Option Value} {base : Heap} {G : Gb} {x : Str} {k : Nat} {ps : List Str} {f : Spec2} (c : Cal P w K mg base x k ps (spOfL G f)) : Cal P w K mg base x k ps (spOf G (plainS f)) :=
  let ⟨a, fd, h1, h2, h3, h4⟩ := c.ex; ⟨a, fd, h1, h2, h3, FnOk_L h4⟩
section
variable {X : Cx} {G : Gb} {B : Bs} {Wx : WX} {k kf : Nat} {e a b c : Expr} {es : List Expr} {m ma mb mc : M} {ms : MA} {mt mu : MT} {pos p : Pos} {x y : Str} {ps : List Str}
theorem Gd.blk {s : Shared} {H : Hp} {scope : Scope} {C : Addr} {cl : List (Str × Addr)} {fp : List Addr} (g : Gd X G Wx k) : Gd (Blk X s H scope C cl fp) G W0 k := ⟨g.hK, g.room, g.calm, takes0⟩
theorem Gd.tr {pn : List (Addr × Obj)} {xe : Value → Shared → Prop} {W : WX} (g : Gd X G Wx k) (t : Takes (X.tr pn xe) W) : Gd (X.tr pn xe) G W k := ⟨g.hK, g.room, g.calm, t⟩
theorem Gd.un (g : Gd X G Wx k) : X.A.units + 66 < cLine := by have := g.room.un; omega
theorem Gd.un5 (g : Gd X G Wx k) : X.A.units + 65 < cLine := by have := g.room.un; omega
theorem Gd.un4 (g : Gd X G Wx k) : X.A.units + 64 < cLine := by have := g.room.un; omega
theorem Gd.un1 (g : Gd X G Wx k) : X.A.units + 1 < cLine := by have := g.room.un; omega
theorem de_gs {z : Str} (h : ∃ t, X.mg x = some (.str z t)) (hg : Gl X x := by rfl) (hdb : (x == ("__debug__" : Str)) = false := by decide) : DE X G B Wx (.Name x pos) (mC (.str z)) :=
  let ⟨t, h⟩ := h; de_glob (v := .str z) hg h ⟨t, rfl⟩ (fun _ _ _ => rfl) hdb
theorem de_gi {z : Int} (h : ∃ t, X.mg x = some (.int z t)) (hg : Gl X x := by rfl) (hdb : (x == ("__debug__" : Str)) = false := by decide) : DE X G B Wx (.Name x pos) (mC (.int z)) :=
  let ⟨t, h⟩ := h; de_glob (v := .int z) hg h ⟨t, rfl⟩ (fun _ _ _ => rfl) hdb
theorem de_len (g : Gd X G Wx k) (hm : X.mg "len" = none) (ha : OE X G B Wx e m) (hg : Gl X "len" := by rfl) (he : starEach [e] X.env = (false, eval e X.env) :: starEach [] X.env := by rfl) (hpl : (backTo pos (starEach [] X.env)).any (·.1) = false := by rfl) :
    DE X G B Wx (.Call (.Name "len" p) [e] [] pos) (mBi lenD (mCons m mNil)) := de_bi (call_lenG g.hK) hm PySem.boot_len (oa_cons ha oa_nil he) hg (by decide) (by decide) he hpl
theorem de_strC (g : Gd X G Wx k) (hm : X.mg "str" = none) (ha : OE X G B Wx e m) (hg : Gl X "str" := by rfl) (he : starEach [e] X.env = (false, eval e X.env) :: starEach [] X.env := by rfl) (hpl : (backTo pos (starEach [] X.env)).any (·.1) = false := by rfl) :
    DE X G B Wx (.Call (.Name "str" p) [e] [] pos) (mBi strD (mCons m mNil)) := de_biT call_strG hm (by first | exact boot_str | rfl | decide +kernel) (oa_cons ha oa_nil he) hg (by decide) (by decide) he hpl
theorem de_reprC (g : Gd X G Wx k) (hG : X.A.guards = some []) (hm : X.mg "repr" = none) (ha : OE X G B Wx e m) (hg : Gl X "repr" := by rfl) (he : starEach [e] X.env = (false, eval e X.env) :: starEach [] X.env := by rfl) (hpl : (backTo pos (starEach [] X.env)).any (·.1) = false := by rfl) :
    DE X G B Wx (.Call (.Name "repr" p) [e] [] pos) (mBi reprD (mCons m mNil)) := de_bi (call_reprG g.hK hG g.un) hm (by first | exact boot_repr | rfl | decide +kernel) (oa_cons ha oa_nil he) hg (by decide) (by decide) he hpl
theorem de_isi (g : Gd X G Wx k) (hm : X.mg "isinstance" = none) (ha : OE X G B Wx a ma) (hb : OE X G B Wx b mb) (hg : Gl X "isinstance" := by rfl) (he : starEach [a, b] X.env = (false, eval a X.env) :: starEach [b] X.env := by rfl) (he2 : starEach [b] X.env = (false, eval b X.env) :: starEach [] X.env := by rfl)
    (hpl : (backTo pos (starEach [b] X.env)).any (·.1) = false := by rfl) : DE X G B Wx (.Call (.Name "isinstance" p) [a, b] [] pos) (mBi isiD (mCons ma (mCons mb mNil))) := de_bi (call_isiG g.hK) hm (by first | exact boot_isinstance | rfl | decide +kernel) (oa_cons ha (oa_cons hb oa_nil he2) he) hg (by decide) (by decide) he hpl
theorem de_callC {f : Spec} (g : Gd X G Wx k) (cl : Cal X.prog X.w X.K X.mg X.base x kf ps (spOf G f)) (hk : kf ≤ k) (ha : DA X G B Wx (e :: es) ms) (hg : Gl X x := by rfl) (hdb : (x == ("__debug__" : Str)) = false := by decide)
    (he : starEach (e :: es) X.env = (false, eval e X.env) :: starEach es X.env := by rfl) (hpl : (backTo pos (starEach es X.env)).any (·.1) = false := by rfl) : DE X G B Wx (.Call (.Name x p) (e :: es) [] pos) (mCall f ms) :=
  let ⟨_, _, h1, h2, h3, h4⟩ := cl.ex; de_call g h4 hk h1 h2 h3 ha hg hdb he hpl
theorem ne_callC {f : SpecN} (g : Gd X G Wx k) (cl : Cal X.prog X.w X.K X.mg X.base x kf ps (spOfN G f)) (hk : kf ≤ k) (ha : DA X G B Wx (e :: es) ms) (hg : Gl X x := by rfl) (hdb : (x == ("__debug__" : Str)) = false := by decide)
    (he : starEach (e :: es) X.env = (false, eval e X.env) :: starEach es X.env := by rfl) (hpl : (backTo pos (starEach es X.env)).any (·.1) = false := by rfl) : NE X G B Wx (.Call (.Name x p) (e :: es) [] pos) (mCallN f ms) :=
  let ⟨_, _, h1, h2, h3, h4⟩ := cl.ex; ne_call g h4 hk h1 h2 h3 ha hg hdb he hpl
theorem ds_setLC {i : Nat} {py cp : Pos} {f : Spec2} (hN : X.N.Nodup) (g : Gd X G Wx k) (cl : Cal X.prog X.w X.K X.mg X.base x kf ps (spOfL G f)) (hk : kf ≤ k) (ha : DA X G B Wx (e :: es) ms) (hg : Gl X x := by rfl) (hdb : (x == ("__debug__" : Str)) = false := by decide)
    (he : starEach (e :: es) X.env = (false, eval e X.env) :: starEach es X.env := by rfl) (hpl : (backTo cp (starEach es X.env)).any (·.1) = false := by rfl)
    (hi : X.N[i]? = some y := by rfl) (hx : Loc X.env.scope y := by first | exact Or.inl rfl | exact Or.inr rfl) (hs : swapsWith (.Call (.Name x p) (e :: es) [] cp) (some (.Name y py)) pos.line X.env = pure false := by rfl) (hf : X.fn y = true ∨ X.env.scope.names.lookup y = some .local := by first | exact .inl rfl | exact .inr rfl) :
    DS X G B Wx (.Assign [.Name y py] (.Call (.Name x p) (e :: es) [] cp) pos) (mSetL i f ms) :=
  let ⟨_, _, h1, h2, h3, h4⟩ := cl.ex; ds_setL hN g h4 hk h1 h2 h3 ha hg hdb he hpl hi hx hs hf
theorem pe_app {T : TE} {apos cpos : Pos} {i : Nat} (hv : PE X a T) (ha : DE X G B Wx e m) (hbase : attributeBase a "append" X.env (eval a X.env) = eval a X.env := by rfl)
    (hfew : ((backTo cpos (starEach [e] X.env)).all (fun x => !x.1) && (backToKw cpos (keywordEach [] X.env)).all (fun x => x.1.isSome) && decide (([e] : List Expr).length + ([] : List Keyword).length + (if ([] : List Keyword).isEmpty then 0 else 1) < 30)) = true := by rfl)
    (hline : (apos.endLine == cpos.line) = true := by rfl) (hs : starEach [e] X.env = (false, eval e X.env) :: starEach [] X.env := by rfl) (hplain : (backTo cpos (starEach [] X.env)).any (·.1) = false := by rfl) :
    PE X (.Call (.Attribute a "append" apos) [e] [] cpos) (tBM X.K "list" rAppend T (tCons (lift G B Wx m) tNil)) :=
  pe_bm PySem.F.plainAttrs_list PySem.F.slot_list_append PySem.F.type_list_append mt_append hv (pa_cons ha pa_nil hs) hbase hfew hline hs hplain
end
end Ct

set_option Elab.async false
set_option linter.all false
set_option maxRecDepth 100000
set_option maxHeartbeats 4000000
namespace Ct
open PySem PySem.Spec PyProof.Rows L2
section
variable {X : Cx} {G : Gb} {B : Bs} {Wx : WX} {k kf : Nat} {pos p : Pos} {x : Str} {ps : List Str}
/-- f() -/
def mCall0 (f : Spec) : M := fun _ Q _ => f [] Q noX
theorem de_call0C {f : Spec} (g : Gd X G Wx k) (cl : Cal X.prog X.w X.K X.mg X.base x kf ps (spOf G f)) (hk : kf ≤ k) (hg : Gl X x := by rfl) (hdb : (x == ("__debug__" : Str)) = false := by decide) : DE X G B Wx (.Call (.Name x p) [] [] pos) (mCall0 f) := by
  obtain ⟨_, _, h1, h2, h3, h4⟩ := cl.ex
  refine PE.weak (pe_call0 h4 (g.room.mono hk) hg h1 h2 h3 .nil (E := fun _ _ _ => False) (passes_call g.tk fun _ _ _ _ z => False.elim z) hdb) fun σ H Q ⟨W, δ, Qd, Qx, ok, hm, k, kx⟩ => ?_
  refine ⟨B.so, W, [], Qd, noX, ok.sta.self, rfl, hm, fun W' d v H' q' st hd => ?_, fun _ _ _ _ _ z => z.elim⟩
  have xx : Xt B.so H H' := fun b o eb n => st.keep b o eb n
  exact k d v H' q' xx st.src (Dat.go (go_less st.wold) d v hd)
end
theorem blkAt (N : List Str) (sc : Scope) {scope : Scope} {own : List (Str × Nat)} (h : BlkOk N sc scope own) : BlkOk N sc scope own := h
end Ct

set_option Elab.async false
set_option linter.all false
set_option maxRecDepth 100000
set_option maxHeartbeats 4000000
namespace Ct
open PySem PySem.Spec PyProof.Rows L2
/-! ### plain data, by depth -/
def Pd : Nat → D → Prop
  | _, .non => True
  | _, .bl _ => True
  | _, .int i => i.natAbs < 2 ^ 64
  | _, .str s => PyData.strOk s = true
  | n + 1, .lst ds => ∀ d ∈ ds, Pd n d
  | n + 1, .tup ds => ∀ d ∈ ds, Pd n d
  | _, _ => False
structure PyOk (n : Nat) (p : PyData) : Prop where
  lay : p.canLay0 = true
  dep : p.depth ≤ n
  sho : p.showable = true
structure PysOk (n : Nat) (ps : List PyData) : Prop where
  lay : PyData.canLayAll0 ps = true
  dep : PyData.depthAll ps ≤ n
  sho : PyData.showableAll ps = true
theorem log_lt {m : Nat} (h : m < 2 ^ 64) : m.log2 < 1920 := by
  by_cases h0 : m = 0
  · subst h0; decide
  · have := (Nat.log2_lt h0 (k := 64)).mpr h
    omega
theorem pys_of (n : Nat) (f : ∀ d, Pd n d → ∃ p, toPy d = some p ∧ PyOk n p) : ∀ ds : List D, (∀ d ∈ ds, Pd n d) → ∃ ps, toPys ds = some ps ∧ PysOk n ps
  | [], _ => ⟨[], rfl, ⟨by simp only [PyData.canLayAll0], by simp only [PyData.depthAll]; omega, by simp only [PyData.showableAll]⟩⟩
  | d :: ds, h => by
    obtain ⟨p, e, o⟩ := f d (h d List.mem_cons_self)
    obtain ⟨ps, es, os⟩ := pys_of n f ds fun x hx => h x (List.mem_cons_of_mem _ hx)
    refine ⟨p :: ps, ?_, ⟨?_, ?_, ?_⟩⟩
    · simp only [toPys, e, es]
    · simp only [PyData.canLayAll0, o.lay, os.lay, Bool.and_self]
    · simp only [PyData.depthAll]
      have := o.dep
      have := os.dep
      omega
    · simp only [PyData.showableAll, o.sho, os.sho, Bool.and_self]
theorem py_of : ∀ (n : Nat) (d : D), Pd n d → ∃ p, toPy d = some p ∧ PyOk n p
  | n, .non, _ => ⟨_, rfl, ⟨by simp only [PyData.canLay0], by simp only [PyData.depth]; omega, by simp only [PyData.showable]⟩⟩
  | n, .bl b, _ => ⟨_, rfl, ⟨by simp only [PyData.canLay0], by simp only [PyData.depth]; omega, by simp only [PyData.showable]⟩⟩
  | n, .int i, h => ⟨_, rfl, ⟨by simp only [PyData.canLay0], by simp only [PyData.depth]; omega, by
      have h : i.natAbs < 2 ^ 64 := by cases n <;> exact h
      simp only [PyData.showable, decide_eq_true (log_lt h)]⟩⟩
  | n, .str s, h => ⟨_, rfl, ⟨by
      have h : PyData.strOk s = true := by cases n <;> exact h
      simp only [PyData.canLay0, h], by simp only [PyData.depth]; omega, by simp only [PyData.showable]⟩⟩
  | n + 1, .lst ds, h => by
    obtain ⟨ps, e, o⟩ := pys_of n (py_of n) ds h
    refine ⟨.list ps, by simp only [toPy, e, Option.map_some], ⟨by simp only [PyData.canLay0, o.lay], ?_, by simp only [PyData.showable, o.sho]⟩⟩
    have := o.dep
    simp only [PyData.depth]; omega
  | n + 1, .tup ds, h => by
    obtain ⟨ps, e, o⟩ := pys_of n (py_of n) ds h
    refine ⟨.tuple ps, by simp only [toPy, e, Option.map_some], ⟨by simp only [PyData.canLay0, o.lay], ?_, by simp only [PyData.showable, o.sho]⟩⟩
    have := o.dep
    simp only [PyData.depth]; omega
  | 0, .lst _, h => (show False from h).elim
  | 0, .tup _, h => (show False from h).elim
  | n, .ty _, h => by cases n <;> exact (show False from h).elim
  | n, .dct _, h => by cases n <;> exact (show False from h).elim
  | n, .obj _ _, h => by cases n <;> exact (show False from h).elim
  | n, .cl _, h => by cases n <;> exact (show False from h).elim
  | n, .src, h => by cases n <;> exact (show False from h).elim
theorem PyOk.shaped {n : Nat} {p : PyData} (h : PyOk n p) (hn : n ≤ 64) : SeqAt.shaped p = true := by
  unfold SeqAt.shaped
  rw [h.lay, decide_eq_true (Nat.le_trans h.dep hn)]
  rfl
mutual
theorem eqv_refl' : ∀ (p : PyData), p.canLay0 = true → PyData.eqv p p = true
  | .none, _ => by simp only [PyData.eqv]
  | .bool b, _ => by simp only [PyData.eqv, BEq.rfl]
  | .int i, _ => by simp only [PyData.eqv, BEq.rfl]
  | .str x, _ => by simp only [PyData.eqv, BEq.rfl]
  | .list xs, h => by simp only [PyData.canLay0] at h; simp only [PyData.eqv]; exact eqvs_refl' xs h
  | .tuple xs, h => by simp only [PyData.canLay0] at h; simp only [PyData.eqv]; exact eqvs_refl' xs h
  | .dict _, h => by simp only [PyData.canLay0] at h; cases h
theorem eqvs_refl' : ∀ (ps : List PyData), PyData.canLayAll0 ps = true → PyData.eqvAll ps ps = true
  | [], _ => by simp only [PyData.eqvAll]
  | p :: ps, h => by
    simp only [PyData.canLayAll0, Bool.and_eq_true] at h
    simp only [PyData.eqvAll, eqv_refl' p h.1, eqvs_refl' ps h.2, Bool.and_self]
end
/-- d == d -/
theorem eqG_refl {n : Bool → Bool} {k : Nat} {d : D} {Q : D → Prop} (h : Pd k d) (hk : k ≤ 64) (q : Q (.bl (n true))) : eqG n d d Q := by
  obtain ⟨p, e, o⟩ := py_of k d h
  have gen : (∃ p q, toPy d = some p ∧ toPy d = some q ∧ SeqAt.shaped p = true ∧ SeqAt.shaped q = true ∧ Q (.bl (n (PyData.eqv p q)))) := ⟨p, p, e, e, o.shaped hk, o.shaped hk, by rw [eqv_refl' p o.lay]; exact q⟩
  cases d with
  | int i => show Q (.bl (n (decide (i = i)))); rw [decide_eq_true rfl]; exact q
  | str s => show Q (.bl (n (decide (s = s)))); rw [decide_eq_true rfl]; exact q
  | _ => exact gen
/-- ds == [] -/
theorem eqG_nil {n : Bool → Bool} {k : Nat} {ds : List D} {Q : D → Prop} (h : Pd k (.lst ds)) (hk : k ≤ 64) (q : Q (.bl (n ds.isEmpty))) : eqG n (.lst ds) (.lst []) Q := by
  obtain ⟨p, e, o⟩ := py_of k _ h
  refine ⟨p, .list [], e, rfl, o.shaped hk, by decide +kernel, ?_⟩
  obtain ⟨ps, e2, rfl⟩ := Option.map_eq_some_iff.mp e
  cases ds with
  | nil => cases e2; simp only [PyData.eqv, PyData.eqvAll]; exact q
  | cons d ds =>
    have : ∃ x xs, ps = x :: xs := by
      unfold toPys at e2
      split at e2
      · rename_i p ps' _ _
        cases e2
        exact ⟨p, ps', rfl⟩
      · cases e2
    obtain ⟨x, xs, rfl⟩ := this
    simp only [PyData.eqv, PyData.eqvAll]; exact q
end Ct

set_option Elab.async false
set_option linter.all false
set_option maxRecDepth 100000
set_option maxHeartbeats 4000000
namespace Ct
open PySem PySem.Spec PyProof.Rows L2
/-! ### wishes, by steps -/
theorem seq_i {n n' : MS} {P : PD} {δ : Ev} (h : n { P with nx := n' P } δ) : mSeq n n' P δ := h
theorem set_i {i : Nat} {m : M} {d : D} {P : PD} {δ : Ev} (h : ∀ (Q : D → Prop) (X : Exn → Prop), Q d → m δ Q X) (k : P.nx (δ.set i (some (.d d)))) : mSet i m P δ := h _ _ k
theorem if_f {mt : MT} {n : MS} {P : PD} {δ : Ev} (h : ∀ (Q : Bool → Prop) (X : Exn → Prop), Q false → mt δ Q X) (k : P.nx δ) : mIfS mt n mNext P δ := h _ _ (by show if false = true then _ else _; rw [if_neg (by decide)]; exact k)
theorem ret_i {m : M} {d : D} {P : PD} {δ : Ev} (h : ∀ (Q : D → Prop) (X : Exn → Prop), Q d → m δ Q X) (k : P.rt d) : mRet m P δ := h _ _ k
/-- a comprehension: what is kept, what is made of it -/
theorem lc_filt {g : MG} {mt : MT} {me : M} {Q : List D → Prop} {δw : Ev} (f : D → D) (keep : D → Bool) : ∀ (ds acc : List D),
    (∀ d ∈ ds, keep d = true → ∀ (R : D → Prop) (Z : Prop), R (f d) → g d δw (fun δ2 => mt δ2 (fun b => if b = true then me δ2 R noX else Z) noX)) →
    (∀ d ∈ ds, keep d = false → ∀ (R : D → Prop) (Z : Prop), Z → g d δw (fun δ2 => mt δ2 (fun b => if b = true then me δ2 R noX else Z) noX)) →
    acc.length + ds.length ≤ 999999 → Q (acc ++ (ds.filter keep).map f) → lcGo g mt me Q δw ds acc
  | [], acc, _, _, _, q => by
    rw [List.filter_nil, List.map_nil, List.append_nil] at q
    exact q
  | d :: ds, acc, h1, h2, hl, q => by
    rw [List.length_cons] at hl
    cases hk : keep d with
    | true =>
      rw [List.filter_cons_of_pos hk, List.map_cons] at q
      refine h1 d List.mem_cons_self hk (fun y => acc.length < 1000000 ∧ lcGo g mt me Q δw ds (acc ++ [y])) _ ⟨by omega, ?_⟩
      refine lc_filt f keep ds (acc ++ [f d]) (fun x hx => h1 x (List.mem_cons_of_mem _ hx)) (fun x hx => h2 x (List.mem_cons_of_mem _ hx)) (by rw [List.length_append, List.length_singleton]; omega) ?_
      rw [List.append_assoc]
      exact q
    | false =>
      rw [List.filter_cons_of_neg (by rw [hk]; decide)] at q
      exact h2 d List.mem_cons_self hk (fun y => acc.length < 1000000 ∧ lcGo g mt me Q δw ds (acc ++ [y])) _
        (lc_filt f keep ds acc (fun x hx => h1 x (List.mem_cons_of_mem _ hx)) (fun x hx => h2 x (List.mem_cons_of_mem _ hx)) (by omega) q)
theorem lc_map {g : MG} {mt : MT} {me : M} {Q : List D → Prop} {δw : Ev} (f : D → D) (ds : List D)
    (h : ∀ d ∈ ds, ∀ (R : D → Prop) (Z : Prop), R (f d) → g d δw (fun δ2 => mt δ2 (fun b => if b = true then me δ2 R noX else Z) noX)) (hl : ds.length ≤ 999999) (q : Q (ds.map f)) : lcGo g mt me Q δw ds [] :=
  lc_filt f (fun _ => true) ds [] (fun d hd _ => h d hd) (fun _ _ e => by cases e) (by simpa using hl) (by rw [List.nil_append, List.filter_eq_self.mpr (fun _ _ => rfl)]; exact q)
theorem lc_none {g : MG} {mt : MT} {me : M} {Q : List D → Prop} {δw : Ev} (ds : List D)
    (h : ∀ d ∈ ds, ∀ (R : D → Prop) (Z : Prop), Z → g d δw (fun δ2 => mt δ2 (fun b => if b = true then me δ2 R noX else Z) noX)) (hl : ds.length ≤ 999999) (q : Q []) : lcGo g mt me Q δw ds [] :=
  lc_filt id (fun _ => false) ds [] (fun _ _ e => by cases e) (fun d hd _ => h d hd) (by simpa using hl) (by rw [List.nil_append, List.filter_eq_nil_iff.mpr (fun _ _ => Bool.false_ne_true)]; exact q)
/-- a loop without a state of its own -/
theorem for_same {g : MG} {n : MS} {P : PD} (I : Ev → Prop) : ∀ (ds : List D) (δ : Ev), I δ → (∀ δ', I δ' → P.nx δ') →
    (∀ d ∈ ds, ∀ δ' (k : Ev → Prop), I δ' → (∀ δ2, I δ2 → k δ2) → g d δ' (fun δ2 => n { nx := k, rt := P.rt, bk := P.nx, ct := k, ex := P.ex, rtn := P.rtn, rtl := P.rtl } δ2)) → forGo g n P ds δ
  | [], δ, i, e, _ => e δ i
  | d :: ds, δ, i, e, h => h d List.mem_cons_self δ (forGo g n P ds) i fun δ2 i2 => for_same I ds δ2 i2 e fun x hx => h x (List.mem_cons_of_mem _ hx)
def pdB : Nat → D → Bool
  | _, .non => true
  | _, .bl _ => true
  | _, .int i => decide (i.natAbs < 2 ^ 64)
  | _, .str s => PyData.strOk s
  | n + 1, .lst ds => ds.all (pdB n)
  | n + 1, .tup ds => ds.all (pdB n)
  | _, _ => false
theorem pd_of : ∀ (n : Nat) (d : D), pdB n d = true → Pd n d
  | n, .non, _ => by cases n <;> exact True.intro
  | n, .bl _, _ => by cases n <;> exact True.intro
  | n, .int i, h => by
    have h2 : decide (i.natAbs < 2 ^ 64) = true := by cases n <;> exact h
    have h3 := of_decide_eq_true h2
    cases n <;> exact h3
  | n, .str s, h => by
    have h2 : PyData.strOk s = true := by cases n <;> exact h
    cases n <;> exact h2
  | n + 1, .lst ds, h => fun d hd => pd_of n d (List.all_eq_true.mp h d hd)
  | n + 1, .tup ds, h => fun d hd => pd_of n d (List.all_eq_true.mp h d hd)
  | 0, .lst _, h => by cases h
  | 0, .tup _, h => by cases h
  | n, .ty _, h => by cases n <;> cases h
  | n, .dct _, h => by cases n <;> cases h
  | n, .obj _ _, h => by cases n <;> cases h
  | n, .cl _, h => by cases n <;> cases h
  | n, .src, h => by cases n <;> cases h
end Ct

set_option Elab.async false
set_option linter.all false
set_option maxRecDepth 100000
set_option maxHeartbeats 4000000
namespace Ct
open PySem PySem.Spec PyProof.Rows L2
/-! ### how long a repr is at most -/
def szN : Nat → D → Nat
  | _, .str s => 10 * s.length + 2
  | _, .int _ => 66
  | n + 1, .lst ds => (ds.map fun d => szN n d + 2).sum + 4
  | n + 1, .tup ds => (ds.map fun d => szN n d + 2).sum + 4
  | _, _ => 5
theorem app_len (a b : Str) : (a ++ b).length = a.length + b.length := by
  show (a.cps ++ b.cps).size = _
  rw [Array.size_append]
  rfl
theorem listText_le (ts : List Str) : (listText ts).length ≤ piled ts + 2 := by
  cases ts with
  | nil => decide +kernel
  | cons t r =>
    have e : listText (t :: r) = textFrom 1 (("[" : Str) ++ ("" : Str) ++ t) r ++ "]" := rfl
    rw [e, app_len, textFrom_length_pos r 1 _ (by decide), app_len, app_len, piled_cons]
    have h1 : ("[" : Str).length = 1 := by decide +kernel
    have h2 : ("" : Str).length = 0 := by decide +kernel
    have h3 : ("]" : Str).length = 1 := by decide +kernel
    omega
theorem tupleText_le (ts : List Str) : (tupleText ts).length ≤ piled ts + 3 := by
  unfold tupleText
  rw [app_len, app_len]
  have h1 : ("(" : Str).length = 1 := by decide +kernel
  have h2 : ((if ts.length == 1 then ",)" else ")" : String) : Str).length ≤ 2 := by
    split <;> decide +kernel
  have h3 : (Str.join ", " ts).length ≤ piled ts := by
    cases ts with
    | nil => decide +kernel
    | cons t r => have := join_length_add (t :: r) (by simp); omega
  omega
theorem pys_len {n : Nat} (f : ∀ (d : D) (p : PyData), Pd n d → toPy d = some p → p.shown.length ≤ szN n d) : ∀ (ds : List D) (ps : List PyData), (∀ d ∈ ds, Pd n d) → toPys ds = some ps → piled (PyData.shownAll ps) ≤ (ds.map fun d => szN n d + 2).sum
  | [], ps, _, e => by cases e; simp [PyData.shownAll, piled_nil]
  | d :: ds, ps, h, e => by
    unfold toPys at e
    split at e
    · rename_i p ps' e1 e2
      cases e
      have h1 := f d p (h d List.mem_cons_self) e1
      have h2 := pys_len f ds ps' (fun x hx => h x (List.mem_cons_of_mem _ hx)) e2
      simp only [PyData.shownAll, piled_cons, List.map_cons, List.sum_cons]
      omega
    · cases e
theorem py_len : ∀ (n : Nat) (d : D) (p : PyData), Pd n d → toPy d = some p → p.shown.length ≤ szN n d
  | n, .non, p, _, e => by cases e; have : szN n .non = 5 := by cases n <;> rfl
                           rw [this]; simp only [PyData.shown]; decide +kernel
  | n, .bl b, p, _, e => by cases e; have : szN n (.bl b) = 5 := by cases n <;> rfl
                            rw [this]; simp only [PyData.shown]; cases b <;> decide +kernel
  | n, .int i, p, h, e => by
    cases e
    have h2 : i.natAbs < 2 ^ 64 := by cases n <;> exact h
    have : szN n (.int i) = 66 := by cases n <;> rfl
    rw [this]
    simp only [PyData.shown]
    have hl : i.natAbs.log2 < 65 := by
      by_cases h0 : i.natAbs = 0
      · rw [h0]; decide
      · have := (Nat.log2_lt h0 (k := 64)).mpr h2
        omega
    have := PySem.int_text_length_le (a := i) (k := 65) (by decide) hl
    show (Str.ofString (toString i)).length ≤ 66
    rw [PySem.ofString_length]
    exact this
  | n, .str s, p, h, e => by
    cases e
    have h2 : PyData.strOk s = true := by cases n <;> exact h
    have : szN n (.str s) = 10 * s.length + 2 := by cases n <;> rfl
    rw [this]
    simp only [PyData.shown]
    refine PySem.StrLaws.reprText_len s fun c hc => ?_
    have h3 : c < 1114112 := by
      unfold PyData.strOk at h2
      rw [← Array.all_toList, List.all_eq_true] at h2
      simpa using h2 c hc
    exact Nat.lt_trans h3 (by decide)
  | n + 1, .lst ds, p, h, e => by
    obtain ⟨ps, e1, rfl⟩ := Option.map_eq_some_iff.mp e
    have := pys_len (py_len n) ds ps h e1
    have := listText_le (PyData.shownAll ps)
    simp only [PyData.shown, szN]
    omega
  | n + 1, .tup ds, p, h, e => by
    obtain ⟨ps, e1, rfl⟩ := Option.map_eq_some_iff.mp e
    have := pys_len (py_len n) ds ps h e1
    have := tupleText_le (PyData.shownAll ps)
    simp only [PyData.shown, szN]
    omega
  | 0, .lst _, _, h, _ => (show False from h).elim
  | 0, .tup _, _, h, _ => (show False from h).elim
  | n, .ty _, _, h, _ => by cases n <;> exact (show False from h).elim
  | n, .dct _, _, h, _ => by cases n <;> exact (show False from h).elim
  | n, .obj _ _, _, h, _ => by cases n <;> exact (show False from h).elim
  | n, .cl _, _, h, _ => by cases n <;> exact (show False from h).elim
  | n, .src, _, h, _ => by cases n <;> exact (show False from h).elim
/-- repr(d) == repr(d), for both at once -/
theorem repr_both {n : Nat} {d : D} (h : Pd n d) (hn : n ≤ 64) (hz : szN n d ≤ 10000000) : ∃ x : Str, ∀ Q : D → Prop, Q (.str x) → reprD [d] Q := by
  obtain ⟨p, e, o⟩ := py_of n d h
  exact ⟨p.shown, fun Q q => ⟨p, e, o.sho, Nat.le_trans o.dep hn, Nat.le_trans (py_len n d p h e) hz, q⟩⟩
end Ct

set_option Elab.async false
set_option linter.all false
set_option maxRecDepth 100000
set_option maxHeartbeats 4000000
namespace Ct.K6
open PySem PySem.Spec PyProof.Rows L2 Ct
/-! ### lexemes, as lists of signs -/
abbrev cps (s : Str) : List Nat := s.cps.toList
def mkS (l : List Nat) : Str := ⟨l.toArray⟩
def cL : List Nat := cps "abcdefghijklmnopqrstuvwxyz"
def cD : List Nat := cps "0123456789"
def cW : List Nat := cps "abcdefghijklmnopqrstuvwxyz0123456789"
def cG : List Nat := cps " \n"
def cS : List Nat := cps "(){},;"
def runL (C : List Nat) (r : List Nat) : List Nat := r.takeWhile fun c => decide (c ∈ C)
def lexAt : List Nat → Str × List Nat
  | [] => ("wrong", [])
  | h :: t => if h ∈ cL then (if (runL cW (h :: t)).length ≤ 12 then ("word", runL cW (h :: t)) else ("wrong", []))
    else if h = 48 then ("number", [h]) else if h ∈ cD then ("number", runL cD (h :: t)) else if h ∈ cS then ("sign", [h]) else ("wrong", [])
def row (k : Str) (w : List Nat) (p : Nat) : D := .tup [.str k, .str (mkS w), .int (p : Int)]
def lexGo : Nat → List Nat → Nat → List D × Option Nat
  | 0, _, _ => ([], none)
  | _ + 1, [], _ => ([], none)
  | n + 1, h :: t, p => if h ∈ cG then lexGo n t (p + 1)
    else if (lexAt (h :: t)).1 = "wrong" then ([], some p)
    else (row (lexAt (h :: t)).1 (lexAt (h :: t)).2 p :: (lexGo n ((h :: t).drop (lexAt (h :: t)).2.length) (p + (lexAt (h :: t)).2.length)).1, (lexGo n ((h :: t).drop (lexAt (h :: t)).2.length) (p + (lexAt (h :: t)).2.length)).2)
def lexOf (t : Str) : List D × Option Nat := lexGo (t.length + 1) (cps t) 0
def lastRow (t : Str) : D := match (lexOf t).2 with
  | none => .tup [.str "end", .str "", .int (t.length : Int)]
  | some p => .tup [.str "wrong", .str "", .int (p : Int)]
def toldOf (t : Str) : D := match (lexOf t).2 with
  | none => .lst [.str "told", .lst (lexOf t).1]
  | some p => .lst [.str "refused", .int (p : Int)]
/-! ### the promises -/
def s_run_at : Spec := fun ds Q _ => ∃ (t c : Str) (p : Nat), ds = [.str t, .int (p : Int), .str c] ∧ t.length ≤ 100000 ∧ p ≤ t.length ∧ Q (.str (mkS (runL (cps c) ((cps t).drop p))))
def s_lexeme_at : Spec := fun ds Q _ => ∃ (t : Str) (p : Nat), ds = [.str t, .int (p : Int)] ∧ t.length ≤ 100000 ∧ p < t.length ∧ Q (.tup [.str (lexAt ((cps t).drop p)).1, .str (mkS (lexAt ((cps t).drop p)).2)])
def s_lexeme_rows : SpecN := fun ds Q _ => ∃ t : Str, ds = [.str t] ∧ t.length ≤ 100000 ∧ Q ((lexOf t).1 ++ [lastRow t])
def s_lexemes : SpecN := fun ds Q X => ∃ t : Str, ds = [.str t] ∧ t.length ≤ 100000 ∧ match (lexOf t).2 with
  | none => Q (lexOf t).1
  | some p => X ⟨0, [("place", .int (p : Int))]⟩
abbrev s_l_pick : Spec := pickS
def s_l_of : Spec := fun ds Q _ => ∃ some : List D, ds = [.src, .lst some] ∧ 0 < some.length ∧ some.length < 1000000 ∧ ∀ d ∈ some, Q d
def isWord (w : List Nat) : Bool := decide (1 ≤ w.length) && decide (w.length ≤ 12) && w.head?.any (fun c => decide (c ∈ cL)) && w.all fun c => decide (c ∈ cW)
def s_l_is_word : Spec := fun ds Q _ => ∃ w : Str, ds = [.str w] ∧ w.length ≤ 100000 ∧ PyData.strOk w = true ∧ Q (.bl (isWord (cps w)))
def s_l_run : Spec := fun ds Q _ => ∃ (t c : Str) (p : Nat), ds = [.str t, .int (p : Int), .str c] ∧ t.length ≤ 100000 ∧ p ≤ t.length ∧ Q (.int ((p + (runL (cps c) ((cps t).drop p)).length : Nat) : Int))
/-- the law's own lexeme -/
def sortOf : Str → Str → Str := fun k w => if k = "word" then "W" else if k = "number" then "N" else w
def lawLex (t : Str) (p : Nat) : D :=
  let g := (runL cG ((cps t).drop p)).length
  match (cps t).drop (p + g) with
  | [] => .lst [.str "END", .str "", .int ((p + g : Nat) : Int)]
  | h :: r => if (lexAt (h :: r)).1 = "wrong" then .lst [.str "none", .str "", .int ((p + g : Nat) : Int)] else .lst [.str (sortOf (lexAt (h :: r)).1 (mkS (lexAt (h :: r)).2)), .str (mkS (lexAt (h :: r)).2), .int ((p + g : Nat) : Int)]
def s_l_lexeme : Spec := fun ds Q _ => ∃ (t : Str) (p : Nat), ds = [.str t, .int (p : Int)] ∧ t.length ≤ 100000 ∧ PyData.strOk t = true ∧ p ≤ t.length ∧ Q (lawLex t p)
def s_l_lexemes_due : Spec := fun ds Q _ => ∃ t : Str, ds = [.str t] ∧ t.length ≤ 100000 ∧ PyData.strOk t = true ∧ Q (toldOf t)
def s_l_told : Spec2 := fun ds Q Ql _ => ∃ t : Str, ds = [.str t] ∧ t.length ≤ 100000 ∧ match (lexOf t).2 with
  | none => Ql (toldOf t)
  | some _ => Q (toldOf t)
/-- texts put together: gaps, and lexemes that may stand next to one another -/
def may (a b : Str) : Bool := !Txt.isalnum (a ++ b) || decide (a = "0") || (Txt.isdigit a && !Txt.isdigit (mkS ((cps b).take 1)))
def gapL (g : List Nat) : Prop := g.length ≤ 4 ∧ ∀ c ∈ g, c ∈ cG
inductive Spaced : Str → List Str → List Nat → Prop where
  | nil {a : Str} {g : List Nat} : gapL g → Spaced a [] g
  | cons {a b : Str} {bs : List Str} {g r : List Nat} : gapL g → (g = [] → may a b = true) → Spaced b bs r → Spaced a (b :: bs) (g ++ cps b ++ r)
def s_l_spaced : Spec := fun ds Q _ => ∃ bs : List Str, ds = [.src, .lst (bs.map .str)] ∧ bs.length ≤ 20 ∧ (∀ b ∈ bs, 0 < b.length ∧ b.length ≤ 40) ∧ ∀ t : Str, t.length ≤ 888 → (∃ g r, cps t = g ++ r ∧ gapL g ∧ Spaced "(" bs r) → Q (.str t)
def s_l_hand_right : Spec := fun ds Q _ => ds = [] ∧ Q (.bl true)
def s_l_long_right : Spec := fun ds Q _ => ds = [] ∧ Q (.bl true)
/-- an own error with one field -/
structure ExI (P : Program) (w : World) (K : PySem.W.Frag) (mg : Str → Option Value) (base : Heap) (G : Gb) (x : Str) (c : Nat) (f : Str) where
  fI : Addr
  fd : FuncData
  ps : List Str
  T : OexC K (G.C c)
  iC : PySem.W.findIn K (.ref (G.C c)) "__init__" = some (some (.ref fI))
  tI : PySem.W.typeIn K (.ref fI) = some (.type "function")
  F1 : FnOk P w K mg base CX0 1 fI fd ps (spEx (G.C c) f)
  hb : Binds K fd ps []
  hm : mg x = some (.ref (G.C c))
  te : PySem.W.exmOne K (.ref (G.C c)) (.ref (G.C c)) = some true
  xf : XfC K (G.C c)
  no : PySem.W.findIn K (.ref (G.C c)) f = some none
end Ct.K6

set_option Elab.async false
set_option linter.all false
set_option maxRecDepth 100000
set_option maxHeartbeats 4000000
namespace Ct.K6
open PySem PySem.Spec PyProof.Rows L2 Ct
def top (i : Nat) : Stmt := PySem.Challenge.pw_crossties_k06_lexemes_of_texts.main.body.getD i (.Pass ⟨0, 0, 0, 0⟩)

abbrev st_run_at : Stmt := top 10
abbrev N_run_at : List Str := ["text", "place", "chars", "end"]
theorem sc_run_at : FnScope N_run_at ["text", "place", "chars"] (defScope st_run_at) := ⟨rfl, rfl, rfl, by decide +kernel, rfl, by decide +kernel, by decide +kernel⟩
def n_run_at : MS := (mSeq (mSet 3 (mV 1))
    (mSeq (mWhile (mAnd (mTest (mOp ltD (mO 3) (mBi lenD (mCons (mO 0) mNil)))) (mTest (mOp inD (mOp idxD (mO 0) (mO 3)) (mO 2)))) (mAug 3 addI (mC (.int 1))))
    (mRet (mSl (mO 0) (mP (mV 1)) (mP (mV 3))))))
theorem b_run_at {P : Program} {w : World} {K : PySem.W.Frag} {mg : Str → Option Value} {base : Heap} {G : Gb} {f : Addr} (h_len : mg "len" = none) (cdv : Value) (A : Around) (outer : List Env) (s : Shared) (H : Hp) (E : XK) (B : Bs) (g : Gd (Xof P w K mg base N_run_at "run_at" st_run_at f cdv A outer s H E) G (Wof E) 0) :
    DB (Xof P w K mg base N_run_at "run_at" st_run_at f cdv A outer s H E) G B (Wof E) (defBody st_run_at) n_run_at :=
  (db_cons (ds_set (i := 3) sc_run_at.nd (de_v 1))
    (db_cons (ds_while (passes_of rfl) (dt_w (dw_and (dt_cmp opD_lt (oe_v 3) (DE.o (de_len g h_len (oe_v 0))) (nomark _)) (dw_and1 (dt_cmp (opD_in g.hK g.un5) (DE.o (de_idx g.hK (oe_v 0) (oe_v 3))) (oe_v 2) rfl)))) (db_one (ds_aug (i := 3) sc_run_at.nd ip_add augAdd de_int)))
    (db_one (ds_ret (de_slice g.hK (oe_v 0) (dp_some (de_v 1)) (dp_some (de_v 3)))))))
abbrev st_lexeme_at : Stmt := top 11
abbrev N_lexeme_at : List Str := ["text", "place", "first", "word"]
theorem sc_lexeme_at : FnScope N_lexeme_at ["text", "place"] (defScope st_lexeme_at) := ⟨rfl, rfl, rfl, by decide +kernel, rfl, by decide +kernel, by decide +kernel⟩
def n_lexeme_at : MS := (mSeq (mSet 2 (mOp idxD (mO 0) (mO 1)))
    (mSeq (mIfS (mTest (mOp inD (mO 2) (mC (.str "abcdefghijklmnopqrstuvwxyz")))) (mSeq (mSet 3 (mCall s_run_at (mCons (mV 0) (mCons (mV 1) (mCons (mC (.str "abcdefghijklmnopqrstuvwxyz0123456789")) mNil)))))
    (mRet (mIf (mTest (mOp leD (mBi lenD (mCons (mO 3) mNil)) (mC (.int 12)))) (mTup (mCons (mC (.str "word")) (mCons (mV 3) mNil))) (mTup (mCons (mC (.str "wrong")) (mCons (mC (.str "")) mNil)))))) mNext)
    (mSeq (mIfS (mTest (mOp eqD (mO 2) (mC (.str "0")))) (mRet (mTup (mCons (mC (.str "number")) (mCons (mV 2) mNil)))) mNext)
    (mSeq (mIfS (mTest (mOp inD (mO 2) (mC (.str "0123456789")))) (mRet (mTup (mCons (mC (.str "number")) (mCons (mCall s_run_at (mCons (mV 0) (mCons (mV 1) (mCons (mC (.str "0123456789")) mNil)))) mNil)))) mNext)
    (mSeq (mIfS (mTest (mOp inD (mO 2) (mC (.str "(){},;")))) (mRet (mTup (mCons (mC (.str "sign")) (mCons (mV 2) mNil)))) mNext)
    (mRet (mTup (mCons (mC (.str "wrong")) (mCons (mC (.str "")) mNil)))))))))
theorem b_lexeme_at {P : Program} {w : World} {K : PySem.W.Frag} {mg : Str → Option Value} {base : Heap} {G : Gb} {f : Addr} (c_run_at : Cal P w K mg base "run_at" 1 ["text", "place", "chars"] (spOf G s_run_at)) (h_DIGITS : ∃ t, mg "DIGITS" = some (.str "0123456789" t)) (h_LETTERS : ∃ t, mg "LETTERS" = some (.str "abcdefghijklmnopqrstuvwxyz" t)) (h_LONGEST_WORD : ∃ t, mg "LONGEST_WORD" = some (.int 12 t)) (h_SIGNS : ∃ t, mg "SIGNS" = some (.str "(){},;" t)) (h_WORD_CHARS : ∃ t, mg "WORD_CHARS" = some (.str "abcdefghijklmnopqrstuvwxyz0123456789" t)) (h_len : mg "len" = none) (cdv : Value) (A : Around) (outer : List Env) (s : Shared) (H : Hp) (E : XK) (B : Bs) (g : Gd (Xof P w K mg base N_lexeme_at "lexeme_at" st_lexeme_at f cdv A outer s H E) G (Wof E) 1) :
    DB (Xof P w K mg base N_lexeme_at "lexeme_at" st_lexeme_at f cdv A outer s H E) G B (Wof E) (defBody st_lexeme_at) n_lexeme_at :=
  (db_cons (ds_set (i := 2) sc_lexeme_at.nd (de_idx g.hK (oe_v 0) (oe_v 1)))
    (db_cons (ds_if (dt_cmp (opD_in g.hK g.un5) (oe_v 2) (DE.o (de_gs h_LETTERS)) rfl) (db_cons (ds_set (i := 3) sc_lexeme_at.nd (de_callC g c_run_at (by decide) (da_cons (de_v 0) (da_cons (de_v 1) (da_cons (de_gs h_WORD_CHARS) da_nil)))))
    (db_one (ds_ret (de_if (dt_cmp opD_le (DE.o (de_len g h_len (oe_v 3))) (DE.o (de_gi h_LONGEST_WORD)) (nomark _)) (de_tup (da_cons de_str (da_cons (de_v 3) da_nil))) (de_tup (da_cons de_str (da_cons de_str da_nil))))))) db_nil)
    (db_cons (ds_if (dt_cmp (opD_eq g.hK g.un4) (oe_v 2) (DE.o de_str) (nomark _)) (db_one (ds_ret (de_tup (da_cons de_str (da_cons (de_v 2) da_nil))))) db_nil)
    (db_cons (ds_if (dt_cmp (opD_in g.hK g.un5) (oe_v 2) (DE.o (de_gs h_DIGITS)) rfl) (db_one (ds_ret (de_tup (da_cons de_str (da_cons (de_callC g c_run_at (by decide) (da_cons (de_v 0) (da_cons (de_v 1) (da_cons (de_gs h_DIGITS) da_nil)))) da_nil))))) db_nil)
    (db_cons (ds_if (dt_cmp (opD_in g.hK g.un5) (oe_v 2) (DE.o (de_gs h_SIGNS)) rfl) (db_one (ds_ret (de_tup (da_cons de_str (da_cons (de_v 2) da_nil))))) db_nil)
    (db_one (ds_ret (de_tup (da_cons de_str (da_cons de_str da_nil))))))))))
abbrev st_lexeme_rows : Stmt := top 12
abbrev N_lexeme_rows : List Str := ["text", "rows", "place", "kind", "lexeme"]
theorem sc_lexeme_rows : FnScope N_lexeme_rows ["text"] (defScope st_lexeme_rows) := ⟨rfl, rfl, rfl, by decide +kernel, rfl, by decide +kernel, by decide +kernel⟩
def n_lexeme_rows : MS := (mSeq (mSetN 1 (mLst mNil))
    (mSeq (mSet 2 (mC (.int 0)))
    (mSeq (mWhile (mTest (mOp ltD (mO 2) (mBi lenD (mCons (mO 0) mNil)))) (mIfS (mTest (mOp inD (mOp idxD (mO 0) (mO 2)) (mC (.str " \n")))) (mAug 2 addI (mC (.int 1))) (mSeq (mTo (mCall s_lexeme_at (mCons (mV 0) (mCons (mV 2) mNil))) (mgTup 2 (mgCons (mgN 3) (mgCons (mgN 4) mgNil))))
    (mSeq (mApp 1 (mTup (mCons (mV 3) (mCons (mV 4) (mCons (mV 2) mNil)))))
    (mSeq (mIfS (mTest (mOp eqD (mO 3) (mC (.str "wrong")))) (mRetN 1) mNext)
    (mAug 2 addI (mBi lenD (mCons (mO 4) mNil))))))))
    (mSeq (mApp 1 (mTup (mCons (mC (.str "end")) (mCons (mC (.str "")) (mCons (mBi lenD (mCons (mO 0) mNil)) mNil)))))
    (mRetN 1)))))
theorem b_lexeme_rows {P : Program} {w : World} {K : PySem.W.Frag} {mg : Str → Option Value} {base : Heap} {G : Gb} {f : Addr} (c_lexeme_at : Cal P w K mg base "lexeme_at" 2 ["text", "place"] (spOf G s_lexeme_at)) (h_GAPS : ∃ t, mg "GAPS" = some (.str " \n" t)) (h_len : mg "len" = none) (cdv : Value) (A : Around) (outer : List Env) (s : Shared) (H : Hp) (E : XK) (B : Bs) (g : Gd (Xof P w K mg base N_lexeme_rows "lexeme_rows" st_lexeme_rows f cdv A outer s H E) G (Wof E) 2) :
    DB (Xof P w K mg base N_lexeme_rows "lexeme_rows" st_lexeme_rows f cdv A outer s H E) G B (Wof E) (defBody st_lexeme_rows) n_lexeme_rows :=
  (db_cons (ds_setN (i := 1) sc_lexeme_rows.nd (ne_lst da_nil))
    (db_cons (ds_set (i := 2) sc_lexeme_rows.nd de_int)
    (db_cons (ds_while (passes_of rfl) (dt_cmp opD_lt (oe_v 2) (DE.o (de_len g h_len (oe_v 0))) (nomark _)) (db_one (ds_if (dt_cmp (opD_in g.hK g.un5) (DE.o (de_idx g.hK (oe_v 0) (oe_v 2))) (DE.o (de_gs h_GAPS)) rfl) (db_one (ds_aug (i := 2) sc_lexeme_rows.nd ip_add augAdd de_int)) (db_cons (ds_to (de_callC g c_lexeme_at (by decide) (da_cons (de_v 0) (da_cons (de_v 2) da_nil))) (dg_tup (n := 2) g.hK g.calm (dgs_cons (dg_name (i := 3) sc_lexeme_rows.nd) (dgs_cons (dg_name (i := 4) sc_lexeme_rows.nd) dgs_nil))))
    (db_cons (ds_app (i := 1) (pe_app (i := 1) (pv 1) (de_tup (da_cons (de_v 3) (da_cons (de_v 4) (da_cons (de_v 2) da_nil))))))
    (db_cons (ds_if (dt_cmp (opD_eq g.hK g.un4) (oe_v 3) (DE.o de_str) (nomark _)) (db_one (ds_retNm 1)) db_nil)
    (db_one (ds_aug (i := 2) sc_lexeme_rows.nd ip_add augAdd (de_len g h_len (oe_v 4))))))))))
    (db_cons (ds_app (i := 1) (pe_app (i := 1) (pv 1) (de_tup (da_cons de_str (da_cons de_str (da_cons (de_len g h_len (oe_v 0)) da_nil))))))
    (db_one (ds_retNm 1))))))
abbrev st_lexemes : Stmt := top 13
abbrev N_lexemes : List Str := ["text", "rows", "kind", "_", "place"]
theorem sc_lexemes : FnScope N_lexemes ["text"] (defScope st_lexemes) := ⟨rfl, rfl, rfl, by decide +kernel, rfl, by decide +kernel, by decide +kernel⟩
def n_lexemes : MS := (mSeq (mSetN 1 (mCallN s_lexeme_rows (mCons (mV 0) mNil)))
    (mSeq (mPopTo 1 (mgTup 3 (mgCons (mgN 2) (mgCons (mgN 3) (mgCons (mgN 4) mgNil)))))
    (mSeq (mIfS (mTest (mOp eqD (mO 2) (mC (.str "wrong")))) (mRaise 0 "place" (mV 4)) mNext)
    (mRetN 1))))
theorem b_lexemes {P : Program} {w : World} {K : PySem.W.Frag} {mg : Str → Option Value} {base : Heap} {G : Gb} {f : Addr} (c_lexeme_rows : Cal P w K mg base "lexeme_rows" 3 ["text"] (spOfN G s_lexeme_rows)) (x_BadText : ExI P w K mg base G "BadText" 0 "place") (cdv : Value) (A : Around) (outer : List Env) (s : Shared) (H : Hp) (E : XK) (B : Bs) (g : Gd (Xof P w K mg base N_lexemes "lexemes" st_lexemes f cdv A outer s H E) G (Wof E) 3) :
    DB (Xof P w K mg base N_lexemes "lexemes" st_lexemes f cdv A outer s H E) G B (Wof E) (defBody st_lexemes) n_lexemes :=
  (db_cons (ds_setN (i := 1) sc_lexemes.nd (ne_callC g c_lexeme_rows (by decide) (da_cons (de_v 0) da_nil)))
    (db_cons (ds_popTo (i := 1) (pe_bm0 PySem.F.plainAttrs_list PySem.F.slot_list_pop PySem.F.type_list_pop mt_pop (pv 1)) (dg_tup (n := 3) g.hK g.calm (dgs_cons (dg_name (i := 2) sc_lexemes.nd) (dgs_cons (dg_name (i := 3) sc_lexemes.nd) (dgs_cons (dg_name (i := 4) sc_lexemes.nd) dgs_nil)))))
    (db_cons (ds_if (dt_cmp (opD_eq g.hK g.un4) (oe_v 2) (DE.o de_str) (nomark _)) (db_one (ds_raise (cn := 0) g (by decide) x_BadText.T x_BadText.iC x_BadText.tI x_BadText.F1 x_BadText.hb x_BadText.hm (de_v 4))) db_nil)
    (db_one (ds_retNm 1)))))
abbrev st_l_of : Stmt := top 17
abbrev N_l_of : List Str := ["_law_source_here", "_law_some"]
theorem sc_l_of : FnScope N_l_of ["_law_source_here", "_law_some"] (defScope st_l_of) := ⟨rfl, rfl, rfl, by decide +kernel, rfl, by decide +kernel, by decide +kernel⟩
def n_l_of : MS := (mRet (mOp idxD (mO 1) (mCall s_l_pick (mCons (mV 0) (mCons (mBi lenD (mCons (mO 1) mNil)) mNil)))))
theorem b_l_of {P : Program} {w : World} {K : PySem.W.Frag} {mg : Str → Option Value} {base : Heap} {G : Gb} {f : Addr} (c_l_pick : Cal P w K mg base "_law_pick" 1 ["_law_source_here", "_law_many"] (spOf G s_l_pick)) (h_len : mg "len" = none) (cdv : Value) (A : Around) (outer : List Env) (s : Shared) (H : Hp) (E : XK) (B : Bs) (g : Gd (Xof P w K mg base N_l_of "_law_of" st_l_of f cdv A outer s H E) G (Wof E) 1) :
    DB (Xof P w K mg base N_l_of "_law_of" st_l_of f cdv A outer s H E) G B (Wof E) (defBody st_l_of) n_l_of :=
  (db_one (ds_ret (de_idx g.hK (oe_v 1) (DE.o (de_callC g c_l_pick (by decide) (da_cons (de_v 0) (da_cons (de_len g h_len (oe_v 1)) da_nil)))))))
abbrev st_l_is_word : Stmt := top 18
abbrev N_l_is_word : List Str := ["_law_value", "_law_sign"]
theorem sc_l_is_word : FnScope N_l_is_word ["_law_value"] (defScope st_l_is_word) := ⟨rfl, rfl, rfl, by decide +kernel, rfl, by decide +kernel, by decide +kernel⟩
def n_l_is_word : MS := (mSeq (mIfS (mOr (mNot (mTest (mBi isiD (mCons (mO 0) (mCons (mC (.ty "str")) mNil))))) (mOr (mNot (mTest (mChain leD leD (mC (.int 1)) (mBi lenD (mCons (mO 0) mNil)) (mC (.int 12))))) (mNot (mTest (mChain leD leD (mC (.str "a")) (mOp idxD (mO 0) (mC (.int 0))) (mC (.str "z"))))))) (mRet (mC (.bl false))) mNext)
    (mRet (mOp eqD (mN (mLc (mItS (mV 0)) (mgN 1) (mTest (mOp ninD (mO 1) (mC (.str "abcdefghijklmnopqrstuvwxyz0123456789")))) (mV 1) [1])) (mN (mLst mNil)))))
theorem b_l_is_word {P : Program} {w : World} {K : PySem.W.Frag} {mg : Str → Option Value} {base : Heap} {G : Gb} {f : Addr} (h_isinstance : mg "isinstance" = none) (h_len : mg "len" = none) (h_str : mg "str" = none) (cdv : Value) (A : Around) (outer : List Env) (s : Shared) (H : Hp) (E : XK) (B : Bs) (g : Gd (Xof P w K mg base N_l_is_word "_law_is_word" st_l_is_word f cdv A outer s H E) G (Wof E) 0) :
    DB (Xof P w K mg base N_l_is_word "_law_is_word" st_l_is_word f cdv A outer s H E) G B (Wof E) (defBody st_l_is_word) n_l_is_word :=
  (db_cons (ds_if (dt_w (dw_or (dt_not (dt_val (de_isi g h_isinstance (oe_v 0) (DE.o (de_ty rfl h_str (by first | exact boot_str | decide +kernel)))))) (dw_or (dt_not (dt_chain opD_le opD_le (DE.o de_int) (DE.o (de_len g h_len (oe_v 0))) (DE.o de_int))) (dw_or1 (dt_not (dt_chain opD_le opD_le (DE.o de_str) (DE.o (de_idx g.hK (oe_v 0) (DE.o de_int))) (DE.o de_str))))))) (db_one (ds_ret de_bl)) db_nil)
    (db_one (ds_ret (de_cmp (opD_eq g.hK g.un4) (DE.o (NE.d (ne_lc (own := [("_law_sign", 1)]) g.calm sc_l_is_word.nd (di_str (de_v 0)) (blkAt N_l_is_word (defScope st_l_is_word) ⟨rfl, by decide +kernel, by decide +kernel, by decide +kernel, by decide +kernel⟩) (fun s H C cl fp => (dg_name (i := 1) sc_l_is_word.nd)) (fun s H C cl fp => (dts_one (dt_cmp (opD_nin g.blk.hK g.blk.un5) (oe_v 1) (DE.o de_str) rfl))) (fun s H C cl fp => (de_v 1)) (by decide)))) (DE.o (NE.d (ne_lst da_nil))) (nomark _)))))
abbrev st_l_spaced : Stmt := top 19
abbrev N_l_spaced : List Str := ["_law_source_here", "_law_signs", "_law_text", "_law_last", "_law_one", "_law_gaps"]
theorem sc_l_spaced : FnScope N_l_spaced ["_law_source_here", "_law_signs"] (defScope st_l_spaced) := ⟨rfl, rfl, rfl, by decide +kernel, rfl, by decide +kernel, by decide +kernel⟩
def n_l_spaced : MS := (mSeq (mPar 2 3 (mSD (mCall s_l_of (mCons (mV 0) (mCons (mN (mLst (mCons (mC (.str "")) (mCons (mC (.str " ")) (mCons (mC (.str "\n\n")) mNil))))) mNil)))) (mSD (mC (.str "("))))
    (mSeq (mFor (mIt (mV 1)) (mgN 4) (mSeq (mSet 5 (mN (mLst (mCons (mC (.str " ")) (mCons (mC (.str "\n")) (mCons (mC (.str " \n  ")) mNil))))))
    (mSeq (mIfS (mOr (mNot (mTest (mM0 (fun s => .bl (Txt.isalnum s)) (mOp addD (mO 3) (mO 4))))) (mOr (mTest (mOp eqD (mO 3) (mC (.str "0")))) (mAnd (mTest (mM0 (fun s => .bl (Txt.isdigit s)) (mV 3))) (mNot (mTest (mM0 (fun s => .bl (Txt.isdigit s)) (mOp idxD (mO 4) (mC (.int 0))))))))) (mSet 5 (mOp addD (mO 5) (mN (mLst (mCons (mC (.str "")) (mCons (mC (.str "")) (mCons (mC (.str "")) mNil))))))) mNext)
    (mPar 2 3 (mSD (mOp addD (mOp addD (mO 2) (mCall s_l_of (mCons (mV 0) (mCons (mV 5) mNil)))) (mO 4))) (mSD (mV 4))))))
    (mRet (mOp addD (mO 2) (mCall s_l_of (mCons (mV 0) (mCons (mN (mLst (mCons (mC (.str "")) (mCons (mC (.str " ")) (mCons (mC (.str "\n")) mNil))))) mNil)))))))
theorem b_l_spaced {P : Program} {w : World} {K : PySem.W.Frag} {mg : Str → Option Value} {base : Heap} {G : Gb} {f : Addr} (c_l_of : Cal P w K mg base "_law_of" 2 ["_law_source_here", "_law_some"] (spOf G s_l_of)) (cdv : Value) (A : Around) (outer : List Env) (s : Shared) (H : Hp) (E : XK) (B : Bs) (g : Gd (Xof P w K mg base N_l_spaced "_law_spaced" st_l_spaced f cdv A outer s H E) G (Wof E) 2) :
    DB (Xof P w K mg base N_l_spaced "_law_spaced" st_l_spaced f cdv A outer s H E) G B (Wof E) (defBody st_l_spaced) n_l_spaced :=
  (db_cons (ds_par (i := 2) (j := 3) g sc_l_spaced.nd (se_d (de_callC g c_l_of (by decide) (da_cons (de_v 0) (da_cons (NE.d (ne_lst (da_cons de_str (da_cons de_str (da_cons de_str da_nil))))) da_nil)))) (se_d de_str))
    (db_cons (ds_for (passes_of rfl) g.calm (di_list (de_v 1)) (dg_name (i := 4) sc_l_spaced.nd) (db_cons (ds_set (i := 5) sc_l_spaced.nd (NE.d (ne_lst (da_cons de_str (da_cons de_str (da_cons de_str da_nil))))))
    (db_cons (ds_if (dt_w (dw_or (dt_not (dt_val (de_m0b PySem.F.slot_str_isalnum PySem.F.type_str_isalnum mt_isalnum (de_op (opD_add g.hK) (oe_v 3) (oe_v 4))))) (dw_or (dt_cmp (opD_eq g.hK g.un4) (oe_v 3) (DE.o de_str) (nomark _)) (dw_or1 (dt_w (dw_and (dt_val (de_m0b PySem.F.slot_str_isdigit PySem.F.type_str_isdigit mt_isdigit (de_v 3))) (dw_and1 (dt_not (dt_val (de_m0b PySem.F.slot_str_isdigit PySem.F.type_str_isdigit mt_isdigit (de_idx g.hK (oe_v 4) (DE.o de_int)))))))))))) (db_one (ds_set (i := 5) sc_l_spaced.nd (de_op (opD_add g.hK) (oe_v 5) (DE.o (NE.d (ne_lst (da_cons de_str (da_cons de_str (da_cons de_str da_nil))))))))) db_nil)
    (db_one (ds_par (i := 2) (j := 3) g sc_l_spaced.nd (se_d (de_op (opD_add g.hK) (DE.o (de_op (opD_add g.hK) (oe_v 2) (DE.o (de_callC g c_l_of (by decide) (da_cons (de_v 0) (da_cons (de_v 5) da_nil)))))) (oe_v 4))) (se_d (de_v 4)))))))
    (db_one (ds_ret (de_op (opD_add g.hK) (oe_v 2) (DE.o (de_callC g c_l_of (by decide) (da_cons (de_v 0) (da_cons (NE.d (ne_lst (da_cons de_str (da_cons de_str (da_cons de_str da_nil))))) da_nil)))))))))
abbrev st_l_run : Stmt := top 20
abbrev N_l_run : List Str := ["_law_text", "_law_place", "_law_signs"]
theorem sc_l_run : FnScope N_l_run ["_law_text", "_law_place", "_law_signs"] (defScope st_l_run) := ⟨rfl, rfl, rfl, by decide +kernel, rfl, by decide +kernel, by decide +kernel⟩
def n_l_run : MS := (mSeq (mWhile (mAnd (mTest (mOp ltD (mO 1) (mBi lenD (mCons (mO 0) mNil)))) (mTest (mOp inD (mOp idxD (mO 0) (mO 1)) (mO 2)))) (mSet 1 (mOp addD (mO 1) (mC (.int 1)))))
    (mRet (mV 1)))
theorem b_l_run {P : Program} {w : World} {K : PySem.W.Frag} {mg : Str → Option Value} {base : Heap} {G : Gb} {f : Addr} (h_len : mg "len" = none) (cdv : Value) (A : Around) (outer : List Env) (s : Shared) (H : Hp) (E : XK) (B : Bs) (g : Gd (Xof P w K mg base N_l_run "_law_run" st_l_run f cdv A outer s H E) G (Wof E) 0) :
    DB (Xof P w K mg base N_l_run "_law_run" st_l_run f cdv A outer s H E) G B (Wof E) (defBody st_l_run) n_l_run :=
  (db_cons (ds_while (passes_of rfl) (dt_w (dw_and (dt_cmp opD_lt (oe_v 1) (DE.o (de_len g h_len (oe_v 0))) (nomark _)) (dw_and1 (dt_cmp (opD_in g.hK g.un5) (DE.o (de_idx g.hK (oe_v 0) (oe_v 1))) (oe_v 2) rfl)))) (db_one (ds_set (i := 1) sc_l_run.nd (de_op (opD_add g.hK) (oe_v 1) (DE.o de_int)))))
    (db_one (ds_ret (de_v 1))))
abbrev st_l_lexeme : Stmt := top 21
abbrev N_l_lexeme : List Str := ["_law_text", "_law_place", "_law_figures", "_law_end", "_law_word"]
theorem sc_l_lexeme : FnScope N_l_lexeme ["_law_text", "_law_place"] (defScope st_l_lexeme) := ⟨rfl, rfl, rfl, by decide +kernel, rfl, by decide +kernel, by decide +kernel⟩
def n_l_lexeme : MS := (mSeq (mSet 2 (mC (.str "0123456789")))
    (mSeq (mSet 1 (mCall s_l_run (mCons (mV 0) (mCons (mV 1) (mCons (mC (.str " \n")) mNil)))))
    (mSeq (mIfS (mTest (mOp eqD (mO 1) (mBi lenD (mCons (mO 0) mNil)))) (mRet (mN (mLst (mCons (mC (.str "END")) (mCons (mC (.str "")) (mCons (mV 1) mNil)))))) mNext)
    (mSeq (mIfS (mTest (mOp inD (mOp idxD (mO 0) (mO 1)) (mC (.str "(){},;")))) (mRet (mN (mLst (mCons (mOp idxD (mO 0) (mO 1)) (mCons (mOp idxD (mO 0) (mO 1)) (mCons (mV 1) mNil)))))) mNext)
    (mSeq (mIfS (mTest (mOp inD (mOp idxD (mO 0) (mO 1)) (mO 2))) (mSeq (mSet 3 (mIf (mTest (mOp eqD (mOp idxD (mO 0) (mO 1)) (mC (.str "0")))) (mOp addD (mO 1) (mC (.int 1))) (mCall s_l_run (mCons (mV 0) (mCons (mV 1) (mCons (mV 2) mNil))))))
    (mRet (mN (mLst (mCons (mC (.str "N")) (mCons (mSl (mO 0) (mP (mV 1)) (mP (mV 3))) (mCons (mV 1) mNil))))))) mNext)
    (mSeq (mSet 4 (mSl (mO 0) (mP (mV 1)) (mP (mCall s_l_run (mCons (mV 0) (mCons (mV 1) (mCons (mOp addD (mC (.str "abcdefghijklmnopqrstuvwxyz")) (mO 2)) mNil)))))))
    (mRet (mIf (mTest (mCall s_l_is_word (mCons (mV 4) mNil))) (mN (mLst (mCons (mC (.str "W")) (mCons (mV 4) (mCons (mV 1) mNil))))) (mN (mLst (mCons (mC (.str "none")) (mCons (mC (.str "")) (mCons (mV 1) mNil)))))))))))))
theorem b_l_lexeme {P : Program} {w : World} {K : PySem.W.Frag} {mg : Str → Option Value} {base : Heap} {G : Gb} {f : Addr} (c_l_is_word : Cal P w K mg base "_law_is_word" 1 ["_law_value"] (spOf G s_l_is_word)) (c_l_run : Cal P w K mg base "_law_run" 1 ["_law_text", "_law_place", "_law_signs"] (spOf G s_l_run)) (h_len : mg "len" = none) (cdv : Value) (A : Around) (outer : List Env) (s : Shared) (H : Hp) (E : XK) (B : Bs) (g : Gd (Xof P w K mg base N_l_lexeme "_law_lexeme" st_l_lexeme f cdv A outer s H E) G (Wof E) 1) :
    DB (Xof P w K mg base N_l_lexeme "_law_lexeme" st_l_lexeme f cdv A outer s H E) G B (Wof E) (defBody st_l_lexeme) n_l_lexeme :=
  (db_cons (ds_set (i := 2) sc_l_lexeme.nd de_str)
    (db_cons (ds_set (i := 1) sc_l_lexeme.nd (de_callC g c_l_run (by decide) (da_cons (de_v 0) (da_cons (de_v 1) (da_cons de_str da_nil)))))
    (db_cons (ds_if (dt_cmp (opD_eq g.hK g.un4) (oe_v 1) (DE.o (de_len g h_len (oe_v 0))) (nomark _)) (db_one (ds_ret (NE.d (ne_lst (da_cons de_str (da_cons de_str (da_cons (de_v 1) da_nil))))))) db_nil)
    (db_cons (ds_if (dt_cmp (opD_in g.hK g.un5) (DE.o (de_idx g.hK (oe_v 0) (oe_v 1))) (DE.o de_str) rfl) (db_one (ds_ret (NE.d (ne_lst (da_cons (de_idx g.hK (oe_v 0) (oe_v 1)) (da_cons (de_idx g.hK (oe_v 0) (oe_v 1)) (da_cons (de_v 1) da_nil))))))) db_nil)
    (db_cons (ds_if (dt_cmp (opD_in g.hK g.un5) (DE.o (de_idx g.hK (oe_v 0) (oe_v 1))) (oe_v 2) rfl) (db_cons (ds_set (i := 3) sc_l_lexeme.nd (de_if (dt_cmp (opD_eq g.hK g.un4) (DE.o (de_idx g.hK (oe_v 0) (oe_v 1))) (DE.o de_str) (nomark _)) (de_op (opD_add g.hK) (oe_v 1) (DE.o de_int)) (de_callC g c_l_run (by decide) (da_cons (de_v 0) (da_cons (de_v 1) (da_cons (de_v 2) da_nil))))))
    (db_one (ds_ret (NE.d (ne_lst (da_cons de_str (da_cons (de_slice g.hK (oe_v 0) (dp_some (de_v 1)) (dp_some (de_v 3))) (da_cons (de_v 1) da_nil)))))))) db_nil)
    (db_cons (ds_set (i := 4) sc_l_lexeme.nd (de_slice g.hK (oe_v 0) (dp_some (de_v 1)) (dp_some (de_callC g c_l_run (by decide) (da_cons (de_v 0) (da_cons (de_v 1) (da_cons (de_op (opD_add g.hK) (DE.o de_str) (oe_v 2)) da_nil)))))))
    (db_one (ds_ret (de_if (dt_val (de_callC g c_l_is_word (by decide) (da_cons (de_v 4) da_nil))) (NE.d (ne_lst (da_cons de_str (da_cons (de_v 4) (da_cons (de_v 1) da_nil))))) (NE.d (ne_lst (da_cons de_str (da_cons de_str (da_cons (de_v 1) da_nil))))))))))))))
abbrev st_l_lexemes_due : Stmt := top 22
abbrev N_l_lexemes_due : List Str := ["_law_text", "_law_found", "_law_lexeme_here", "_law_sort"]
theorem sc_l_lexemes_due : FnScope N_l_lexemes_due ["_law_text"] (defScope st_l_lexemes_due) := ⟨rfl, rfl, rfl, by decide +kernel, rfl, by decide +kernel, by decide +kernel⟩
def n_l_lexemes_due : MS := (mSeq (mPar 1 2 (mSN (mLst mNil)) (mSD (mCall s_l_lexeme (mCons (mV 0) (mCons (mC (.int 0)) mNil)))))
    (mSeq (mWhile (mTest (mOp neD (mOp idxD (mO 2) (mC (.int 0))) (mC (.str "END")))) (mSeq (mIfS (mTest (mOp eqD (mOp idxD (mO 2) (mC (.int 0))) (mC (.str "none")))) (mRet (mN (mLst (mCons (mC (.str "refused")) (mCons (mOp idxD (mO 2) (mC (.int 2))) mNil))))) mNext)
    (mSeq (mSet 3 (mGet2 (mC (.dct (kvD [("W", "word"), ("N", "number")]))) (mOp idxD (mO 2) (mC (.int 0))) (mC (.str "sign"))))
    (mSeq (mApp 1 (mTup (mCons (mV 3) (mCons (mOp idxD (mO 2) (mC (.int 1))) (mCons (mOp idxD (mO 2) (mC (.int 2))) mNil)))))
    (mSet 2 (mCall s_l_lexeme (mCons (mV 0) (mCons (mOp addD (mOp idxD (mO 2) (mC (.int 2))) (mBi lenD (mCons (mOp idxD (mO 2) (mC (.int 1))) mNil))) mNil))))))))
    (mFrz 1 (mRet (mN (mLst (mCons (mC (.str "told")) (mCons (mV 1) mNil))))))))
theorem b_l_lexemes_due {P : Program} {w : World} {K : PySem.W.Frag} {mg : Str → Option Value} {base : Heap} {G : Gb} {f : Addr} (c_l_lexeme : Cal P w K mg base "_law_lexeme" 2 ["_law_text", "_law_place"] (spOf G s_l_lexeme)) (h_len : mg "len" = none) (cdv : Value) (A : Around) (outer : List Env) (s : Shared) (H : Hp) (E : XK) (B : Bs) (g : Gd (Xof P w K mg base N_l_lexemes_due "_law_lexemes_due" st_l_lexemes_due f cdv A outer s H E) G (Wof E) 2) :
    DB (Xof P w K mg base N_l_lexemes_due "_law_lexemes_due" st_l_lexemes_due f cdv A outer s H E) G B (Wof E) (defBody st_l_lexemes_due) n_l_lexemes_due :=
  (db_cons (ds_par (i := 1) (j := 2) g sc_l_lexemes_due.nd (se_n (ne_lst da_nil)) (se_d (de_callC g c_l_lexeme (by decide) (da_cons (de_v 0) (da_cons de_int da_nil)))))
    (db_cons (ds_while (passes_of rfl) (dt_cmp (opD_ne g.hK g.un4) (DE.o (de_idx g.hK (oe_v 2) (DE.o de_int))) (DE.o de_str) (nomark _)) (db_cons (ds_if (dt_cmp (opD_eq g.hK g.un4) (DE.o (de_idx g.hK (oe_v 2) (DE.o de_int))) (DE.o de_str) (nomark _)) (db_one (ds_ret (NE.d (ne_lst (da_cons de_str (da_cons (de_idx g.hK (oe_v 2) (DE.o de_int)) da_nil)))))) db_nil)
    (db_cons (ds_set (i := 3) sc_l_lexemes_due.nd (de_get2 g.un1 (de_dctC [("W", "word"), ("N", "number")] (pps_str (pps_str pps_nil))) (de_idx g.hK (oe_v 2) (DE.o de_int)) de_str ⟨rfl, rfl, rfl, rfl⟩))
    (db_cons (ds_app (i := 1) (pe_app (i := 1) (pv 1) (de_tup (da_cons (de_v 3) (da_cons (de_idx g.hK (oe_v 2) (DE.o de_int)) (da_cons (de_idx g.hK (oe_v 2) (DE.o de_int)) da_nil))))))
    (db_one (ds_set (i := 2) sc_l_lexemes_due.nd (de_callC g c_l_lexeme (by decide) (da_cons (de_v 0) (da_cons (de_op (opD_add g.hK) (DE.o (de_idx g.hK (oe_v 2) (DE.o de_int))) (DE.o (de_len g h_len (DE.o (de_idx g.hK (oe_v 2) (DE.o de_int)))))) da_nil)))))))))
    (db_one (ds_frz 1 (ds_ret (NE.d (ne_lst (da_cons de_str (da_cons (de_v 1) da_nil)))))))))
abbrev st_l_told : Stmt := top 23
abbrev N_l_told : List Str := ["_law_text", "error"]
theorem sc_l_told : FnScope N_l_told ["_law_text"] (defScope st_l_told) := ⟨rfl, rfl, rfl, by decide +kernel, rfl, by decide +kernel, by decide +kernel⟩
def n_l_told : MS := (mTry 0 1 (mRetL2 (mC (.str "told")) (mCallN s_lexemes (mCons (mV 0) mNil))) (fun a cls d => mRet (mN (mLst (mCons (mC (.str "refused")) (mCons (mXf 1 a cls d 0 "place") mNil))))))
theorem b_l_told {P : Program} {w : World} {K : PySem.W.Frag} {mg : Str → Option Value} {base : Heap} {G : Gb} {f : Addr} (c_lexemes : Cal P w K mg base "lexemes" 4 ["text"] (spOfN G s_lexemes)) (x_BadText : ExI P w K mg base G "BadText" 0 "place") (cdv : Value) (A : Around) (outer : List Env) (s : Shared) (H : Hp) (E : XK) (B : Bs) (g : Gd (Xof P w K mg base N_l_told "_law_told" st_l_told f cdv A outer s H E) G (Wof E) 4) :
    DB (Xof P w K mg base N_l_told "_law_told" st_l_told f cdv A outer s H E) G B (Wof E) (defBody st_l_told) n_l_told :=
  (db_one (ds_try (i := 1) (cn := 0) g sc_l_told.nd ⟨rfl, by decide, Or.inl x_BadText.hm⟩ x_BadText.te (fun W pn xe tk hp => (db_one (ds_retL2 de_str (ne_callC (g.tr tk) c_lexemes (by decide) (da_cons (de_v 0) da_nil))))) (fun a oe cls d pn hz hf => db_one (ds_ret (NE.d (ne_lst (da_cons de_str (da_cons (de_xf (i := 1) x_BadText.xf x_BadText.no hz hf) da_nil))))))))
abbrev st_l_hand_right : Stmt := top 24
abbrev N_l_hand_right : List Str := ["_law_due", "_law_some", "_law_text", "_law_place"]
theorem sc_l_hand_right : FnScope N_l_hand_right [] (defScope st_l_hand_right) := ⟨rfl, rfl, rfl, by decide +kernel, rfl, by decide +kernel, by decide +kernel⟩
def n_l_hand_right : MS := (mSeq (mSet 0 (mN (mLst (mCons (mTup (mCons (mC (.str "number")) (mCons (mC (.str "12")) (mCons (mC (.int 0)) mNil)))) (mCons (mTup (mCons (mC (.str "word")) (mCons (mC (.str "ab")) (mCons (mC (.int 2)) mNil)))) (mCons (mTup (mCons (mC (.str "number")) (mCons (mC (.str "0")) (mCons (mC (.int 5)) mNil)))) (mCons (mTup (mCons (mC (.str "number")) (mCons (mC (.str "0")) (mCons (mC (.int 6)) mNil)))) (mCons (mTup (mCons (mC (.str "number")) (mCons (mC (.str "7")) (mCons (mC (.int 7)) mNil)))) mNil))))))))
    (mSeq (mIfS (mTest (mOp neD (mN (mLc (mIt (mN (mLst (mCons (mC (.str "12ab 007")) (mCons (mC (.str "")) (mCons (mC (.str " \n ")) mNil)))))) (mgN 2) mYes (mCall (plainS s_l_told) (mCons (mV 2) mNil)) [2])) (mN (mLst (mCons (mN (mLst (mCons (mC (.str "told")) (mCons (mV 0) mNil)))) (mCons (mN (mLst (mCons (mC (.str "told")) (mCons (mN (mLst mNil)) mNil)))) (mCons (mN (mLst (mCons (mC (.str "told")) (mCons (mN (mLst mNil)) mNil)))) mNil))))))) (mRet (mC (.bl false))) mNext)
    (mSeq (mSet 1 (mN (mLst (mCons (mTup (mCons (mC (.str "abX")) (mCons (mC (.int 2)) mNil))) (mCons (mTup (mCons (mC (.str "a abcdefghijklm b")) (mCons (mC (.int 2)) mNil))) (mCons (mTup (mCons (mC (.str "1abcdefghijklm")) (mCons (mC (.int 1)) mNil))) (mCons (mTup (mCons (mC (.str "\t")) (mCons (mC (.int 0)) mNil))) (mCons (mTup (mCons (mC (.str "a\tb")) (mCons (mC (.int 1)) mNil))) (mCons (mTup (mCons (mC (.str "abcdefghijklm #")) (mCons (mC (.int 0)) mNil))) mNil)))))))))
    (mSeq (mIfS (mTest (mOp neD (mN (mLc (mIt (mOp addD (mO 1) (mN (mLst (mCons (mTup (mCons (mC (.str "# a")) (mCons (mC (.int 0)) mNil))) (mCons (mTup (mCons (mC (.str "a[")) (mCons (mC (.int 1)) mNil))) (mCons (mTup (mCons (mC (.str "0a_")) (mCons (mC (.int 2)) mNil))) mNil))))))) (mgTup 2 (mgCons (mgN 2) (mgCons (mgN 3) mgNil))) (mTest (mOp neD (mCall (plainS s_l_told) (mCons (mV 2) mNil)) (mN (mLst (mCons (mC (.str "refused")) (mCons (mV 3) mNil)))))) (mC (.int 1)) [2, 3])) (mN (mLst mNil)))) (mRet (mC (.bl false))) mNext)
    (mSeq (mSet 0 (mN (mLst (mCons (mTup (mCons (mC (.str "word")) (mCons (mC (.str "a")) (mCons (mC (.int 0)) mNil)))) (mCons (mTup (mCons (mC (.str "sign")) (mCons (mC (.str "(")) (mCons (mC (.int 1)) mNil)))) (mCons (mTup (mCons (mC (.str "word")) (mCons (mC (.str "b")) (mCons (mC (.int 2)) mNil)))) (mCons (mTup (mCons (mC (.str "sign")) (mCons (mC (.str ",")) (mCons (mC (.int 3)) mNil)))) (mCons (mTup (mCons (mC (.str "word")) (mCons (mC (.str "c")) (mCons (mC (.int 4)) mNil)))) (mCons (mTup (mCons (mC (.str "sign")) (mCons (mC (.str ")")) (mCons (mC (.int 5)) mNil)))) mNil)))))))))
    (mSeq (mSet 0 (mOp addD (mO 0) (mN (mLst (mCons (mTup (mCons (mC (.str "sign")) (mCons (mC (.str ";")) (mCons (mC (.int 6)) mNil)))) (mCons (mTup (mCons (mC (.str "sign")) (mCons (mC (.str "{")) (mCons (mC (.int 7)) mNil)))) (mCons (mTup (mCons (mC (.str "sign")) (mCons (mC (.str "}")) (mCons (mC (.int 8)) mNil)))) mNil)))))))
    (mRet (mOp eqD (mCall (plainS s_l_told) (mCons (mC (.str "a(b,c);{}")) mNil)) (mN (mLst (mCons (mC (.str "told")) (mCons (mV 0) mNil))))))))))))
theorem b_l_hand_right {P : Program} {w : World} {K : PySem.W.Frag} {mg : Str → Option Value} {base : Heap} {G : Gb} {f : Addr} (c_l_told : Cal P w K mg base "_law_told" 5 ["_law_text"] (spOfL G s_l_told)) (cdv : Value) (A : Around) (outer : List Env) (s : Shared) (H : Hp) (E : XK) (B : Bs) (g : Gd (Xof P w K mg base N_l_hand_right "_law_hand_right" st_l_hand_right f cdv A outer s H E) G (Wof E) 5) :
    DB (Xof P w K mg base N_l_hand_right "_law_hand_right" st_l_hand_right f cdv A outer s H E) G B (Wof E) (defBody st_l_hand_right) n_l_hand_right :=
  (db_cons (ds_set (i := 0) sc_l_hand_right.nd (NE.d (ne_lst (da_cons (de_tup (da_cons de_str (da_cons de_str (da_cons de_int da_nil)))) (da_cons (de_tup (da_cons de_str (da_cons de_str (da_cons de_int da_nil)))) (da_cons (de_tup (da_cons de_str (da_cons de_str (da_cons de_int da_nil)))) (da_cons (de_tup (da_cons de_str (da_cons de_str (da_cons de_int da_nil)))) (da_cons (de_tup (da_cons de_str (da_cons de_str (da_cons de_int da_nil)))) da_nil))))))))
    (db_cons (ds_if (dt_cmp (opD_ne g.hK g.un4) (DE.o (NE.d (ne_lc (own := [("_law_text", 2)]) g.calm sc_l_hand_right.nd (di_list (NE.d (ne_lst (da_cons de_str (da_cons de_str (da_cons de_str da_nil)))))) (blkAt N_l_hand_right (defScope st_l_hand_right) ⟨rfl, by decide +kernel, by decide +kernel, by decide +kernel, by decide +kernel⟩) (fun s H C cl fp => (dg_name (i := 2) sc_l_hand_right.nd)) (fun s H C cl fp => dts_nil) (fun s H C cl fp => (de_callC g.blk c_l_told.plain (by decide) (da_cons (de_v 2) da_nil))) (by decide)))) (DE.o (NE.d (ne_lst (da_cons (NE.d (ne_lst (da_cons de_str (da_cons (de_v 0) da_nil)))) (da_cons (NE.d (ne_lst (da_cons de_str (da_cons (NE.d (ne_lst da_nil)) da_nil)))) (da_cons (NE.d (ne_lst (da_cons de_str (da_cons (NE.d (ne_lst da_nil)) da_nil)))) da_nil)))))) (nomark _)) (db_one (ds_ret de_bl)) db_nil)
    (db_cons (ds_set (i := 1) sc_l_hand_right.nd (NE.d (ne_lst (da_cons (de_tup (da_cons de_str (da_cons de_int da_nil))) (da_cons (de_tup (da_cons de_str (da_cons de_int da_nil))) (da_cons (de_tup (da_cons de_str (da_cons de_int da_nil))) (da_cons (de_tup (da_cons de_str (da_cons de_int da_nil))) (da_cons (de_tup (da_cons de_str (da_cons de_int da_nil))) (da_cons (de_tup (da_cons de_str (da_cons de_int da_nil))) da_nil)))))))))
    (db_cons (ds_if (dt_cmp (opD_ne g.hK g.un4) (DE.o (NE.d (ne_lc (own := [("_law_text", 2), ("_law_place", 3)]) g.calm sc_l_hand_right.nd (di_list (de_op (opD_add g.hK) (oe_v 1) (DE.o (NE.d (ne_lst (da_cons (de_tup (da_cons de_str (da_cons de_int da_nil))) (da_cons (de_tup (da_cons de_str (da_cons de_int da_nil))) (da_cons (de_tup (da_cons de_str (da_cons de_int da_nil))) da_nil)))))))) (blkAt N_l_hand_right (defScope st_l_hand_right) ⟨rfl, by decide +kernel, by decide +kernel, by decide +kernel, by decide +kernel⟩) (fun s H C cl fp => (dg_tup (n := 2) g.blk.hK g.blk.calm (dgs_cons (dg_name (i := 2) sc_l_hand_right.nd) (dgs_cons (dg_name (i := 3) sc_l_hand_right.nd) dgs_nil)))) (fun s H C cl fp => (dts_one (dt_cmp (opD_ne g.blk.hK g.blk.un4) (DE.o (de_callC g.blk c_l_told.plain (by decide) (da_cons (de_v 2) da_nil))) (DE.o (NE.d (ne_lst (da_cons de_str (da_cons (de_v 3) da_nil))))) (nomark _)))) (fun s H C cl fp => de_int) (by decide)))) (DE.o (NE.d (ne_lst da_nil))) (nomark _)) (db_one (ds_ret de_bl)) db_nil)
    (db_cons (ds_set (i := 0) sc_l_hand_right.nd (NE.d (ne_lst (da_cons (de_tup (da_cons de_str (da_cons de_str (da_cons de_int da_nil)))) (da_cons (de_tup (da_cons de_str (da_cons de_str (da_cons de_int da_nil)))) (da_cons (de_tup (da_cons de_str (da_cons de_str (da_cons de_int da_nil)))) (da_cons (de_tup (da_cons de_str (da_cons de_str (da_cons de_int da_nil)))) (da_cons (de_tup (da_cons de_str (da_cons de_str (da_cons de_int da_nil)))) (da_cons (de_tup (da_cons de_str (da_cons de_str (da_cons de_int da_nil)))) da_nil)))))))))
    (db_cons (ds_set (i := 0) sc_l_hand_right.nd (de_op (opD_add g.hK) (oe_v 0) (DE.o (NE.d (ne_lst (da_cons (de_tup (da_cons de_str (da_cons de_str (da_cons de_int da_nil)))) (da_cons (de_tup (da_cons de_str (da_cons de_str (da_cons de_int da_nil)))) (da_cons (de_tup (da_cons de_str (da_cons de_str (da_cons de_int da_nil)))) da_nil))))))))
    (db_one (ds_ret (de_cmp (opD_eq g.hK g.un4) (DE.o (de_callC g c_l_told.plain (by decide) (da_cons de_str da_nil))) (DE.o (NE.d (ne_lst (da_cons de_str (da_cons (de_v 0) da_nil))))) (nomark _))))))))))
abbrev st_l_long_right : Stmt := top 25
abbrev N_l_long_right : List Str := ["_law_text", "_law_far", "_law_due", "_law_k", "_law_at", "_law_told_here"]
theorem sc_l_long_right : FnScope N_l_long_right [] (defScope st_l_long_right) := ⟨rfl, rfl, rfl, by decide +kernel, rfl, by decide +kernel, by decide +kernel⟩
def n_l_long_right : MS := (mSeq (mPar3 0 1 2 (mSD (mOp addD (mOp addD (mOp addD (mOp mulSD (mC (.str "ab(7) ")) (mC (.int 1500))) (mC (.str "1"))) (mOp mulSD (mC (.str "0")) (mC (.int 39)))) (mC (.str ",")))) (mSD (mOp addD (mC (.str "1")) (mOp mulSD (mC (.str "0")) (mC (.int 39))))) (mSN (mLst mNil)))
    (mSeq (mFor (mRng1 (mC (.int 1500))) (mgN 3) (mSeq (mSet 4 (mOp mulD (mC (.int 6)) (mO 3)))
    (mApp 2 (mN (mLst (mCons (mTup (mCons (mC (.str "word")) (mCons (mC (.str "ab")) (mCons (mV 4) mNil)))) (mCons (mTup (mCons (mC (.str "sign")) (mCons (mC (.str "(")) (mCons (mOp addD (mO 4) (mC (.int 2))) mNil)))) (mCons (mTup (mCons (mC (.str "number")) (mCons (mC (.str "7")) (mCons (mOp addD (mO 4) (mC (.int 3))) mNil)))) (mCons (mTup (mCons (mC (.str "sign")) (mCons (mC (.str ")")) (mCons (mOp addD (mO 4) (mC (.int 4))) mNil)))) mNil)))))))))
    (mSeq (mSet 5 (mOp idxD (mCall (plainS s_l_told) (mCons (mV 0) mNil)) (mC (.int 1))))
    (mSeq (mIfS (mOr (mTest (mOp neD (mSl (mO 5) (mP (mC (.int 6000))) mNoP) (mN (mLst (mCons (mTup (mCons (mC (.str "number")) (mCons (mV 1) (mCons (mC (.int 9000)) mNil)))) (mCons (mTup (mCons (mC (.str "sign")) (mCons (mC (.str ",")) (mCons (mC (.int 9040)) mNil)))) mNil)))))) (mTest (mOp neD (mCall (plainS s_l_told) (mCons (mOp addD (mO 0) (mC (.str "A"))) mNil)) (mN (mLst (mCons (mC (.str "refused")) (mCons (mC (.int 9041)) mNil))))))) (mRet (mC (.bl false))) mNext)
    (mRet (mOp eqD (mN (mLc (mRng1 (mC (.int 1500))) (mgN 3) (mTest (mOp neD (mSl (mO 5) (mP (mOp mulD (mC (.int 4)) (mO 3))) (mP (mOp addD (mOp mulD (mC (.int 4)) (mO 3)) (mC (.int 4))))) (mOp idxD (mO 2) (mO 3)))) (mV 3) [3])) (mN (mLst mNil))))))))
theorem b_l_long_right {P : Program} {w : World} {K : PySem.W.Frag} {mg : Str → Option Value} {base : Heap} {G : Gb} {f : Addr} (c_l_told : Cal P w K mg base "_law_told" 5 ["_law_text"] (spOfL G s_l_told)) (h_range : mg "range" = none) (cdv : Value) (A : Around) (outer : List Env) (s : Shared) (H : Hp) (E : XK) (B : Bs) (g : Gd (Xof P w K mg base N_l_long_right "_law_long_right" st_l_long_right f cdv A outer s H E) G (Wof E) 5) :
    DB (Xof P w K mg base N_l_long_right "_law_long_right" st_l_long_right f cdv A outer s H E) G B (Wof E) (defBody st_l_long_right) n_l_long_right :=
  (db_cons (ds_par3 (i := 0) (j := 1) (l := 2) g sc_l_long_right.nd (se_d (de_op (opD_add g.hK) (DE.o (de_op (opD_add g.hK) (DE.o (de_op (opD_add g.hK) (DE.o (de_op opD_mulS (DE.o de_str) (DE.o de_int))) (DE.o de_str))) (DE.o (de_op opD_mulS (DE.o de_str) (DE.o de_int))))) (DE.o de_str))) (se_d (de_op (opD_add g.hK) (DE.o de_str) (DE.o (de_op opD_mulS (DE.o de_str) (DE.o de_int))))) (se_n (ne_lst da_nil)))
    (db_cons (ds_for (passes_of rfl) g.calm (di_range1 de_int h_range) (dg_name (i := 3) sc_l_long_right.nd) (db_cons (ds_set (i := 4) sc_l_long_right.nd (de_op opD_mul (DE.o de_int) (oe_v 3)))
    (db_one (ds_app (i := 2) (pe_app (i := 2) (pv 2) (NE.d (ne_lst (da_cons (de_tup (da_cons de_str (da_cons de_str (da_cons (de_v 4) da_nil)))) (da_cons (de_tup (da_cons de_str (da_cons de_str (da_cons (de_op (opD_add g.hK) (oe_v 4) (DE.o de_int)) da_nil)))) (da_cons (de_tup (da_cons de_str (da_cons de_str (da_cons (de_op (opD_add g.hK) (oe_v 4) (DE.o de_int)) da_nil)))) (da_cons (de_tup (da_cons de_str (da_cons de_str (da_cons (de_op (opD_add g.hK) (oe_v 4) (DE.o de_int)) da_nil)))) da_nil)))))))))))
    (db_cons (ds_set (i := 5) sc_l_long_right.nd (de_idx g.hK (DE.o (de_callC g c_l_told.plain (by decide) (da_cons (de_v 0) da_nil))) (DE.o de_int)))
    (db_cons (ds_if (dt_w (dw_or (dt_cmp (opD_ne g.hK g.un4) (DE.o (de_slice g.hK (oe_v 5) (dp_some de_int) dp_none)) (DE.o (NE.d (ne_lst (da_cons (de_tup (da_cons de_str (da_cons (de_v 1) (da_cons de_int da_nil)))) (da_cons (de_tup (da_cons de_str (da_cons de_str (da_cons de_int da_nil)))) da_nil))))) (nomark _)) (dw_or1 (dt_cmp (opD_ne g.hK g.un4) (DE.o (de_callC g c_l_told.plain (by decide) (da_cons (de_op (opD_add g.hK) (oe_v 0) (DE.o de_str)) da_nil))) (DE.o (NE.d (ne_lst (da_cons de_str (da_cons de_int da_nil))))) (nomark _))))) (db_one (ds_ret de_bl)) db_nil)
    (db_one (ds_ret (de_cmp (opD_eq g.hK g.un4) (DE.o (NE.d (ne_lc (own := [("_law_k", 3)]) g.calm sc_l_long_right.nd (di_range1 de_int h_range) (blkAt N_l_long_right (defScope st_l_long_right) ⟨rfl, by decide +kernel, by decide +kernel, by decide +kernel, by decide +kernel⟩) (fun s H C cl fp => (dg_name (i := 3) sc_l_long_right.nd)) (fun s H C cl fp => (dts_one (dt_cmp (opD_ne g.blk.hK g.blk.un4) (DE.o (de_slice g.blk.hK (oe_v 5) (dp_some (de_op opD_mul (DE.o de_int) (oe_v 3))) (dp_some (de_op (opD_add g.blk.hK) (DE.o (de_op opD_mul (DE.o de_int) (oe_v 3))) (DE.o de_int))))) (DE.o (de_idx g.blk.hK (oe_v 2) (oe_v 3))) (nomark _)))) (fun s H C cl fp => (de_v 3)) (by decide)))) (DE.o (NE.d (ne_lst da_nil))) (nomark _))))))))
abbrev st_law : Stmt := top 26
abbrev N_law : List Str := ["_law_script", "_law_source_here", "_law_some", "_law_odd", "_law_turn", "_law_found", "_law_text", "_law_told_here", "_law_lap", "_law_at", "_law_here", "_law_again", "_law_one"]
theorem sc_law : FnScope N_law ["_law_script"] (defScope st_law) := ⟨rfl, rfl, rfl, by decide +kernel, rfl, by decide +kernel, by decide +kernel⟩
def n_law : MS := (mSeq (mIfS (mAnd (mTest (mOp eqD (mCall s_l_pick (mCons (mV 1) (mCons (mC (.int 8)) mNil))) (mC (.int 0)))) (mNot (mTest (mCall0 s_l_long_right)))) (mRet (mC (.bl false))) mNext)
    (mSeq (mSet 2 (mN (mLst (mCons (mC (.str "a")) (mCons (mC (.str "x1")) (mCons (mC (.str "abcdefghijkl")) (mCons (mC (.str "map")) (mCons (mC (.str "0")) (mCons (mC (.str "7")) (mCons (mC (.str "10")) (mCons (mC (.str "305")) (mCons (mBi strD (mCons (mOp powD (mC (.int 10)) (mC (.int 30))) mNil)) (mCons (mC (.str "(")) (mCons (mC (.str ")")) (mCons (mC (.str "{")) (mCons (mC (.str "}")) (mCons (mC (.str ",")) (mCons (mC (.str ";")) mNil))))))))))))))))))
    (mSeq (mSet 3 (mN (mLst (mCons (mC (.str "A")) (mCons (mC (.str "Z9")) (mCons (mC (.str "-")) (mCons (mC (.str "_")) (mCons (mC (.str "#")) (mCons (mC (.str ".")) (mCons (mC (.str "[")) (mCons (mC (.str "]")) (mCons (mC (.str ":")) (mCons (mC (.str "'")) (mCons (mC (.str "\t")) (mCons (mC (.str "a\t")) (mCons (mC (.str "aB")) (mCons (mC (.str "a-b")) (mCons (mC (.str "0a")) (mCons (mC (.str "~")) (mCons (mC (.str "1_")) mNil))))))))))))))))))))
    (mSeq (mSet 3 (mOp addD (mO 3) (mN (mLst (mCons (mC (.str "abcdefghijklm")) (mCons (mC (.str "9abcdefghijklm")) (mCons (mC (.str "abcdefghijkl0")) mNil)))))))
    (mSeq (mFor (mRng1 (mC (.int 6))) (mgN 4) (mSeq (mSetN 5 (mLc (mRng1 (mCall s_l_pick (mCons (mV 1) (mCons (mC (.int 12)) mNil)))) (mgN 8) mYes (mCall s_l_of (mCons (mV 1) (mCons (mV 2) mNil))) [8]))
    (mSeq (mFrz 5 (mSet 6 (mCall s_l_spaced (mCons (mV 1) (mCons (mV 5) mNil)))))
    (mSeq (mSet 7 (mCall (plainS s_l_told) (mCons (mV 6) mNil)))
    (mSeq (mIfS (mOr (mTest (mOp neD (mBi reprD (mCons (mO 7) mNil)) (mBi reprD (mCons (mCall s_l_lexemes_due (mCons (mV 6) mNil)) mNil)))) (mTest (mOp neD (mN (mLc (mIt (mOp idxD (mO 7) (mC (.int 1)))) (mgN 12) mYes (mOp idxD (mO 12) (mC (.int 1))) [12])) (mO 5)))) (mRet (mC (.bl false))) mNext)
    (mFor (mRng1 (mC (.int 3))) (mgN 8) (mSeq (mSet 9 (mCall s_l_pick (mCons (mV 1) (mCons (mOp addD (mBi lenD (mCons (mO 5) mNil)) (mC (.int 1))) mNil))))
    (mSeq (mSet 10 (mCall s_l_spaced (mCons (mV 1) (mCons (mOp addD (mOp addD (mSl (mO 5) mNoP (mP (mV 9))) (mN (mLst (mCons (mCall s_l_of (mCons (mV 1) (mCons (mV 3) mNil))) mNil)))) (mSl (mO 5) (mP (mV 9)) mNoP)) mNil))))
    (mSeq (mSet 10 (mIf (mTest (mOp eqD (mCall s_l_pick (mCons (mV 1) (mCons (mC (.int 2)) mNil))) (mC (.int 0)))) (mSl (mO 10) mNoP (mP (mCall s_l_pick (mCons (mV 1) (mCons (mOp addD (mBi lenD (mCons (mO 10) mNil)) (mC (.int 1))) mNil))))) (mV 10)))
    (mFor (mRng1 (mC (.int 2))) (mgN 11) (mSeq (mSetL 7 s_l_told (mCons (mV 10) mNil))
    (mSeq (mIfS (mFrzT 7 (mTest (mOp neD (mBi reprD (mCons (mO 7) mNil)) (mBi reprD (mCons (mCall s_l_lexemes_due (mCons (mV 10) mNil)) mNil))))) (mRet (mC (.bl false))) mNext)
    (mIfS (mFrzT 7 (mTest (mOp eqD (mOp idxD (mO 7) (mC (.int 0))) (mC (.str "told"))))) (mAppL 7 1) mNext)))))))))))))
    (mRet (mCall0 s_l_hand_right)))))))
theorem b_law {P : Program} {w : World} {K : PySem.W.Frag} {mg : Str → Option Value} {base : Heap} {G : Gb} {f : Addr} (c_l_hand_right : Cal P w K mg base "_law_hand_right" 6 [] (spOf G s_l_hand_right)) (c_l_lexemes_due : Cal P w K mg base "_law_lexemes_due" 3 ["_law_text"] (spOf G s_l_lexemes_due)) (c_l_long_right : Cal P w K mg base "_law_long_right" 6 [] (spOf G s_l_long_right)) (c_l_of : Cal P w K mg base "_law_of" 2 ["_law_source_here", "_law_some"] (spOf G s_l_of)) (c_l_pick : Cal P w K mg base "_law_pick" 1 ["_law_source_here", "_law_many"] (spOf G s_l_pick)) (c_l_spaced : Cal P w K mg base "_law_spaced" 3 ["_law_source_here", "_law_signs"] (spOf G s_l_spaced)) (c_l_told : Cal P w K mg base "_law_told" 5 ["_law_text"] (spOfL G s_l_told)) (h_len : mg "len" = none) (h_range : mg "range" = none) (h_repr : mg "repr" = none) (h_str : mg "str" = none) (cdv : Value) (A : Around) (outer : List Env) (s : Shared) (H : Hp) (E : XK) (B : Bs) (hG : (Xof P w K mg base N_law "law" st_law f cdv A outer s H E).A.guards = some []) (g : Gd (Xof P w K mg base N_law "law" st_law f cdv A outer s H E) G (Wof E) 6) :
    DB (Xof P w K mg base N_law "law" st_law f cdv A outer s H E) G B (Wof E) ((defBody st_law).drop 1) n_law :=
  (db_cons (ds_if (dt_w (dw_and (dt_cmp (opD_eq g.hK g.un4) (DE.o (de_callC g c_l_pick (by decide) (da_cons (de_v 1) (da_cons de_int da_nil)))) (DE.o de_int) (nomark _)) (dw_and1 (dt_not (dt_val (de_call0C g c_l_long_right (by decide))))))) (db_one (ds_ret de_bl)) db_nil)
    (db_cons (ds_set (i := 2) sc_law.nd (NE.d (ne_lst (da_cons de_str (da_cons de_str (da_cons de_str (da_cons de_str (da_cons de_str (da_cons de_str (da_cons de_str (da_cons de_str (da_cons (de_strC g h_str (DE.o (de_op opD_pow (DE.o de_int) (DE.o de_int)))) (da_cons de_str (da_cons de_str (da_cons de_str (da_cons de_str (da_cons de_str (da_cons de_str da_nil))))))))))))))))))
    (db_cons (ds_set (i := 3) sc_law.nd (NE.d (ne_lst (da_cons de_str (da_cons de_str (da_cons de_str (da_cons de_str (da_cons de_str (da_cons de_str (da_cons de_str (da_cons de_str (da_cons de_str (da_cons de_str (da_cons de_str (da_cons de_str (da_cons de_str (da_cons de_str (da_cons de_str (da_cons de_str (da_cons de_str da_nil))))))))))))))))))))
    (db_cons (ds_set (i := 3) sc_law.nd (de_op (opD_add g.hK) (oe_v 3) (DE.o (NE.d (ne_lst (da_cons de_str (da_cons de_str (da_cons de_str da_nil))))))))
    (db_cons (ds_for (passes_of rfl) g.calm (di_range1 de_int h_range) (dg_name (i := 4) sc_law.nd) (db_cons (ds_setLc (i := 5) (own := [("_law_lap", 8)]) g.calm sc_law.nd (di_range1 (de_callC g c_l_pick (by decide) (da_cons (de_v 1) (da_cons de_int da_nil))) h_range) (blkAt N_law (defScope st_law) ⟨rfl, by decide +kernel, by decide +kernel, by decide +kernel, by decide +kernel⟩) (fun s H C cl fp => (dg_name (i := 8) sc_law.nd)) (fun s H C cl fp => dts_nil) (fun s H C cl fp => (de_callC g.blk c_l_of (by decide) (da_cons (de_v 1) (da_cons (de_v 2) da_nil)))) (by decide) rfl)
    (db_cons (ds_frz 5 (ds_set (i := 6) sc_law.nd (de_callC g c_l_spaced (by decide) (da_cons (de_v 1) (da_cons (de_v 5) da_nil)))))
    (db_cons (ds_set (i := 7) sc_law.nd (de_callC g c_l_told.plain (by decide) (da_cons (de_v 6) da_nil)))
    (db_cons (ds_if (dt_w (dw_or (dt_cmp (opD_ne g.hK g.un4) (DE.o (de_reprC g hG h_repr (oe_v 7))) (DE.o (de_reprC g hG h_repr (DE.o (de_callC g c_l_lexemes_due (by decide) (da_cons (de_v 6) da_nil))))) (nomark _)) (dw_or1 (dt_cmp (opD_ne g.hK g.un4) (DE.o (NE.d (ne_lc (own := [("_law_one", 12)]) g.calm sc_law.nd (di_list (de_idx g.hK (oe_v 7) (DE.o de_int))) (blkAt N_law (defScope st_law) ⟨rfl, by decide +kernel, by decide +kernel, by decide +kernel, by decide +kernel⟩) (fun s H C cl fp => (dg_name (i := 12) sc_law.nd)) (fun s H C cl fp => dts_nil) (fun s H C cl fp => (de_idx g.blk.hK (oe_v 12) (DE.o de_int))) (by decide)))) (oe_v 5) (nomark _))))) (db_one (ds_ret de_bl)) db_nil)
    (db_one (ds_for (passes_of rfl) g.calm (di_range1 de_int h_range) (dg_name (i := 8) sc_law.nd) (db_cons (ds_set (i := 9) sc_law.nd (de_callC g c_l_pick (by decide) (da_cons (de_v 1) (da_cons (de_op (opD_add g.hK) (DE.o (de_len g h_len (oe_v 5))) (DE.o de_int)) da_nil))))
    (db_cons (ds_set (i := 10) sc_law.nd (de_callC g c_l_spaced (by decide) (da_cons (de_v 1) (da_cons (de_op (opD_add g.hK) (DE.o (de_op (opD_add g.hK) (DE.o (de_slice g.hK (oe_v 5) dp_none (dp_some (de_v 9)))) (DE.o (NE.d (ne_lst (da_cons (de_callC g c_l_of (by decide) (da_cons (de_v 1) (da_cons (de_v 3) da_nil))) da_nil)))))) (DE.o (de_slice g.hK (oe_v 5) (dp_some (de_v 9)) dp_none))) da_nil))))
    (db_cons (ds_set (i := 10) sc_law.nd (de_if (dt_cmp (opD_eq g.hK g.un4) (DE.o (de_callC g c_l_pick (by decide) (da_cons (de_v 1) (da_cons de_int da_nil)))) (DE.o de_int) (nomark _)) (de_slice g.hK (oe_v 10) dp_none (dp_some (de_callC g c_l_pick (by decide) (da_cons (de_v 1) (da_cons (de_op (opD_add g.hK) (DE.o (de_len g h_len (oe_v 10))) (DE.o de_int)) da_nil))))) (de_v 10)))
    (db_one (ds_for (passes_of rfl) g.calm (di_range1 de_int h_range) (dg_name (i := 11) sc_law.nd) (db_cons (ds_setLC (i := 7) sc_law.nd g c_l_told (by decide) (da_cons (de_v 10) da_nil))
    (db_cons (ds_if (dt_frz 7 (dt_cmp (opD_ne g.hK g.un4) (DE.o (de_reprC g hG h_repr (oe_v 7))) (DE.o (de_reprC g hG h_repr (DE.o (de_callC g c_l_lexemes_due (by decide) (da_cons (de_v 10) da_nil))))) (nomark _))) (db_one (ds_ret de_bl)) db_nil)
    (db_one (ds_if (dt_frz 7 (dt_cmp (opD_eq g.hK g.un4) (DE.o (de_idx g.hK (oe_v 7) (DE.o de_int))) (DE.o de_str) (nomark _))) (db_one (ds_appL (i := 7) (j := 1) g.hK (pe_bm PySem.F.plainAttrs_list PySem.F.slot_list_append PySem.F.type_list_append mt_append (pe_ix ix_list (pv 7) pe_int (fun _ _ => rfl)) (pa_cons pe_non pa_nil)))) db_nil))))))))))))))))
    (db_one (ds_ret (de_call0C g c_l_hand_right (by decide)))))))))
end Ct.K6

set_option Elab.async false
set_option linter.all false
set_option maxRecDepth 100000
set_option maxHeartbeats 4000000
namespace Ct.K6
open PySem PySem.Spec PyProof.Rows L2 Ct
theorem atI_nat {α : Type} {xs : List α} {p : Nat} : atI xs (p : Int) = xs[p]? := by
  unfold atI ixN
  rw [if_pos (by omega)]
  by_cases h : p < xs.length
  · rw [if_pos (by omega)]; simp
  · rw [if_neg (by omega)]; simp; omega
@[simp] theorem atI_0 {α : Type} {x : α} {l : List α} : atI (x :: l) 0 = some x := by
  rw [show (0 : Int) = ((0 : Nat) : Int) from rfl, atI_nat]; rfl
@[simp] theorem atI_1 {α : Type} {x y : α} {l : List α} : atI (x :: y :: l) 1 = some y := by
  rw [show (1 : Int) = ((1 : Nat) : Int) from rfl, atI_nat]; rfl
@[simp] theorem atI_2 {α : Type} {x y z : α} {l : List α} : atI (x :: y :: z :: l) 2 = some z := by
  rw [show (2 : Int) = ((2 : Nat) : Int) from rfl, atI_nat]; rfl
theorem len_cps (s : Str) : s.length = (cps s).length := by
  show s.cps.size = _
  simp
theorem cps_mk (l : List Nat) : cps (mkS l) = l := by simp [cps, mkS]
theorem mk_cps (s : Str) : mkS (cps s) = s := by cases s; simp [cps, mkS]
theorem run_cons {C r : List Nat} {c : Nat} (h : c ∈ C) : runL C (c :: r) = c :: runL C r := by simp [runL, h]
theorem run_no {C r : List Nat} {c : Nat} (h : c ∉ C) : runL C (c :: r) = [] := by simp [runL, h]
theorem run_nil {C : List Nat} : runL C [] = [] := rfl
theorem run_pre (C r : List Nat) : runL C r = r.take (runL C r).length := by
  unfold runL
  induction r with
  | nil => rfl
  | cons c r ih =>
    by_cases h : c ∈ C
    · simp only [List.takeWhile_cons, h, decide_true, if_true, List.length_cons, List.take_succ_cons]
      rw [← ih]
    · simp [List.takeWhile_cons, h]
theorem run_le (C r : List Nat) : (runL C r).length ≤ r.length := by
  have := congrArg List.length (run_pre C r)
  rw [List.length_take] at this
  omega
theorem drop_at {l : List Nat} {e : Nat} (h : e < l.length) : l.drop e = l[e] :: l.drop (e + 1) := List.drop_eq_getElem_cons h
theorem cut_nat {t : Str} {p e : Nat} (h : p ≤ e) (h2 : e ≤ t.length) : cutS t (some (p : Int)) (some (e : Int)) = mkS (((cps t).drop p).take (e - p)) := by
  have hl := len_cps t
  unfold cutS
  simp only [HT.sIx_nat]
  rw [Nat.min_eq_left (by omega), Nat.min_eq_left (by omega)]
  cases t
  rfl
theorem p_run_at (ds : List D) (Q : D → Prop) (Qx : Exn → Prop) (h : s_run_at ds Q Qx) : n_run_at { nx := fun _ => Q .non, rt := Q, ex := fun x _ => Qx x } (startE N_run_at ds) := by
  obtain ⟨t, c, p, rfl, h1, h2, q⟩ := h
  have hl := len_cps t
  simp [n_run_at, startE, N_run_at]
  refine ⟨fun j δ => ∃ e : Nat, δ = [some (Sl.d (D.str t)), some (Sl.d (D.int ↑p)), some (Sl.d (D.str c)), some (Sl.d (D.int ↑e))] ∧ p ≤ e ∧ e ≤ t.length ∧ j = t.length - e ∧ e + (runL (cps c) ((cps t).drop e)).length = p + (runL (cps c) ((cps t).drop p)).length, ⟨_, p, rfl, Nat.le_refl _, h2, rfl, rfl⟩, ?_⟩
  rintro j δ ⟨e, rfl, hpe, he, rfl, hr⟩
  have done : e = p + (runL (cps c) ((cps t).drop p)).length → Q (.str (cutS t (some (p : Int)) (some (e : Int)))) := fun z => by
    rw [cut_nat hpe he, z, Nat.add_sub_cancel_left, ← run_pre]
    exact q
  simp [atI_nat, -Array.mem_toList_iff, -Array.getElem?_toList]
  refine ⟨by omega, ?_⟩
  by_cases hlt : e < t.length
  · have hlt' : e < (cps t).length := by omega
    refine .inr ⟨hlt, by omega, _, List.getElem?_eq_getElem hlt', ?_⟩
    by_cases hc : (cps t)[e] ∈ cps c
    · refine .inr ⟨hc, t.length - (e + 1), by omega, e + 1, by simp, by omega, by omega, rfl, ?_⟩
      rw [drop_at hlt', run_cons hc] at hr
      rw [List.length_cons] at hr
      omega
    · refine .inl ⟨hc, by omega, done ?_⟩
      rw [drop_at hlt', run_no hc] at hr
      simpa using hr
  · refine .inl ⟨by omega, by omega, done ?_⟩
    have : (cps t).drop e = [] := List.drop_eq_nil_of_le (by omega)
    rw [this] at hr
    simpa [run_nil] using hr
theorem sub1 {a b : Nat} (h : a ≤ b) : cps (mkS [a]) = [a] := rfl
theorem mem_cL {c : Nat} : c ∈ cL ↔ 97 ≤ c ∧ c ≤ 122 := by
  have e : cL = [97, 98, 99, 100, 101, 102, 103, 104, 105, 106, 107, 108, 109, 110, 111, 112, 113, 114, 115, 116, 117, 118, 119, 120, 121, 122] := by decide +kernel
  rw [e]
  simp only [List.mem_cons, List.not_mem_nil, or_false]
  omega
theorem mem_cD {c : Nat} : c ∈ cD ↔ 48 ≤ c ∧ c ≤ 57 := by
  have e : cD = [48, 49, 50, 51, 52, 53, 54, 55, 56, 57] := by decide +kernel
  rw [e]
  simp only [List.mem_cons, List.not_mem_nil, or_false]
  omega
theorem mem_cW {c : Nat} : c ∈ cW ↔ c ∈ cL ∨ c ∈ cD := by
  have e : cW = cL ++ cD := by decide +kernel
  rw [e, List.mem_append]
theorem mem_cG {c : Nat} : c ∈ cG ↔ c = 32 ∨ c = 10 := by
  have e : cG = [32, 10] := by decide +kernel
  rw [e]
  simp
theorem mem_cS {c : Nat} : c ∈ cS ↔ c = 40 ∨ c = 41 ∨ c = 123 ∨ c = 125 ∨ c = 44 ∨ c = 59 := by
  have e : cS = [40, 41, 123, 125, 44, 59] := by decide +kernel
  rw [e]
  simp
theorem one_eq {c d : Nat} : ((⟨#[c]⟩ : Str) = ⟨#[d]⟩) ↔ c = d := ⟨fun h => by cases h; rfl, fun h => by rw [h]⟩
theorem s0 : ("0" : Str) = ⟨#[48]⟩ := by decide +kernel
theorem lexAt_cons {h : Nat} {t : List Nat} : lexAt (h :: t) = if h ∈ cL then (if (runL cW (h :: t)).length ≤ 12 then (("word" : Str), runL cW (h :: t)) else ("wrong", [])) else if h = 48 then ("number", [h]) else if h ∈ cD then ("number", runL cD (h :: t)) else if h ∈ cS then ("sign", [h]) else ("wrong", []) := rfl
theorem p_lexeme_at (ds : List D) (Q : D → Prop) (Qx : Exn → Prop) (h : s_lexeme_at ds Q Qx) : n_lexeme_at { nx := fun _ => Q .non, rt := Q, ex := fun x _ => Qx x } (startE N_lexeme_at ds) := by
  obtain ⟨t, p, rfl, h1, h2, q⟩ := h
  have hl := len_cps t
  have hp : p < (cps t).length := by omega
  simp [n_lexeme_at, startE, N_lexeme_at, atI_nat, -Array.mem_toList_iff, -Array.getElem?_toList]
  refine ⟨by omega, _, List.getElem?_eq_getElem hp, ?_⟩
  rw [drop_at hp] at q
  have two : ∀ (C : List Nat), runL C ((cps t).drop p) = runL C ((cps t)[p] :: (cps t).drop (p + 1)) := fun C => by rw [drop_at hp]
  rw [lexAt_cons] at q
  by_cases hL : (cps t)[p] ∈ cL
  · rw [if_pos hL] at q
    refine .inr ⟨hL, t, _, p, rfl, h1, by omega, ?_⟩
    have e : runL (cps (Str.ofString "abcdefghijklmnopqrstuvwxyz0123456789")) ((cps t).drop p) = runL cW ((cps t)[p] :: (cps t).drop (p + 1)) := two cW
    rw [e]
    have hle := run_le cW ((cps t)[p] :: (cps t).drop (p + 1))
    rw [← drop_at hp, List.length_drop] at hle
    rw [← drop_at hp] at q ⊢
    refine ⟨by rw [len_cps, cps_mk]; omega, ?_⟩
    rw [len_cps, cps_mk]
    by_cases h12 : (runL cW ((cps t).drop p)).length ≤ 12
    · rw [if_pos h12] at q
      exact .inr ⟨by simp; omega, q⟩
    · rw [if_neg h12] at q
      exact .inl ⟨by simp; omega, q⟩
  · rw [if_neg hL] at q
    refine .inl ⟨hL, ?_⟩
    by_cases h0 : (cps t)[p] = 48
    · rw [if_pos h0] at q
      refine .inr ⟨by rw [h0]; exact s0.symm, q⟩
    · rw [if_neg h0] at q
      refine .inl ⟨fun z => h0 (one_eq.mp (z.trans s0)), ?_⟩
      by_cases hD : (cps t)[p] ∈ cD
      · rw [if_pos hD] at q
        refine .inr ⟨hD, t, _, p, rfl, h1, by omega, ?_⟩
        have e : runL (cps (Str.ofString "0123456789")) ((cps t).drop p) = runL cD ((cps t)[p] :: (cps t).drop (p + 1)) := two cD
        rw [e]
        exact q
      · rw [if_neg hD] at q
        refine .inl ⟨hD, ?_⟩
        by_cases hS : (cps t)[p] ∈ cS
        · rw [if_pos hS] at q
          exact .inr ⟨hS, q⟩
        · rw [if_neg hS] at q
          exact .inl ⟨hS, q⟩
theorem lexAt_len {h : Nat} {t : List Nat} (ne : (lexAt (h :: t)).1 ≠ "wrong") : 1 ≤ (lexAt (h :: t)).2.length ∧ (lexAt (h :: t)).2.length ≤ t.length + 1 := by
  rw [lexAt_cons] at ne ⊢
  have le := run_le
  split
  · rename_i hL
    rw [if_pos hL] at ne
    split
    · have := le cW (h :: t)
      rw [List.length_cons] at this
      refine ⟨?_, this⟩
      show 1 ≤ (runL cW (h :: t)).length
      rw [run_cons (mem_cW.mpr (.inl hL))]; simp
    · rename_i h12
      rw [if_neg h12] at ne
      exact absurd rfl ne
  · split
    · simp
    · split
      · rename_i hD
        have := le cD (h :: t)
        rw [List.length_cons] at this
        refine ⟨?_, this⟩
        show 1 ≤ (runL cD (h :: t)).length
        rw [run_cons hD]; simp
      · split
        · simp
        · rename_i hL h0 hD hS
          rw [if_neg hL, if_neg h0, if_neg hD, if_neg hS] at ne
          exact absurd rfl ne
theorem lexAt_wrong {h : Nat} {t : List Nat} (e : (lexAt (h :: t)).1 = "wrong") : (lexAt (h :: t)).2 = [] := by
  have n1 : ¬ ("word" : Str) = "wrong" := by decide +kernel
  have n2 : ¬ ("number" : Str) = "wrong" := by decide +kernel
  have n3 : ¬ ("sign" : Str) = "wrong" := by decide +kernel
  rw [lexAt_cons] at e ⊢
  split
  · rename_i hL
    rw [if_pos hL] at e
    split
    · rename_i h12
      rw [if_pos h12] at e
      exact absurd e n1
    · rfl
  · rename_i hL
    rw [if_neg hL] at e
    split
    · rename_i h0
      rw [if_pos h0] at e
      exact absurd e n2
    · rename_i h0
      rw [if_neg h0] at e
      split
      · rename_i hD
        rw [if_pos hD] at e
        exact absurd e n2
      · rename_i hD
        rw [if_neg hD] at e
        split
        · rename_i hS
          rw [if_pos hS] at e
          exact absurd e n3
        · rfl
end Ct.K6

set_option Elab.async false
set_option linter.all false
set_option maxRecDepth 100000
set_option maxHeartbeats 4000000
namespace Ct.K6
open PySem PySem.Spec PyProof.Rows L2 Ct
theorem mk_nil : mkS [] = "" := by decide +kernel
theorem lexGo_nil {n p : Nat} : lexGo n [] p = ([], none) := by cases n <;> rfl
theorem lexGo_cons {n h p : Nat} {t : List Nat} : lexGo (n + 1) (h :: t) p = if h ∈ cG then lexGo n t (p + 1)
    else if (lexAt (h :: t)).1 = "wrong" then ([], some p)
    else (row (lexAt (h :: t)).1 (lexAt (h :: t)).2 p :: (lexGo n ((h :: t).drop (lexAt (h :: t)).2.length) (p + (lexAt (h :: t)).2.length)).1, (lexGo n ((h :: t).drop (lexAt (h :: t)).2.length) (p + (lexAt (h :: t)).2.length)).2) := rfl
theorem lexGo_len : ∀ (n : Nat) (l : List Nat) (p : Nat), (lexGo n l p).1.length ≤ l.length
  | 0, _, _ => Nat.zero_le _
  | _ + 1, [], _ => Nat.zero_le _
  | n + 1, h :: t, p => by
    unfold lexGo
    split
    · have := lexGo_len n t (p + 1)
      rw [List.length_cons]; omega
    · split
      · simp
      · rename_i ne
        have h1 := lexAt_len ne
        have := lexGo_len n ((h :: t).drop (lexAt (h :: t)).2.length) (p + (lexAt (h :: t)).2.length)
        rw [List.length_drop, List.length_cons] at this
        simp only [List.length_cons]
        omega
theorem p_lexeme_rows (ds : List D) (Q : List D → Prop) (Qx : Exn → Prop) (h : s_lexeme_rows ds Q Qx) : n_lexeme_rows { nx := fun _ => False, rt := fun _ => False, ex := fun x _ => Qx x, rtn := Q } (startE N_lexeme_rows ds) := by
  obtain ⟨t, rfl, h1, q⟩ := h
  have hl := len_cps t
  simp [n_lexeme_rows, startE, N_lexeme_rows, atI_nat, -Array.mem_toList_iff, -Array.getElem?_toList]
  refine ⟨fun j δ => ∃ (p n : Nat) (rows : List D) (a b : Option Sl), δ = [some (.d (.str t)), some (.own rows), some (.d (.int (p : Int))), a, b] ∧ p ≤ t.length ∧ j = t.length - p ∧ t.length - p + 1 ≤ n ∧ rows.length ≤ p ∧ lexOf t = (rows ++ (lexGo n ((cps t).drop p) p).1, (lexGo n ((cps t).drop p) p).2), ⟨_, 0, t.length + 1, [], _, _, rfl, Nat.zero_le _, rfl, by omega, Nat.le_refl _, rfl⟩, ?_⟩
  rintro j δ ⟨p, n, rows, a, b, rfl, hp, rfl, hn, hr, e⟩
  simp [atI_nat, -Array.mem_toList_iff, -Array.getElem?_toList]
  obtain ⟨n, rfl⟩ : ∃ m, n = m + 1 := ⟨n - 1, by omega⟩
  refine ⟨by omega, ?_⟩
  by_cases hlt : p < t.length
  · have hlt' : p < (cps t).length := by omega
    refine .inr ⟨hlt, by omega, _, List.getElem?_eq_getElem hlt', ?_⟩
    rw [drop_at hlt', lexGo_cons] at e
    by_cases hc : (cps t)[p] ∈ cG
    · rw [if_pos hc] at e
      exact .inr ⟨hc, t.length - (p + 1), by omega, p + 1, n, rows, ⟨rfl, by simp⟩, by omega, rfl, by omega, by omega, e⟩
    · rw [if_neg hc] at e
      refine .inl ⟨hc, t, p, rfl, h1, hlt, ?_⟩
      rw [drop_at hlt']
      refine ⟨_, rfl, rfl, _, _, rfl, _, _, rfl, rfl, by omega, ?_⟩
      by_cases hw : (lexAt ((cps t)[p] :: (cps t).drop (p + 1))).1 = "wrong"
      · rw [if_pos hw] at e
        refine .inr ⟨?_, ?_⟩
        · show D.bl (decide (_ = _)) = _
          rw [decide_eq_true hw]
        · have e2 := lexAt_wrong hw
          rw [hw, e2, mk_nil]
          have el : lastRow t = .tup [.str "wrong", .str "", .int (p : Int)] := by unfold lastRow; rw [e]
          rw [el, e] at q
          simpa using q
      · rw [if_neg hw] at e
        refine .inl ⟨?_, ?_⟩
        · show D.bl (decide (_ = _)) = _
          rw [decide_eq_false hw]
        · obtain ⟨l1, l2⟩ := lexAt_len hw
          have hd : ((cps t).drop (p + 1)).length = t.length - (p + 1) := by rw [List.length_drop, hl]
          rw [hd] at l2
          refine ⟨by rw [len_cps, cps_mk]; omega, t.length - (p + (lexAt ((cps t)[p] :: (cps t).drop (p + 1))).2.length), by omega, p + (lexAt ((cps t)[p] :: (cps t).drop (p + 1))).2.length, n, _, ⟨rfl, ?_⟩, by omega, rfl, by omega, by rw [List.length_append]; show rows.length + 1 ≤ _; omega, ?_⟩
          · rw [len_cps, cps_mk]; simp
          · rw [e, ← drop_at hlt', List.drop_drop]
            simp [row]
  · refine .inl ⟨by omega, by omega, by omega, ?_⟩
    have : (cps t).drop p = [] := List.drop_eq_nil_of_le (by omega)
    rw [this, lexGo_nil] at e
    have el : lastRow t = .tup [.str "end", .str "", .int (t.length : Int)] := by unfold lastRow; rw [e]
    rw [el, e] at q
    simpa using q
theorem p_lexemes (ds : List D) (Q : List D → Prop) (Qx : Exn → Prop) (h : s_lexemes ds Q Qx) : n_lexemes { nx := fun _ => False, rt := fun _ => False, ex := fun x _ => Qx x, rtn := Q } (startE N_lexemes ds) := by
  obtain ⟨t, rfl, h1, q⟩ := h
  simp [n_lexemes, startE, N_lexemes, mPopTo, mRaise]
  refine ⟨t, rfl, h1, ?_⟩
  simp
  unfold lastRow
  cases e : (lexOf t).2 with
  | none =>
    rw [e] at q
    simp
    exact ⟨_, _, ⟨rfl, rfl⟩, _, _, rfl, _, _, rfl, rfl, .inl ⟨(by show D.bl (decide _) = _; rw [decide_eq_false (by decide +kernel)]), q⟩⟩
  | some p =>
    rw [e] at q
    simp
    exact ⟨_, _, ⟨rfl, rfl⟩, _, _, rfl, _, _, rfl, rfl, .inr ⟨(by show D.bl (decide _) = _; rw [decide_eq_true rfl]), q⟩⟩
theorem p_told (ds : List D) (Q Ql : D → Prop) (Qx : Exn → Prop) (h : s_l_told ds Q Ql Qx) : n_l_told { nx := fun _ => Q .non, rt := Q, ex := fun x _ => Qx x, rtl := Ql } (startE N_l_told ds) := by
  obtain ⟨t, rfl, h1, q⟩ := h
  simp [n_l_told, startE, N_l_told, mTry, mRetL2, tryEx, mXf]
  refine ⟨t, rfl, h1, ?_⟩
  unfold toldOf at q
  cases e : (lexOf t).2 with
  | none =>
    rw [e] at q
    exact ⟨True.intro, q⟩
  | some p =>
    rw [e] at q
    simp
    exact q
theorem p_run (ds : List D) (Q : D → Prop) (Qx : Exn → Prop) (h : s_l_run ds Q Qx) : n_l_run { nx := fun _ => Q .non, rt := Q, ex := fun x _ => Qx x } (startE N_l_run ds) := by
  obtain ⟨t, c, p, rfl, h1, h2, q⟩ := h
  have hl := len_cps t
  simp [n_l_run, startE, N_l_run]
  refine ⟨fun j δ => ∃ e : Nat, δ = [some (Sl.d (D.str t)), some (Sl.d (D.int ↑e)), some (Sl.d (D.str c))] ∧ p ≤ e ∧ e ≤ t.length ∧ j = t.length - e ∧ e + (runL (cps c) ((cps t).drop e)).length = p + (runL (cps c) ((cps t).drop p)).length, ⟨_, p, rfl, Nat.le_refl _, h2, rfl, rfl⟩, ?_⟩
  rintro j δ ⟨e, rfl, hpe, he, rfl, hr⟩
  simp [atI_nat, -Array.mem_toList_iff, -Array.getElem?_toList]
  have done : e = p + (runL (cps c) ((cps t).drop p)).length → Q (.int (e : Int)) := fun z => by rw [z]; exact q
  refine ⟨by omega, ?_⟩
  by_cases hlt : e < t.length
  · have hlt' : e < (cps t).length := by omega
    refine .inr ⟨hlt, by omega, _, List.getElem?_eq_getElem hlt', ?_⟩
    by_cases hc : (cps t)[e] ∈ cps c
    · refine .inr ⟨hc, t.length - (e + 1), by omega, e + 1, by simp, by omega, by omega, rfl, ?_⟩
      rw [drop_at hlt', run_cons hc] at hr
      rw [List.length_cons] at hr
      omega
    · refine .inl ⟨hc, done ?_⟩
      rw [drop_at hlt', run_no hc] at hr
      simpa using hr
  · refine .inl ⟨by omega, done ?_⟩
    have : (cps t).drop e = [] := List.drop_eq_nil_of_le (by omega)
    rw [this] at hr
    simpa [run_nil] using hr
theorem p_of (ds : List D) (Q : D → Prop) (Qx : Exn → Prop) (h : s_l_of ds Q Qx) : n_l_of { nx := fun _ => Q .non, rt := Q, ex := fun x _ => Qx x } (startE N_l_of ds) := by
  obtain ⟨l, rfl, h1, h2, q⟩ := h
  simp [n_l_of, startE, N_l_of]
  refine ⟨_, rfl, by omega, fun r r0 r1 => ?_⟩
  obtain ⟨k, rfl⟩ : ∃ k : Nat, r = k := ⟨r.toNat, by omega⟩
  have hk : k < l.length := by omega
  exact ⟨_, by rw [atI_nat]; exact List.getElem?_eq_getElem hk, q _ (List.getElem_mem hk)⟩
theorem strOk_iff {s : Str} : PyData.strOk s = true ↔ ∀ c ∈ cps s, c < 1114112 := by
  unfold PyData.strOk
  rw [← Array.all_toList, List.all_eq_true]
  simp
def sgn (c : Nat) : D := .str ⟨#[c]⟩
/-- the signs that are not in s -/
theorem lc_nin {s : Str} {Q : List D → Prop} {a : Option Sl} : ∀ (L : List Nat) (acc : List D), acc.length + L.length ≤ 999999 → Q (acc ++ (L.filter fun c => !decide (c ∈ cps s)).map sgn) →
    lcGo (mgN 1) (mTest (mOp ninD (mO 1) (mC (.str s)))) (mV 1) Q [a, none] (L.map sgn) acc
  | [], acc, _, q => by simpa [lcGo] using q
  | c :: L, acc, h, q => by
    rw [List.length_cons] at h
    simp [lcGo, sgn, -Array.mem_toList_iff]
    by_cases hc : c ∈ cps s
    · refine .inl ⟨hc, ?_⟩
      refine lc_nin L acc (by omega) ?_
      rw [List.filter_cons_of_neg (by simpa using hc)] at q
      exact q
    · refine .inr ⟨hc, by omega, ?_⟩
      refine lc_nin L (acc ++ [sgn c]) (by rw [List.length_append]; simp; omega) ?_
      rw [List.filter_cons_of_pos (by simpa using hc)] at q
      simpa using q
theorem p_is_word (ds : List D) (Q : D → Prop) (Qx : Exn → Prop) (h : s_l_is_word ds Q Qx) : n_l_is_word { nx := fun _ => Q .non, rt := Q, ex := fun x _ => Qx x } (startE N_l_is_word ds) := by
  obtain ⟨t, rfl, h1, hok, q⟩ := h
  have hl := len_cps t
  have key : kitB "str" "str" = some true := by decide +kernel
  simp [n_l_is_word, startE, N_l_is_word, isiD, tyOf, key, mChain, mLc, mItS, wipeE, -Array.mem_toList_iff, -Array.getElem?_toList]
  unfold isWord at q
  rw [← hl] at q
  refine ⟨by omega, ?_⟩
  by_cases c1 : 1 ≤ t.length
  · refine .inr ⟨by omega, ?_⟩
    by_cases c2 : t.length ≤ 12
    · refine .inr ⟨by omega, by omega, ?_⟩
      have h0 : 0 < (cps t).length := by omega
      have e0 : (cps t).head? = some (cps t)[0] := by rw [List.head?_eq_getElem?]; exact List.getElem?_eq_getElem h0
      rw [decide_eq_true c1, decide_eq_true c2, e0] at q
      simp only [Bool.true_and, Option.any_some] at q
      refine ⟨(cps t)[0], by rw [show (0 : Int) = ((0 : Nat) : Int) from rfl, atI_nat]; exact List.getElem?_eq_getElem h0, ?_⟩
      have ea : (Str.ofString "a").cps.toList = [97] := by decide +kernel
      have ez : (Str.ofString "z").cps.toList = [122] := by decide +kernel
      rw [ea, ez]
      have lt1 : ∀ x y : Nat, ([x] < [y]) ↔ x < y := fun x y => ⟨fun h => (by
        cases h with
        | rel h => exact h
        | cons h => cases h), fun h => List.Lex.rel h⟩
      have le1 : ∀ x y : Nat, ([x] ≤ [y]) ↔ x ≤ y := fun x y => by rw [← List.not_lt, lt1]; omega
      rw [lt1, lt1, le1, le1]
      by_cases c3 : 97 ≤ (cps t)[0]
      · refine .inr ⟨c3, ?_⟩
        by_cases c4 : (cps t)[0] ≤ 122
        · refine .inr ⟨c4, ?_⟩
          rw [decide_eq_true (mem_cL.mpr ⟨c3, c4⟩), Bool.true_and] at q
          refine lc_nin (cps t) [] (by rw [List.length_nil]; omega) ?_
          have pd : Pd 1 (.lst ((([] : List D)) ++ ((cps t).filter fun c => !decide (c ∈ cps (Str.ofString "abcdefghijklmnopqrstuvwxyz0123456789"))).map sgn)) := by
            intro d hd
            rw [List.nil_append, List.mem_map] at hd
            obtain ⟨c, hc, rfl⟩ := hd
            have := strOk_iff.mp hok c (List.mem_filter.mp hc).1
            show PyData.strOk _ = true
            exact strOk_iff.mpr fun x hx => by
              have : x = c := by simpa [cps] using hx
              rw [this]; assumption
          have z := eqG_nil (n := id) (Q := Q) pd (by decide) (by
            have e : (([] : List D) ++ ((cps t).filter fun c => !decide (c ∈ cps (Str.ofString "abcdefghijklmnopqrstuvwxyz0123456789"))).map sgn).isEmpty = (cps t).all fun c => decide (c ∈ cW) := by
              rw [List.nil_append, List.isEmpty_map]
              rw [Bool.eq_iff_iff, List.isEmpty_iff, List.filter_eq_nil_iff, List.all_eq_true]
              constructor
              · intro h c hc
                by_cases m : c ∈ cW
                · exact decide_eq_true m
                · exact absurd (show (!decide (c ∈ cW)) = true by rw [decide_eq_false m]; rfl) (h c hc)
              · intro h c hc
                have m : decide (c ∈ cW) = true := h c hc
                show ¬ (!decide (c ∈ cW)) = true
                rw [m]
                decide
            show Q (.bl _)
            rw [e]
            exact q)
          simpa [eqG] using z
        · refine .inl ⟨by omega, ?_⟩
          rw [decide_eq_false (fun z => c4 (mem_cL.mp z).2)] at q
          exact q
      · refine .inl ⟨by omega, ?_⟩
        rw [decide_eq_false (fun z => c3 (mem_cL.mp z).1)] at q
        exact q
    · refine .inl ⟨by omega, ?_⟩
      rw [decide_eq_false c2, Bool.and_false] at q
      exact q
  · refine .inl ⟨by omega, ?_⟩
    rw [decide_eq_false c1] at q
    exact q
end Ct.K6

set_option Elab.async false
set_option linter.all false
set_option maxRecDepth 100000
set_option maxHeartbeats 4000000
namespace Ct.K6
open PySem PySem.Spec PyProof.Rows L2 Ct
theorem sub_ok {t : Str} {C : List Nat} {p : Nat} (h : PyData.strOk t = true) : PyData.strOk (mkS (runL C ((cps t).drop p))) = true := by
  rw [strOk_iff] at h ⊢
  rw [cps_mk]
  intro c hc
  refine h c (List.mem_of_mem_drop (i := p) ?_)
  rw [run_pre] at hc
  exact List.mem_of_mem_take hc
theorem s_space : cps (Str.ofString " \n") = cG := rfl
def lawAt (l : List Nat) (e : Nat) : D := match l with
  | [] => .lst [.str "END", .str "", .int ((e : Nat) : Int)]
  | h :: r => if (lexAt (h :: r)).1 = "wrong" then .lst [.str "none", .str "", .int ((e : Nat) : Int)] else .lst [.str (sortOf (lexAt (h :: r)).1 (mkS (lexAt (h :: r)).2)), .str (mkS (lexAt (h :: r)).2), .int ((e : Nat) : Int)]
theorem lawAt_cons {h e : Nat} {r : List Nat} : lawAt (h :: r) e = if (lexAt (h :: r)).1 = "wrong" then .lst [.str "none", .str "", .int ((e : Nat) : Int)] else .lst [.str (sortOf (lexAt (h :: r)).1 (mkS (lexAt (h :: r)).2)), .str (mkS (lexAt (h :: r)).2), .int ((e : Nat) : Int)] := rfl
theorem w1 : ¬ ("word" : Str) = "wrong" := by decide +kernel
theorem w2 : ¬ ("number" : Str) = "wrong" := by decide +kernel
theorem w3 : ¬ ("sign" : Str) = "wrong" := by decide +kernel
theorem w4 : ¬ ("number" : Str) = "word" := by decide +kernel
theorem w5 : ¬ ("sign" : Str) = "word" := by decide +kernel
theorem w6 : ¬ ("sign" : Str) = "number" := by decide +kernel
theorem lex_S {h : Nat} {r : List Nat} (hS : h ∈ cS) : lexAt (h :: r) = (("sign" : Str), [h]) := by
  have hs := mem_cS.mp hS
  rw [lexAt_cons, if_neg (fun z => by have := mem_cL.mp z; omega), if_neg (by omega), if_neg (fun z => by have := mem_cD.mp z; omega), if_pos hS]
theorem lex_0 {r : List Nat} : lexAt (48 :: r) = (("number" : Str), [48]) := by
  rw [lexAt_cons, if_neg (fun z => by have := mem_cL.mp z; omega), if_pos rfl]
theorem lex_D {h : Nat} {r : List Nat} (hD : h ∈ cD) (h0 : h ≠ 48) : lexAt (h :: r) = (("number" : Str), runL cD (h :: r)) := by
  have hd := mem_cD.mp hD
  rw [lexAt_cons, if_neg (fun z => by have := mem_cL.mp z; omega), if_neg h0, if_pos hD]
theorem lex_W {h : Nat} {r : List Nat} (hL : h ∈ cL) : lexAt (h :: r) = if (runL cW (h :: r)).length ≤ 12 then (("word" : Str), runL cW (h :: r)) else ("wrong", []) := by
  rw [lexAt_cons, if_pos hL]
theorem lex_no {h : Nat} {r : List Nat} (hL : h ∉ cL) (hD : h ∉ cD) (hS : h ∉ cS) : lexAt (h :: r) = (("wrong" : Str), []) := by
  rw [lexAt_cons, if_neg hL, if_neg (fun z => hD (mem_cD.mpr (by omega))), if_neg hD, if_neg hS]
theorem run_all (C : List Nat) : ∀ r : List Nat, (runL C r).all (fun c => decide (c ∈ C)) = true
  | [] => rfl
  | c :: r => by
    by_cases h : c ∈ C
    · rw [run_cons h, List.all_cons, run_all C r, decide_eq_true h]; rfl
    · rw [run_no h]; rfl
theorem isWord_run {h : Nat} {r : List Nat} (hL : h ∈ cL) : isWord (runL cW (h :: r)) = decide ((runL cW (h :: r)).length ≤ 12) := by
  have e := run_cons (r := r) (mem_cW.mpr (.inl hL))
  unfold isWord
  rw [run_all]
  have e1 : decide (1 ≤ (runL cW (h :: r)).length) = true := decide_eq_true (by rw [e]; simp)
  have e2 : (runL cW (h :: r)).head? = some h := by rw [e]; rfl
  rw [e1, e2]
  simp [hL]
theorem p_lexeme (ds : List D) (Q : D → Prop) (Qx : Exn → Prop) (h : s_l_lexeme ds Q Qx) : n_l_lexeme { nx := fun _ => Q .non, rt := Q, ex := fun x _ => Qx x } (startE N_l_lexeme ds) := by
  obtain ⟨t, p, rfl, h1, hok, h2, q⟩ := h
  have hl := len_cps t
  obtain ⟨e, he⟩ : ∃ e : Nat, e = p + (runL cG ((cps t).drop p)).length := ⟨_, rfl⟩
  have le : e ≤ t.length := by
    have := run_le cG ((cps t).drop p)
    rw [List.length_drop] at this
    omega
  have q : Q (lawAt ((cps t).drop e) e) := by rw [he]; exact q
  simp [n_l_lexeme, startE, N_l_lexeme, -Array.mem_toList_iff, -Array.getElem?_toList]
  refine ⟨t, _, p, rfl, h1, h2, ?_⟩
  have cast : (((p + (runL (cps (Str.ofString " \n")) ((cps t).drop p)).length : Nat)) : Int) = (e : Int) := by rw [he]; rfl
  rw [cast]
  have at_e : ∀ c, atI t.cps.toList (e : Int) = some c ↔ (cps t)[e]? = some c := fun c => by rw [atI_nat]
  simp [atI_nat, -Array.mem_toList_iff, -Array.getElem?_toList]
  refine ⟨by omega, ?_⟩
  by_cases hlt : e < t.length
  · have hlt' : e < (cps t).length := by omega
    have ge := List.getElem?_eq_getElem hlt'
    rw [drop_at hlt', lawAt_cons] at q
    refine .inl ⟨by omega, by omega, _, ge, ?_⟩
    by_cases hS : (cps t)[e] ∈ cS
    · rw [lex_S hS, if_neg w3] at q
      refine .inr ⟨hS, by omega, _, ge, by omega, _, ge, ?_⟩
      have es : sortOf "sign" (mkS [(cps t)[e]]) = mkS [(cps t)[e]] := by unfold sortOf; rw [if_neg w5, if_neg w6]
      rw [es] at q
      exact q
    · refine .inl ⟨hS, by omega, _, ge, ?_⟩
      by_cases hD : (cps t)[e] ∈ cD
      · refine .inr ⟨hD, by omega, _, ge, ?_⟩
        have en : ∀ w, sortOf "number" w = "N" := fun w => by unfold sortOf; rw [if_neg w4, if_pos rfl]
        by_cases h0 : (cps t)[e] = 48
        · rw [h0, lex_0, if_neg w2, en] at q
          refine .inr ⟨by rw [h0]; exact s0.symm, by omega, ?_⟩
          have ec : cutS t (some (e : Int)) (some ((e : Int) + 1)) = mkS [48] := by
            have := cut_nat (t := t) (p := e) (e := e + 1) (by omega) (by omega)
            rw [show ((e + 1 : Nat) : Int) = (e : Int) + 1 by simp] at this
            rw [this, drop_at hlt', h0]
            simp
          rw [ec]
          exact q
        · rw [lex_D hD h0, if_neg w2, en] at q
          refine .inl ⟨fun z => h0 (one_eq.mp (z.trans s0)), t, _, e, rfl, h1, le, _, rfl, by omega, ?_⟩
          have ee : runL (cps (Str.ofString "0123456789")) ((cps t).drop e) = runL cD ((cps t)[e] :: (cps t).drop (e + 1)) := by rw [drop_at hlt']; rfl
          have := run_le cD ((cps t).drop e)
          rw [List.length_drop] at this
          rw [← drop_at hlt'] at ee q
          rw [ee, cut_nat (by omega) (by omega), Nat.add_sub_cancel_left, ← run_pre]
          exact q
      · refine .inl ⟨hD, by decide +kernel, t, _, e, rfl, h1, le, _, rfl, by omega, ?_⟩
        have ew : cps (Str.ofString "abcdefghijklmnopqrstuvwxyz" ++ Str.ofString "0123456789") = cW := by decide +kernel
        have := run_le cW ((cps t).drop e)
        rw [List.length_drop] at this
        rw [ew, cut_nat (by omega) (by omega), Nat.add_sub_cancel_left, ← run_pre]
        refine ⟨_, rfl, by rw [len_cps, cps_mk]; omega, sub_ok hok, ?_⟩
        rw [cps_mk, drop_at hlt']
        by_cases hL : (cps t)[e] ∈ cL
        · rw [isWord_run hL]
          rw [lex_W hL] at q
          by_cases h12 : (runL cW ((cps t)[e] :: (cps t).drop (e + 1))).length ≤ 12
          · rw [if_pos h12, if_neg w1] at q
            refine .inr ⟨by rw [decide_eq_true h12], ?_⟩
            have es : ∀ w, sortOf "word" w = "W" := fun w => by unfold sortOf; rw [if_pos rfl]
            rw [es] at q
            exact q
          · rw [if_neg h12, if_pos rfl] at q
            exact .inl ⟨by rw [decide_eq_false h12], q⟩
        · rw [lex_no hL hD hS, if_pos rfl] at q
          rw [run_no (fun z => (mem_cW.mp z).elim hL hD)]
          exact .inl ⟨rfl, q⟩
  · have ee : e = t.length := by omega
    have : (cps t).drop e = [] := List.drop_eq_nil_of_le (by omega)
    rw [this] at q
    exact .inr ⟨by omega, q⟩
theorem lex_kind {h : Nat} {r : List Nat} (ne : (lexAt (h :: r)).1 ≠ "wrong") : (lexAt (h :: r)).1 = "word" ∨ (lexAt (h :: r)).1 = "number" ∨ ((lexAt (h :: r)).1 = "sign" ∧ (lexAt (h :: r)).2 = [h] ∧ h ∈ cS) := by
  by_cases hL : h ∈ cL
  · rw [lex_W hL] at ne ⊢
    split at ne
    · rename_i c; rw [if_pos c]; exact .inl rfl
    · exact absurd rfl ne
  · by_cases hD : h ∈ cD
    · by_cases h0 : h = 48
      · subst h0; rw [lex_0]; exact .inr (.inl rfl)
      · rw [lex_D hD h0]; exact .inr (.inl rfl)
    · by_cases hS : h ∈ cS
      · rw [lex_S hS]; exact .inr (.inr ⟨rfl, rfl, hS⟩)
      · rw [lex_no hL hD hS] at ne; exact absurd rfl ne
abbrev kv2 : List (Key × D) := kvD [(Str.ofString "W", Str.ofString "word"), (Str.ofString "N", Str.ofString "number")]
theorem atK_cons {p : Key × D} {r : List (Key × D)} {k : Key} : atK (p :: r) k = if p.1 = k then some p.2 else atK r k := rfl
theorem sort_facts {h : Nat} {r : List Nat} (ne : (lexAt (h :: r)).1 ≠ "wrong") : sortOf (lexAt (h :: r)).1 (mkS (lexAt (h :: r)).2) ≠ "END" ∧ sortOf (lexAt (h :: r)).1 (mkS (lexAt (h :: r)).2) ≠ "none" ∧
    (atK kv2 (.inr (sortOf (lexAt (h :: r)).1 (mkS (lexAt (h :: r)).2)))).getD (.str "sign") = .str (lexAt (h :: r)).1 := by
  have nWN : ¬ (Sum.inr (Str.ofString "W") : Key) = .inr (Str.ofString "N") := key_ne (by decide +kernel)
  rcases lex_kind ne with e | e | ⟨e, e2, hS⟩
  · rw [e]
    have es : ∀ w, sortOf "word" w = "W" := fun w => by unfold sortOf; rw [if_pos rfl]
    rw [es]
    refine ⟨by decide +kernel, by decide +kernel, ?_⟩
    show (atK ((.inr (Str.ofString "W"), .str (Str.ofString "word")) :: _) _).getD _ = _
    rw [atK_cons, if_pos rfl]
    rfl
  · rw [e]
    have en : ∀ w, sortOf "number" w = "N" := fun w => by unfold sortOf; rw [if_neg w4, if_pos rfl]
    rw [en]
    refine ⟨by decide +kernel, by decide +kernel, ?_⟩
    show (atK ((.inr (Str.ofString "W"), .str (Str.ofString "word")) :: (.inr (Str.ofString "N"), .str (Str.ofString "number")) :: _) _).getD _ = _
    rw [atK_cons, if_neg nWN, atK_cons, if_pos rfl]
    rfl
  · rw [e, e2]
    have es : sortOf "sign" (mkS [h]) = mkS [h] := by unfold sortOf; rw [if_neg w5, if_neg w6]
    rw [es]
    have hs := mem_cS.mp hS
    have one : ∀ s : Str, cps s ≠ [h] → mkS [h] ≠ s := fun s n z => n (by rw [← z, cps_mk])
    have eW : cps (Str.ofString "W") = [87] := by decide +kernel
    have eN : cps (Str.ofString "N") = [78] := by decide +kernel
    have nW : mkS [h] ≠ Str.ofString "W" := one _ (by rw [eW]; intro z; cases z; omega)
    have nN : mkS [h] ≠ Str.ofString "N" := one _ (by rw [eN]; intro z; cases z; omega)
    have eE : cps (Str.ofString "END") = [69, 78, 68] := by decide +kernel
    have eo : cps (Str.ofString "none") = [110, 111, 110, 101] := by decide +kernel
    refine ⟨one _ (by rw [eE]; simp), one _ (by rw [eo]; simp), ?_⟩
    show (atK ((.inr (Str.ofString "W"), .str (Str.ofString "word")) :: (.inr (Str.ofString "N"), .str (Str.ofString "number")) :: []) _).getD _ = _
    rw [atK_cons, if_neg (key_ne (Ne.symm nW)), atK_cons, if_neg (key_ne (Ne.symm nN))]
    rfl
theorem lexAt_sub {h : Nat} {t : List Nat} (ne : (lexAt (h :: t)).1 ≠ "wrong") : ∀ x ∈ (lexAt (h :: t)).2, x ∈ h :: t := by
  have pre : ∀ C : List Nat, ∀ x ∈ runL C (h :: t), x ∈ h :: t := fun C x hx => by rw [run_pre] at hx; exact List.mem_of_mem_take hx
  by_cases hL : h ∈ cL
  · rw [lex_W hL]
    split
    · exact pre cW
    · intro x hx; cases hx
  · by_cases hD : h ∈ cD
    · by_cases h0 : h = 48
      · subst h0; rw [lex_0]; intro x hx; rw [List.mem_singleton.mp hx]; exact List.mem_cons_self
      · rw [lex_D hD h0]; exact pre cD
    · by_cases hS : h ∈ cS
      · rw [lex_S hS]; intro x hx; rw [List.mem_singleton.mp hx]; exact List.mem_cons_self
      · rw [lex_no hL hD hS]; intro x hx; cases hx
theorem lexGo_gap : ∀ (l : List Nat) (p n : Nat), l.length + 1 ≤ n → ∃ n', (l.drop (runL cG l).length).length + 1 ≤ n' ∧ lexGo n l p = lexGo n' (l.drop (runL cG l).length) (p + (runL cG l).length)
  | [], p, n, h => ⟨n, by simpa [run_nil] using h, rfl⟩
  | c :: l, p, n, h => by
    by_cases hc : c ∈ cG
    · obtain ⟨m, rfl⟩ : ∃ m, n = m + 1 := ⟨n - 1, by rw [List.length_cons] at h; omega⟩
      rw [List.length_cons] at h
      obtain ⟨n', h1, h2⟩ := lexGo_gap l (p + 1) m (by omega)
      rw [run_cons hc]
      refine ⟨n', by simpa using h1, ?_⟩
      rw [lexGo_cons, if_pos hc, h2]
      simp only [List.length_cons, List.drop_succ_cons]
      congr 1
      omega
    · rw [run_no hc]
      exact ⟨n, by simpa using h, rfl⟩
theorem run_rest (C : List Nat) : ∀ l : List Nat, runL C (l.drop (runL C l).length) = []
  | [] => rfl
  | c :: l => by
    by_cases hc : c ∈ C
    · rw [run_cons hc]; simpa using run_rest C l
    · rw [run_no hc]; simpa using run_no hc
theorem p_due (ds : List D) (Q : D → Prop) (Qx : Exn → Prop) (h : s_l_lexemes_due ds Q Qx) : n_l_lexemes_due { nx := fun _ => Q .non, rt := Q, ex := fun x _ => Qx x } (startE N_l_lexemes_due ds) := by
  obtain ⟨t, rfl, h1, hok, q⟩ := h
  have hl := len_cps t
  simp [n_l_lexemes_due, startE, N_l_lexemes_due, -Array.mem_toList_iff, -Array.getElem?_toList]
  refine ⟨t, 0, rfl, h1, hok, by omega, ?_⟩
  refine ⟨fun j δ => ∃ (p n : Nat) (rows : List D) (a : Option Sl), δ = [some (.d (.str t)), some (.own rows), some (.d (lawLex t p)), a] ∧ p ≤ t.length ∧ j = t.length - p ∧ ((cps t).drop p).length + 1 ≤ n ∧ rows.length ≤ p ∧ lexOf t = (rows ++ (lexGo n ((cps t).drop p) p).1, (lexGo n ((cps t).drop p) p).2), ⟨_, 0, t.length + 1, [], _, rfl, by omega, rfl, by simp [hl], by simp, rfl⟩, ?_⟩
  rintro j δ ⟨p, n, rows, a, rfl, hp, rfl, hn, hr, e0⟩
  obtain ⟨e, he⟩ : ∃ e : Nat, e = p + (runL cG ((cps t).drop p)).length := ⟨_, rfl⟩
  have hx : lawLex t p = lawAt ((cps t).drop e) e := by rw [he]; rfl
  have le : e ≤ t.length := by
    have := run_le cG ((cps t).drop p)
    rw [List.length_drop] at this
    omega
  obtain ⟨n', hn', e1⟩ := lexGo_gap ((cps t).drop p) p n hn
  have rest := run_rest cG ((cps t).drop p)
  rw [List.drop_drop, ← he] at e1 hn' rest
  rw [e1] at e0
  rw [hx]
  by_cases hlt : e < t.length
  · have hlt' : e < (cps t).length := by omega
    have hd : ((cps t).drop (e + 1)).length = t.length - (e + 1) := by rw [List.length_drop, hl]
    obtain ⟨m, rfl⟩ : ∃ m, n' = m + 1 := ⟨n' - 1, by omega⟩
    rw [drop_at hlt'] at e0 rest hn' ⊢
    have ng : (cps t)[e] ∉ cG := fun z => by rw [run_cons z] at rest; cases rest
    rw [lexGo_cons, if_neg ng] at e0
    rw [lawAt_cons]
    by_cases hw : (lexAt ((cps t)[e] :: (cps t).drop (e + 1))).1 = "wrong"
    · rw [if_pos hw] at e0 ⊢
      have n1 : ¬ Str.ofString "none" = Str.ofString "END" := by decide +kernel
      simp [n1]
      unfold toldOf at q
      rw [e0] at q
      exact q
    · rw [if_neg hw] at e0 ⊢
      obtain ⟨f1, f2, f3⟩ := sort_facts hw
      obtain ⟨l1, l2⟩ := lexAt_len hw
      rw [hd] at l2
      generalize (lexAt ((cps t)[e] :: (cps t).drop (e + 1))).1 = K at *
      generalize (lexAt ((cps t)[e] :: (cps t).drop (e + 1))).2 = wd at *
      generalize sortOf K (mkS wd) = S at *
      have lw : (mkS wd).length = wd.length := by rw [len_cps, cps_mk]
      simp [f1, f2, keyD, lw]
      rw [List.length_cons, hd] at hn'
      refine ⟨by omega, by omega, t, e + wd.length, by simp, h1, hok, by omega, t.length - (e + wd.length), by omega, e + wd.length, m, _, ⟨rfl, rfl⟩, by omega, rfl, ?_, ?_, ?_⟩
      · show t.length - (e + wd.length) + 1 ≤ m
        omega
      · rw [List.length_append]
        show rows.length + 1 ≤ _
        omega
      · rw [e0, ← drop_at hlt', List.drop_drop, f3]
        simp [row]
  · have ee : e = t.length := by omega
    have : (cps t).drop e = [] := List.drop_eq_nil_of_le (by omega)
    rw [this] at e0 ⊢
    rw [lexGo_nil] at e0
    simp [lawAt]
    unfold toldOf at q
    rw [e0] at q
    simpa [mFrz, frz] using q
theorem cps_app (a b : Str) : cps (a ++ b) = cps a ++ cps b := by
  show (a.cps ++ b.cps).toList = _
  simp
theorem len_app (a b : Str) : (a ++ b).length = a.length + b.length := by rw [len_cps, cps_app, List.length_append, ← len_cps, ← len_cps]
theorem cond_may {a b : Str} {s l t g : Option Sl} {Q : Bool → Prop} {X : Exn → Prop} (h0 : 0 < b.length) (hb : b.length ≤ 40) (ha : a.length ≤ 40) (h : Q (may a b)) :
    mOr (mNot (mTest (mM0 (fun s => D.bl (Txt.isalnum s)) (mOp addD (mO 3) (mO 4)))))
      (mOr (mTest (mOp eqD (mO 3) (mC (D.str (Str.ofString "0")))))
        (mAnd (mTest (mM0 (fun s => D.bl (Txt.isdigit s)) (mV 3))) (mNot (mTest (mM0 (fun s => D.bl (Txt.isdigit s)) (mOp idxD (mO 4) (mC (D.int 0))))))))
      [s, l, t, some (.d (.str a)), some (.d (.str b)), g] Q X := by
  obtain ⟨c0, r0, hb0⟩ : ∃ c0 r0, cps b = c0 :: r0 := by
    cases e : cps b with
    | nil => rw [len_cps, e] at h0; cases h0
    | cons c r => exact ⟨c, r, rfl⟩
  have ec : atI (cps b) 0 = some c0 := by rw [hb0]; simp
  have et : mkS ((cps b).take 1) = ⟨#[c0]⟩ := by rw [hb0]; rfl
  unfold may at h
  rw [et] at h
  simp [-Array.mem_toList_iff, -Array.getElem?_toList]
  refine ⟨by omega, ?_⟩
  cases c1 : Txt.isalnum (a ++ b) with
  | false =>
    rw [c1] at h
    simpa using h
  | true =>
    rw [c1] at h
    simp only [Bool.not_true, Bool.false_or] at h
    by_cases c2 : a = "0"
    · rw [decide_eq_true c2, Bool.true_or] at h
      exact .inr ⟨c2, h⟩
    · rw [decide_eq_false c2, Bool.false_or] at h
      refine .inl ⟨c2, ?_⟩
      cases c3 : Txt.isdigit a with
      | false =>
        rw [c3, Bool.false_and] at h
        simpa using h
      | true =>
        rw [c3, Bool.true_and] at h
        simp
        exact ⟨by omega, c0, ec, h⟩
def tG1 : List Str := [Str.ofString " ", Str.ofString "\n", Str.ofString " \n  "]
theorem gap_in {g : Str} (h : g ∈ tG1) : gapL (cps g) ∧ cps g ≠ [] ∧ g.length ≤ 4 := by
  unfold tG1 at h
  simp only [List.mem_cons, List.not_mem_nil, or_false] at h
  have ok : ∀ x : Str, (cps x).length ≤ 4 → ((cps x).all fun c => decide (c ∈ cG)) = true → gapL (cps x) := fun x h1 h2 => ⟨h1, fun c hc => of_decide_eq_true (List.all_eq_true.mp h2 c hc)⟩
  rcases h with h | h | h <;> subst h <;> exact ⟨ok _ (by decide +kernel) (by decide +kernel), by decide +kernel, by decide +kernel⟩
theorem gap_end {g : Str} (h : g ∈ [Str.ofString "", Str.ofString " ", Str.ofString "\n", Str.ofString "\n\n"]) : gapL (cps g) ∧ g.length ≤ 4 := by
  simp only [List.mem_cons, List.not_mem_nil, or_false] at h
  have ok : ∀ x : Str, (cps x).length ≤ 4 → ((cps x).all fun c => decide (c ∈ cG)) = true → gapL (cps x) := fun x h1 h2 => ⟨h1, fun c hc => of_decide_eq_true (List.all_eq_true.mp h2 c hc)⟩
  rcases h with h | h | h | h <;> subst h <;> exact ⟨ok _ (by decide +kernel) (by decide +kernel), by decide +kernel⟩
theorem gapL_nil : gapL (cps (Str.ofString "")) ∧ cps (Str.ofString "") = [] := by
  have e : cps (Str.ofString "") = [] := by decide +kernel
  rw [e]
  exact ⟨⟨by simp, by simp⟩, rfl⟩
def spBody : MS := mSeq (mSet 5 (mN (mLst (mCons (mC (D.str (Str.ofString " "))) (mCons (mC (D.str (Str.ofString "\n"))) (mCons (mC (D.str (Str.ofString " \n  "))) mNil))))))
          (mSeq
            (mIfS
              (mOr (mNot (mTest (mM0 (fun s => D.bl (Txt.isalnum s)) (mOp addD (mO 3) (mO 4)))))
                (mOr (mTest (mOp eqD (mO 3) (mC (D.str (Str.ofString "0")))))
                  (mAnd (mTest (mM0 (fun s => D.bl (Txt.isdigit s)) (mV 3)))
                    (mNot (mTest (mM0 (fun s => D.bl (Txt.isdigit s)) (mOp idxD (mO 4) (mC (D.int 0)))))))))
              (mSet 5
                (mOp addD (mO 5)
                  (mN
                    (mLst
                      (mCons (mC (D.str (Str.ofString "")))
                        (mCons (mC (D.str (Str.ofString ""))) (mCons (mC (D.str (Str.ofString ""))) mNil)))))))
              mNext)
            (mPar 2 3 (mSD (mOp addD (mOp addD (mO 2) (mCall s_l_of (mCons (mV 0) (mCons (mV 5) mNil)))) (mO 4)))
              (mSD (mV 4))))
theorem sp_body {P : PD} {l c : Option Sl} {X last b : Str} (hb1 : 0 < b.length) (hb2 : b.length ≤ 40) (hl : last.length ≤ 40) (hX : X.length ≤ 3000)
    (step : ∀ g : Str, gapL (cps g) → g.length ≤ 4 → (cps g = [] → may last b = true) → ∀ c', P.nx [some (.d .src), l, some (.d (.str (X ++ g ++ b))), some (.d (.str b)), some (.d (.str b)), c']) :
    spBody P [some (.d .src), l, some (.d (.str X)), some (.d (.str last)), some (.d (.str b)), c] := by
  have stepG : ∀ g ∈ tG1, ∀ c', P.nx [some (.d .src), l, some (.d (.str (X ++ g ++ b))), some (.d (.str b)), some (.d (.str b)), c'] := fun g hg c' =>
    let ⟨h1, h2, h3⟩ := gap_in hg; step g h1 h3 (fun z => absurd z h2) c'
  unfold spBody
  simp only [mSeq, mSet, mN, mLst, mCons, mC, mNil]
  refine ⟨by simp, ?_⟩
  show mIfS _ _ _ _ [some (.d .src), l, some (.d (.str X)), some (.d (.str last)), some (.d (.str b)), some (.d (.lst (tG1.map .str)))]
  unfold mIfS
  refine cond_may hb1 hb2 hl ?_
  have add : ∀ g : Str, g.length ≤ 4 → X.length + g.length ≤ 1000000 ∧ (X ++ g).length + b.length ≤ 1000000 := fun g hg => ⟨by omega, by rw [len_app]; omega⟩
  have l1 := add (Str.ofString " ") (by decide +kernel)
  have l2 := add (Str.ofString "\n") (by decide +kernel)
  have l3 := add (Str.ofString " \n  ") (by decide +kernel)
  have l0 := add (Str.ofString "") (by decide +kernel)
  have g1 := stepG (Str.ofString " ") (by simp [tG1])
  have g2 := stepG (Str.ofString "\n") (by simp [tG1])
  have g3 := stepG (Str.ofString " \n  ") (by simp [tG1])
  cases hm : may last b with
  | true =>
    have g0 := step (Str.ofString "") gapL_nil.1 (by decide +kernel) (fun _ => hm)
    simp [tG1]
    refine ⟨_, rfl, by simp, by simp, ?_⟩
    simp
    exact ⟨⟨l1.1, l1.2, g1 _⟩, ⟨l2.1, l2.2, g2 _⟩, ⟨l3.1, l3.2, g3 _⟩, ⟨l0.1, l0.2, g0 _⟩⟩
  | false =>
    simp [tG1]
    refine ⟨_, rfl, by simp, by simp, ?_⟩
    simp
    exact ⟨⟨l1.1, l1.2, g1 _⟩, ⟨l2.1, l2.2, g2 _⟩, ⟨l3.1, l3.2, g3 _⟩⟩
theorem spaced_go {P : PD} {l : Option Sl} {Q : D → Prop} (hP : ∀ (X : Str) (a b c : Option Sl), X.length ≤ 3000 → (∀ g : Str, gapL (cps g) → g.length ≤ 4 → Q (.str (X ++ g))) → P.nx [some (.d .src), l, some (.d (.str X)), a, b, c]) :
    ∀ (bs : List Str) (X last : Str) (a c : Option Sl), last.length ≤ 40 → (∀ b ∈ bs, 0 < b.length ∧ b.length ≤ 40) → X.length + 44 * bs.length ≤ 3000 →
      (∀ t : Str, t.length ≤ X.length + 44 * bs.length + 4 → (∃ r, cps t = cps X ++ r ∧ Spaced last bs r) → Q (.str t)) →
      forGo (mgN 4) spBody P (bs.map .str) [some (.d .src), l, some (.d (.str X)), some (.d (.str last)), a, c]
  | [], X, last, a, c, hl, hbs, hX, hq => hP X _ _ _ (by simpa using hX) fun g hg h4 => hq _ (by rw [len_app]; omega) ⟨cps g, cps_app X g, .nil hg⟩
  | b :: bs, X, last, a, c, hl, hbs, hX, hq => by
    obtain ⟨hb1, hb2⟩ := hbs b List.mem_cons_self
    rw [List.length_cons] at hX hq
    refine sp_body (P := { nx := forGo (mgN 4) spBody P (bs.map .str), rt := P.rt, bk := P.nx, ct := forGo (mgN 4) spBody P (bs.map .str), ex := P.ex, rtn := P.rtn, rtl := P.rtl }) hb1 hb2 hl (by omega) fun g hg h4 hm c' => ?_
    exact spaced_go hP bs (X ++ g ++ b) b _ _ hb2 (fun x hx => hbs x (List.mem_cons_of_mem _ hx)) (by rw [len_app, len_app]; omega) fun t ht ⟨r, hr, hs⟩ =>
        hq t (by rw [len_app, len_app] at ht; omega) ⟨cps g ++ cps b ++ r, by rw [hr, cps_app, cps_app]; simp, .cons hg hm hs⟩
theorem p_spaced (ds : List D) (Q : D → Prop) (Qx : Exn → Prop) (h : s_l_spaced ds Q Qx) : n_l_spaced { nx := fun _ => Q .non, rt := Q, ex := fun x _ => Qx x } (startE N_l_spaced ds) := by
  obtain ⟨bs, rfl, h1, h2, q⟩ := h
  have fin : ∀ g ∈ [Str.ofString "", Str.ofString " ", Str.ofString "\n\n"], ∀ (l : Option Sl) (a c : Option Sl), forGo (mgN 4) spBody { nx := mRet (mOp addD (mO 2) (mCall s_l_of (mCons (mV 0) (mCons (mN (mLst (mCons (mC (D.str (Str.ofString ""))) (mCons (mC (D.str (Str.ofString " "))) (mCons (mC (D.str (Str.ofString "\n"))) mNil))))) mNil)))) { nx := fun _ => Q .non, rt := Q, ex := fun x _ => Qx x }, rt := Q, ex := fun x _ => Qx x } (bs.map .str) [some (.d .src), l, some (.d (.str g)), some (.d (.str (Str.ofString "("))), a, c] := by
    intro g hg l a c
    have hg' : g ∈ [Str.ofString "", Str.ofString " ", Str.ofString "\n", Str.ofString "\n\n"] := by
      simp only [List.mem_cons, List.not_mem_nil, or_false] at hg ⊢
      rcases hg with h | h | h <;> simp [h]
    obtain ⟨hg1, hg2⟩ := gap_end hg'
    refine spaced_go (fun X a b c hX hr => ?_) bs g _ _ _ (by decide +kernel) h2 (by omega) fun t ht ⟨r, hr, hs⟩ => q t (by omega) ⟨cps g, r, hr, hg1, hs⟩
    have e1 := gap_end (g := Str.ofString "") (by simp)
    have e2 := gap_end (g := Str.ofString " ") (by simp)
    have e3 := gap_end (g := Str.ofString "\n") (by simp)
    simp
    refine ⟨_, rfl, by simp, by simp, ?_⟩
    simp
    exact ⟨⟨by have := e1.2; omega, hr _ e1.1 e1.2⟩, ⟨by have := e2.2; omega, hr _ e2.1 e2.2⟩, ⟨by have := e3.2; omega, hr _ e3.1 e3.2⟩⟩
  unfold n_l_spaced
  rw [mSeq]
  show mPar 2 3 _ _ _ _
  simp only [mPar, mSD, mCall, mCons, mV, mNil, mN, mLst, mC, startE, N_l_spaced]
  refine ⟨by decide, [D.str (Str.ofString ""), D.str (Str.ofString " "), D.str (Str.ofString "\n\n")], rfl, by decide, by decide, fun d hd => ?_⟩
  simp only [List.mem_cons, List.not_mem_nil, or_false] at hd
  rcases hd with hd | hd | hd <;> subst hd
  · exact fin _ (by simp) _ _ _
  · exact fin _ (by simp) _ _ _
  · exact fin _ (by simp) _ _ _
end Ct.K6

set_option Elab.async false
set_option linter.all false
set_option maxRecDepth 100000
set_option maxHeartbeats 4000000
namespace Ct.K6
open PySem PySem.Spec PyProof.Rows L2 Ct
/-! ### texts of lexemes give their lexemes back -/
def tok30 : Str := toString ((10 : Int) ^ 30)
def toks : List Str := ["a", "x1", "abcdefghijkl", "map", "0", "7", "10", "305", tok30, "(", ")", "{", "}", ",", ";"]
def ext (b : Str) : List Nat := match cps b with
  | [] => []
  | h :: _ => if h ∈ cL then cW else if h = 48 then [] else if h ∈ cD then cD else []
def tokOk (b : Str) : Bool := match cps b with
  | [] => false
  | h :: t => !decide (h ∈ cG) && ((decide (h ∈ cL) && t.all (fun c => decide (c ∈ cW)) && decide (t.length ≤ 11)) || (decide (h = 48) && t.isEmpty) || (decide (h ∈ cD) && decide (h ≠ 48) && t.all fun c => decide (c ∈ cD)) || (decide (h ∈ cS) && t.isEmpty))
theorem toks_ok : (toks.all tokOk) = true := by decide +kernel
theorem toks_len : (toks.all fun b => decide (0 < b.length) && decide (b.length ≤ 40) && PyData.strOk b) = true := by decide +kernel
theorem toks_may : (toks.all fun a => toks.all fun b => !may a b || !(ext a).contains ((cps b).headD 0)) = true := by decide +kernel
theorem run_app {C w r : List Nat} (h1 : ∀ c ∈ w, c ∈ C) (h2 : ∀ c ∈ r.head?, c ∉ C) : runL C (w ++ r) = w := by
  induction w with
  | nil =>
    cases r with
    | nil => rfl
    | cons c r => exact run_no (h2 c rfl)
  | cons c w ih =>
    rw [List.cons_append, run_cons (h1 c List.mem_cons_self), ih fun x hx => h1 x (List.mem_cons_of_mem _ hx)]
theorem tok_lex {b : Str} {r : List Nat} (hb : tokOk b = true) (hr : ∀ c ∈ r.head?, c ∉ ext b) : ∃ h t k, cps b = h :: t ∧ h ∉ cG ∧ lexAt (h :: (t ++ r)) = (k, cps b) ∧ k ≠ "wrong" := by
  unfold tokOk at hb
  unfold ext at hr
  cases e : cps b with
  | nil => rw [e] at hb; cases hb
  | cons h t =>
    rw [e] at hb hr
    simp only [Bool.and_eq_true, Bool.or_eq_true, Bool.not_eq_true', decide_eq_false_iff_not, decide_eq_true_eq, List.all_eq_true, List.isEmpty_iff] at hb hr
    obtain ⟨hg, hb⟩ := hb
    have app : ∀ C, (h ∈ C) → (∀ c ∈ t, c ∈ C) → (∀ c ∈ r.head?, c ∉ C) → runL C (h :: (t ++ r)) = h :: t := fun C h1 h2 h3 => run_app (w := h :: t) (fun c hc => (List.mem_cons.mp hc).elim (fun z => z ▸ h1) (h2 c)) h3
    rcases hb with ((⟨⟨hL, ht⟩, hl⟩ | ⟨h0, ht⟩) | ⟨⟨hD, h0⟩, ht⟩) | ⟨hS, ht⟩
    · rw [if_pos hL] at hr
      have er := app cW (mem_cW.mpr (.inl hL)) ht hr
      refine ⟨h, t, "word", rfl, hg, ?_, w1⟩
      rw [lex_W hL, er, if_pos (by rw [List.length_cons]; omega)]
    · subst h0
      subst ht
      exact ⟨48, [], "number", rfl, hg, lex_0, w2⟩
    · have nL : h ∉ cL := fun z => by have := mem_cL.mp z; have := mem_cD.mp hD; omega
      rw [if_neg nL, if_neg h0, if_pos hD] at hr
      have er := app cD hD ht hr
      refine ⟨h, t, "number", rfl, hg, ?_, w2⟩
      rw [lex_D hD h0, er]
    · subst ht
      exact ⟨h, [], "sign", rfl, hg, lex_S hS, w3⟩
theorem gaps_go : ∀ (g r : List Nat) (p n : Nat), (∀ c ∈ g, c ∈ cG) → g.length + r.length + 1 ≤ n → ∃ n', r.length + 1 ≤ n' ∧ lexGo n (g ++ r) p = lexGo n' r (p + g.length)
  | [], r, p, n, _, h => ⟨n, by simpa using h, rfl⟩
  | c :: g, r, p, n, hg, h => by
    rw [List.length_cons] at h
    obtain ⟨m, rfl⟩ : ∃ m, n = m + 1 := ⟨n - 1, by omega⟩
    obtain ⟨n', h1, h2⟩ := gaps_go g r (p + 1) m (fun x hx => hg x (List.mem_cons_of_mem _ hx)) (by omega)
    refine ⟨n', h1, ?_⟩
    rw [List.cons_append, lexGo_cons, if_pos (hg c List.mem_cons_self), h2, List.length_cons]
    congr 1
    omega
/-- one row for each lexeme -/
inductive RowsOf : List D → List Str → Prop where
  | nil : RowsOf [] []
  | cons {k b : Str} {p : Nat} {ds : List D} {bs : List Str} : RowsOf ds bs → RowsOf (row k (cps b) p :: ds) (b :: bs)
theorem spaced_head {a : Str} {bs : List Str} {r : List Nat} (s : Spaced a bs r) (ha : a ∈ toks) (hbs : ∀ b ∈ bs, b ∈ toks) : ∀ c ∈ r.head?, c ∉ ext a := by
  have gapno : ∀ c ∈ cG, c ∉ ext a := fun c hc => by
    have hc' := mem_cG.mp hc
    have nW : c ∉ cW := fun z => (mem_cW.mp z).elim (fun z => by have := mem_cL.mp z; omega) fun z => by have := mem_cD.mp z; omega
    have nD : c ∉ cD := fun z => by have := mem_cD.mp z; omega
    unfold ext
    split
    · simp
    · split
      · exact nW
      · split
        · simp
        · split
          · exact nD
          · simp
  cases s with
  | nil hg => exact fun c hc => gapno c (hg.2 c (List.mem_of_mem_head? hc))
  | @cons _ b bs g r' hg hm s =>
    intro c hc
    cases g with
    | cons x g =>
      have : c = x := by simpa using hc.symm
      rw [this]
      exact gapno x (hg.2 x List.mem_cons_self)
    | nil =>
      have m := hm rfl
      have hb := hbs b List.mem_cons_self
      have ok := List.all_eq_true.mp toks_ok b hb
      have ck := List.all_eq_true.mp (List.all_eq_true.mp toks_may a ha) b hb
      rw [m] at ck
      cases e : cps b with
      | nil => unfold tokOk at ok; rw [e] at ok; cases ok
      | cons h t =>
        rw [e] at hc ck
        have : c = h := by simpa using hc.symm
        subst this
        simpa using ck
theorem spaced_lex {a : Str} {bs : List Str} {r : List Nat} (s : Spaced a bs r) : (∀ b ∈ bs, b ∈ toks) → ∀ n p, r.length + 1 ≤ n → ∃ rows, lexGo n r p = (rows, none) ∧ RowsOf rows bs := by
  induction s with
  | @nil a g hg =>
    intro _ n p hn
    obtain ⟨n', _, h2⟩ := gaps_go g [] p n hg.2 (by simpa using hn)
    rw [List.append_nil] at h2
    exact ⟨[], by rw [h2, lexGo_nil], .nil⟩
  | @cons a b bs g r hg hm s ih =>
    intro hbs n p hn
    have hb := hbs b List.mem_cons_self
    have ok := List.all_eq_true.mp toks_ok b hb
    obtain ⟨h, t, k, e, ng, el, nw⟩ := tok_lex (r := r) ok (spaced_head s hb fun x hx => hbs x (List.mem_cons_of_mem _ hx))
    rw [List.append_assoc] at hn ⊢
    obtain ⟨n', h1, h2⟩ := gaps_go g (cps b ++ r) p n hg.2 (by rw [List.length_append] at hn; omega)
    obtain ⟨m, rfl⟩ : ∃ m, n' = m + 1 := ⟨n' - 1, by omega⟩
    rw [List.length_append] at h1
    have hl : 1 ≤ (cps b).length := by rw [e]; simp
    obtain ⟨rows, h3, h4⟩ := ih (fun x hx => hbs x (List.mem_cons_of_mem _ hx)) m (p + g.length + (cps b).length) (by omega)
    refine ⟨row k (cps b) (p + g.length) :: rows, ?_, .cons h4⟩
    rw [h2]
    have e2 : cps b ++ r = h :: (t ++ r) := by rw [e]; rfl
    rw [e2, lexGo_cons, if_neg ng, el, if_neg nw]
    simp only
    have e3 : (h :: (t ++ r)).drop (cps b).length = r := by rw [← e2]; simp
    rw [e3, h3]
theorem text_lex {t : Str} {bs : List Str} (hbs : ∀ b ∈ bs, b ∈ toks) (h : ∃ g r, cps t = g ++ r ∧ gapL g ∧ Spaced "(" bs r) : ∃ rows, lexOf t = (rows, none) ∧ RowsOf rows bs := by
  obtain ⟨g, r, e, hg, s⟩ := h
  obtain ⟨n', h1, h2⟩ := gaps_go g r 0 (t.length + 1) hg.2 (by rw [len_cps, e, List.length_append]; omega)
  obtain ⟨rows, h3, h4⟩ := spaced_lex s hbs n' (0 + g.length) h1
  refine ⟨rows, ?_, h4⟩
  unfold lexOf
  rw [e, h2, h3]
end Ct.K6

set_option Elab.async false
set_option linter.all false
set_option maxRecDepth 100000
set_option maxHeartbeats 4000000
namespace Ct.K6
open PySem PySem.Spec PyProof.Rows L2 Ct
theorem plain_told {t : Str} {Q : D → Prop} {X : Exn → Prop} (h : t.length ≤ 100000) (q : Q (toldOf t)) : plainS s_l_told [.str t] Q X := by
  refine ⟨t, rfl, h, ?_⟩
  cases (lexOf t).2 with
  | none => exact q
  | some p => exact q
theorem t1 : toldOf "12ab 007" = .lst [.str "told", .lst [.tup [.str "number", .str "12", .int 0], .tup [.str "word", .str "ab", .int 2], .tup [.str "number", .str "0", .int 5], .tup [.str "number", .str "0", .int 6], .tup [.str "number", .str "7", .int 7]]] := by kernel_rfl
theorem t2 : toldOf "" = .lst [.str "told", .lst []] := by kernel_rfl
theorem t3 : toldOf " \n " = .lst [.str "told", .lst []] := by kernel_rfl
theorem r1 : toldOf "abX" = .lst [.str "refused", .int 2] := by kernel_rfl
theorem r2 : toldOf "a abcdefghijklm b" = .lst [.str "refused", .int 2] := by kernel_rfl
theorem r3 : toldOf "1abcdefghijklm" = .lst [.str "refused", .int 1] := by kernel_rfl
theorem r4 : toldOf "\t" = .lst [.str "refused", .int 0] := by kernel_rfl
theorem r5 : toldOf "a\tb" = .lst [.str "refused", .int 1] := by kernel_rfl
theorem r6 : toldOf "abcdefghijklm #" = .lst [.str "refused", .int 0] := by kernel_rfl
theorem r7 : toldOf "# a" = .lst [.str "refused", .int 0] := by kernel_rfl
theorem r8 : toldOf "a[" = .lst [.str "refused", .int 1] := by kernel_rfl
theorem r9 : toldOf "0a_" = .lst [.str "refused", .int 2] := by kernel_rfl
theorem t4 : toldOf "a(b,c);{}" = .lst [.str "told", .lst [.tup [.str "word", .str "a", .int 0], .tup [.str "sign", .str "(", .int 1], .tup [.str "word", .str "b", .int 2], .tup [.str "sign", .str ",", .int 3], .tup [.str "word", .str "c", .int 4], .tup [.str "sign", .str ")", .int 5], .tup [.str "sign", .str ";", .int 6], .tup [.str "sign", .str "{", .int 7], .tup [.str "sign", .str "}", .int 8]]] := by kernel_rfl
def toldF : D → D
  | .str s => toldOf s
  | _ => .non
theorem p_hand (ds : List D) (Q : D → Prop) (Qx : Exn → Prop) (h : s_l_hand_right ds Q Qx) : n_l_hand_right { nx := fun _ => Q .non, rt := Q, ex := fun x _ => Qx x } (startE N_l_hand_right ds) := by
  obtain ⟨rfl, q⟩ := h
  unfold n_l_hand_right
  have st : startE N_l_hand_right [] = [none, none, none, none] := rfl
  rw [st]
  refine seq_i (set_i (d := .lst [.tup [.str "number", .str "12", .int 0], .tup [.str "word", .str "ab", .int 2], .tup [.str "number", .str "0", .int 5], .tup [.str "number", .str "0", .int 6], .tup [.str "number", .str "7", .int 7]]) (fun Q X q => by simpa using q) ?_)
  dsimp only [List.set]
  refine seq_i (if_f (fun Q X q => ?_) ?_)
  · simp only [mTest, mOp, mN, mLc, mIt, itD, mLst, mCons, mC, mNil]
    refine ⟨by simp, lc_map toldF _ (fun d hd R Z r => ?_) (by simp) ?_⟩
    · simp only [List.mem_cons, List.not_mem_nil, or_false] at hd
      rcases hd with hd | hd | hd <;> subst hd <;> exact plain_told (X := noX) (by decide +kernel) r
    · refine ⟨by simp, by simp, by simp, by simp, by simp, ?_⟩
      simp only [List.map_cons, List.map_nil, toldF]
      rw [t1, t2, t3]
      refine ⟨by simp, ?_⟩
      refine eqG_refl (n := not) (k := 6) ?_ (by decide) ?_
      · exact pd_of _ _ (by decide +kernel)
      · exact ⟨_, rfl, q⟩
  dsimp only
  refine seq_i (set_i (d := .lst [.tup [.str "abX", .int 2], .tup [.str "a abcdefghijklm b", .int 2], .tup [.str "1abcdefghijklm", .int 1], .tup [.str "\t", .int 0], .tup [.str "a\tb", .int 1], .tup [.str "abcdefghijklm #", .int 0]]) (fun Q X q => by simpa using q) ?_)
  dsimp only [List.set]
  refine seq_i (if_f (fun Q X q => ?_) ?_)
  · simp only [mTest, mOp, mN, mLc, mIt, itD, mLst, mCons, mC, mNil, mTup, mO, addD, List.getElem?_cons_succ, List.getElem?_cons_zero]
    refine ⟨by simp, by simp, by simp, by simp, by simp, lc_none _ (fun d hd R Z z => ?_) (by simp) ⟨by simp, ?_⟩⟩
    · have go : ∀ (s : Str) (p : Nat), d = .tup [.str s, .int (p : Int)] → toldOf s = .lst [.str "refused", .int (p : Int)] → s.length ≤ 100000 → p < 1000 → (mgTup 2 (mgCons (mgN 2) (mgCons (mgN 3) mgNil))) d (wipeE [some (.d (.lst [.tup [.str "number", .str "12", .int 0], .tup [.str "word", .str "ab", .int 2], .tup [.str "number", .str "0", .int 5], .tup [.str "number", .str "0", .int 6], .tup [.str "number", .str "7", .int 7]])), some (.d (.lst [.tup [.str "abX", .int 2], .tup [.str "a abcdefghijklm b", .int 2], .tup [.str "1abcdefghijklm", .int 1], .tup [.str "\t", .int 0], .tup [.str "a\tb", .int 1], .tup [.str "abcdefghijklm #", .int 0]])), none, none] [2, 3]) (fun δ2 => (mTest (mOp neD (mCall (plainS s_l_told) (mCons (mV 2) mNil)) (mN (mLst (mCons (mC (.str "refused")) (mCons (mV 3) mNil)))))) δ2 (fun b => if b = true then (mC (.int 1)) δ2 R noX else Z) noX) := by
        intro s p ed e hl hp
        refine ⟨[.str s, .int (p : Int)], ed, rfl, _, _, rfl, _, _, rfl, rfl, ?_⟩
        refine plain_told (X := noX) (Q := fun x => ((mN (mLst (mCons (mC (.str "refused")) (mCons (mV 3) mNil)))) [some (.d (.lst [.tup [.str "number", .str "12", .int 0], .tup [.str "word", .str "ab", .int 2], .tup [.str "number", .str "0", .int 5], .tup [.str "number", .str "0", .int 6], .tup [.str "number", .str "7", .int 7]])), some (.d (.lst [.tup [.str "abX", .int 2], .tup [.str "a abcdefghijklm b", .int 2], .tup [.str "1abcdefghijklm", .int 1], .tup [.str "\t", .int 0], .tup [.str "a\tb", .int 1], .tup [.str "abcdefghijklm #", .int 0]])), some (.d (.str s)), some (.d (.int (p : Int)))] (fun y => neD x y (fun d => ∃ b, d = .bl b ∧ if b = true then R (.int 1) else Z)) noX)) hl ?_
        rw [e]
        refine ⟨by simp, ?_⟩
        refine eqG_refl (k := 2) (fun d hd => ?_) (by decide) ⟨_, rfl, ?_⟩
        · simp only [List.mem_cons, List.not_mem_nil, or_false] at hd
          rcases hd with hd | hd <;> subst hd
          · exact (show PyData.strOk _ = true by decide +kernel)
          · show (p : Int).natAbs < 2 ^ 64
            omega
        · show if (!true) = true then _ else _
          rw [if_neg (by decide)]
          exact z
      simp only [List.cons_append, List.nil_append, List.mem_cons, List.not_mem_nil, or_false] at hd
      rcases hd with hd | hd | hd | hd | hd | hd | hd | hd | hd
      · exact go _ 2 hd r1 (by decide +kernel) (by decide)
      · exact go _ 2 hd r2 (by decide +kernel) (by decide)
      · exact go _ 1 hd r3 (by decide +kernel) (by decide)
      · exact go _ 0 hd r4 (by decide +kernel) (by decide)
      · exact go _ 1 hd r5 (by decide +kernel) (by decide)
      · exact go _ 0 hd r6 (by decide +kernel) (by decide)
      · exact go _ 0 hd r7 (by decide +kernel) (by decide)
      · exact go _ 1 hd r8 (by decide +kernel) (by decide)
      · exact go _ 2 hd r9 (by decide +kernel) (by decide)
    · exact ⟨.list [], .list [], rfl, rfl, by decide +kernel, by decide +kernel, ⟨_, rfl, q⟩⟩
  dsimp only
  refine seq_i (set_i (d := .lst [.tup [.str "word", .str "a", .int 0], .tup [.str "sign", .str "(", .int 1], .tup [.str "word", .str "b", .int 2], .tup [.str "sign", .str ",", .int 3], .tup [.str "word", .str "c", .int 4], .tup [.str "sign", .str ")", .int 5]]) (fun Q X q => by simpa using q) ?_)
  dsimp only [List.set]
  refine seq_i (set_i (d := .lst [.tup [.str "word", .str "a", .int 0], .tup [.str "sign", .str "(", .int 1], .tup [.str "word", .str "b", .int 2], .tup [.str "sign", .str ",", .int 3], .tup [.str "word", .str "c", .int 4], .tup [.str "sign", .str ")", .int 5], .tup [.str "sign", .str ";", .int 6], .tup [.str "sign", .str "{", .int 7], .tup [.str "sign", .str "}", .int 8]]) (fun Q X q => by simpa using q) ?_)
  dsimp only [List.set]
  refine ret_i (d := .bl true) (fun Q X q => ?_) q
  simp only [mOp, mCall, mCons, mC, mNil, mN, mLst, mV, List.getElem?_cons_succ, List.getElem?_cons_zero]
  refine plain_told (t := "a(b,c);{}") (by decide +kernel) ?_
  rw [t4]
  refine ⟨by simp, ?_⟩
  refine eqG_refl (n := id) (k := 6) ?_ (by decide) ?_
  · exact pd_of _ _ (by decide +kernel)
  · exact q
end Ct.K6

set_option Elab.async false
set_option linter.all false
set_option maxRecDepth 100000
set_option maxHeartbeats 4000000
namespace Ct.K6
open PySem PySem.Spec PyProof.Rows L2 Ct
/-! ### the law -/
/-- a comprehension whose items may be any of some -/
theorem lc_any {g : MG} {me : M} {Q : List D → Prop} {δw : Ev} (S : D → Prop) : ∀ (ds acc : List D),
    (∀ d ∈ ds, ∀ (R : D → Prop), (∀ y, S y → R y) → g d δw (fun δ2 => me δ2 R noX)) → acc.length + ds.length ≤ 999999 → (∀ ys : List D, ys.length = ds.length → (∀ y ∈ ys, S y) → Q (acc ++ ys)) → lcGo g mYes me Q δw ds acc
  | [], acc, _, _, q => by
    have := q [] rfl (fun _ h => by cases h)
    rw [List.append_nil] at this
    exact this
  | d :: ds, acc, h, hl, q => by
    rw [List.length_cons] at hl
    refine h d List.mem_cons_self (fun y => acc.length < 1000000 ∧ lcGo g mYes me Q δw ds (acc ++ [y])) fun y hy => ⟨by omega, ?_⟩
    refine lc_any S ds (acc ++ [y]) (fun x hx => h x (List.mem_cons_of_mem _ hx)) (by rw [List.length_append, List.length_singleton]; omega) fun ys hl hys => ?_
    rw [List.append_assoc]
    exact q (y :: ys) (by rw [List.length_cons, hl]; rfl) fun z hz => (List.mem_cons.mp hz).elim (fun e => e ▸ hy) (hys z)
def odds : List Str := ["A", "Z9", "-", "_", "#", ".", "[", "]", ":", "'", "\t", "a\t", "aB", "a-b", "0a", "~", "1_", "abcdefghijklm", "9abcdefghijklm", "abcdefghijkl0"]
theorem odds_len : (odds.all fun b => decide (0 < b.length) && decide (b.length ≤ 40) && PyData.strOk b) = true := by decide +kernel
def okB (b : Str) : Prop := 0 < b.length ∧ b.length ≤ 40 ∧ PyData.strOk b = true
theorem ok_tok {b : Str} (h : b ∈ toks) : okB b := by
  have := List.all_eq_true.mp toks_len b h
  simp only [Bool.and_eq_true, decide_eq_true_eq] at this
  exact ⟨this.1.1, this.1.2, this.2⟩
theorem ok_odd {b : Str} (h : b ∈ odds) : okB b := by
  have := List.all_eq_true.mp odds_len b h
  simp only [Bool.and_eq_true, decide_eq_true_eq] at this
  exact ⟨this.1.1, this.1.2, this.2⟩
theorem spaced_ok {a : Str} {bs : List Str} {r : List Nat} (s : Spaced a bs r) : (∀ b ∈ bs, okB b) → ∀ c ∈ r, c < 1114112 := by
  have gap : ∀ g, gapL g → ∀ c ∈ g, c < 1114112 := fun g hg c hc => by have := mem_cG.mp (hg.2 c hc); omega
  induction s with
  | nil hg => exact fun _ => gap _ hg
  | @cons a b bs g r hg hm s ih =>
    intro h c hc
    rcases List.mem_append.mp hc with hc | hc
    · rcases List.mem_append.mp hc with hc | hc
      · exact gap _ hg c hc
      · exact strOk_iff.mp (h b List.mem_cons_self).2.2 c hc
    · exact ih (fun x hx => h x (List.mem_cons_of_mem _ hx)) c hc
theorem text_ok {t : Str} {bs : List Str} (h : ∃ g r, cps t = g ++ r ∧ gapL g ∧ Spaced "(" bs r) (hb : ∀ b ∈ bs, okB b) : PyData.strOk t = true := by
  obtain ⟨g, r, e, hg, s⟩ := h
  rw [strOk_iff, e]
  intro c hc
  rcases List.mem_append.mp hc with hc | hc
  · have := mem_cG.mp (hg.2 c hc); omega
  · exact spaced_ok s hb c hc
/-- what is told of a text: plain, and not too long to show -/
structure RowOk (T : Str) (d : D) : Prop where
  is : ∃ (k : Str) (w : List Nat) (p : Nat), d = row k w p ∧ PyData.strOk k = true ∧ k.length ≤ 10 ∧ w.length ≤ T.length ∧ (∀ c ∈ w, c < 1114112) ∧ p ≤ T.length
theorem lex_rows {T : Str} (hok : PyData.strOk T = true) : ∀ (n : Nat) (l : List Nat) (p : Nat), (∀ c ∈ l, c < 1114112) → p + l.length ≤ T.length → (∀ d ∈ (lexGo n l p).1, RowOk T d) ∧ (lexGo n l p).1.length ≤ l.length ∧ ∀ q, (lexGo n l p).2 = some q → q ≤ T.length
  | 0, l, p, _, _ => ⟨fun d hd => (by cases hd), Nat.zero_le _, fun q e => (by cases e)⟩
  | n + 1, [], p, _, _ => ⟨fun d hd => (by cases hd), Nat.zero_le _, fun q e => (by cases e)⟩
  | n + 1, h :: t, p, hc, hl => by
    rw [List.length_cons] at hl
    rw [lexGo_cons]
    by_cases hg : h ∈ cG
    · rw [if_pos hg]
      obtain ⟨a, b, c⟩ := lex_rows hok n t (p + 1) (fun x hx => hc x (List.mem_cons_of_mem _ hx)) (by omega)
      exact ⟨a, by rw [List.length_cons]; omega, c⟩
    · rw [if_neg hg]
      by_cases hw : (lexAt (h :: t)).1 = "wrong"
      · rw [if_pos hw]
        exact ⟨fun d hd => (by cases hd), Nat.zero_le _, fun q e => by cases e; omega⟩
      · rw [if_neg hw]
        obtain ⟨l1, l2⟩ := lexAt_len hw
        obtain ⟨a, b, c⟩ := lex_rows hok n ((h :: t).drop (lexAt (h :: t)).2.length) (p + (lexAt (h :: t)).2.length) (fun x hx => hc x (List.mem_of_mem_drop hx)) (by rw [List.length_drop, List.length_cons]; omega)
        rw [List.length_drop, List.length_cons] at b
        refine ⟨fun d hd => ?_, by simp only [List.length_cons]; omega, c⟩
        rcases List.mem_cons.mp hd with hd | hd
        · subst hd
          refine ⟨_, _, _, rfl, ?_, ?_, by omega, fun x hx => ?_, by omega⟩
          · rcases lex_kind hw with e | e | ⟨e, _⟩ <;> rw [e] <;> decide +kernel
          · rcases lex_kind hw with e | e | ⟨e, _⟩ <;> rw [e] <;> decide +kernel
          · rcases lexAt_sub hw with e
            exact hc x (e x hx)
        · exact a d hd
theorem sum_le {f : D → Nat} {b : Nat} : ∀ ds : List D, (∀ d ∈ ds, f d ≤ b) → (ds.map f).sum ≤ ds.length * b
  | [], _ => Nat.zero_le _
  | d :: ds, h => by
    have h1 := h d List.mem_cons_self
    have h2 := sum_le ds fun x hx => h x (List.mem_cons_of_mem _ hx)
    rw [List.map_cons, List.sum_cons, List.length_cons, Nat.add_mul, Nat.one_mul]
    omega
theorem told_plain {T : Str} (hok : PyData.strOk T = true) (hT : T.length ≤ 888) : Pd 3 (toldOf T) ∧ szN 3 (toldOf T) ≤ 10000000 := by
  obtain ⟨a, b, c⟩ := lex_rows hok (T.length + 1) (cps T) 0 (strOk_iff.mp hok) (by rw [len_cps]; omega)
  have hl : (lexOf T).1.length ≤ 888 := by
    have : (lexOf T).1.length ≤ (cps T).length := b
    rw [← len_cps] at this; omega
  have rowPd : ∀ d ∈ (lexOf T).1, Pd 1 d ∧ szN 1 d + 2 ≤ 9062 := fun d hd => by
    obtain ⟨k, w, p, rfl, h1, h2, h3, h4, h5⟩ := (a d hd).is
    refine ⟨fun x hx => ?_, ?_⟩
    · simp only [List.mem_cons, List.not_mem_nil, or_false] at hx
      rcases hx with hx | hx | hx <;> subst hx
      · exact h1
      · show PyData.strOk _ = true
        rw [strOk_iff, cps_mk]; exact h4
      · show (p : Int).natAbs < 2 ^ 64
        omega
    · have hw : (mkS w).length = w.length := by rw [len_cps, cps_mk]
      simp [row, szN, hw]
      omega
  unfold toldOf
  cases e : (lexOf T).2 with
  | none =>
    refine ⟨fun x hx => ?_, ?_⟩
    · simp only [List.mem_cons, List.not_mem_nil, or_false] at hx
      rcases hx with hx | hx <;> subst hx
      · exact (show PyData.strOk _ = true by decide +kernel)
      · exact fun d hd => (rowPd d hd).1
    · have := sum_le (f := fun d => szN 1 d + 2) (lexOf T).1 fun d hd => (rowPd d hd).2
      have l4 : (Str.ofString "told").length = 4 := by decide +kernel
      simp [szN, l4]
      have : (lexOf T).1.length * 9062 ≤ 888 * 9062 := Nat.mul_le_mul_right _ hl
      omega
  | some p =>
    have hp := c p e
    refine ⟨fun x hx => ?_, ?_⟩
    · simp only [List.mem_cons, List.not_mem_nil, or_false] at hx
      rcases hx with hx | hx <;> subst hx
      · exact (show PyData.strOk _ = true by decide +kernel)
      · show (p : Int).natAbs < 2 ^ 64
        omega
    · have l4 : (Str.ofString "refused").length = 7 := by decide +kernel
      simp [szN, l4]
/-- repr(told) != repr(due) is never so -/
theorem told_repr {T : Str} (hok : PyData.strOk T = true) (hT : T.length ≤ 888) : ∃ x : Str, ∀ Q : D → Prop, Q (.str x) → reprD [toldOf T] Q :=
  repr_both (told_plain hok hT).1 (by decide) (told_plain hok hT).2
def nA : MS := (mSeq (mSetL 7 s_l_told (mCons (mV 10) mNil))
    (mSeq (mIfS (mFrzT 7 (mTest (mOp neD (mBi reprD (mCons (mO 7) mNil)) (mBi reprD (mCons (mCall s_l_lexemes_due (mCons (mV 10) mNil)) mNil))))) (mRet (mC (.bl false))) mNext)
    (mIfS (mFrzT 7 (mTest (mOp eqD (mOp idxD (mO 7) (mC (.int 0))) (mC (.str "told"))))) (mAppL 7 1) mNext)))
def nL : MS := (mSeq (mSet 9 (mCall s_l_pick (mCons (mV 1) (mCons (mOp addD (mBi lenD (mCons (mO 5) mNil)) (mC (.int 1))) mNil))))
    (mSeq (mSet 10 (mCall s_l_spaced (mCons (mV 1) (mCons (mOp addD (mOp addD (mSl (mO 5) mNoP (mP (mV 9))) (mN (mLst (mCons (mCall s_l_of (mCons (mV 1) (mCons (mV 3) mNil))) mNil)))) (mSl (mO 5) (mP (mV 9)) mNoP)) mNil))))
    (mSeq (mSet 10 (mIf (mTest (mOp eqD (mCall s_l_pick (mCons (mV 1) (mCons (mC (.int 2)) mNil))) (mC (.int 0)))) (mSl (mO 10) mNoP (mP (mCall s_l_pick (mCons (mV 1) (mCons (mOp addD (mBi lenD (mCons (mO 10) mNil)) (mC (.int 1))) mNil))))) (mV 10)))
    (mFor (mRng1 (mC (.int 2))) (mgN 11) nA))))
def nT : MS := (mSeq (mSetN 5 (mLc (mRng1 (mCall s_l_pick (mCons (mV 1) (mCons (mC (.int 12)) mNil)))) (mgN 8) mYes (mCall s_l_of (mCons (mV 1) (mCons (mV 2) mNil))) [8]))
    (mSeq (mFrz 5 (mSet 6 (mCall s_l_spaced (mCons (mV 1) (mCons (mV 5) mNil)))))
    (mSeq (mSet 7 (mCall (plainS s_l_told) (mCons (mV 6) mNil)))
    (mSeq (mIfS (mOr (mTest (mOp neD (mBi reprD (mCons (mO 7) mNil)) (mBi reprD (mCons (mCall s_l_lexemes_due (mCons (mV 6) mNil)) mNil)))) (mTest (mOp neD (mN (mLc (mIt (mOp idxD (mO 7) (mC (.int 1)))) (mgN 12) mYes (mOp idxD (mO 12) (mC (.int 1))) [12])) (mO 5)))) (mRet (mC (.bl false))) mNext)
    (mFor (mRng1 (mC (.int 3))) (mgN 8) nL)))))
theorem n_law_eq : n_law = (mSeq (mIfS (mAnd (mTest (mOp eqD (mCall s_l_pick (mCons (mV 1) (mCons (mC (.int 8)) mNil))) (mC (.int 0)))) (mNot (mTest (mCall0 s_l_long_right)))) (mRet (mC (.bl false))) mNext)
    (mSeq (mSet 2 (mN (mLst (mCons (mC (.str "a")) (mCons (mC (.str "x1")) (mCons (mC (.str "abcdefghijkl")) (mCons (mC (.str "map")) (mCons (mC (.str "0")) (mCons (mC (.str "7")) (mCons (mC (.str "10")) (mCons (mC (.str "305")) (mCons (mBi strD (mCons (mOp powD (mC (.int 10)) (mC (.int 30))) mNil)) (mCons (mC (.str "(")) (mCons (mC (.str ")")) (mCons (mC (.str "{")) (mCons (mC (.str "}")) (mCons (mC (.str ",")) (mCons (mC (.str ";")) mNil))))))))))))))))))
    (mSeq (mSet 3 (mN (mLst (mCons (mC (.str "A")) (mCons (mC (.str "Z9")) (mCons (mC (.str "-")) (mCons (mC (.str "_")) (mCons (mC (.str "#")) (mCons (mC (.str ".")) (mCons (mC (.str "[")) (mCons (mC (.str "]")) (mCons (mC (.str ":")) (mCons (mC (.str "'")) (mCons (mC (.str "\t")) (mCons (mC (.str "a\t")) (mCons (mC (.str "aB")) (mCons (mC (.str "a-b")) (mCons (mC (.str "0a")) (mCons (mC (.str "~")) (mCons (mC (.str "1_")) mNil))))))))))))))))))))
    (mSeq (mSet 3 (mOp addD (mO 3) (mN (mLst (mCons (mC (.str "abcdefghijklm")) (mCons (mC (.str "9abcdefghijklm")) (mCons (mC (.str "abcdefghijkl0")) mNil)))))))
    (mSeq (mFor (mRng1 (mC (.int 6))) (mgN 4) nT)
    (mRet (mCall0 s_l_hand_right))))))) := rfl
abbrev bs4 (a4 a5 a6 a7 a8 a9 a10 a11 a12 : Option Sl) : Ev := [none, some (.d .src), some (.d (.lst (toks.map .str))), some (.d (.lst (odds.map .str))), a4, a5, a6, a7, a8, a9, a10, a11, a12]
theorem go_again {P : PD} {k : Ev → Prop} {T : Str} {l a4 a6 a7 a8 a9 a11 a12 : Option Sl} (hok : PyData.strOk T = true) (hT : T.length ≤ 888) (hk : ∀ a7', k (bs4 a4 l a6 a7' a8 a9 (some (.d (.str T))) a11 a12)) :
    nA { nx := k, rt := P.rt, bk := P.nx, ct := k, ex := P.ex, rtn := P.rtn, rtl := P.rtl } (bs4 a4 l a6 a7 a8 a9 (some (.d (.str T))) a11 a12) := by
  obtain ⟨x, hx⟩ := told_repr hok hT
  have eqT : ∀ (Q : Bool → Prop) (sl : Sl) (n : Nat), True := fun _ _ _ => True.intro
  unfold nA
  refine seq_i ?_
  simp only [mSetL, mCons, mV, mNil, bs4, List.getElem?_cons_succ, List.getElem?_cons_zero]
  refine ⟨T, rfl, by omega, ?_⟩
  cases e : (lexOf T).2 with
  | none =>
    intro L
    have et : toldOf T = .lst [.str "told", .lst (lexOf T).1] := by unfold toldOf; rw [e]
    have hlen : (lexOf T).1.length < 1000000 := by
      have := lexGo_len (T.length + 1) (cps T) 0
      rw [← len_cps] at this
      have : (lexOf T).1.length ≤ T.length := this
      omega
    dsimp only [List.set]
    refine seq_i (if_f (fun Q X q => ?_) ?_)
    · simp only [mFrzT, frz, mTest, mOp, mBi, mCons, mO, mNil, mCall, mV, List.set, List.getElem?_cons_succ, List.getElem?_cons_zero]
      refine hx _ ⟨T, rfl, by omega, hok, hx _ ?_⟩
      refine ⟨_, rfl, ?_⟩
      rw [decide_eq_true rfl]
      exact q
    · dsimp only
      simp only [mIfS, mFrzT, frz, mTest, mOp, mO, mC, List.set, List.getElem?_cons_succ, List.getElem?_cons_zero]
      rw [et]
      refine ⟨_, atI_0, _, rfl, ?_⟩
      refine if_true_of' (by decide +kernel) ?_
      exact ⟨⟨_, _, rfl, atI_1, hlen⟩, hk none⟩
  | some p =>
    have et : toldOf T = .lst [.str "refused", .int (p : Int)] := by unfold toldOf; rw [e]
    dsimp only [List.set]
    refine seq_i (if_f (fun Q X q => ?_) ?_)
    · simp only [mFrzT, frz, mTest, mOp, mBi, mCons, mO, mNil, mCall, mV, List.set, List.getElem?_cons_succ, List.getElem?_cons_zero]
      refine hx _ ⟨T, rfl, by omega, hok, hx _ ?_⟩
      refine ⟨_, rfl, ?_⟩
      rw [decide_eq_true rfl]
      exact q
    · dsimp only
      simp only [mIfS, mFrzT, frz, mTest, mOp, mO, mC, List.set, List.getElem?_cons_succ, List.getElem?_cons_zero]
      rw [et]
      refine ⟨_, atI_0, _, rfl, ?_⟩
      refine if_false_of' (by decide +kernel) ?_
      exact hk _
theorem cutG_map {α β : Type} (f : α → β) (l : List α) (lo hi : Option Int) : cutG (l.map f) lo hi = (cutG l lo hi).map f := by
  unfold cutG
  rw [List.length_map, List.map_take, List.map_drop]
theorem cutG_mem {α : Type} {l : List α} {lo hi : Option Int} {x : α} (h : x ∈ cutG l lo hi) : x ∈ l := List.mem_of_mem_drop (List.mem_of_mem_take h)
theorem cutG_len {α : Type} (l : List α) (lo hi : Option Int) : (cutG l lo hi).length ≤ l.length := by
  unfold cutG
  rw [List.length_take, List.length_drop]
  omega
theorem cutS_ok {t : Str} (lo hi : Option Int) (h : PyData.strOk t = true) : PyData.strOk (cutS t lo hi) = true := by
  rw [strOk_iff] at h ⊢
  intro c hc
  have hc : c ∈ ((t.cps.toList.drop (HT.sIx t.length 0 lo)).take (HT.sIx t.length t.length hi - HT.sIx t.length 0 lo)) := by
    unfold cutS at hc
    simpa [cps] using hc
  exact h c (List.mem_of_mem_drop (List.mem_of_mem_take hc))
theorem cutG_two {α : Type} (l : List α) (r : Nat) : (cutG l none (some (r : Int))).length + (cutG l (some (r : Int)) none).length ≤ l.length := by
  unfold cutG
  rw [HT.sIx_nat, HT.sIx_none, HT.sIx_none, HT.sIx_nat]
  simp only [List.length_take, List.length_drop]
  omega
theorem slD_l {ds : List D} {lo hi : Option Int} {Q : D → Prop} : slD (.lst ds) lo hi Q = Q (.lst (cutG ds lo hi)) := rfl
theorem go_lap {P : PD} {k : Ev → Prop} {bs : List Str} {a4 a6 a7 a8 a9 a10 a11 a12 : Option Sl} (hb : ∀ b ∈ bs, okB b) (hl : bs.length ≤ 11) (hk : ∀ a7 a9 a10 a11, k (bs4 a4 (some (.d (.lst (bs.map .str)))) a6 a7 a8 a9 a10 a11 a12)) :
    nL { nx := k, rt := P.rt, bk := P.nx, ct := k, ex := P.ex, rtn := P.rtn, rtl := P.rtl } (bs4 a4 (some (.d (.lst (bs.map .str)))) a6 a7 a8 a9 a10 a11 a12) := by
  -- from the text on
  have fin : ∀ (T : Str) (a9 : Option Sl), PyData.strOk T = true → T.length ≤ 888 → mFor (mRng1 (mC (.int 2))) (mgN 11) nA { nx := k, rt := P.rt, bk := P.nx, ct := k, ex := P.ex, rtn := P.rtn, rtl := P.rtl } (bs4 a4 (some (.d (.lst (bs.map .str)))) a6 a7 a8 a9 (some (.d (.str T))) a11 a12) := by
    intro T a9 hok hT
    refine ⟨2, rfl, by omega, by omega, ?_⟩
    refine for_same (fun δ => ∃ a7 a11, δ = bs4 a4 (some (.d (.lst (bs.map .str)))) a6 a7 a8 a9 (some (.d (.str T))) a11 a12) _ _ ⟨_, _, rfl⟩ (fun δ' ⟨x, y, e⟩ => by rw [e]; exact hk _ _ _ _) ?_
    rintro d _ δ' k' ⟨x, y, rfl⟩ hk'
    exact go_again hok hT fun z => hk' _ ⟨_, _, rfl⟩
  unfold nL
  refine seq_i ?_
  simp only [mSet, mCall, mCons, mV, mNil, mOp, mBi, mO, mC, bs4, List.getElem?_cons_succ, List.getElem?_cons_zero]
  refine ⟨(bs.map D.str).length + 1, rfl, by rw [List.length_map]; omega, fun r r0 r1 => ?_⟩
  rw [List.length_map] at r1
  obtain ⟨r, rfl⟩ : ∃ m : Nat, r = m := ⟨r.toNat, by omega⟩
  dsimp only [List.set]
  refine seq_i ?_
  simp only [mSet, mCall, mCons, mV, mNil, mOp, mO, mC, mSl, mP, mNoP, mN, mLst, List.getElem?_cons_succ, List.getElem?_cons_zero]
  refine ⟨(r : Int), rfl, ?_⟩
  refine ⟨odds.map .str, rfl, by decide, by decide, fun d hd => ?_⟩
  obtain ⟨o, ho, rfl⟩ := List.mem_map.mp hd
  have A1 := cutG_map D.str bs none (some (r : Int))
  have A2 := cutG_map D.str bs (some (r : Int)) none
  have L1 := cutG_len bs none (some (r : Int))
  have L2 := cutG_len bs (some (r : Int)) none
  have L3 := cutG_two bs r
  rw [A1]
  refine ⟨by simp, by rw [List.length_map, List.length_singleton]; omega, (r : Int), rfl, ?_⟩
  rw [slD_l, A2]
  refine ⟨by simp only [List.length_append, List.length_map, List.length_singleton]; omega, ?_⟩
  have e : (cutG bs none (some (r : Int))).map D.str ++ [D.str o] ++ (cutG bs (some (r : Int)) none).map D.str = (cutG bs none (some (r : Int)) ++ [o] ++ cutG bs (some (r : Int)) none).map D.str := by simp
  rw [e]
  have hall : ∀ b ∈ cutG bs none (some (r : Int)) ++ [o] ++ cutG bs (some (r : Int)) none, okB b := by
    intro b hbm
    rcases List.mem_append.mp hbm with h | h
    · rcases List.mem_append.mp h with h | h
      · exact hb b (cutG_mem h)
      · rw [List.mem_singleton.mp h]; exact ok_odd ho
    · exact hb b (cutG_mem h)
  refine ⟨_, rfl, by simp only [List.length_append, List.length_singleton]; omega, fun b h => ⟨(hall b h).1, (hall b h).2.1⟩, fun T hT hsp => ?_⟩
  have hok := text_ok hsp hall
  dsimp only [List.set]
  refine seq_i ?_
  simp only [mSet, mIf, mTest, mCall, mCons, mV, mNil, mOp, mO, mC, mSl, mP, mNoP, mBi, List.getElem?_cons_succ, List.getElem?_cons_zero]
  refine ⟨2, rfl, by omega, fun c c0 c1 => ?_⟩
  refine ⟨_, rfl, ?_⟩
  by_cases hc : c = 0
  · refine if_true_of' (by simpa using hc) ?_
    refine ⟨by omega, (T.length : Int) + 1, rfl, by omega, fun z z0 z1 => ⟨z, rfl, by omega, ?_⟩⟩
    exact fin _ _ (cutS_ok _ _ hok) (Nat.le_trans (cutS_length _ _ _) hT)
  · refine if_false_of' (by simpa using hc) ?_
    exact fin _ _ hok hT
theorem strs_of : ∀ {ys : List D} {S : List Str}, (∀ y ∈ ys, ∃ b ∈ S, y = .str b) → ∃ bs : List Str, ys = bs.map .str ∧ ∀ b ∈ bs, b ∈ S
  | [], _, _ => ⟨[], rfl, fun _ h => by cases h⟩
  | y :: ys, S, h => by
    obtain ⟨b, hb, e⟩ := h y List.mem_cons_self
    obtain ⟨bs, e2, h2⟩ := strs_of (ys := ys) fun x hx => h x (List.mem_cons_of_mem _ hx)
    exact ⟨b :: bs, by rw [e, e2]; rfl, fun x hx => (List.mem_cons.mp hx).elim (fun e => e ▸ hb) (h2 x)⟩
def wordF : D → D
  | .tup [_, w, _] => w
  | _ => .non
theorem words_of {rows : List D} {bs : List Str} (h : RowsOf rows bs) : rows.map wordF = bs.map .str := by
  induction h with
  | nil => rfl
  | @cons k b p ds bs h ih =>
    rw [List.map_cons, List.map_cons, ih]
    show D.str (mkS (cps b)) :: _ = _
    rw [mk_cps]
theorem rows_tup {rows : List D} {bs : List Str} (h : RowsOf rows bs) : ∀ d ∈ rows, ∃ x y z, d = .tup [x, y, z] := by
  induction h with
  | nil => exact fun _ h => by cases h
  | @cons k b p ds bs h ih => exact fun d hd => (List.mem_cons.mp hd).elim (fun e => ⟨_, _, _, e⟩) (ih d)
theorem rows_len {rows : List D} {bs : List Str} (h : RowsOf rows bs) : rows.length = bs.length := by
  have := congrArg List.length (words_of h)
  rw [List.length_map, List.length_map] at this
  exact this
theorem go_turn {P : PD} {k : Ev → Prop} {a4 a5 a6 a7 a8 a9 a10 a11 a12 : Option Sl} (hk : ∀ a5 a6 a7 a8 a9 a10 a11 a12, k (bs4 a4 a5 a6 a7 a8 a9 a10 a11 a12)) :
    nT { nx := k, rt := P.rt, bk := P.nx, ct := k, ex := P.ex, rtn := P.rtn, rtl := P.rtl } (bs4 a4 a5 a6 a7 a8 a9 a10 a11 a12) := by
  unfold nT
  refine seq_i ?_
  simp only [mSetN, mLc, mRng1, mCall, mCons, mV, mNil, mC, bs4, List.getElem?_cons_succ, List.getElem?_cons_zero]
  refine ⟨12, rfl, by omega, fun r r0 r1 => ⟨r, rfl, by omega, by omega, ?_⟩⟩
  have hlen : (rangeOf 0 r.toNat).length ≤ 11 := by
    unfold rangeOf
    rw [List.length_map, List.length_range]
    omega
  refine lc_any (fun y => ∃ b ∈ toks, y = .str b) _ _ (fun d _ R hR => ?_) (by rw [List.length_nil]; omega) fun ys hl hys => ?_
  · refine ⟨toks.map .str, rfl, by decide, by decide, fun y hy => hR y ?_⟩
    obtain ⟨b, hb, rfl⟩ := List.mem_map.mp hy
    exact ⟨b, hb, rfl⟩
  obtain ⟨bs, e, hbs⟩ := strs_of hys
  rw [List.nil_append]
  subst e
  rw [List.length_map] at hl
  have hb : ∀ b ∈ bs, okB b := fun b h => ok_tok (hbs b h)
  dsimp only [List.set]
  refine seq_i ?_
  simp only [mFrz, frz, mSet, mCall, mCons, mV, mNil, List.set, List.getElem?_cons_succ, List.getElem?_cons_zero]
  refine ⟨bs, rfl, by omega, fun b h => ⟨(hb b h).1, (hb b h).2.1⟩, fun T hT hsp => ?_⟩
  have hok := text_ok hsp hb
  obtain ⟨rows, e1, e2⟩ := text_lex hbs hsp
  have et : toldOf T = .lst [.str "told", .lst rows] := by unfold toldOf; rw [e1]
  obtain ⟨x, hx⟩ := told_repr hok hT
  refine seq_i ?_
  simp only [mSet, mCall, mCons, mV, mNil, List.set, List.getElem?_cons_succ, List.getElem?_cons_zero]
  refine plain_told (by omega) ?_
  refine seq_i (if_f (fun Q X q => ?_) ?_)
  · simp only [mOr, mTest, mOp, mBi, mCons, mO, mNil, mCall, mV, mN, mLc, mIt, mC, List.getElem?_cons_succ, List.getElem?_cons_zero]
    refine hx _ ⟨T, rfl, by omega, hok, hx _ ?_⟩
    refine ⟨_, rfl, ?_⟩
    refine if_false_of' (by rw [decide_eq_true rfl]; rfl) ?_
    rw [et]
    refine ⟨_, atI_1, ?_⟩
    have lr := rows_len e2
    refine lc_map wordF rows (fun d hd R Z hR => ?_) (by omega) ?_
    · obtain ⟨x, y, z, rfl⟩ := rows_tup e2 d hd
      exact ⟨_, atI_1, hR⟩
    · rw [words_of e2]
      refine eqG_refl (n := not) (k := 1) (fun d hd => ?_) (by decide) ⟨_, rfl, q⟩
      obtain ⟨b, h, rfl⟩ := List.mem_map.mp hd
      exact (hb b h).2.2
  · refine ⟨3, rfl, by omega, by omega, ?_⟩
    refine for_same (fun δ => ∃ a6 a7 a8 a9 a10 a11 a12, δ = bs4 a4 (some (.d (.lst (bs.map .str)))) a6 a7 a8 a9 a10 a11 a12) _ _ ⟨_, _, _, _, _, _, _, rfl⟩ (fun δ' ⟨_, _, _, _, _, _, _, e⟩ => by rw [e]; exact hk _ _ _ _ _ _ _ _) ?_
    rintro d _ δ' k' ⟨a6, a7, a8, a9, a10, a11, a12, rfl⟩ hk'
    exact go_lap hb (by omega) fun _ _ _ _ => hk' _ ⟨_, _, _, _, _, _, _, rfl⟩
theorem p_law : n_law { nx := fun _ => False, rt := fun d => d = .bl true } (lawE N_law) := by
  rw [n_law_eq]
  have st : lawE N_law = [none, some (.d .src), none, none, none, none, none, none, none, none, none, none, none] := rfl
  rw [st]
  refine seq_i (if_f (fun Q X q => ?_) ?_)
  · simp only [mAnd, mNot, mTest, mOp, mCall, mCons, mV, mNil, mC, mCall0, List.getElem?_cons_succ, List.getElem?_cons_zero]
    refine ⟨8, rfl, by omega, fun r r0 r1 => ⟨_, rfl, ?_⟩⟩
    by_cases h : r = 0
    · refine if_true_of' (by simpa using h) ?_
      exact ⟨rfl, _, rfl, q⟩
    · exact if_false_of' (by simpa using h) q
  dsimp only
  refine seq_i (set_i (d := .lst (toks.map .str)) (fun Q X q => ?_) ?_)
  · simp only [mN, mLst, mCons, mC, mNil, mBi, mOp]
    refine ⟨⟨by decide, by decide, by decide⟩, ?_⟩
    refine ⟨by decide +kernel, by decide, q⟩
  dsimp only [List.set]
  refine seq_i (set_i (d := .lst ((odds.take 17).map .str)) (fun Q X q => ?_) ?_)
  · simp only [mN, mLst, mCons, mC, mNil]
    exact ⟨by decide, q⟩
  dsimp only [List.set]
  refine seq_i (set_i (d := .lst (odds.map .str)) (fun Q X q => ?_) ?_)
  · simp only [mOp, mO, mN, mLst, mCons, mC, mNil, List.getElem?_cons_succ, List.getElem?_cons_zero]
    exact ⟨by decide, by decide, q⟩
  dsimp only [List.set]
  refine seq_i ?_
  refine ⟨6, rfl, by omega, by omega, ?_⟩
  refine for_same (fun δ => ∃ a4 a5 a6 a7 a8 a9 a10 a11 a12, δ = bs4 a4 a5 a6 a7 a8 a9 a10 a11 a12) _ _ ⟨_, _, _, _, _, _, _, _, _, rfl⟩ (fun δ' ⟨_, _, _, _, _, _, _, _, _, e⟩ => by rw [e]; exact ⟨rfl, rfl⟩) ?_
  rintro d _ δ' k' ⟨a4, a5, a6, a7, a8, a9, a10, a11, a12, rfl⟩ hk'
  exact go_turn fun _ _ _ _ _ _ _ _ => hk' _ ⟨_, _, _, _, _, _, _, _, _, rfl⟩
end Ct.K6

set_option Elab.async false
set_option linter.all false
set_option maxRecDepth 100000
set_option maxHeartbeats 4000000
namespace Ct.K6
open PySem PySem.Spec PyProof.Rows L2 Ct
/-! ### the long text -/
def unit6 : List Nat := cps "ab(7) "
def rep6 : Nat → List Nat
  | 0 => []
  | n + 1 => unit6 ++ rep6 n
def four (p : Nat) : List D := [row "word" (cps "ab") p, row "sign" (cps "(") (p + 2), row "number" (cps "7") (p + 3), row "sign" (cps ")") (p + 4)]
def fours : Nat → Nat → List D
  | 0, _ => []
  | n + 1, p => four p ++ fours n (p + 6)
theorem one6 (n : Nat) (r : List Nat) (p : Nat) : lexGo (n + 5) (unit6 ++ r) p = (four p ++ (lexGo n r (p + 6)).1, (lexGo n r (p + 6)).2) := by
  have e : unit6 = [97, 98, 40, 55, 41, 32] := by decide +kernel
  rw [e]
  have l1 : lexAt (97 :: 98 :: 40 :: 55 :: 41 :: 32 :: r) = (("word" : Str), [97, 98]) := by
    have e2 : runL cW (97 :: 98 :: 40 :: 55 :: 41 :: 32 :: r) = [97, 98] := by
      rw [run_cons (by decide +kernel), run_cons (by decide +kernel), run_no (by decide +kernel)]
    rw [lex_W (by decide +kernel), e2]
    rfl
  have l2 : lexAt (40 :: 55 :: 41 :: 32 :: r) = (("sign" : Str), [40]) := lex_S (by decide +kernel)
  have l3 : lexAt (55 :: 41 :: 32 :: r) = (("number" : Str), [55]) := by
    rw [lex_D (by decide +kernel) (by decide), run_cons (by decide +kernel), run_no (by decide +kernel)]
  have l4 : lexAt (41 :: 32 :: r) = (("sign" : Str), [41]) := lex_S (by decide +kernel)
  show lexGo (n + 4 + 1) (97 :: 98 :: 40 :: 55 :: 41 :: 32 :: r) p = _
  rw [lexGo_cons, if_neg (by decide +kernel), l1, if_neg w1]
  show (row _ _ _ :: (lexGo (n + 3 + 1) (40 :: 55 :: 41 :: 32 :: r) (p + 2)).1, (lexGo (n + 3 + 1) (40 :: 55 :: 41 :: 32 :: r) (p + 2)).2) = _
  rw [lexGo_cons, if_neg (by decide +kernel), l2, if_neg w3]
  show (row _ _ _ :: row _ _ _ :: (lexGo (n + 2 + 1) (55 :: 41 :: 32 :: r) (p + 3)).1, (lexGo (n + 2 + 1) (55 :: 41 :: 32 :: r) (p + 3)).2) = _
  rw [lexGo_cons, if_neg (by decide +kernel), l3, if_neg w2]
  show (row _ _ _ :: row _ _ _ :: row _ _ _ :: (lexGo (n + 1 + 1) (41 :: 32 :: r) (p + 4)).1, (lexGo (n + 1 + 1) (41 :: 32 :: r) (p + 4)).2) = _
  rw [lexGo_cons, if_neg (by decide +kernel), l4, if_neg w3]
  show (row _ _ _ :: row _ _ _ :: row _ _ _ :: row _ _ _ :: (lexGo (n + 1) (32 :: r) (p + 5)).1, (lexGo (n + 1) (32 :: r) (p + 5)).2) = _
  rw [lexGo_cons, if_pos (by decide +kernel)]
  rfl
theorem many6 : ∀ (k n : Nat) (r : List Nat) (p : Nat), lexGo (n + 5 * k) (rep6 k ++ r) p = (fours k p ++ (lexGo n r (p + 6 * k)).1, (lexGo n r (p + 6 * k)).2)
  | 0, n, r, p => by simp [rep6, fours]
  | k + 1, n, r, p => by
    have e : n + 5 * (k + 1) = (n + 5 * k) + 5 := by omega
    show lexGo (n + 5 * (k + 1)) (unit6 ++ rep6 k ++ r) p = _
    rw [e, List.append_assoc, one6, many6 k n r (p + 6)]
    have e2 : p + 6 + 6 * k = p + 6 * (k + 1) := by omega
    rw [e2]
    show (four p ++ (fours k (p + 6) ++ _), _) = (four p ++ fours k (p + 6) ++ _, _)
    rw [List.append_assoc]
def far : Str := Str.ofString "1" ++ Txt.mul (Str.ofString "0") 39
def longT : Str := Txt.mul (Str.ofString "ab(7) ") 1500 ++ Str.ofString "1" ++ Txt.mul (Str.ofString "0") 39 ++ Str.ofString ","
theorem cps_mul6 : cps (Txt.mul (Str.ofString "ab(7) ") 1500) = rep6 1500 := by decide +kernel
theorem len_long : longT.length = 9041 := by decide +kernel
end Ct.K6

set_option Elab.async false
set_option linter.all false
set_option maxRecDepth 100000
set_option maxHeartbeats 4000000
namespace Ct.K6
open PySem PySem.Spec PyProof.Rows L2 Ct
def tail6 : List Nat := cps (Str.ofString "1" ++ Txt.mul (Str.ofString "0") 39 ++ Str.ofString ",")
theorem tail_lex : lexGo 1542 tail6 9000 = ([row "number" (cps far) 9000, row "sign" (cps ",") 9040], none) := by kernel_rfl
theorem tail_lexA : (lexGo 1543 (tail6 ++ [65]) 9000).2 = some 9041 := by kernel_rfl
theorem cps_long : cps longT = rep6 1500 ++ tail6 := by
  unfold longT tail6
  rw [cps_app, cps_app, cps_app, cps_mul6, cps_app, cps_app]
  simp only [List.append_assoc]
theorem lex_long : lexOf longT = (fours 1500 0 ++ [row "number" (cps far) 9000, row "sign" (cps ",") 9040], none) := by
  unfold lexOf
  rw [len_long, cps_long, show 9041 + 1 = 1542 + 5 * 1500 by rfl, many6, show 0 + 6 * 1500 = 9000 by rfl, tail_lex]
theorem lex_longA : (lexOf (longT ++ Str.ofString "A")).2 = some 9041 := by
  have e : cps (longT ++ Str.ofString "A") = rep6 1500 ++ (tail6 ++ [65]) := by
    rw [cps_app, cps_long, List.append_assoc]; rfl
  have l : (longT ++ Str.ofString "A").length = 9042 := by
    rw [len_app, len_long]; rfl
  unfold lexOf
  rw [l, e, show 9042 + 1 = 1543 + 5 * 1500 by rfl, many6, show 0 + 6 * 1500 = 9000 by rfl]
  exact tail_lexA
theorem fours_len : ∀ n p, (fours n p).length = 4 * n
  | 0, _ => rfl
  | n + 1, p => by
    show (four p ++ fours n (p + 6)).length = _
    rw [List.length_append, fours_len n]
    show 4 + 4 * n = _
    omega
theorem fours_cut : ∀ (k n p : Nat) (r : List D), k < n → ((fours n p ++ r).drop (4 * k)).take 4 = four (p + 6 * k)
  | 0, n + 1, p, r, _ => rfl
  | k + 1, n + 1, p, r, h => by
    show ((four p ++ fours n (p + 6) ++ r).drop (4 * (k + 1))).take 4 = _
    have e : 4 * (k + 1) = 4 * k + 4 := by omega
    have e2 : (four p ++ fours n (p + 6) ++ r).drop (4 * k + 4) = (fours n (p + 6) ++ r).drop (4 * k) := by
      rw [List.append_assoc, Nat.add_comm, ← List.drop_drop]
      rfl
    rw [e, e2, fours_cut k n (p + 6) r (by omega)]
    congr 1
    omega
/-- a loop by the number of the turn -/
theorem for_ix {g : MG} {n : MS} {P : PD} (I : Nat → Ev → Prop) (ds : List D) (δ : Ev) (h0 : I 0 δ) (he : ∀ δ', I ds.length δ' → P.nx δ')
    (step : ∀ i d, ds[i]? = some d → ∀ δ' (k : Ev → Prop), I i δ' → (∀ δ2, I (i + 1) δ2 → k δ2) → g d δ' (fun δ2 => n { nx := k, rt := P.rt, bk := P.nx, ct := k, ex := P.ex, rtn := P.rtn, rtl := P.rtl } δ2)) : forGo g n P ds δ := by
  have aux : ∀ (m i : Nat) (δ : Ev), i + m = ds.length → I i δ → forGo g n P (ds.drop i) δ := by
    intro m
    induction m with
    | zero =>
      intro i δ hi h
      have : ds.drop i = [] := List.drop_eq_nil_of_le (by omega)
      rw [this]
      exact he δ (by rw [← hi]; exact h)
    | succ m ih =>
      intro i δ hi h
      have hl : i < ds.length := by omega
      rw [List.drop_eq_getElem_cons hl]
      exact step i _ (List.getElem?_eq_getElem hl) δ (forGo g n P (ds.drop (i + 1))) h fun δ2 h2 => ih (i + 1) δ2 (by omega) h2
  simpa using aux ds.length 0 δ (by omega) h0
def dueL (n : Nat) : List D := (List.range n).map fun k => .lst (four (6 * k))
theorem dueL_more (n : Nat) : dueL (n + 1) = dueL n ++ [.lst (four (6 * n))] := by
  unfold dueL
  rw [List.range_succ, List.map_append]
  rfl
theorem p_long (ds : List D) (Q : D → Prop) (Qx : Exn → Prop) (h : s_l_long_right ds Q Qx) : n_l_long_right { nx := fun _ => Q .non, rt := Q, ex := fun x _ => Qx x } (startE N_l_long_right ds) := by
  obtain ⟨rfl, q⟩ := h
  have st : startE N_l_long_right [] = [none, none, none, none, none, none] := rfl
  rw [st]
  unfold n_l_long_right
  refine seq_i ?_
  simp only [mPar3, mSD, mSN, mOp, mC, mLst, mNil]
  have m1 : (Txt.mul (Str.ofString "ab(7) ") 1500).length = 9000 := by
    rw [len_cps, cps_mul6]; decide +kernel
  have m2 : (Txt.mul (Str.ofString "0") 39).length = 39 := by decide +kernel
  have c1 : (Str.ofString "1").length = 1 := by decide +kernel
  have c2 : (Str.ofString ",").length = 1 := by decide +kernel
  refine ⟨by decide, by decide, by decide +kernel, by rw [m1, c1]; decide, by decide, by decide, by decide +kernel, by rw [len_app, m1, c1, m2]; decide, by rw [len_app, len_app, m1, c1, m2, c2]; decide, ?_⟩
  refine ⟨by decide, by decide, by decide +kernel, by rw [c1, m2]; decide, by decide, ?_⟩
  dsimp only [List.set]
  refine seq_i ?_
  refine ⟨1500, rfl, by omega, by omega, ?_⟩
  refine for_ix (fun i δ => ∃ a3 a4, δ = [some (.d (.str longT)), some (.d (.str far)), some (.own (dueL i)), a3, a4, none]) _ _ ⟨_, _, rfl⟩ (fun δ' ⟨a3, a4, e⟩ => ?_) ?_
  · have hl : (rangeOf 0 (1500 : Int).toNat).length = 1500 := by
      unfold rangeOf
      rw [List.length_map, List.length_range]
      rfl
    rw [hl] at e
    subst e
    have hlt : longT.length ≤ 100000 := by rw [len_long]; decide
    have et : toldOf longT = .lst [.str "told", .lst (fours 1500 0 ++ [row "number" (cps far) 9000, row "sign" (cps ",") 9040])] := by
      unfold toldOf
      rw [lex_long]
    have eA : toldOf (longT ++ Str.ofString "A") = .lst [.str "refused", .int ((9041 : Nat) : Int)] := by
      unfold toldOf
      rw [lex_longA]
    have hlA : (longT ++ Str.ofString "A").length ≤ 100000 := by rw [len_app, len_long]; decide +kernel
    dsimp only
    refine seq_i (set_i (d := .lst (fours 1500 0 ++ [row "number" (cps far) 9000, row "sign" (cps ",") 9040])) (fun Q X q => ?_) ?_)
    · simp only [mOp, mCall, mCons, mV, mNil, mC, List.getElem?_cons_succ, List.getElem?_cons_zero]
      refine plain_told hlt ?_
      rw [et]
      exact ⟨_, atI_1, q⟩
    dsimp only [List.set]
    refine seq_i (if_f (fun Q X q => ?_) ?_)
    · simp only [mOr, mTest, mOp, mSl, mO, mP, mC, mNoP, mN, mLst, mCons, mTup, mV, mNil, mCall, List.getElem?_cons_succ, List.getElem?_cons_zero]
      refine ⟨6000, rfl, ?_⟩
      rw [slD_l]
      have ec : cutG (fours 1500 0 ++ [row "number" (cps far) 9000, row "sign" (cps ",") 9040]) (some 6000) none = [row "number" (cps far) 9000, row "sign" (cps ",") 9040] := by
        unfold cutG
        have hz : (fours 1500 0 ++ [row "number" (cps far) 9000, row "sign" (cps ",") 9040]).length = 6002 := by rw [List.length_append, fours_len]; rfl
        rw [hz, show (6000 : Int) = ((6000 : Nat) : Int) by rfl, HT.sIx_nat, HT.sIx_none]
        have e4 : (fours 1500 0).length = min 6000 6002 := by rw [fours_len]; rfl
        rw [← e4, List.drop_left]
        rw [fours_len]
        rfl
      rw [ec]
      refine ⟨by decide, by decide, by decide, ?_⟩
      have e5 : [row "number" (cps far) 9000, row "sign" (cps ",") 9040] = [D.tup [.str (Str.ofString "number"), .str far, .int 9000], .tup [.str (Str.ofString "sign"), .str (Str.ofString ","), .int 9040]] := by
        unfold row
        rw [mk_cps, mk_cps]
        rfl
      rw [e5]
      refine eqG_refl (n := not) (k := 3) (pd_of _ _ (by decide +kernel)) (by decide) ⟨_, rfl, ?_⟩
      refine if_false_of' rfl ?_
      refine ⟨by rw [len_long]; decide +kernel, ?_⟩
      refine plain_told hlA ?_
      rw [eA]
      refine ⟨by decide, ?_⟩
      refine eqG_refl (n := not) (k := 3) (pd_of _ _ (by decide +kernel)) (by decide) ⟨_, rfl, q⟩
    dsimp only
    refine ret_i (d := .bl true) (fun Q X q => ?_) q
    simp only [mOp, mN, mLc, mRng1, mC, mLst, mNil]
    refine ⟨1500, rfl, by omega, by omega, lc_none _ (fun d hd R Z z => ?_) (by rw [hl]; omega) ⟨by decide, ?_⟩⟩
    · have : ∃ k : Nat, k < 1500 ∧ d = .int ((k : Nat) : Int) := by
        unfold rangeOf at hd
        obtain ⟨k, hk, e⟩ := List.mem_map.mp hd
        refine ⟨k, by simpa using hk, ?_⟩
        rw [← e]
        simp
      obtain ⟨k, hk, rfl⟩ := this
      simp only [mgN, wipeE, mTest, mOp, mSl, mO, mP, mC, mulD, addD, List.set, List.getElem?_cons_succ, List.getElem?_cons_zero]
      refine ⟨.inl ⟨by omega, by omega⟩, 4 * (k : Int), rfl, ⟨.inl ⟨by omega, by omega⟩, 4 * (k : Int) + 4, rfl, ?_⟩⟩
      rw [slD_l]
      have ec : cutG (fours 1500 0 ++ [row "number" (cps far) 9000, row "sign" (cps ",") 9040]) (some (4 * (k : Int))) (some (4 * (k : Int) + 4)) = four (6 * k) := by
        unfold cutG
        have hz : (fours 1500 0 ++ [row "number" (cps far) 9000, row "sign" (cps ",") 9040]).length = 6002 := by rw [List.length_append, fours_len]; rfl
        rw [hz, show 4 * (k : Int) = ((4 * k : Nat) : Int) by simp, show ((4 * k : Nat) : Int) + 4 = ((4 * k + 4 : Nat) : Int) by simp, HT.sIx_nat, HT.sIx_nat, Nat.min_eq_left (by omega), Nat.min_eq_left (by omega), Nat.add_sub_cancel_left, fours_cut k 1500 0 _ hk, Nat.zero_add]
      rw [ec]
      have ed : atI (dueL 1500) (k : Int) = some (.lst (four (6 * k))) := by
        rw [atI_nat]
        unfold dueL
        rw [List.getElem?_map, List.getElem?_range hk]
        rfl
      refine ⟨_, ed, ?_⟩
      refine eqG_refl (n := not) (k := 2) (fun d hd => ?_) (by decide) ⟨_, rfl, ?_⟩
      · have tup3 : ∀ (s w : Str) (p : Nat), p < 20000 → PyData.strOk s = true → PyData.strOk w = true → Pd 1 (row s (cps w) p) := fun s w p hp h1 h2 x hx => by
          have hx : x ∈ [D.str s, D.str (mkS (cps w)), D.int (p : Int)] := hx
          rw [mk_cps] at hx
          simp only [List.mem_cons, List.not_mem_nil, or_false] at hx
          rcases hx with hx | hx | hx <;> subst hx
          · exact h1
          · exact h2
          · show (p : Int).natAbs < 2 ^ 64
            omega
        unfold four at hd
        simp only [List.mem_cons, List.not_mem_nil, or_false] at hd
        rcases hd with hd | hd | hd | hd <;> subst hd <;> exact tup3 _ _ _ (by omega) (by decide +kernel) (by decide +kernel)
      · exact if_false_of' rfl z
    · exact ⟨.list [], .list [], rfl, rfl, by decide +kernel, by decide +kernel, q⟩
  · rintro i d hd δ' k ⟨a3, a4, rfl⟩ hk
    have hd' : d = .int ((i : Nat) : Int) := by
      unfold rangeOf at hd
      rw [List.getElem?_map] at hd
      cases e : (List.range (1500 : Int).toNat)[i]? with
      | none => rw [e] at hd; cases hd
      | some j =>
        rw [e] at hd
        have : j = i := by
          rw [List.getElem?_eq_some_iff] at e
          obtain ⟨h1, h2⟩ := e
          simpa using h2.symm
        subst this
        have := Option.some.inj hd
        rw [← this]
        simp
    have hi : i < 1500 := by
      have := (List.getElem?_eq_some_iff.mp hd).1
      unfold rangeOf at this
      simpa using this
    subst hd'
    refine seq_i (set_i (d := .int ((6 * i : Nat) : Int)) (fun Q X q => ?_) ?_)
    · simp only [mOp, mO, mC, List.getElem?_cons_succ, List.getElem?_cons_zero, mgN, List.set]
      refine ⟨.inl ⟨by omega, by omega⟩, ?_⟩
      have : (6 : Int) * (i : Int) = ((6 * i : Nat) : Int) := by simp
      rw [this]
      exact q
    · dsimp only [List.set, mgN]
      simp only [mApp, mN, mLst, mCons, mTup, mC, mV, mOp, mO, mNil, addD, List.set, List.getElem?_cons_succ, List.getElem?_cons_zero]
      have hlen : (dueL i).length < 1000000 := by
        unfold dueL
        rw [List.length_map, List.length_range]
        omega
      refine ⟨by simp, by simp, by simp, by simp, by simp, hlen, ?_⟩
      refine hk _ ⟨some (.d (.int (i : Int))), some (.d (.int ((6 * i : Nat) : Int))), ?_⟩
      rw [dueL_more]
      simp [four, row, mk_cps]
end Ct.K6

set_option Elab.async false
set_option linter.all false
set_option maxRecDepth 100000
set_option maxHeartbeats 4000000
namespace Ct.K6
open PySem PySem.Spec PyProof.Rows L2 Ct
abbrev st_source : Stmt := top 15
abbrev st_pick : Stmt := top 16
abbrev N_source : List Str := ["_law_script", "_law_mixed", "_law_cell"]
abbrev N_pick : List Str := ["_law_source_here", "_law_many", "_law_left", "_law_mixed"]
theorem sc_source : FnScope N_source ["_law_script"] (defScope st_source) := ⟨rfl, rfl, rfl, by decide +kernel, rfl, by decide +kernel, by decide +kernel⟩
theorem sc_pick : FnScope N_pick ["_law_source_here", "_law_many"] (defScope st_pick) := ⟨rfl, rfl, rfl, by decide +kernel, rfl, by decide +kernel, by decide +kernel⟩
section
variable {P : Program} {w : World} {K : PySem.W.Frag} {mg : Str → Option Value} {base : Heap} {G : Gb} {f : Addr} {fd : FuncData}
theorem ok_pick (F : Fun K "_law_pick" "_law_pick" st_pick f fd) (ml : mg "len" = none) (mi : mg "int" = none) (mm : mg "max" = none) : FnOk P w K mg base (L2.CX P w) 1 f fd ["_law_source_here", "_law_many"] (spOf G s_l_pick) := by
  refine F.okX (k := 0) sc_pick (fun vs H Q E h => ?_) (fun cdv A outer s H vs Q E hr h => ⟨t_pick K, ?_, pure_pick rfl (pick_sp h)⟩)
  · obtain ⟨s, c, many, rfl, _⟩ := pick_sp h
    rfl
  · have hu : (Xof P w K mg base N_pick "_law_pick" st_pick f cdv A outer s H E).A.units + 1 < cLine := Nat.lt_trans (Nat.add_lt_add_left (by decide : 1 < 200) _) hr.un
    have big : ∀ {p p2 : Pos} {e : Expr} {t : TE}, True := True.intro
    refine pss_cons (ps_while (passes_of rfl) (pw_and (pt_cmpR op_gt (pv 1) pe_int (nomark _)) (pw_and (pt_cmpR op_lt (pe_dget hu (pv 0) pe_str (fun _ _ => rfl)) pe_int (nomark _)) (pw_and1 (pt_cmpR op_gt (pe_callB (x := "len") call_len_seq rfl ml PySem.boot_len (pa_cons (pe_dget hu (pv 0) pe_str (fun _ _ => rfl)) pa_nil)) pe_int (nomark _))))).pt
        (pss_one (ps_dput hu (pv 0) pe_str (pe_bm0 PySem.F.plainAttrs_list PySem.F.slot_list_pop PySem.F.type_list_pop mt_pop (pe_dget hu (pv 0) pe_str (fun _ _ => rfl))) rfl)))
      (pss_cons (ps_set (i := 2) sc_pick.nd rfl (Or.inl rfl) (pe_dget hu (pv 0) pe_str (fun _ _ => rfl)))
      (pss_cons (ps_if (pw_or (pt_cmpR op_lt (pv 1) pe_int (nomark _)) (pw_or1 (pt_cmpR op_gt (pv 2) pe_int (nomark _)))).pt
        (pss_cons (ps_dput hu (pv 0) pe_str (pe_op op_fdiv (pv 2) (pe_callB (call_max2 rfl) rfl mm (by decide +kernel) (pa_cons pe_int (pa_cons (pv 1) pa_nil)))) rfl)
          (pss_one (ps_ret (pe_op op_mod (pe_callTy call_int1 rfl mi (by decide +kernel) (pa_cons (pv 2) pa_nil)) (pe_callB (call_max2 rfl) rfl mm (by decide +kernel) (pa_cons pe_int (pa_cons (pv 1) pa_nil))))))) pss_nil)
      (pss_cons (ps_dput hu (pv 0) pe_str (pe_op op_add (pe_dget hu (pv 0) pe_str (fun _ _ => rfl)) pe_int) rfl)
      (pss_cons (ps_set (i := 3) sc_pick.nd rfl (Or.inl rfl) (pe_op op_mod (pe_callTy call_int1 rfl mi (by decide +kernel) (pa_cons (pe_op op_add (pe_dget hu (pv 0) pe_str (fun _ _ => rfl)) (pe_op op_mul (pe_dget hu (pv 0) pe_str (fun _ _ => rfl)) pe_int)) pa_nil)) pe_int))
      (pss_cons (ps_set (i := 3) sc_pick.nd rfl (Or.inl rfl) (pe_op op_mod (pe_callTy call_int1 rfl mi (by decide +kernel) (pa_cons (pe_op op_add (pe_op op_mul (pv 3) (pv 3)) (pe_op op_mul (pe_dget hu (pv 0) pe_str (fun _ _ => rfl)) pe_int)) pa_nil)) pe_int))
      (pss_one (ps_ret (pe_op op_mod (pe_callTy call_int1 rfl mi (by decide +kernel) (pa_cons (pe_op op_fdiv (pv 3) pe_int) pa_nil)) (pv 1)))))))))
theorem ok_source (F : Fun K "_law_source" "_law_source" st_source f fd) (mi : mg "int" = none) (ma : mg "abs" = none) : FnOk P w K mg base CX0 1 f fd ["_law_script"] (spSource K) := by
  refine F.ok (k := 0) sc_source (fun vs H Q E h => ?_) (fun cdv A outer s H vs Q E hr h => ⟨t_source K, ?_, pure_source rfl h⟩)
  · obtain ⟨a, ns, rfl, _⟩ := h
    rfl
  · exact pss_cons (ps_set (i := 1) sc_source.nd rfl (Or.inl rfl) pe_int)
      (pss_cons (ps_for PassesOwn.never rfl (pi_list (pv 0)) (pg_name (i := 2) sc_source.nd rfl (Or.inl rfl))
        (pss_one (ps_set (i := 1) sc_source.nd rfl (Or.inl rfl) (pe_op op_mod (pe_callTy call_int1 rfl mi (by decide +kernel) (pa_cons (pe_op op_add (pe_op op_add (pe_op op_mul (pv 1) pe_int) (pe_op op_mul (pv 2) pe_int)) pe_int) pa_nil)) pe_int))))
      (pss_one (ps_ret (pe_disp (pps_cons pe_str (pe_revL (pe_lc (own := [("_law_cell", 2)]) rfl sc_source.nd (pi_list (pv 0)) (blkAt N_source (defScope st_source) ⟨rfl, by decide +kernel, by decide +kernel, by decide +kernel, by decide +kernel⟩) (fun s H C cl fp => pg_name (i := 2) sc_source.nd rfl (Or.inl rfl)) (fun s H C cl fp => pts_nil) (fun s H C cl fp => pe_callB call_abs rfl ma (by decide +kernel) (pa_cons (pv 2) pa_nil))))
        (pps_cons pe_str pe_int (pps_cons pe_str (pv 1) (pps_cons pe_str pe_int pps_nil)))) rfl rfl (by intro z; cases z) (by decide)))))
end
end Ct.K6

set_option Elab.async false
set_option linter.all false
set_option maxRecDepth 100000
set_option maxHeartbeats 4000000
namespace Ct.K6
open PySem PySem.Spec PyProof.Rows L2 Ct
theorem Cal.mk' {P : Program} {w : World} {K : PySem.W.Frag} {mg : Str → Option Value} {base : Heap} {x qual : Str} {st : Stmt} {f : Addr} {fd : FuncData} {k : Nat} {ps : List Str} {sp : Sp} (F : Fun K x qual st f fd) (hm : mg x = some (.ref f)) (hb : Binds K fd ps []) (ok : FnOk P w K mg base (L2.CX P w) k f fd ps sp) : Cal P w K mg base x k ps sp := ⟨f, fd, hm, F.kp, hb, ok⟩
section
variable {P : Program} {w : World} {K : PySem.W.Frag} {mg : Str → Option Value} {base : Heap} {G : Gb} {f : Addr} {fd : FuncData}
theorem ok_run_at (gK : K = G.K) (F : Fun K "run_at" "run_at" st_run_at f fd) (h_len : mg "len" = none) : FnOk P w K mg base (L2.CX P w) 1 f fd ["text", "place", "chars"] (spOf G s_run_at) :=
  fn_ct (k := 0) F sc_run_at gK (fun ds Q X h => by obtain ⟨t, c, p, rfl, _⟩ := h; rfl) (fun cdv A outer s H E B g => b_run_at h_len cdv A outer s H E B g) p_run_at
theorem ok_lexeme_at (gK : K = G.K) (F : Fun K "lexeme_at" "lexeme_at" st_lexeme_at f fd) (c_run_at : Cal P w K mg base "run_at" 1 ["text", "place", "chars"] (spOf G s_run_at)) (h_DIGITS : ∃ t, mg "DIGITS" = some (.str "0123456789" t)) (h_LETTERS : ∃ t, mg "LETTERS" = some (.str "abcdefghijklmnopqrstuvwxyz" t)) (h_LONGEST_WORD : ∃ t, mg "LONGEST_WORD" = some (.int 12 t)) (h_SIGNS : ∃ t, mg "SIGNS" = some (.str "(){},;" t)) (h_WORD_CHARS : ∃ t, mg "WORD_CHARS" = some (.str "abcdefghijklmnopqrstuvwxyz0123456789" t)) (h_len : mg "len" = none) : FnOk P w K mg base (L2.CX P w) 2 f fd ["text", "place"] (spOf G s_lexeme_at) :=
  fn_ct (k := 1) F sc_lexeme_at gK (fun ds Q X h => by obtain ⟨t, p, rfl, _⟩ := h; rfl) (fun cdv A outer s H E B g => b_lexeme_at c_run_at h_DIGITS h_LETTERS h_LONGEST_WORD h_SIGNS h_WORD_CHARS h_len cdv A outer s H E B g) p_lexeme_at
theorem ok_lexeme_rows (gK : K = G.K) (F : Fun K "lexeme_rows" "lexeme_rows" st_lexeme_rows f fd) (c_lexeme_at : Cal P w K mg base "lexeme_at" 2 ["text", "place"] (spOf G s_lexeme_at)) (h_GAPS : ∃ t, mg "GAPS" = some (.str " \n" t)) (h_len : mg "len" = none) : FnOk P w K mg base (L2.CX P w) 3 f fd ["text"] (spOfN G s_lexeme_rows) :=
  fn_ctN (k := 2) F sc_lexeme_rows gK (fun ds Q X h => by obtain ⟨t, rfl, _⟩ := h; rfl) (fun cdv A outer s H E B g => b_lexeme_rows c_lexeme_at h_GAPS h_len cdv A outer s H E B g) p_lexeme_rows
theorem ok_lexemes (gK : K = G.K) (F : Fun K "lexemes" "lexemes" st_lexemes f fd) (c_lexeme_rows : Cal P w K mg base "lexeme_rows" 3 ["text"] (spOfN G s_lexeme_rows)) (x_BadText : ExI P w K mg base G "BadText" 0 "place") : FnOk P w K mg base (L2.CX P w) 4 f fd ["text"] (spOfN G s_lexemes) :=
  fn_ctN (k := 3) F sc_lexemes gK (fun ds Q X h => by obtain ⟨t, rfl, _⟩ := h; rfl) (fun cdv A outer s H E B g => b_lexemes c_lexeme_rows x_BadText cdv A outer s H E B g) p_lexemes
theorem ok_l_of (gK : K = G.K) (F : Fun K "_law_of" "_law_of" st_l_of f fd) (c_l_pick : Cal P w K mg base "_law_pick" 1 ["_law_source_here", "_law_many"] (spOf G s_l_pick)) (h_len : mg "len" = none) : FnOk P w K mg base (L2.CX P w) 2 f fd ["_law_source_here", "_law_some"] (spOf G s_l_of) :=
  fn_ct (k := 1) F sc_l_of gK (fun ds Q X h => by obtain ⟨l, rfl, _⟩ := h; rfl) (fun cdv A outer s H E B g => b_l_of c_l_pick h_len cdv A outer s H E B g) p_of
theorem ok_l_is_word (gK : K = G.K) (F : Fun K "_law_is_word" "_law_is_word" st_l_is_word f fd) (h_isinstance : mg "isinstance" = none) (h_len : mg "len" = none) (h_str : mg "str" = none) : FnOk P w K mg base (L2.CX P w) 1 f fd ["_law_value"] (spOf G s_l_is_word) :=
  fn_ct (k := 0) F sc_l_is_word gK (fun ds Q X h => by obtain ⟨t, rfl, _⟩ := h; rfl) (fun cdv A outer s H E B g => b_l_is_word h_isinstance h_len h_str cdv A outer s H E B g) p_is_word
theorem ok_l_spaced (gK : K = G.K) (F : Fun K "_law_spaced" "_law_spaced" st_l_spaced f fd) (c_l_of : Cal P w K mg base "_law_of" 2 ["_law_source_here", "_law_some"] (spOf G s_l_of)) : FnOk P w K mg base (L2.CX P w) 3 f fd ["_law_source_here", "_law_signs"] (spOf G s_l_spaced) :=
  fn_ct (k := 2) F sc_l_spaced gK (fun ds Q X h => by obtain ⟨t, rfl, _⟩ := h; rfl) (fun cdv A outer s H E B g => b_l_spaced c_l_of cdv A outer s H E B g) p_spaced
theorem ok_l_run (gK : K = G.K) (F : Fun K "_law_run" "_law_run" st_l_run f fd) (h_len : mg "len" = none) : FnOk P w K mg base (L2.CX P w) 1 f fd ["_law_text", "_law_place", "_law_signs"] (spOf G s_l_run) :=
  fn_ct (k := 0) F sc_l_run gK (fun ds Q X h => by obtain ⟨t, c, p, rfl, _⟩ := h; rfl) (fun cdv A outer s H E B g => b_l_run h_len cdv A outer s H E B g) p_run
theorem ok_l_lexeme (gK : K = G.K) (F : Fun K "_law_lexeme" "_law_lexeme" st_l_lexeme f fd) (c_l_is_word : Cal P w K mg base "_law_is_word" 1 ["_law_value"] (spOf G s_l_is_word)) (c_l_run : Cal P w K mg base "_law_run" 1 ["_law_text", "_law_place", "_law_signs"] (spOf G s_l_run)) (h_len : mg "len" = none) : FnOk P w K mg base (L2.CX P w) 2 f fd ["_law_text", "_law_place"] (spOf G s_l_lexeme) :=
  fn_ct (k := 1) F sc_l_lexeme gK (fun ds Q X h => by obtain ⟨t, p, rfl, _⟩ := h; rfl) (fun cdv A outer s H E B g => b_l_lexeme c_l_is_word c_l_run h_len cdv A outer s H E B g) p_lexeme
theorem ok_l_lexemes_due (gK : K = G.K) (F : Fun K "_law_lexemes_due" "_law_lexemes_due" st_l_lexemes_due f fd) (c_l_lexeme : Cal P w K mg base "_law_lexeme" 2 ["_law_text", "_law_place"] (spOf G s_l_lexeme)) (h_len : mg "len" = none) : FnOk P w K mg base (L2.CX P w) 3 f fd ["_law_text"] (spOf G s_l_lexemes_due) :=
  fn_ct (k := 2) F sc_l_lexemes_due gK (fun ds Q X h => by obtain ⟨t, rfl, _⟩ := h; rfl) (fun cdv A outer s H E B g => b_l_lexemes_due c_l_lexeme h_len cdv A outer s H E B g) p_due
theorem ok_l_told (gK : K = G.K) (F : Fun K "_law_told" "_law_told" st_l_told f fd) (c_lexemes : Cal P w K mg base "lexemes" 4 ["text"] (spOfN G s_lexemes)) (x_BadText : ExI P w K mg base G "BadText" 0 "place") : FnOk P w K mg base (L2.CX P w) 5 f fd ["_law_text"] (spOfL G s_l_told) :=
  fn_ctL (k := 4) F sc_l_told gK (fun ds Q Ql X h => by obtain ⟨t, rfl, _⟩ := h; rfl) (fun cdv A outer s H E B g => b_l_told c_lexemes x_BadText cdv A outer s H E B g) p_told
theorem ok_l_hand_right (gK : K = G.K) (F : Fun K "_law_hand_right" "_law_hand_right" st_l_hand_right f fd) (c_l_told : Cal P w K mg base "_law_told" 5 ["_law_text"] (spOfL G s_l_told)) : FnOk P w K mg base (L2.CX P w) 6 f fd [] (spOf G s_l_hand_right) :=
  fn_ct (k := 5) F sc_l_hand_right gK (fun ds Q X h => by obtain ⟨rfl, _⟩ := h; rfl) (fun cdv A outer s H E B g => b_l_hand_right c_l_told cdv A outer s H E B g) p_hand
theorem ok_l_long_right (gK : K = G.K) (F : Fun K "_law_long_right" "_law_long_right" st_l_long_right f fd) (c_l_told : Cal P w K mg base "_law_told" 5 ["_law_text"] (spOfL G s_l_told)) (h_range : mg "range" = none) : FnOk P w K mg base (L2.CX P w) 6 f fd [] (spOf G s_l_long_right) :=
  fn_ct (k := 5) F sc_l_long_right gK (fun ds Q X h => by obtain ⟨rfl, _⟩ := h; rfl) (fun cdv A outer s H E B g => b_l_long_right c_l_told h_range cdv A outer s H E B g) p_long
end
end Ct.K6

set_option Elab.async false
set_option linter.all false
set_option maxRecDepth 100000
set_option maxHeartbeats 4000000
namespace Ct.K6
open PySem PySem.Spec PyProof.Rows L2 Ct
abbrev st_init : Stmt := inClass (top 2) 0
theorem sc_init : FnScope ["self", "place"] ["self", "place"] (defScope st_init) := ⟨rfl, rfl, rfl, by decide +kernel, rfl, by decide +kernel, by decide +kernel⟩
section
variable {P : Program} {w : World} {K : PySem.W.Frag} {mg : Str → Option Value} {base : Heap} {G : Gb} {f : Addr} {fd : FuncData}
theorem ok_init {C : Addr} (F : Fun K "__init__" "BadText.__init__" st_init f fd) (T : OexC K C) (no : PySem.W.findIn K (.ref C) "place" = some none) : FnOk P w K mg base CX0 1 f fd ["self", "place"] (spEx C "place") := by
  refine F.ok (k := 0) sc_init (fun vs H Q E h => ?_) (fun cdv A outer s H vs Q E hr h => ⟨tOst K "place" (tVar 0) (tVar 1), pss_one (ps_ost (pv 0) (pv 1)), ?_⟩)
  · obtain ⟨a, y, rfl, _⟩ := h
    rfl
  · obtain ⟨a, y, rfl, ha, k⟩ := h
    exact ⟨_, rfl, _, rfl, a, C, rfl, T, no, .inl ⟨ha, fun dx h1 h2 => k dx h1 h2⟩⟩
theorem ok_law {fS : Addr} {fdS : FuncData} (gK : K = G.K) (F : Fun K "law" "law" st_law f fd) (FS : FnOk P w K mg base CX0 1 fS fdS ["_law_script"] (spSource K)) (mS : mg "_law_source" = some (.ref fS)) (kS : PySem.W.keepIn K (.ref fS) = true) (bS : Binds K fdS ["_law_script"] [])
    (c_l_hand_right : Cal P w K mg base "_law_hand_right" 6 [] (spOf G s_l_hand_right)) (c_l_lexemes_due : Cal P w K mg base "_law_lexemes_due" 3 ["_law_text"] (spOf G s_l_lexemes_due)) (c_l_long_right : Cal P w K mg base "_law_long_right" 6 [] (spOf G s_l_long_right)) (c_l_of : Cal P w K mg base "_law_of" 2 ["_law_source_here", "_law_some"] (spOf G s_l_of)) (c_l_pick : Cal P w K mg base "_law_pick" 1 ["_law_source_here", "_law_many"] (spOf G s_l_pick)) (c_l_spaced : Cal P w K mg base "_law_spaced" 3 ["_law_source_here", "_law_signs"] (spOf G s_l_spaced)) (c_l_told : Cal P w K mg base "_law_told" 5 ["_law_text"] (spOfL G s_l_told)) (h_len : mg "len" = none) (h_range : mg "range" = none) (h_repr : mg "repr" = none) (h_str : mg "str" = none) : FnG P w K mg base 7 f fd ["_law_script"] (spLaw K) :=
  fn_law (k := 6) (fS := fS) (fdS := fdS) (kS := 0) F sc_law gK (s0 := (defBody st_law).getD 0 (.Pass ⟨0, 0, 0, 0⟩)) (ss := (defBody st_law).drop 1) rfl (by decide)
    (fun cdv A outer s H E hr => ps_set (i := 1) sc_law.nd rfl (Or.inr rfl) (pe_callS FS (hr.mono (by decide)) rfl mS kS bS (fun _ _ _ _ _ _ _ z => z.elim) (pa_cons (pv 0) pa_nil)))
    (fun cdv A outer s H E B hG g => b_law c_l_hand_right c_l_lexemes_due c_l_long_right c_l_of c_l_pick c_l_spaced c_l_told h_len h_range h_repr h_str cdv A outer s H E B hG g) p_law
end
theorem exm_self {K : PySem.W.Frag} {S : Addr} (h1 : PySem.W.subIn K (.ref S) (.type "BaseException") = some true) (h2 : PySem.W.isClsIn K S = true) (h3 : PySem.W.typeIn K (.ref S) = some (.type "type")) (h4 : PySem.W.subIn K (.ref S) (.ref S) = some true) : PySem.W.exmOne K (.ref S) (.ref S) = some true := by
  have a1 : (PySem.W.subIn K (.ref S) (.type "BaseException") == some true) = true := by rw [h1]; rfl
  have a2 : ((PySem.W.clsIn K S).isSome && PySem.W.typeIn K (.ref S) == some (.type "type")) = true := by
    have z : (PySem.W.clsIn K S).isSome = true := h2
    rw [z, h3]; rfl
  unfold PySem.W.exmOne
  rw [if_pos a1]
  unfold PySem.W.kitCls
  dsimp only
  rw [if_pos a2]
  exact h4
theorem all_mk {l : PySem.W.OpenLaw} {w : World} {K : PySem.W.Frag} {h : Heap} {mg : Str → Option Value} {fa f0 f1 f2 f3 f4 f5 f6 f7 f8 f9 f10 f11 f12 f13 f14 f15 fI C CT : Addr} (X : K.In h) (G : h.Ns mainGlobals mg) (hfa : mg "law" = some (.ref fa))
    {od0 an0 od1 an1 od2 an2 od3 an3 od4 an4 od5 an5 od6 an6 od7 an7 od8 an8 od9 an9 od10 an10 od11 an11 od12 an12 od13 an13 od14 an14 od15 an15 od_i an_i : Option Addr}
    {sl0 sl1 sl2 sl3 sl4 sl5 sl6 sl7 sl8 sl9 sl10 sl11 sl12 sl13 sl14 sl15 sl_i : Array (Option Value)}
    {oc0 kV0 dc0 pm0 cd0 ct0 oc1 kV1 dc1 pm1 cd1 ct1 oc2 kV2 dc2 pm2 cd2 ct2 oc3 kV3 dc3 pm3 cd3 ct3 oc4 kV4 dc4 pm4 cd4 ct4 oc5 kV5 dc5 pm5 cd5 ct5 oc6 kV6 dc6 pm6 cd6 ct6 oc7 kV7 dc7 pm7 cd7 ct7 oc8 kV8 dc8 pm8 cd8 ct8 oc9 kV9 dc9 pm9 cd9 ct9 oc10 kV10 dc10 pm10 cd10 ct10 oc11 kV11 dc11 pm11 cd11 ct11 oc12 kV12 dc12 pm12 cd12 ct12 oc13 kV13 dc13 pm13 cd13 ct13 oc14 kV14 dc14 pm14 cd14 ct14 oc15 kV15 dc15 pm15 cd15 ct15 oc_i kV_i dc_i pm_i cd_i ct_i : Value}
    {t0 t1 t2 t3 t4 t5 : Tok}
    {nm q : Str} {N : Addr} {bs : List Value} {sn : List Str} {sub : List Value} {ab : Bool} {col : Option Bool} {dd : Option Addr} {m0 m1 m2 m3 m5 : Option Value}
    (a0 : PySem.W.nsIn K mainGlobals "run_at" = some (some (.ref f0)))
    (l0 : K.lookup f0 = some ⟨oc0, od0, .func (PySem.W.fnOf "run_at" "run_at" (defArgs st_run_at) (defBody st_run_at) (defScope st_run_at) .none kV0 dc0 pm0 an0 cd0 ct0), sl0⟩)
    (c0 : PySem.W.codeIn K cd0 "run_at" = true)
    (k0 : PySem.W.keepIn K (.ref f0) = true)
    (a1 : PySem.W.nsIn K mainGlobals "lexeme_at" = some (some (.ref f1)))
    (l1 : K.lookup f1 = some ⟨oc1, od1, .func (PySem.W.fnOf "lexeme_at" "lexeme_at" (defArgs st_lexeme_at) (defBody st_lexeme_at) (defScope st_lexeme_at) .none kV1 dc1 pm1 an1 cd1 ct1), sl1⟩)
    (c1 : PySem.W.codeIn K cd1 "lexeme_at" = true)
    (k1 : PySem.W.keepIn K (.ref f1) = true)
    (a2 : PySem.W.nsIn K mainGlobals "lexeme_rows" = some (some (.ref f2)))
    (l2 : K.lookup f2 = some ⟨oc2, od2, .func (PySem.W.fnOf "lexeme_rows" "lexeme_rows" (defArgs st_lexeme_rows) (defBody st_lexeme_rows) (defScope st_lexeme_rows) .none kV2 dc2 pm2 an2 cd2 ct2), sl2⟩)
    (c2 : PySem.W.codeIn K cd2 "lexeme_rows" = true)
    (k2 : PySem.W.keepIn K (.ref f2) = true)
    (a3 : PySem.W.nsIn K mainGlobals "lexemes" = some (some (.ref f3)))
    (l3 : K.lookup f3 = some ⟨oc3, od3, .func (PySem.W.fnOf "lexemes" "lexemes" (defArgs st_lexemes) (defBody st_lexemes) (defScope st_lexemes) .none kV3 dc3 pm3 an3 cd3 ct3), sl3⟩)
    (c3 : PySem.W.codeIn K cd3 "lexemes" = true)
    (k3 : PySem.W.keepIn K (.ref f3) = true)
    (a4 : PySem.W.nsIn K mainGlobals "_law_source" = some (some (.ref f4)))
    (l4 : K.lookup f4 = some ⟨oc4, od4, .func (PySem.W.fnOf "_law_source" "_law_source" (defArgs st_source) (defBody st_source) (defScope st_source) .none kV4 dc4 pm4 an4 cd4 ct4), sl4⟩)
    (c4 : PySem.W.codeIn K cd4 "_law_source" = true)
    (k4 : PySem.W.keepIn K (.ref f4) = true)
    (a5 : PySem.W.nsIn K mainGlobals "_law_pick" = some (some (.ref f5)))
    (l5 : K.lookup f5 = some ⟨oc5, od5, .func (PySem.W.fnOf "_law_pick" "_law_pick" (defArgs st_pick) (defBody st_pick) (defScope st_pick) .none kV5 dc5 pm5 an5 cd5 ct5), sl5⟩)
    (c5 : PySem.W.codeIn K cd5 "_law_pick" = true)
    (k5 : PySem.W.keepIn K (.ref f5) = true)
    (a6 : PySem.W.nsIn K mainGlobals "_law_of" = some (some (.ref f6)))
    (l6 : K.lookup f6 = some ⟨oc6, od6, .func (PySem.W.fnOf "_law_of" "_law_of" (defArgs st_l_of) (defBody st_l_of) (defScope st_l_of) .none kV6 dc6 pm6 an6 cd6 ct6), sl6⟩)
    (c6 : PySem.W.codeIn K cd6 "_law_of" = true)
    (k6 : PySem.W.keepIn K (.ref f6) = true)
    (a7 : PySem.W.nsIn K mainGlobals "_law_is_word" = some (some (.ref f7)))
    (l7 : K.lookup f7 = some ⟨oc7, od7, .func (PySem.W.fnOf "_law_is_word" "_law_is_word" (defArgs st_l_is_word) (defBody st_l_is_word) (defScope st_l_is_word) .none kV7 dc7 pm7 an7 cd7 ct7), sl7⟩)
    (c7 : PySem.W.codeIn K cd7 "_law_is_word" = true)
    (k7 : PySem.W.keepIn K (.ref f7) = true)
    (a8 : PySem.W.nsIn K mainGlobals "_law_spaced" = some (some (.ref f8)))
    (l8 : K.lookup f8 = some ⟨oc8, od8, .func (PySem.W.fnOf "_law_spaced" "_law_spaced" (defArgs st_l_spaced) (defBody st_l_spaced) (defScope st_l_spaced) .none kV8 dc8 pm8 an8 cd8 ct8), sl8⟩)
    (c8 : PySem.W.codeIn K cd8 "_law_spaced" = true)
    (k8 : PySem.W.keepIn K (.ref f8) = true)
    (a9 : PySem.W.nsIn K mainGlobals "_law_run" = some (some (.ref f9)))
    (l9 : K.lookup f9 = some ⟨oc9, od9, .func (PySem.W.fnOf "_law_run" "_law_run" (defArgs st_l_run) (defBody st_l_run) (defScope st_l_run) .none kV9 dc9 pm9 an9 cd9 ct9), sl9⟩)
    (c9 : PySem.W.codeIn K cd9 "_law_run" = true)
    (k9 : PySem.W.keepIn K (.ref f9) = true)
    (a10 : PySem.W.nsIn K mainGlobals "_law_lexeme" = some (some (.ref f10)))
    (l10 : K.lookup f10 = some ⟨oc10, od10, .func (PySem.W.fnOf "_law_lexeme" "_law_lexeme" (defArgs st_l_lexeme) (defBody st_l_lexeme) (defScope st_l_lexeme) .none kV10 dc10 pm10 an10 cd10 ct10), sl10⟩)
    (c10 : PySem.W.codeIn K cd10 "_law_lexeme" = true)
    (k10 : PySem.W.keepIn K (.ref f10) = true)
    (a11 : PySem.W.nsIn K mainGlobals "_law_lexemes_due" = some (some (.ref f11)))
    (l11 : K.lookup f11 = some ⟨oc11, od11, .func (PySem.W.fnOf "_law_lexemes_due" "_law_lexemes_due" (defArgs st_l_lexemes_due) (defBody st_l_lexemes_due) (defScope st_l_lexemes_due) .none kV11 dc11 pm11 an11 cd11 ct11), sl11⟩)
    (c11 : PySem.W.codeIn K cd11 "_law_lexemes_due" = true)
    (k11 : PySem.W.keepIn K (.ref f11) = true)
    (a12 : PySem.W.nsIn K mainGlobals "_law_told" = some (some (.ref f12)))
    (l12 : K.lookup f12 = some ⟨oc12, od12, .func (PySem.W.fnOf "_law_told" "_law_told" (defArgs st_l_told) (defBody st_l_told) (defScope st_l_told) .none kV12 dc12 pm12 an12 cd12 ct12), sl12⟩)
    (c12 : PySem.W.codeIn K cd12 "_law_told" = true)
    (k12 : PySem.W.keepIn K (.ref f12) = true)
    (a13 : PySem.W.nsIn K mainGlobals "_law_hand_right" = some (some (.ref f13)))
    (l13 : K.lookup f13 = some ⟨oc13, od13, .func (PySem.W.fnOf "_law_hand_right" "_law_hand_right" (defArgs st_l_hand_right) (defBody st_l_hand_right) (defScope st_l_hand_right) .none kV13 dc13 pm13 an13 cd13 ct13), sl13⟩)
    (c13 : PySem.W.codeIn K cd13 "_law_hand_right" = true)
    (k13 : PySem.W.keepIn K (.ref f13) = true)
    (a14 : PySem.W.nsIn K mainGlobals "_law_long_right" = some (some (.ref f14)))
    (l14 : K.lookup f14 = some ⟨oc14, od14, .func (PySem.W.fnOf "_law_long_right" "_law_long_right" (defArgs st_l_long_right) (defBody st_l_long_right) (defScope st_l_long_right) .none kV14 dc14 pm14 an14 cd14 ct14), sl14⟩)
    (c14 : PySem.W.codeIn K cd14 "_law_long_right" = true)
    (k14 : PySem.W.keepIn K (.ref f14) = true)
    (a15 : PySem.W.nsIn K mainGlobals "law" = some (some (.ref f15)))
    (l15 : K.lookup f15 = some ⟨oc15, od15, .func (PySem.W.fnOf "law" "law" (defArgs st_law) (defBody st_law) (defScope st_law) .none kV15 dc15 pm15 an15 cd15 ct15), sl15⟩)
    (c15 : PySem.W.codeIn K cd15 "law" = true)
    (k15 : PySem.W.keepIn K (.ref f15) = true)
    (z0 : PySem.W.nsIn K mainGlobals "len" = some none)
    (z1 : PySem.W.nsIn K mainGlobals "range" = some none)
    (z2 : PySem.W.nsIn K mainGlobals "repr" = some none)
    (z3 : PySem.W.nsIn K mainGlobals "str" = some none)
    (z4 : PySem.W.nsIn K mainGlobals "int" = some none)
    (z5 : PySem.W.nsIn K mainGlobals "max" = some none)
    (z6 : PySem.W.nsIn K mainGlobals "abs" = some none)
    (z7 : PySem.W.nsIn K mainGlobals "isinstance" = some none)
    (g0 : PySem.W.nsIn K mainGlobals "LETTERS" = some (some (.str "abcdefghijklmnopqrstuvwxyz" t0)))
    (g1 : PySem.W.nsIn K mainGlobals "DIGITS" = some (some (.str "0123456789" t1)))
    (g2 : PySem.W.nsIn K mainGlobals "WORD_CHARS" = some (some (.str "abcdefghijklmnopqrstuvwxyz0123456789" t2)))
    (g3 : PySem.W.nsIn K mainGlobals "SIGNS" = some (some (.str "(){},;" t3)))
    (g4 : PySem.W.nsIn K mainGlobals "GAPS" = some (some (.str " \n" t4)))
    (g5 : PySem.W.nsIn K mainGlobals "LONGEST_WORD" = some (some (.int 12 t5)))
    (aC : PySem.W.nsIn K mainGlobals "BadText" = some (some (.ref C)))
    (xL : K.lookup C = some (excClassObj nm q C N bs [.ref CT, .type "ValueError", .type "Exception", .type "BaseException", .type "object"] true sn sub ab col dd m0 m1 m2 m3 m5 "ValueError.__new__"))
    (sa : PySem.W.findIn K (.ref C) "__setattr__" = some (some (.builtin "object.__setattr__")))
    (ga : PySem.W.findIn K (.ref C) "__getattribute__" = some (some (.builtin "BaseException.__getattribute__")))
    (gg : PySem.W.findIn K (.ref C) "__getattr__" = some none)
    (nb : PySem.W.findIn K (.ref C) "place" = some none)
    (ai : PySem.W.findIn K (.ref C) "__init__" = some (some (.ref fI)))
    (ti : PySem.W.typeIn K (.ref fI) = some (.type "function"))
    (li : K.lookup fI = some ⟨oc_i, od_i, .func (PySem.W.fnOf "__init__" "BadText.__init__" (defArgs st_init) (defBody st_init) (defScope st_init) .none kV_i dc_i pm_i an_i cd_i ct_i), sl_i⟩)
    (ci : PySem.W.codeIn K cd_i "BadText.__init__" = true)
    (ki : PySem.W.keepIn K (.ref fI) = true)
    (kC : PySem.W.keepIn K (.ref C) = true)
    (eC : PySem.W.subIn K (.ref C) (.type "BaseException") = some true)
    (tC : PySem.W.typeIn K (.ref C) = some (.type "type"))
    (hC : PySem.W.hasDictIn K C = true)
    (iC : PySem.W.isClsIn K C = true)
    (sC : PySem.W.subIn K (.ref C) (.ref C) = some true) :
    ∃ fd : FuncData, (∀ (s : Shared) (v : Value), BindsTo s fd ⟨[v], []⟩ [("_law_script", v)]) ∧ ∀ base : Heap, K.In base → base.Ns mainGlobals mg → FnG l.prog w K mg base 7 fa fd ["_law_script"] (spLaw K) := by
  have e := hfa.symm.trans (PySem.W.mg_of X G a15)
  cases e
  have F0 := fun_mk (st := st_run_at) l0 c0 k0
  have b0 := F0.binds (ps := ["text", "place", "chars"]) fun _ _ _ _ _ _ us hl => match us, hl with | [_, _, _], _ => rfl
  have mm0 := PySem.W.mg_of X G a0
  have F1 := fun_mk (st := st_lexeme_at) l1 c1 k1
  have b1 := F1.binds (ps := ["text", "place"]) fun _ _ _ _ _ _ us hl => match us, hl with | [_, _], _ => rfl
  have mm1 := PySem.W.mg_of X G a1
  have F2 := fun_mk (st := st_lexeme_rows) l2 c2 k2
  have b2 := F2.binds (ps := ["text"]) fun _ _ _ _ _ _ us hl => match us, hl with | [_], _ => rfl
  have mm2 := PySem.W.mg_of X G a2
  have F3 := fun_mk (st := st_lexemes) l3 c3 k3
  have b3 := F3.binds (ps := ["text"]) fun _ _ _ _ _ _ us hl => match us, hl with | [_], _ => rfl
  have mm3 := PySem.W.mg_of X G a3
  have F4 := fun_mk (st := st_source) l4 c4 k4
  have b4 := F4.binds (ps := ["_law_script"]) fun _ _ _ _ _ _ us hl => match us, hl with | [_], _ => rfl
  have mm4 := PySem.W.mg_of X G a4
  have F5 := fun_mk (st := st_pick) l5 c5 k5
  have b5 := F5.binds (ps := ["_law_source_here", "_law_many"]) fun _ _ _ _ _ _ us hl => match us, hl with | [_, _], _ => rfl
  have mm5 := PySem.W.mg_of X G a5
  have F6 := fun_mk (st := st_l_of) l6 c6 k6
  have b6 := F6.binds (ps := ["_law_source_here", "_law_some"]) fun _ _ _ _ _ _ us hl => match us, hl with | [_, _], _ => rfl
  have mm6 := PySem.W.mg_of X G a6
  have F7 := fun_mk (st := st_l_is_word) l7 c7 k7
  have b7 := F7.binds (ps := ["_law_value"]) fun _ _ _ _ _ _ us hl => match us, hl with | [_], _ => rfl
  have mm7 := PySem.W.mg_of X G a7
  have F8 := fun_mk (st := st_l_spaced) l8 c8 k8
  have b8 := F8.binds (ps := ["_law_source_here", "_law_signs"]) fun _ _ _ _ _ _ us hl => match us, hl with | [_, _], _ => rfl
  have mm8 := PySem.W.mg_of X G a8
  have F9 := fun_mk (st := st_l_run) l9 c9 k9
  have b9 := F9.binds (ps := ["_law_text", "_law_place", "_law_signs"]) fun _ _ _ _ _ _ us hl => match us, hl with | [_, _, _], _ => rfl
  have mm9 := PySem.W.mg_of X G a9
  have F10 := fun_mk (st := st_l_lexeme) l10 c10 k10
  have b10 := F10.binds (ps := ["_law_text", "_law_place"]) fun _ _ _ _ _ _ us hl => match us, hl with | [_, _], _ => rfl
  have mm10 := PySem.W.mg_of X G a10
  have F11 := fun_mk (st := st_l_lexemes_due) l11 c11 k11
  have b11 := F11.binds (ps := ["_law_text"]) fun _ _ _ _ _ _ us hl => match us, hl with | [_], _ => rfl
  have mm11 := PySem.W.mg_of X G a11
  have F12 := fun_mk (st := st_l_told) l12 c12 k12
  have b12 := F12.binds (ps := ["_law_text"]) fun _ _ _ _ _ _ us hl => match us, hl with | [_], _ => rfl
  have mm12 := PySem.W.mg_of X G a12
  have F13 := fun_mk (st := st_l_hand_right) l13 c13 k13
  have b13 := F13.binds (ps := []) fun _ _ _ _ _ _ us hl => match us, hl with | [], _ => rfl
  have mm13 := PySem.W.mg_of X G a13
  have F14 := fun_mk (st := st_l_long_right) l14 c14 k14
  have b14 := F14.binds (ps := []) fun _ _ _ _ _ _ us hl => match us, hl with | [], _ => rfl
  have mm14 := PySem.W.mg_of X G a14
  have F15 := fun_mk (st := st_law) l15 c15 k15
  have mm15 := PySem.W.mg_of X G a15
  have h_len := PySem.W.mg_none_of X G z0
  have h_range := PySem.W.mg_none_of X G z1
  have h_repr := PySem.W.mg_none_of X G z2
  have h_str := PySem.W.mg_none_of X G z3
  have h_int := PySem.W.mg_none_of X G z4
  have h_max := PySem.W.mg_none_of X G z5
  have h_abs := PySem.W.mg_none_of X G z6
  have h_isinstance := PySem.W.mg_none_of X G z7
  have h_LETTERS : ∃ t, mg "LETTERS" = some (.str "abcdefghijklmnopqrstuvwxyz" t) := ⟨_, PySem.W.mg_of X G g0⟩
  have h_DIGITS : ∃ t, mg "DIGITS" = some (.str "0123456789" t) := ⟨_, PySem.W.mg_of X G g1⟩
  have h_WORD_CHARS : ∃ t, mg "WORD_CHARS" = some (.str "abcdefghijklmnopqrstuvwxyz0123456789" t) := ⟨_, PySem.W.mg_of X G g2⟩
  have h_SIGNS : ∃ t, mg "SIGNS" = some (.str "(){},;" t) := ⟨_, PySem.W.mg_of X G g3⟩
  have h_GAPS : ∃ t, mg "GAPS" = some (.str " \n" t) := ⟨_, PySem.W.mg_of X G g4⟩
  have h_LONGEST_WORD : ∃ t, mg "LONGEST_WORD" = some (.int 12 t) := ⟨_, PySem.W.mg_of X G g5⟩
  have Fi := fun_mk (st := st_init) li ci ki
  have bi := Fi.binds (ps := ["self", "place"]) fun _ _ _ _ _ _ us hl => match us, hl with | [_, _], _ => rfl
  have T : OexC K C := ⟨⟨nm, q, N, bs, _, sn, sub, ab, col, dd, m0, m1, m2, m3, m5, xL, rfl⟩, sa, eC, tC, kC⟩
  refine ⟨PySem.W.fnOf "law" "law" (defArgs st_law) (defBody st_law) (defScope st_law) .none kV15 dc15 pm15 an15 cd15 ct15, fun s v => .of_eq rfl, fun base _ _ => ?_⟩
  let G0 : Gb := ⟨K, fun _ => C⟩
  have x_BadText : ExI l.prog w K mg base G0 "BadText" 0 "place" := ⟨fI, _, _, T, ai, ti, ok_init Fi T nb, bi, PySem.W.mg_of X G aC, exm_self eC iC tC sC, ⟨ga, gg, eC, hC⟩, nb⟩
  have FS : FnOk l.prog w K mg base CX0 1 f4 _ ["_law_script"] (spSource K) := ok_source F4 h_int h_abs
  have c_run_at : Cal l.prog w K mg base "run_at" 1 _ (spOf G0 s_run_at) := Cal.mk' F0 mm0 b0 (ok_run_at rfl F0 h_len)
  have c_lexeme_at : Cal l.prog w K mg base "lexeme_at" 2 _ (spOf G0 s_lexeme_at) := Cal.mk' F1 mm1 b1 (ok_lexeme_at rfl F1 c_run_at h_DIGITS h_LETTERS h_LONGEST_WORD h_SIGNS h_WORD_CHARS h_len)
  have c_lexeme_rows : Cal l.prog w K mg base "lexeme_rows" 3 _ (spOfN G0 s_lexeme_rows) := Cal.mk' F2 mm2 b2 (ok_lexeme_rows rfl F2 c_lexeme_at h_GAPS h_len)
  have c_lexemes : Cal l.prog w K mg base "lexemes" 4 _ (spOfN G0 s_lexemes) := Cal.mk' F3 mm3 b3 (ok_lexemes rfl F3 c_lexeme_rows x_BadText)
  have c_l_pick : Cal l.prog w K mg base "_law_pick" 1 _ (spOf G0 s_l_pick) := Cal.mk' F5 mm5 b5 (ok_pick F5 h_len h_int h_max)
  have c_l_of : Cal l.prog w K mg base "_law_of" 2 _ (spOf G0 s_l_of) := Cal.mk' F6 mm6 b6 (ok_l_of rfl F6 c_l_pick h_len)
  have c_l_is_word : Cal l.prog w K mg base "_law_is_word" 1 _ (spOf G0 s_l_is_word) := Cal.mk' F7 mm7 b7 (ok_l_is_word rfl F7 h_isinstance h_len h_str)
  have c_l_spaced : Cal l.prog w K mg base "_law_spaced" 3 _ (spOf G0 s_l_spaced) := Cal.mk' F8 mm8 b8 (ok_l_spaced rfl F8 c_l_of)
  have c_l_run : Cal l.prog w K mg base "_law_run" 1 _ (spOf G0 s_l_run) := Cal.mk' F9 mm9 b9 (ok_l_run rfl F9 h_len)
  have c_l_lexeme : Cal l.prog w K mg base "_law_lexeme" 2 _ (spOf G0 s_l_lexeme) := Cal.mk' F10 mm10 b10 (ok_l_lexeme rfl F10 c_l_is_word c_l_run h_len)
  have c_l_lexemes_due : Cal l.prog w K mg base "_law_lexemes_due" 3 _ (spOf G0 s_l_lexemes_due) := Cal.mk' F11 mm11 b11 (ok_l_lexemes_due rfl F11 c_l_lexeme h_len)
  have c_l_told : Cal l.prog w K mg base "_law_told" 5 _ (spOfL G0 s_l_told) := Cal.mk' F12 mm12 b12 (ok_l_told rfl F12 c_lexemes x_BadText)
  have c_l_hand_right : Cal l.prog w K mg base "_law_hand_right" 6 _ (spOf G0 s_l_hand_right) := Cal.mk' F13 mm13 b13 (ok_l_hand_right rfl F13 c_l_told)
  have c_l_long_right : Cal l.prog w K mg base "_law_long_right" 6 _ (spOf G0 s_l_long_right) := Cal.mk' F14 mm14 b14 (ok_l_long_right rfl F14 c_l_told h_range)
  exact ok_law (G := G0) rfl F15 FS mm4 k4 b4 c_l_hand_right c_l_lexemes_due c_l_long_right c_l_of c_l_pick c_l_spaced c_l_told h_len h_range h_repr h_str
end Ct.K6

set_option Elab.async false
set_option linter.all false
open PySem PySem.W PyProof.Rows
set_option maxRecDepth 100000 in
set_option maxHeartbeats 0 in
theorem PySem.Challenge.cw_crossties_k06_lexemes_of_texts_holds : PySem.Challenge.rw_crossties_k06_lexemes_of_texts.Holds := by
  w_on; o_law; k_head; (case hw => w_witness2)
  k_fill
  refine Ct.walkG (l := PySem.Challenge.rw_crossties_k06_lexemes_of_texts) (k := 7) rfl rfl ⟨rfl, by decide, by decide⟩ (fun w h Y => PySem.W.kIn_of Y) ?F
  case F =>
    intro w mg fa h KX G hmg
    refine' Ct.K6.all_mk KX G hmg ?uu_a0 ?uu_l0 ?uu_c0 ?uu_k0 ?uu_a1 ?uu_l1 ?uu_c1 ?uu_k1 ?uu_a2 ?uu_l2 ?uu_c2 ?uu_k2 ?uu_a3 ?uu_l3 ?uu_c3 ?uu_k3 ?uu_a4 ?uu_l4 ?uu_c4 ?uu_k4 ?uu_a5 ?uu_l5 ?uu_c5 ?uu_k5 ?uu_a6 ?uu_l6 ?uu_c6 ?uu_k6 ?uu_a7 ?uu_l7 ?uu_c7 ?uu_k7 ?uu_a8 ?uu_l8 ?uu_c8 ?uu_k8 ?uu_a9 ?uu_l9 ?uu_c9 ?uu_k9 ?uu_a10 ?uu_l10 ?uu_c10 ?uu_k10 ?uu_a11 ?uu_l11 ?uu_c11 ?uu_k11 ?uu_a12 ?uu_l12 ?uu_c12 ?uu_k12 ?uu_a13 ?uu_l13 ?uu_c13 ?uu_k13 ?uu_a14 ?uu_l14 ?uu_c14 ?uu_k14 ?uu_a15 ?uu_l15 ?uu_c15 ?uu_k15 ?uu_z0 ?uu_z1 ?uu_z2 ?uu_z3 ?uu_z4 ?uu_z5 ?uu_z6 ?uu_z7 ?uu_g0 ?uu_g1 ?uu_g2 ?uu_g3 ?uu_g4 ?uu_g5 ?uu_aC ?uu_xL ?uu_sa ?uu_ga ?uu_gg ?uu_nb ?uu_ai ?uu_ti ?uu_li ?uu_ci ?uu_ki ?uu_kC ?uu_eC ?uu_tC ?uu_hC ?uu_iC ?uu_sC
    (case uu_a0 => k_is)
    (case uu_l0 => k_is)
    (case uu_c0 => k_is)
    (case uu_k0 => k_is)
    (case uu_a1 => k_is)
    (case uu_l1 => k_is)
    (case uu_c1 => k_is)
    (case uu_k1 => k_is)
    (case uu_a2 => k_is)
    (case uu_l2 => k_is)
    (case uu_c2 => k_is)
    (case uu_k2 => k_is)
    (case uu_a3 => k_is)
    (case uu_l3 => k_is)
    (case uu_c3 => k_is)
    (case uu_k3 => k_is)
    (case uu_a4 => k_is)
    (case uu_l4 => k_is)
    (case uu_c4 => k_is)
    (case uu_k4 => k_is)
    (case uu_a5 => k_is)
    (case uu_l5 => k_is)
    (case uu_c5 => k_is)
    (case uu_k5 => k_is)
    (case uu_a6 => k_is)
    (case uu_l6 => k_is)
    (case uu_c6 => k_is)
    (case uu_k6 => k_is)
    (case uu_a7 => k_is)
    (case uu_l7 => k_is)
    (case uu_c7 => k_is)
    (case uu_k7 => k_is)
    (case uu_a8 => k_is)
    (case uu_l8 => k_is)
    (case uu_c8 => k_is)
    (case uu_k8 => k_is)
    (case uu_a9 => k_is)
    (case uu_l9 => k_is)
    (case uu_c9 => k_is)
    (case uu_k9 => k_is)
    (case uu_a10 => k_is)
    (case uu_l10 => k_is)
    (case uu_c10 => k_is)
    (case uu_k10 => k_is)
    (case uu_a11 => k_is)
    (case uu_l11 => k_is)
    (case uu_c11 => k_is)
    (case uu_k11 => k_is)
    (case uu_a12 => k_is)
    (case uu_l12 => k_is)
    (case uu_c12 => k_is)
    (case uu_k12 => k_is)
    (case uu_a13 => k_is)
    (case uu_l13 => k_is)
    (case uu_c13 => k_is)
    (case uu_k13 => k_is)
    (case uu_a14 => k_is)
    (case uu_l14 => k_is)
    (case uu_c14 => k_is)
    (case uu_k14 => k_is)
    (case uu_a15 => k_is)
    (case uu_l15 => k_is)
    (case uu_c15 => k_is)
    (case uu_k15 => k_is)
    (case uu_z0 => k_is)
    (case uu_z1 => k_is)
    (case uu_z2 => k_is)
    (case uu_z3 => k_is)
    (case uu_z4 => k_is)
    (case uu_z5 => k_is)
    (case uu_z6 => k_is)
    (case uu_z7 => k_is)
    (case uu_g0 => k_is)
    (case uu_g1 => k_is)
    (case uu_g2 => k_is)
    (case uu_g3 => k_is)
    (case uu_g4 => k_is)
    (case uu_g5 => k_is)
    (case uu_aC => k_is)
    (case uu_xL => k_is)
    (case uu_sa => k_is)
    (case uu_ga => k_is)
    (case uu_gg => k_is)
    (case uu_nb => k_is)
    (case uu_ai => k_is)
    (case uu_ti => k_is)
    (case uu_li => k_is)
    (case uu_ci => k_is)
    (case uu_ki => k_is)
    (case uu_kC => k_is)
    (case uu_eC => k_is)
    (case uu_tC => k_is)
    (case uu_hC => k_is)
    (case uu_iC => k_is)
    (case uu_sC => first | rfl | k_is)

