import PyProof.Rows.All
import Wide.All
import OpenK.AllK
import Wide.FinOn
import KE.KStateDown
import HandS.Head0
import HandS.Head1
import HandS.Head2
import HandS.HeadHook1
import HandS.HeadHook2
import HandS.HeadHook3
import HandS.ForMost
import HandS.ForExc
import HandS.Defaults
import HandS.More
import HandS.IsInst
import HandS.Flow
import HandS.Small
import HandS.DictComp
import HandS.Text
import HandS.TupLen
import HandS.Conv
import HandS.Zip
import HandS.Walk
import HandS.Rev
import HandS.Star
import HandS.CallLocal
import HandS.Codes
import KE.GoesEnumKw
import HandS.Set
import HandS.SetFor
import HandS.Strs
import KE.KDictZip
import HandS.Style
import HandS.Ends
import KE.GoesMore
import KE.GoesEnum
import HandS.TupAny
import PyProof.ReprRoads
import HandS.HeadEnd
import HandS.NoneIn
import KE.KDictPairs
import HandS.OwnEq
import HandS.Dict
import HandS.Words
import PySem.Challenge.RW_worldsalone_k26_mappings
import PyProof.P3Eq
set_option Elab.async false
set_option linter.all false
set_option maxRecDepth 1000000
set_option maxHeartbeats 0
/-! what the head looks at -/
namespace Pd
open L2 PySem PySem.Spec PyProof.Rows
/-- a value as a whole: what is frozen is a tree, what may change is a number of the store -/
inductive D where
  | non | bl (b : Bool) | int (i : Int) | str (x : Str) | ty (n : String) | glo (g : Nat)
  | tup (ds : List D) | ctp (ds : List D) | lst (ds : List D) | frl (ds : List D) | dct (kvs : List (Key × D)) | dtt (kvs : List (List Key × D)) | kdc (kvs : List (Str × D)) | ins (c : Nat) (fs : List (Nat × D)) | ref (n : Nat)
  deriving Inhabited

abbrev eqB := PySem.W.Z.eqB

def eqN : List Nat → List Nat → Bool
  | [], [] => true
  | a :: x, b :: y => (match Nat.beq a b with
    | true => eqN x y
    | false => false)
  | _, _ => false

def eqS (x y : Str) : Bool := eqN x.cps.toList y.cps.toList

def eqBl : Bool → Bool → Bool
  | true, true => true
  | false, false => true
  | _, _ => false

def repL (f : D → Value → Bool) : List D → List Value → Bool
  | [], [] => true
  | d :: ds, u :: us => (match f d u with
    | true => repL f ds us
    | false => false)
  | _, _ => false

def tupO : Option Obj → Option (List Value)
  | some ⟨.type c, none, .seq its _, _⟩ => (match decide (c = "tuple") && Nat.ble its.size 1000000 with
    | true => some its.toList
    | false => none)
  | _ => none

def repB (K : PySem.W.Frag) (g : Nat → Addr) : Nat → D → Value → Bool
  | 0, _, _ => false
  | n + 1, d, u => match d, u with
    | .non, .none => true
    | .bl b, .bool c => eqBl b c
    | .int i, .int j _ => eqB i j
    | .str x, .str y _ => eqS x y
    | .glo k, .ref a => Nat.beq (g k) a
    | .ctp ds, .ref a => (match tupO (K.lookup a) with
      | some us => repL (repB K g n) ds us
      | none => false)
    | _, _ => false

/-- the entries of a table -/
def kdcB (K : PySem.W.Frag) (g : Nat → Addr) (a : Addr) : List (Str × D) → Bool
  | [] => true
  | (x, d) :: r => (match PySem.W.nsIn K a x with
    | some (some u) => (match repB K g 20 d u with
      | true => kdcB K g a r
      | false => false)
    | _ => false)

abbrev AlA : Type := He.AlT × Bool

def obsA (fa : List He.Fa) (fn : List He.DefD) (ts : List He.Tab) (bs : PySem.W.Frag → Bool) (K : PySem.W.Frag) : AlA := (He.obsT fa fn ts K, bs K)

def valA (fn : List He.DefD) (ts : List He.Tab) (w : World) : AlA := (He.valT fn ts w, true)

def obsAG (as : List Addr) (fa : List He.Fa) (fn : List He.DefD) (ts : List He.Tab) (bs : PySem.W.Frag → Bool) (g : Addr → Option Obj) : AlA := obsA fa fn ts bs (He.frG g as)

def SaysA (fa : List He.Fa) (fn : List He.DefD) (ts : List He.Tab) (bs : PySem.W.Frag → Bool) (w : World) (K : PySem.W.Frag) : Prop := obsA fa fn ts bs K = valA fn ts w

def hookA (as : List Addr) (fa : List He.Fa) (fn : List He.DefD) (ts : List He.Tab) (bs : PySem.W.Frag → Bool) : PySem.W.Hook where
  α := AlA
  obs := fun s => obsAG as fa fn ts bs s.heap.get?
  val := fun w => valA fn ts w
  says := fun w h => ∃ K : PySem.W.Frag, K.In h ∧ SaysA fa fn ts bs w K
  of := fun _ _ e => ⟨_, He.frG_in, e⟩
  keeps := fun _ _ _ ⟨K, hK, c⟩ k => (⟨K, PySem.W.Frag.In.keeps hK k, c⟩)
/-- .. in three parts, each looked at by a run of its own -/
abbrev AlS : Type := (AlA × He.AlD) × He.AlD
def obsSG (as : List Addr) (fa : List He.Fa) (fn : List He.DefD) (n : Nat) (ts : List He.Tab) (bs : PySem.W.Frag → Bool) (g : Addr → Option Obj) : AlS := ((obsAG as fa [] ts bs g, He.obsD [] (fn.take n) (He.frG g as)), He.obsD [] (fn.drop n) (He.frG g as))
def hookS (as : List Addr) (fa : List He.Fa) (fn : List He.DefD) (n : Nat) (ts : List He.Tab) (bs : PySem.W.Frag → Bool) : PySem.W.Hook where
  α := AlS
  obs := fun s => obsSG as fa fn n ts bs s.heap.get?
  val := fun w => ((valA [] ts w, He.valD (fn.take n)), He.valD (fn.drop n))
  says := fun w h => ∃ K : PySem.W.Frag, K.In h ∧ (SaysA fa [] ts bs w K ∧ He.SaysD [] (fn.take n) K) ∧ He.SaysD [] (fn.drop n) K
  of := fun w s e => by
    have e1 : ((obsAG as fa [] ts bs s.heap.get?, He.obsD [] (fn.take n) (He.frG s.heap.get? as)), He.obsD [] (fn.drop n) (He.frG s.heap.get? as)) = (((valA [] ts w, He.valD (fn.take n)), He.valD (fn.drop n)) : AlS) := e
    obtain ⟨e2, e3⟩ := Prod.mk.inj e1
    obtain ⟨e4, e5⟩ := Prod.mk.inj e2
    exact ⟨_, He.frG_in, ⟨e4, e5⟩, e3⟩
  keeps := fun _ _ _ ⟨K, hK, c⟩ k => (⟨K, PySem.W.Frag.In.keeps hK k, c⟩)
theorem obsSG_eq {as : List Addr} {fa : List He.Fa} {fn : List He.DefD} {n : Nat} {ts : List He.Tab} {bs : PySem.W.Frag → Bool} {g : Addr → Option Obj} {s : Shared} (h : ∀ a, g a = s.heap.get? a) : obsSG as fa fn n ts bs g = (hookS as fa fn n ts bs).obs s := by
  rw [show g = s.heap.get? from funext h] <;> rfl
theorem says_all {fa : List He.Fa} {fn : List He.DefD} {n : Nat} {ts : List He.Tab} {bs : PySem.W.Frag → Bool} {w : World} {K : PySem.W.Frag} (a : SaysA fa [] ts bs w K) (b : He.SaysD [] (fn.take n) K) (c : He.SaysD [] (fn.drop n) K) : SaysA fa fn ts bs w K := by
  have a1 : He.obsT fa [] ts K = He.valT [] ts w := congrArg (fun z : AlA => z.1) a
  have a2 : bs K = true := congrArg (fun z : AlA => z.2) a
  have a3 : He.obsD fa [] K = He.valD [] := congrArg (fun z : He.AlT => z.1) a1
  have a4 : (ts.map fun t => He.dicW K (t.1 K)) = ts.map fun t => some (He.keysIn w.params t.2) := congrArg (fun z : He.AlT => z.2) a1
  have f1 := (He.ba (show ((fa.all fun f => f.ok K) && ([] : List He.DefD).all fun d => d.ok K) = true from congrArg (fun z : He.AlD => z.1) a3)).1
  have f2 := (He.ba (show (([] : List He.Fa).all (fun f => f.ok K) && (fn.take n).all fun d => d.ok K) = true from congrArg (fun z : He.AlD => z.1) b)).2
  have f3 := (He.ba (show (([] : List He.Fa).all (fun f => f.ok K) && (fn.drop n).all fun d => d.ok K) = true from congrArg (fun z : He.AlD => z.1) c)).2
  have g2 : (fn.take n).map (fun d => He.fnW K d.at_) = (fn.take n).map He.DefD.val := congrArg (fun z : He.AlD => z.2) b
  have g3 : (fn.drop n).map (fun d => He.fnW K d.at_) = (fn.drop n).map He.DefD.val := congrArg (fun z : He.AlD => z.2) c
  have h1 : (fn.all fun d => d.ok K) = true := by
    rw [← List.take_append_drop n fn, List.all_append, f2, f3]; rfl
  have h2 : fn.map (fun d => He.fnW K d.at_) = fn.map He.DefD.val := by
    rw [← List.take_append_drop n fn, List.map_append, List.map_append, g2, g3]
  show ((((fa.all fun f => f.ok K) && fn.all fun d => d.ok K, fn.map fun d => He.fnW K d.at_), ts.map fun t => He.dicW K (t.1 K)), bs K) = (((true, fn.map He.DefD.val), ts.map fun t => some (He.keysIn w.params t.2)), true)
  rw [f1, h1, h2, a4, a2]; rfl
/-- a run looked at in parts -/
theorem map_parts {α β γ δ ε : Type} {o : Option α} {f : α → β} {g : α → γ} {p : α → δ} {q : α → ε} {h : α → Bool} {b : Bool} {v : β} {x : γ} {y : δ} {z : ε} (h1 : o.map (fun s => (h s, f s, g s)) = some (b, v, x)) (h2 : o.map p = some y) (h3 : o.map q = some z) : o.map (fun s => (h s, f s, ((g s, p s), q s))) = some (b, v, ((x, y), z)) := by
  cases o with
  | none => cases h1
  | some s =>
    have e1 : (h s, f s, g s) = (b, v, x) := Option.some.inj h1
    have e2 : p s = y := Option.some.inj h2
    have e3 : q s = z := Option.some.inj h3
    obtain ⟨i1, i2⟩ := Prod.mk.inj e1
    obtain ⟨i3, i4⟩ := Prod.mk.inj i2
    show some (h s, f s, ((g s, p s), q s)) = _
    rw [i1, i3, i4, e2, e3]
end Pd

namespace Pd
open PySem PySem.Spec L2

/-! ### data -/
/-- an object of the store -/
inductive MO where
  | lst (ds : List D) | dct (kvs : List (Key × D)) | dtt (kvs : List (List Key × D)) | ins (c : Nat) (fs : List (Nat × D)) | lck (m : MO)
def MO.opn : MO → Bool
  | .lck _ => false
  | _ => true
structure Sto where
  nx : Nat
  ob : List (Nat × MO)
def look : List (Nat × MO) → Nat → Option MO
  | [], _ => none
  | (k, m) :: r, n => match Nat.beq k n with
    | true => some m
    | false => look r n
def put : List (Nat × MO) → Nat → MO → List (Nat × MO)
  | [], _, _ => []
  | (k, m) :: r, n, m' => match Nat.beq k n with
    | true => (k, m') :: r
    | false => (k, m) :: put r n m'
def cut : List (Nat × MO) → Nat → List (Nat × MO)
  | [], _ => []
  | (k, m) :: r, n => match Nat.beq k n with
    | true => cut r n
    | false => (k, m) :: cut r n
def Sto.at (S : Sto) (n : Nat) : Option MO := look S.ob n
def Sto.set (S : Sto) (n : Nat) (m : MO) : Sto := ⟨S.nx, put S.ob n m⟩
def Sto.del (S : Sto) (n : Nat) : Sto := ⟨S.nx, cut S.ob n⟩
def Sto.new (S : Sto) (m : MO) : Sto := ⟨S.nx + 1, (S.nx, m) :: S.ob⟩

theorem look_put_same : ∀ {l : List (Nat × MO)} {n : Nat} {m m' : MO}, look l n = some m → look (put l n m') n = some m'
  | (k, q) :: r, n, m, m', h => by
    unfold look at h
    unfold put
    cases e : Nat.beq k n with
    | true => rw [e] at h; show look ((k, m') :: r) n = _; unfold look; rw [e]
    | false => rw [e] at h; show look ((k, q) :: put r n m') n = _; unfold look; rw [e]; exact look_put_same h
theorem look_put_ne : ∀ {l : List (Nat × MO)} {n j : Nat} {m' : MO}, j ≠ n → look (put l n m') j = look l j
  | [], _, _, _, _ => rfl
  | (k, q) :: r, n, j, m', h => by
    unfold put
    cases e : Nat.beq k n with
    | true =>
      have : k = n := Nat.eq_of_beq_eq_true e
      subst this
      show look ((k, m') :: r) j = look ((k, q) :: r) j
      unfold look
      cases e2 : Nat.beq k j with
      | true => exact absurd (Nat.eq_of_beq_eq_true e2).symm h
      | false => rfl
    | false =>
      show look ((k, q) :: put r n m') j = look ((k, q) :: r) j
      unfold look
      cases e2 : Nat.beq k j with
      | true => rfl
      | false => exact look_put_ne h
theorem look_cut_same : ∀ {l : List (Nat × MO)} {n : Nat}, look (cut l n) n = none
  | [], _ => rfl
  | (k, q) :: r, n => by
    unfold cut
    cases e : Nat.beq k n with
    | true => exact look_cut_same
    | false => show look ((k, q) :: cut r n) n = none; unfold look; rw [e]; exact look_cut_same
theorem look_cut_ne : ∀ {l : List (Nat × MO)} {n j : Nat}, j ≠ n → look (cut l n) j = look l j
  | [], _, _, _ => rfl
  | (k, q) :: r, n, j, h => by
    unfold cut
    cases e : Nat.beq k n with
    | true =>
      have : k = n := Nat.eq_of_beq_eq_true e
      subst this
      show look (cut r k) j = look ((k, q) :: r) j
      rw [look_cut_ne h]
      conv => rhs; unfold look
      cases e2 : Nat.beq k j with
      | true => exact absurd (Nat.eq_of_beq_eq_true e2).symm h
      | false => rfl
    | false =>
      show look ((k, q) :: cut r n) j = look ((k, q) :: r) j
      unfold look
      cases e2 : Nat.beq k j with
      | true => rfl
      | false => exact look_cut_ne h
theorem look_new {S : Sto} {m : MO} : (S.new m).at S.nx = some m := by
  show look ((S.nx, m) :: S.ob) S.nx = _
  unfold look
  rw [Nat.beq_refl]
theorem look_new_ne {S : Sto} {m : MO} {j : Nat} (h : j ≠ S.nx) : (S.new m).at j = S.at j := by
  show look ((S.nx, m) :: S.ob) j = look S.ob j
  conv => lhs; unfold look
  cases e : Nat.beq S.nx j with
  | true => exact absurd (Nat.eq_of_beq_eq_true e).symm h
  | false => rfl

/-! ### how data stands in the heap -/
/-- the program's own things by numbers: addresses of defs and classes, attribute names -/
structure Cfg where
  K : PySem.W.Frag
  w : World
  ga : Nat → Addr
  an : List Str
/-- what is known of the heap: what is frozen, where the store's objects lie -/
structure Wd where
  fz : Hp
  mu : Nat → Option Addr
  lk : Addr → Option (Obj × HO)
def Wd.le (M M' : Wd) : Prop := (∀ a o, M.fz a = some o → M'.fz a = some o) ∧ (∀ n a, M.mu n = some a → M'.mu n = some a) ∧ ∀ a p, M.lk a = some p → M'.lk a = some p
theorem Wd.le.refl (M : Wd) : M.le M := ⟨fun _ _ h => h, fun _ _ h => h, fun _ _ h => h⟩
theorem Wd.le.trans {M M' M'' : Wd} (a : M.le M') (b : M'.le M'') : M.le M'' := ⟨fun x o h => b.1 x o (a.1 x o h), fun n x h => b.2.1 n x (a.2.1 n x h), fun n x h => b.2.2 n x (a.2.2 n x h)⟩
/-- what readings ask of the worlds: the locks aside -/
def Wd.lev (M M' : Wd) : Prop := (∀ a o, M.fz a = some o → M'.fz a = some o) ∧ ∀ n a, M.mu n = some a → M'.mu n = some a
theorem Wd.le.v {M M' : Wd} (l : M.le M') : M.lev M' := ⟨l.1, l.2.1⟩

/-- a dict that is to be read -/
def DcK (K : PySem.W.Frag) (H : Hp) (a : Addr) (kvs : List (Key × V)) : Prop := Rd H a (.dK kvs)

/-- a tuple whose object is known to have no dict: one of the module, one that was made so -/
def SqP (K : PySem.W.Frag) (H : Hp) (a : Addr) (vs : List V) : Prop := (∃ ob, H a = some (.frz ob (.tup vs)) ∧ ob.dict = none) ∨ ∃ o its n, K.lookup a = some o ∧ o.cls = .type "tuple" ∧ o.dict = none ∧ o.data = .seq its n ∧ its.size ≤ sizeLine ∧ Vals vs its.toList
theorem SqP.sq {K : PySem.W.Frag} {H : Hp} {a : Addr} {vs : List V} (h : SqP K H a vs) : SqT K H a vs := by
  rcases h with ⟨ob, h, _⟩ | ⟨o, its, n, h1, h2, _, h3, h4, h5⟩
  · exact .inl (.inr ⟨ob, h⟩)
  · exact .inr ⟨o, its, n, h1, h2, h3, h4, h5⟩
theorem sqP_mono {K : PySem.W.Frag} {H H' : Hp} (h : ∀ a o, H a = some o → H' a = some o) {a : Addr} {vs : List V} (r : SqP K H a vs) : SqP K H' a vs := r.imp (fun ⟨ob, q, d⟩ => ⟨ob, h _ _ q, d⟩) id
inductive Rep (C : Cfg) (M : Wd) : D → V → Prop
  | non : Rep C M .non .non
  | bl (b : Bool) : Rep C M (.bl b) (.bl b)
  | int (i : Int) : Rep C M (.int i) (.int i)
  | str (x : Str) : Rep C M (.str x) (.str x)
  | ty (n : String) : Rep C M (.ty n) (.ty n)
  | glo (g : Nat) : Rep C M (.glo g) (.ref (C.ga g))
  | ref {n : Nat} {a : Addr} (h : M.mu n = some a) : Rep C M (.ref n) (.ref a)
  | tup {ds : List D} {a : Addr} {vs : List V} (h : M.fz a = some (.tup vs)) (hl : ds.length = vs.length) (hr : ∀ (i : Nat) d v, ds[i]? = some d → vs[i]? = some v → Rep C M d v) : Rep C M (.tup ds) (.ref a)
  | ctp {ds : List D} {a : Addr} {vs : List V} (h : SqP C.K M.fz a vs) (hl : ds.length = vs.length) (hr : ∀ (i : Nat) d v, ds[i]? = some d → vs[i]? = some v → Rep C M d v) : Rep C M (.ctp ds) (.ref a)
  | lst {ds : List D} {a : Addr} {vs : List V} (h : M.fz a = some (.lst vs)) (hl : ds.length = vs.length) (hr : ∀ (i : Nat) d v, ds[i]? = some d → vs[i]? = some v → Rep C M d v) : Rep C M (.lst ds) (.ref a)
  | frl {ds : List D} {a : Addr} {vs : List V} (h : SqL C.K M.fz a vs) (hl : ds.length = vs.length) (hr : ∀ (i : Nat) d v, ds[i]? = some d → vs[i]? = some v → Rep C M d v) : Rep C M (.frl ds) (.ref a)
  | dct {kds : List (Key × D)} {a : Addr} {kvs : List (Key × V)} (h : DcK C.K M.fz a kvs) (hl : kds.map (·.1) = kvs.map (·.1)) (hr : ∀ (i : Nat) k d k' v, kds[i]? = some (k, d) → kvs[i]? = some (k', v) → Rep C M d v) : Rep C M (.dct kds) (.ref a)
  | dtt {kds : List (List Key × D)} {a : Addr} {kvs : List (List Key × V)} (h : Rd M.fz a (.dT kvs)) (hl : kds.map (·.1) = kvs.map (·.1)) (hr : ∀ (i : Nat) k d k' v, kds[i]? = some (k, d) → kvs[i]? = some (k', v) → Rep C M d v) : Rep C M (.dtt kds) (.ref a)
  | kdc {kds : List (Str × D)} {a : Addr} {vs : List V} (h : ∃ es n, KDict C.K C.w a es n) (hl : kds.length = vs.length) (hk : ∀ (i : Nat) x d v, kds[i]? = some (x, d) → vs[i]? = some v → ∃ u, PySem.W.nsIn C.K a x = some (some u) ∧ RelV v u) (hn : ∀ z, (∀ p ∈ kds, p.1 ≠ z) → PySem.W.nsIn C.K a z = some none) (hr : ∀ (i : Nat) x d v, kds[i]? = some (x, d) → vs[i]? = some v → Rep C M d v) : Rep C M (.kdc kds) (.ref a)
  | ins {c : Nat} {fs : List (Nat × D)} {a dx : Addr} {fv : List (Str × V)} (h : M.fz a = some (.ins (C.ga c) dx fv)) (hl : fs.map (fun p => C.an[p.1]?) = fv.map (fun p => some p.1)) (hr : ∀ (i : Nat) k d k' v, fs[i]? = some (k, d) → fv[i]? = some (k', v) → Rep C M d v) : Rep C M (.ins c fs) (.ref a)

/-- lists of values, of entries, of attributes -/
def RepL (C : Cfg) (M : Wd) (ds : List D) (vs : List V) : Prop := ds.length = vs.length ∧ ∀ (i : Nat) d v, ds[i]? = some d → vs[i]? = some v → Rep C M d v
def RepK (C : Cfg) (M : Wd) (kds : List (Key × D)) (kvs : List (Key × V)) : Prop := kds.map (·.1) = kvs.map (·.1) ∧ ∀ (i : Nat) k d k' v, kds[i]? = some (k, d) → kvs[i]? = some (k', v) → Rep C M d v
def RepT (C : Cfg) (M : Wd) (kds : List (List Key × D)) (kvs : List (List Key × V)) : Prop := kds.map (·.1) = kvs.map (·.1) ∧ ∀ (i : Nat) k d k' v, kds[i]? = some (k, d) → kvs[i]? = some (k', v) → Rep C M d v
def RepF (C : Cfg) (M : Wd) (fs : List (Nat × D)) (fv : List (Str × V)) : Prop := fs.map (fun p => C.an[p.1]?) = fv.map (fun p => some p.1) ∧ ∀ (i : Nat) k d k' v, fs[i]? = some (k, d) → fv[i]? = some (k', v) → Rep C M d v

theorem rd_mono {H H' : Hp} (h : ∀ a o, H a = some o → H' a = some o) {a : Addr} {o : HO} (r : Rd H a o) : Rd H' a o := by
  rcases r with r | ⟨ob, r⟩
  · exact .inl (h _ _ r)
  · exact .inr ⟨ob, h _ _ r⟩
theorem sqL_mono {K : PySem.W.Frag} {H H' : Hp} (h : ∀ a o, H a = some o → H' a = some o) {a : Addr} {vs : List V} (r : SqL K H a vs) : SqL K H' a vs := r.imp (rd_mono h) id
theorem sqT_mono {K : PySem.W.Frag} {H H' : Hp} (h : ∀ a o, H a = some o → H' a = some o) {a : Addr} {vs : List V} (r : SqT K H a vs) : SqT K H' a vs := r.imp (rd_mono h) id
theorem Rep.monoV {C : Cfg} {M M' : Wd} (l : M.lev M') {d : D} {v : V} (r : Rep C M d v) : Rep C M' d v := by
  induction r with
  | non => exact .non
  | bl b => exact .bl b
  | int i => exact .int i
  | str x => exact .str x
  | ty n => exact .ty n
  | glo g => exact .glo g
  | ref h => exact .ref (l.2 _ _ h)
  | tup h hl _ ih => exact .tup (l.1 _ _ h) hl ih
  | ctp h hl _ ih => exact .ctp (sqP_mono l.1 h) hl ih
  | dtt h hl _ ih => exact .dtt (rd_mono l.1 h) hl ih
  | kdc h hl hk hn _ ih => exact .kdc h hl hk hn ih
  | lst h hl _ ih => exact .lst (l.1 _ _ h) hl ih
  | frl h hl _ ih => exact .frl (sqL_mono l.1 h) hl ih
  | dct h hl _ ih => exact .dct (rd_mono l.1 h) hl ih
  | ins h hl _ ih => exact .ins (l.1 _ _ h) hl ih
theorem Rep.mono {C : Cfg} {M M' : Wd} (l : M.le M') {d : D} {v : V} (r : Rep C M d v) : Rep C M' d v := r.monoV l.v
section
variable {C : Cfg} {M M' : Wd}
theorem RepL.monoV (l : M.lev M') {ds : List D} {vs : List V} (r : RepL C M ds vs) : RepL C M' ds vs := ⟨r.1, fun i d v a b => (r.2 i d v a b).monoV l⟩
theorem RepK.monoV (l : M.lev M') {ds : List (Key × D)} {vs : List (Key × V)} (r : RepK C M ds vs) : RepK C M' ds vs := ⟨r.1, fun i k d k' v a b => (r.2 i k d k' v a b).monoV l⟩
theorem RepT.monoV (l : M.lev M') {ds : List (List Key × D)} {vs : List (List Key × V)} (r : RepT C M ds vs) : RepT C M' ds vs := ⟨r.1, fun i k d k' v a b => (r.2 i k d k' v a b).monoV l⟩
theorem RepF.monoV (l : M.lev M') {ds : List (Nat × D)} {vs : List (Str × V)} (r : RepF C M ds vs) : RepF C M' ds vs := ⟨r.1, fun i k d k' v a b => (r.2 i k d k' v a b).monoV l⟩
theorem RepT.mono (l : M.le M') {ds : List (List Key × D)} {vs : List (List Key × V)} (r : RepT C M ds vs) : RepT C M' ds vs := r.monoV l.v
theorem RepL.mono (l : M.le M') {ds : List D} {vs : List V} (r : RepL C M ds vs) : RepL C M' ds vs := ⟨r.1, fun i d v a b => (r.2 i d v a b).mono l⟩
theorem RepK.mono (l : M.le M') {ds : List (Key × D)} {vs : List (Key × V)} (r : RepK C M ds vs) : RepK C M' ds vs := ⟨r.1, fun i k d k' v a b => (r.2 i k d k' v a b).mono l⟩
theorem RepF.mono (l : M.le M') {ds : List (Nat × D)} {vs : List (Str × V)} (r : RepF C M ds vs) : RepF C M' ds vs := ⟨r.1, fun i k d k' v a b => (r.2 i k d k' v a b).mono l⟩
theorem RepL.nil : RepL C M [] [] := ⟨rfl, fun i d v a _ => by simp at a⟩
theorem RepL.cons {d : D} {v : V} {ds : List D} {vs : List V} (h : Rep C M d v) (r : RepL C M ds vs) : RepL C M (d :: ds) (v :: vs) := ⟨by simp [r.1], fun i e u a b => by
  cases i with
  | zero => simp at a b; subst a b; exact h
  | succ i => exact r.2 i e u (by simpa using a) (by simpa using b)⟩
theorem RepL.nil_inv {vs : List V} (r : RepL C M [] vs) : vs = [] := by
  cases vs with
  | nil => rfl
  | cons _ _ => exact absurd r.1 (by simp)
theorem RepL.cons_inv {d : D} {ds : List D} {vs : List V} (r : RepL C M (d :: ds) vs) : ∃ v us, vs = v :: us ∧ Rep C M d v ∧ RepL C M ds us := by
  cases vs with
  | nil => exact absurd r.1 (by simp)
  | cons v us => exact ⟨v, us, rfl, r.2 0 d v rfl rfl, by simpa using r.1, fun i e u a b => r.2 (i + 1) e u (by simpa using a) (by simpa using b)⟩
theorem RepL.get {ds : List D} {vs : List V} (r : RepL C M ds vs) {i : Nat} {d : D} (h : ds[i]? = some d) : ∃ v, vs[i]? = some v ∧ Rep C M d v := by
  have hi : i < vs.length := by rw [← r.1]; exact (List.getElem?_eq_some_iff.mp h).1
  exact ⟨vs[i], List.getElem?_eq_getElem hi, r.2 i d _ h (List.getElem?_eq_getElem hi)⟩
theorem RepL.append {ds es : List D} {vs us : List V} (r : RepL C M ds vs) (q : RepL C M es us) : RepL C M (ds ++ es) (vs ++ us) := by
  induction ds generalizing vs with
  | nil => rw [r.nil_inv]; exact q
  | cons d ds ih =>
    obtain ⟨v, ws, rfl, h, t⟩ := r.cons_inv
    exact .cons h (ih t)
end

/-- an object of the store as it stands -/
def RepM (C : Cfg) (M : Wd) : MO → HO → Prop
  | .lst ds, o => ∃ vs, o = .lst vs ∧ RepL C M ds vs
  | .dct kds, o => ∃ kvs, o = .dK kvs ∧ RepK C M kds kvs
  | .dtt kds, o => ∃ kvs, o = .dT kvs ∧ RepT C M kds kvs
  | .ins c fs, o => ∃ dx fv, o = .ins (C.ga c) dx fv ∧ RepF C M fs fv
  | .lck m, o => ∃ ob u, o = .frz ob u ∧ RepM C M m u
theorem RepM.monoV {C : Cfg} {M M' : Wd} (l : M.lev M') : ∀ {m : MO} {o : HO}, RepM C M m o → RepM C M' m o
  | .lst _, _, ⟨vs, e, r⟩ => ⟨vs, e, r.monoV l⟩
  | .dct _, _, ⟨vs, e, r⟩ => ⟨vs, e, r.monoV l⟩
  | .dtt _, _, ⟨vs, e, r⟩ => ⟨vs, e, r.monoV l⟩
  | .ins _ _, _, ⟨dx, fv, e, r⟩ => ⟨dx, fv, e, r.monoV l⟩
  | .lck _, _, ⟨ob, u, e, r⟩ => ⟨ob, u, e, RepM.monoV l r⟩
theorem RepM.mono {C : Cfg} {M M' : Wd} (l : M.le M') {m : MO} {o : HO} (r : RepM C M m o) : RepM C M' m o := r.monoV l.v
theorem RepM.nofrz {C : Cfg} {M : Wd} : ∀ {m : MO} {o : HO}, RepM C M m o → m.opn = true → ∀ ob u, o ≠ .frz ob u
  | .lst _, _, ⟨_, e, _⟩, _, _, _, z => by rw [e] at z; cases z
  | .dct _, _, ⟨_, e, _⟩, _, _, _, z => by rw [e] at z; cases z
  | .dtt _, _, ⟨_, e, _⟩, _, _, _, z => by rw [e] at z; cases z
  | .ins _ _, _, ⟨_, _, e, _⟩, _, _, _, z => by rw [e] at z; cases z
  | .lck _, _, _, h, _, _, _ => by cases h

def isDk : HO → Prop
  | .dK _ => True
  | .dT _ => True
  | _ => False
/-- what is frozen stands so; a dict may be under a lock -/
def Fr (H : Hp) (a : Addr) (o : HO) : Prop := H a = some o ∨ (isDk o ∧ ∃ ob, H a = some (.frz ob o))
structure Sim (C : Cfg) (M : Wd) (S : Sto) (H : Hp) : Prop where
  fr : ∀ a o, M.fz a = some o → Fr H a o
  al : ∀ n m, S.at n = some m → ∃ a o, M.mu n = some a ∧ H a = some o ∧ M.fz a = none ∧ RepM C M m o
  inj : ∀ n n' a, (S.at n).isSome = true → (S.at n').isSome = true → M.mu n = some a → M.mu n' = some a → n = n'
  nx : ∀ n a, M.mu n = some a → n < S.nx
  lk : ∀ a od u, M.lk a = some (od, u) → H a = some (.frz od u)

section
variable {C : Cfg} {M : Wd} {S : Sto} {H : Hp}
theorem Sim.lst (s : Sim C M S H) {a : Addr} {vs : List V} (h : SqL C.K M.fz a vs) : SqL C.K H a vs := by
  rcases h with h | h
  · refine .inl ?_
    rcases h with h | ⟨o, h⟩
    · rcases s.fr _ _ h with q | ⟨q, _⟩
      · exact .inl q
      · exact q.elim
    · rcases s.fr _ _ h with q | ⟨q, _⟩
      · exact .inr ⟨o, q⟩
      · exact q.elim
  · exact .inr h
theorem Sim.tup (s : Sim C M S H) {a : Addr} {vs : List V} (h : SqT C.K M.fz a vs) : SqT C.K H a vs := by
  rcases h with h | h
  · refine .inl ?_
    rcases h with h | ⟨o, h⟩
    · rcases s.fr _ _ h with q | ⟨q, _⟩
      · exact .inl q
      · exact q.elim
    · rcases s.fr _ _ h with q | ⟨q, _⟩
      · exact .inr ⟨o, q⟩
      · exact q.elim
  · exact .inr h
theorem Sim.tupX (s : Sim C M S H) {a : Addr} {vs : List V} (h : M.fz a = some (.tup vs)) : H a = some (.tup vs) := by
  rcases s.fr _ _ h with q | ⟨q, _⟩
  · exact q
  · exact q.elim
theorem Sim.nolk (s : Sim C M S H) {a : Addr} (h : ∀ ob u, H a ≠ some (.frz ob u)) : M.lk a = none := by
  cases q : M.lk a with
  | none => rfl
  | some p => exact absurd (s.lk a p.1 p.2 q) (h _ _)
theorem Sim.ins (s : Sim C M S H) {a c dx : Addr} {fv : List (Str × V)} (h : M.fz a = some (.ins c dx fv)) : H a = some (.ins c dx fv) := by
  rcases s.fr _ _ h with q | ⟨q, _⟩
  · exact q
  · exact q.elim
/-- new: frozen at once -/
def Wd.lay (M : Wd) (a : Addr) (o : HO) : Wd := ⟨upd M.fz a o, M.mu, M.lk⟩
def Wd.bind (M : Wd) (n : Nat) (a : Addr) : Wd := ⟨M.fz, fun k => if k = n then some a else M.mu k, M.lk⟩
theorem lk_ne {C : Cfg} {M : Wd} {S : Sto} {H H' : Hp} (s : Sim C M S H) {a b : Addr} {od : Obj} {u : HO} {o : HO} (e : M.lk b = some (od, u)) (h : H a = none) : (upd H a o) b = some (.frz od u) := by
  have q := s.lk _ _ _ e
  rw [upd_ne (ne_of_none q h)]; exact q
theorem Sim.free (s : Sim C M S H) {a : Addr} (h : H a = none) : M.fz a = none := by
  cases q : M.fz a with
  | none => rfl
  | some o =>
    rcases s.fr _ _ q with z | ⟨_, ob, z⟩
    · rw [h] at z; cases z
    · rw [h] at z; cases z
theorem Wd.lay_le {a : Addr} {o : HO} (h : M.fz a = none) : M.le (M.lay a o) := ⟨fun b u e => by
  show upd M.fz a o b = some u
  rw [upd_ne (ne_of_none e h)]; exact e, fun _ _ e => e, fun _ _ e => e⟩
theorem Sim.lay (s : Sim C M S H) {a : Addr} {o : HO} (h : H a = none) : Sim C (M.lay a o) S (upd H a o) := by
  have hf := s.free h
  have l := Wd.lay_le (o := o) hf
  refine ⟨fun b u e => ?_, fun n m e => ?_, s.inj, s.nx, fun b od u e => lk_ne (H' := H) s e h⟩
  · by_cases hb : b = a
    · subst hb
      have e' : upd M.fz b o b = some u := e
      rw [upd_same] at e'
      cases e'
      exact .inl upd_same
    · have e' : upd M.fz a o b = some u := e
      rw [upd_ne hb] at e'
      rcases s.fr _ _ e' with q | ⟨q, ob, z⟩
      · exact .inl (by rw [upd_ne hb]; exact q)
      · exact .inr ⟨q, ob, by rw [upd_ne hb]; exact z⟩
  · obtain ⟨b, u, h1, h2, h3, h4⟩ := s.al n m e
    have hb : b ≠ a := ne_of_none h2 h
    exact ⟨b, u, h1, by rw [upd_ne hb]; exact h2, by show upd M.fz a o b = none; rw [upd_ne hb]; exact h3, h4.mono l⟩
theorem Wd.bind_le (s : Sim C M S H) {a : Addr} : M.le (M.bind S.nx a) := ⟨fun _ _ e => e, fun k b e => by
  show (if k = S.nx then some a else M.mu k) = some b
  rw [if_neg (Nat.ne_of_lt (s.nx k b e))]; exact e, fun _ _ e => e⟩
/-- a new object of the store -/
theorem Sim.bindNew (s : Sim C M S H) {a : Addr} {m : MO} {o : HO} (h : H a = none) (r : RepM C M m o) : Sim C (M.bind S.nx a) (S.new m) (upd H a o) := by
  have l := Wd.bind_le s (a := a)
  have hn : ∀ n b, M.mu n = some b → n ≠ S.nx := fun n b e => Nat.ne_of_lt (s.nx n b e)
  refine ⟨fun b u e => ?_, fun n m' e => ?_, fun n n' b e e' q q' => ?_, fun n b e => ?_, fun b od u e => lk_ne (H' := H) s e h⟩
  · have e0 : M.fz b = some u := e
    have hb : ¬ b = a := fun z => by subst z; rw [s.free h] at e0; cases e0
    rcases s.fr _ _ e with q | ⟨q, ob, z⟩
    · exact .inl (by rw [upd_ne hb]; exact q)
    · exact .inr ⟨q, ob, by rw [upd_ne hb]; exact z⟩
  · by_cases hnn : n = S.nx
    · subst hnn
      rw [look_new] at e
      cases e
      exact ⟨a, o, if_pos rfl, upd_same, s.free h, r.mono l⟩
    · rw [look_new_ne hnn] at e
      obtain ⟨b, u, h1, h2, h3, h4⟩ := s.al n m' e
      exact ⟨b, u, l.2.1 _ _ h1, by rw [upd_ne (ne_of_none h2 h)]; exact h2, h3, h4.mono l⟩
  · have q1 : (if n = S.nx then some a else M.mu n) = some b := q
    have q2 : (if n' = S.nx then some a else M.mu n') = some b := q'
    by_cases h1 : n = S.nx
    · by_cases h2 : n' = S.nx
      · rw [h1, h2]
      · rw [if_pos h1] at q1
        rw [if_neg h2] at q2
        cases q1
        rw [look_new_ne h2] at e'
        obtain ⟨m2, em⟩ := Option.isSome_iff_exists.mp e'
        obtain ⟨b2, u2, z1, z2, _⟩ := s.al n' m2 em
        rw [q2] at z1; cases z1
        rw [h] at z2; cases z2
    · rw [if_neg h1] at q1
      rw [look_new_ne h1] at e
      by_cases h2 : n' = S.nx
      · rw [if_pos h2] at q2
        cases q2
        obtain ⟨m2, em⟩ := Option.isSome_iff_exists.mp e
        obtain ⟨b2, u2, z1, z2, _⟩ := s.al n m2 em
        rw [q1] at z1; cases z1
        rw [h] at z2; cases z2
      · rw [if_neg h2] at q2
        rw [look_new_ne h2] at e'
        exact s.inj n n' b e e' q1 q2
  · have e' : (if n = S.nx then some a else M.mu n) = some b := e
    show n < S.nx + 1
    by_cases h1 : n = S.nx
    · omega
    · rw [if_neg h1] at e'
      have := s.nx n b e'
      omega
/-- an object of the store is written -/
theorem Sim.write0 (s : Sim C M S H) {n : Nat} {a : Addr} {m m' : MO} {o : HO} (hm : S.at n = some m) (ha : M.mu n = some a) (r : RepM C M m' o) (nl : M.lk a = none) : Sim C M (S.set n m') (upd H a o) := by
  obtain ⟨a', o', h1, h2, h3, hrm⟩ := s.al n m hm
  rw [ha] at h1; cases h1
  have same : ∀ j, ((S.set n m').at j).isSome = (S.at j).isSome := fun j => by
    by_cases hj : j = n
    · subst hj
      show (look (put S.ob j m') j).isSome = _
      rw [look_put_same hm, hm] <;> rfl
    · show (look (put S.ob n m') j).isSome = (look S.ob j).isSome
      rw [look_put_ne hj]
  refine ⟨fun b u e => ?_, fun j q e => ?_, fun j j' b e e' => ?_, s.nx, fun b od u e => ?_⟩
  · have hb : ¬ b = a := fun z => by subst z; rw [h3] at e; cases e
    rcases s.fr _ _ e with q | ⟨q, ob, z⟩
    · exact .inl (by rw [upd_ne hb]; exact q)
    · exact .inr ⟨q, ob, by rw [upd_ne hb]; exact z⟩
  · by_cases hj : j = n
    · subst hj
      have e' : look (put S.ob j m') j = some q := e
      rw [look_put_same hm] at e'
      cases e'
      exact ⟨a, o, ha, upd_same, h3, r⟩
    · have e' : look (put S.ob n m') j = some q := e
      rw [look_put_ne hj] at e'
      obtain ⟨b, u, z1, z2, z3, z4⟩ := s.al j q e'
      have hb : ¬ b = a := fun z => by
        subst z
        exact hj (s.inj j n b (by show (look S.ob j).isSome = true; rw [e']; rfl) (by rw [hm]; rfl) z1 ha)
      exact ⟨b, u, z1, by rw [upd_ne hb]; exact z2, z3, z4⟩
  · rw [same] at e e'
    exact s.inj j j' b e e'
  · have q := s.lk _ _ _ e
    have hb : ¬ b = a := fun z => by
      subst z
      rw [nl] at e; cases e
    rw [upd_ne hb]; exact q
theorem Sim.write (s : Sim C M S H) {n : Nat} {a : Addr} {m m' : MO} {o : HO} (hm : S.at n = some m) (ha : M.mu n = some a) (r : RepM C M m' o) (op : m.opn = true := by rfl) : Sim C M (S.set n m') (upd H a o) := by
  refine s.write0 hm ha r (s.nolk fun ob u z => ?_)
  obtain ⟨a', o', h1, h2, h3, hrm⟩ := s.al n m hm
  rw [ha] at h1; cases h1
  rw [h2] at z; cases z
  exact hrm.nofrz op _ _ rfl
/-! ### locks -/
def Wd.lck (M : Wd) (a : Addr) (od : Obj) (u : HO) : Wd := ⟨M.fz, M.mu, fun b => if b = a then some (od, u) else M.lk b⟩
def Wd.unlk (M : Wd) (a : Addr) : Wd := ⟨M.fz, M.mu, fun b => if b = a then none else M.lk b⟩
theorem Wd.lck_le {a : Addr} {od : Obj} {u : HO} (h : M.lk a = none) : M.le (M.lck a od u) := ⟨fun _ _ e => e, fun _ _ e => e, fun b p e => by
  show (if b = a then some (od, u) else M.lk b) = some p
  rw [if_neg (fun z => by rw [z, h] at e; cases e)]; exact e⟩
theorem Wd.lck_at {a : Addr} {od : Obj} {u : HO} : (M.lck a od u).lk a = some (od, u) := if_pos rfl
theorem Wd.unlk_le {M' : Wd} {a : Addr} (l : M.le M') (h : M.lk a = none) : M.le (M'.unlk a) := ⟨l.1, l.2.1, fun b p e => by
  show (if b = a then none else M'.lk b) = some p
  rw [if_neg (fun z => by rw [z, h] at e; cases e)]; exact l.2.2 b p e⟩
theorem Wd.unlk_lev {a : Addr} : M.lev (M.unlk a) := ⟨fun _ _ e => e, fun _ _ e => e⟩
theorem Sim.addlk (s : Sim C M S H) {a : Addr} {od : Obj} {u : HO} (h : H a = some (.frz od u)) : Sim C (M.lck a od u) S H := by
  refine ⟨s.fr, fun n m e => ?_, s.inj, s.nx, fun b ob w e => ?_⟩
  · obtain ⟨b, o, h1, h2, h3, h4⟩ := s.al n m e
    exact ⟨b, o, h1, h2, h3, RepM.monoV (M := M) (M' := M.lck a od u) ⟨fun _ _ e => e, fun _ _ e => e⟩ h4⟩
  · have e' : (if b = a then some (od, u) else M.lk b) = some (ob, w) := e
    by_cases hb : b = a
    · rw [if_pos hb] at e'; cases e'; rw [hb]; exact h
    · rw [if_neg hb] at e'; exact s.lk b ob w e'
theorem Sim.drop (s : Sim C M S H) (a : Addr) : Sim C (M.unlk a) S H := by
  refine ⟨s.fr, fun n m e => ?_, s.inj, s.nx, fun b ob w e => ?_⟩
  · obtain ⟨b, o, h1, h2, h3, h4⟩ := s.al n m e
    exact ⟨b, o, h1, h2, h3, RepM.monoV (M := M) (M' := M.unlk a) ⟨fun _ _ e => e, fun _ _ e => e⟩ h4⟩
  · have e' : (if b = a then none else M.lk b) = some (ob, w) := e
    by_cases hb : b = a
    · rw [if_pos hb] at e'; cases e'
    · rw [if_neg hb] at e'; exact s.lk b ob w e'
/-- a frozen dict's lock is set or loosened -/
theorem Sim.relock (s : Sim C M S H) {a : Addr} {u o : HO} (hf : M.fz a = some u) (nl : M.lk a = none) (h : o = u ∨ isDk u ∧ ∃ ob, o = .frz ob u) : Sim C M S (upd H a o) := by
  refine ⟨fun b w e => ?_, fun n m e => ?_, s.inj, s.nx, fun b ob w e => ?_⟩
  · by_cases hb : b = a
    · subst hb
      rw [hf] at e; cases e
      rcases h with rfl | ⟨d, ob, rfl⟩
      · exact .inl upd_same
      · exact .inr ⟨d, ob, upd_same⟩
    · rcases s.fr b w e with q | ⟨q, ob, z⟩
      · exact .inl (by rw [upd_ne hb]; exact q)
      · exact .inr ⟨q, ob, by rw [upd_ne hb]; exact z⟩
  · obtain ⟨b, o', h1, h2, h3, h4⟩ := s.al n m e
    have hb : ¬ b = a := fun z => by rw [z, hf] at h3; cases h3
    exact ⟨b, o', h1, by rw [upd_ne hb]; exact h2, h3, h4⟩
  · have hb : ¬ b = a := fun z => by rw [z, nl] at e; cases e
    rw [upd_ne hb]; exact s.lk b ob w e
/-- a tuple that is there is known from here on -/
theorem Sim.track (s : Sim C M S H) {q : Addr} {vs : List V} (h : H q = some (.tup vs)) : ∃ M', M.le M' ∧ Sim C M' S H ∧ M'.fz q = some (.tup vs) := by
  cases e : M.fz q with
  | some o =>
    rcases s.fr q o e with z | ⟨d, ob, z⟩
    · rw [h] at z; cases z; exact ⟨M, .refl M, s, e⟩
    · rw [h] at z; cases z
  | none =>
    refine ⟨M.lay q (.tup vs), Wd.lay_le e, ⟨fun b w eb => ?_, fun n m em => ?_, s.inj, s.nx, s.lk⟩, upd_same⟩
    · have eb' : upd M.fz q (.tup vs) b = some w := eb
      by_cases hb : b = q
      · rw [hb, upd_same] at eb'; cases eb'; rw [hb]; exact .inl h
      · rw [upd_ne hb] at eb'; exact s.fr b w eb'
    · obtain ⟨b, o', h1, h2, h3, h4⟩ := s.al n m em
      have hb : b ≠ q := fun z => by
        rw [z, h] at h2; cases h2
        cases m with
        | lst _ => obtain ⟨_, z, _⟩ := h4; cases z
        | dct _ => obtain ⟨_, z, _⟩ := h4; cases z
        | dtt _ => obtain ⟨_, z, _⟩ := h4; cases z
        | ins _ _ => obtain ⟨_, _, z, _⟩ := h4; cases z
        | lck _ => obtain ⟨_, _, z, _⟩ := h4; cases z
      exact ⟨b, o', h1, h2, by show upd M.fz q (.tup vs) b = none; rw [upd_ne hb]; exact h3, h4.mono (Wd.lay_le e)⟩
/-- an object of the store is frozen -/
theorem Sim.freeze (s : Sim C M S H) {n : Nat} {m : MO} (hm : S.at n = some m) : ∃ a o, M.mu n = some a ∧ RepM C M m o ∧ M.fz a = none ∧ Sim C (M.lay a o) (S.del n) H := by
  obtain ⟨a, o, h1, h2, h3, h4⟩ := s.al n m hm
  have l := Wd.lay_le (o := o) h3
  have sub : ∀ j, ((S.del n).at j).isSome = true → j ≠ n ∧ (S.at j).isSome = true := fun j e => by
    by_cases hj : j = n
    · subst hj
      have e' : (look (cut S.ob j) j).isSome = true := e
      rw [look_cut_same] at e'
      cases e'
    · have e' : (look (cut S.ob n) j).isSome = true := e
      rw [look_cut_ne hj] at e'
      exact ⟨hj, e'⟩
  refine ⟨a, o, h1, h4, h3, fun b u e => ?_, fun j q e => ?_, fun j j' b e e' => s.inj j j' b (sub j e).2 (sub j' e').2, s.nx, s.lk⟩
  · by_cases hb : b = a
    · subst hb
      have e' : upd M.fz b o b = some u := e
      rw [upd_same] at e'
      cases e'
      exact .inl h2
    · have e' : upd M.fz a o b = some u := e
      rw [upd_ne hb] at e'
      exact s.fr _ _ e'
  · have hj := (sub j (by rw [e]; rfl)).1
    have e' : look (cut S.ob n) j = some q := e
    rw [look_cut_ne hj] at e'
    obtain ⟨b, u, z1, z2, z3, z4⟩ := s.al j q e'
    have hb : ¬ b = a := fun z => by
      subst z
      exact hj (s.inj j n b (by show (look S.ob j).isSome = true; rw [e']; rfl) (by rw [hm]; rfl) z1 h1)
    exact ⟨b, u, z1, z2, by show upd M.fz a o b = none; rw [upd_ne hb]; exact z3, z4.mono l⟩
end
end Pd

namespace Pd
open PySem PySem.Spec L2

/-! ### results -/
inductive Res (α : Type) where
  | ok (a : α) (S : Sto)
  | exc (c : Nat) (fs : List (Nat × D)) (S : Sto)
  | bad
def Res.bind {α β : Type} (r : Res α) (f : α → Sto → Res β) : Res β := match r with
  | .ok a S => f a S
  | .exc c fs S => .exc c fs S
  | .bad => .bad
abbrev Ga := List (Option D)
/-- an expression: slots, store -/
abbrev DE := Ga → Sto → Res D
abbrev DA := Ga → Sto → Res (List D)
inductive SRes where
  | nx (Γ : Ga) (S : Sto) | rt (d : D) (S : Sto) | bk (Γ : Ga) (S : Sto) | ct (Γ : Ga) (S : Sto)
  | exc (c : Nat) (fs : List (Nat × D)) (S : Sto)
  | bad
abbrev DS := Ga → Sto → SRes

section
variable (C : Cfg)
/-- how an exception lies: its class, its own dict -/
def RepX (M : Wd) (H : Hp) (cls : Value) (dd : Option Addr) (c : Nat) (fs : List (Nat × D)) : Prop :=
  cls = .ref (C.ga c) ∧ ((dd = none ∧ fs = []) ∨ ∃ d fv, dd = some d ∧ H d = some (.xd fv) ∧ M.fz d = none ∧ RepF C M fs fv)
def Good {α : Type} (R : Wd → α → V → Prop) (M : Wd) (r : Res α) (Q : VK) (E : XK) : Prop := match r with
  | .ok a S => ∀ M' v H', M.le M' → Sim C M' S H' → R M' a v → Q v H'
  | .exc c fs S => ∀ M' cls dd H', M.le M' → Sim C M' S H' → RepX C M' H' cls dd c fs → E cls dd H'
  | .bad => False
def SimG (M : Wd) (Γ : Ga) (σ : St) : Prop := Γ.length = σ.length ∧ ∀ (i : Nat) d, Γ[i]? = some (some d) → ∃ v, σ[i]? = some (some v) ∧ Rep C M d v
def GoodA (M : Wd) (r : Res (List D)) (Q : List V → Hp → Prop) (E : XK) : Prop := match r with
  | .ok a S => ∀ M' vs H', M.le M' → Sim C M' S H' → RepL C M' a vs → Q vs H'
  | .exc c fs S => ∀ M' cls dd H', M.le M' → Sim C M' S H' → RepX C M' H' cls dd c fs → E cls dd H'
  | .bad => False
def GoodB (M : Wd) (r : Res Bool) (Q : Bool → Hp → Prop) (E : XK) : Prop := match r with
  | .ok b S => ∀ M' H', M.le M' → Sim C M' S H' → Q b H'
  | .exc c fs S => ∀ M' cls dd H', M.le M' → Sim C M' S H' → RepX C M' H' cls dd c fs → E cls dd H'
  | .bad => False
def GoodE (M : Wd) (r : Res D) (Q : VK) (E : XK) : Prop := Good C (Rep C) M r Q E
def GoodS (W : WX) (M : Wd) (r : SRes) (D : Ends) : Prop := match r with
  | .nx Γ S => ∀ M' σ' H', M.le M' → SimG C M' Γ σ' → Sim C M' S H' → D.nx σ' H'
  | .rt d S => ∀ M' v H', M.le M' → Sim C M' S H' → Rep C M' d v → D.rt v H'
  | .bk Γ S => ∀ M' σ' H', M.le M' → SimG C M' Γ σ' → Sim C M' S H' → D.bk σ' H'
  | .ct Γ S => ∀ M' σ' H', M.le M' → SimG C M' Γ σ' → Sim C M' S H' → D.ct σ' H'
  | .exc c fs S => ∀ M' σ' cls dd H', M.le M' → Sim C M' S H' → RepX C M' H' cls dd c fs → W cls dd σ' H'
  | .bad => False
/-- the readings by data. W: what is wanted of an exception, whatever the slots -/
def tE (W : XK) (f : DE) : TE := fun σ H Q => ∃ M Γ S, SimG C M Γ σ ∧ Sim C M S H ∧ GoodE C M (f Γ S) Q W
def tT (W : XK) (f : Ga → Sto → Res Bool) : TT := fun σ H Q => ∃ M Γ S, SimG C M Γ σ ∧ Sim C M S H ∧ GoodB C M (f Γ S) Q W
def tA (W : XK) (f : DA) : TA := fun σ H Q => ∃ M Γ S, SimG C M Γ σ ∧ Sim C M S H ∧ GoodA C M (f Γ S) Q W
def tS (W : XK) (f : DS) : TS := fun D σ H => ∃ M Γ S, SimG C M Γ σ ∧ Sim C M S H ∧ GoodS C (fun c d _ H => W c d H) M (f Γ S) D
end

section
variable {C : Cfg} {M M' : Wd} {Γ : Ga} {S : Sto} {σ : St} {H : Hp} {W : XK}
theorem SimG.mono (l : M.le M') (g : SimG C M Γ σ) : SimG C M' Γ σ := ⟨g.1, fun i d e => let ⟨v, a, r⟩ := g.2 i d e; ⟨v, a, r.mono l⟩⟩
theorem GoodE.mono (l : M.le M') {r : Res D} {Q : VK} (g : GoodE C M r Q W) : GoodE C M' r Q W := by
  cases r with
  | ok a S => exact fun M2 v H' l2 => g M2 v H' (l.trans l2)
  | exc c fs S => exact fun M2 c' d H' l2 => g M2 c' d H' (l.trans l2)
  | bad => exact g
theorem GoodE.imp {r : Res D} {Q Q' : VK} (g : GoodE C M r Q W) (h : ∀ v H, Q v H → Q' v H) : GoodE C M r Q' W := by
  cases r with
  | ok a S => exact fun M2 v H' l2 s r => h _ _ (g M2 v H' l2 s r)
  | exc c fs S => exact g
  | bad => exact g
theorem GoodA.mono (l : M.le M') {r : Res (List D)} {Q : List V → Hp → Prop} (g : GoodA C M r Q W) : GoodA C M' r Q W := by
  cases r with
  | ok a S => exact fun M2 v H' l2 => g M2 v H' (l.trans l2)
  | exc c fs S => exact fun M2 c' d H' l2 => g M2 c' d H' (l.trans l2)
  | bad => exact g
theorem GoodB.mono (l : M.le M') {r : Res Bool} {Q : Bool → Hp → Prop} (g : GoodB C M r Q W) : GoodB C M' r Q W := by
  cases r with
  | ok a S => exact fun M2 H' l2 => g M2 H' (l.trans l2)
  | exc c fs S => exact fun M2 c' d H' l2 => g M2 c' d H' (l.trans l2)
  | bad => exact g
theorem GoodS.mono (l : M.le M') {r : SRes} {D : Ends} {W : WX} (g : GoodS C W M r D) : GoodS C W M' r D := by
  cases r with
  | nx Γ S => exact fun M2 σ' H' l2 => g M2 σ' H' (l.trans l2)
  | rt d S => exact fun M2 v H' l2 => g M2 v H' (l.trans l2)
  | bk Γ S => exact fun M2 σ' H' l2 => g M2 σ' H' (l.trans l2)
  | ct Γ S => exact fun M2 σ' H' l2 => g M2 σ' H' (l.trans l2)
  | exc c fs S => exact fun M2 σ' c' d H' l2 => g M2 σ' c' d H' (l.trans l2)
  | bad => exact g
/-- a value at once -/
theorem GoodE.ok {d : D} {v : V} {Q : VK} (g : GoodE C M (.ok d S) Q W) (s : Sim C M S H) (r : Rep C M d v) : Q v H := g M v H (.refl M) s r
end

/-! ### plumbing: t by a stronger reading -/
section
variable {X : Cx}
theorem _root_.L2.PE.by {e : Expr} {t t' : TE} (h : PE X e t) (i : ∀ σ H Q, t' σ H Q → t σ H Q) : PE X e t' := ⟨fun pins s σ H Q I q => h.run pins s σ H Q I (i σ H Q q)⟩
theorem _root_.L2.PT.by {e : Expr} {t t' : TT} (h : PT X e t) (i : ∀ σ H Q, t' σ H Q → t σ H Q) : PT X e t' := ⟨fun pins s σ H Q I q => h.run pins s σ H Q I (i σ H Q q)⟩
theorem _root_.L2.PA.by {e : List Expr} {t t' : TA} (h : PA X e t) (i : ∀ σ H Q, t' σ H Q → t σ H Q) : PA X e t' := ⟨fun p pins s σ H Q I q => h.run p pins s σ H Q I (i σ H Q q)⟩
theorem _root_.L2.PS.by {e : Stmt} {t t' : TS} (h : PS X e t) (i : ∀ D σ H, t' D σ H → t D σ H) : PS X e t' := ⟨fun pins s σ H D I q => h.run pins s σ H D I (i D σ H q)⟩
theorem _root_.L2.PSs.by {e : List Stmt} {t t' : TS} (h : PSs X e t) (i : ∀ D σ H, t' D σ H → t D σ H) : PSs X e t' := ⟨fun pins s σ H D I q => h.run pins s σ H D I (i D σ H q)⟩
end

section
variable {C : Cfg} {W : XK} {M : Wd} {Γ : Ga} {S : Sto} {σ : St} {H : Hp}
/-- two expressions in a row, by data -/
theorem run2 {fa fb : DE} {f : D → D → Sto → Res D} {Q : VK} {K2 : V → V → Hp → Prop} (g : SimG C M Γ σ) (s : Sim C M S H) (h : GoodE C M ((fa Γ S).bind fun a S1 => (fb Γ S1).bind fun b S2 => f a b S2) Q W)
    (k : ∀ M' a b S' x y H', M.le M' → Sim C M' S' H' → Rep C M' a x → Rep C M' b y → GoodE C M' (f a b S') Q W → K2 x y H') :
    tE C W fa σ H fun x H1 => tE C W fb σ H1 fun y H2 => K2 x y H2 := by
  refine ⟨M, Γ, S, g, s, ?_⟩
  cases ea : fa Γ S with
  | bad => rw [ea] at h; exact h
  | exc c fs S1 => rw [ea] at h; exact h
  | ok a S1 =>
    rw [ea] at h
    intro M1 x H1 l1 s1 r1
    refine ⟨M1, Γ, S1, g.mono l1, s1, ?_⟩
    have h1 : GoodE C M ((fb Γ S1).bind fun b S2 => f a b S2) Q W := h
    have h2 := h1.mono l1
    cases eb : fb Γ S1 with
    | bad => rw [eb] at h2; exact h2
    | exc c fs S2 => rw [eb] at h2; exact h2
    | ok b S2 =>
      rw [eb] at h2
      intro M2 y H2 l2 s2 r2
      exact k M2 a b S2 x y H2 (l1.trans l2) s2 (r1.mono l2) r2 (GoodE.mono l2 h2)
theorem run1 {fa : DE} {f : D → Sto → Res D} {Q : VK} {K1 : V → Hp → Prop} (g : SimG C M Γ σ) (s : Sim C M S H) (h : GoodE C M ((fa Γ S).bind fun a S1 => f a S1) Q W)
    (k : ∀ M' a S' x H', M.le M' → Sim C M' S' H' → Rep C M' a x → GoodE C M' (f a S') Q W → K1 x H') : tE C W fa σ H K1 := by
  refine ⟨M, Γ, S, g, s, ?_⟩
  cases ea : fa Γ S with
  | bad => rw [ea] at h; exact h
  | exc c fs S1 => rw [ea] at h; exact h
  | ok a S1 =>
    rw [ea] at h
    intro M1 x H1 l1 s1 r1
    exact k M1 a S1 x H1 l1 s1 r1 (GoodE.mono l1 h)
end

/-! ### names, constants -/
section
variable {X : Cx} {C : Cfg} {W : XK}
def dVar (i : Nat) : DE := fun Γ S => match Γ[i]? with
  | some (some d) => .ok d S
  | _ => .bad
def dC (d : D) : DE := fun _ S => .ok d S
theorem xv (i : Nat) {x : Str} {pos : Pos} (hN : X.N[i]? = some x := by rfl) (hv : Vis X.env.scope x := by first | exact Or.inl rfl | exact Or.inr (Or.inl rfl) | exact Or.inr (Or.inr rfl)) (hd : (x == ("__debug__" : Str)) = false := by decide)
    (hcd : (x == ("__classdict__" : Str)) = false := by decide) : PE X (.Name x pos) (tE C W (dVar i)) :=
  (pe_var hN hv hd hcd).by fun σ H Q ⟨M, Γ, S, g, s, h⟩ => by
    unfold dVar at h
    split at h
    · rename_i d e
      obtain ⟨v, e2, r⟩ := g.2 i d e
      exact ⟨v, e2, GoodE.ok h s r⟩
    · exact h.elim
theorem cst {e : Expr} {v : V} {d : D} (h : PE X e (tC v)) (r : ∀ M, Rep C M d v) : PE X e (tE C W (dC d)) := h.by fun σ H Q ⟨M, Γ, S, g, s, q⟩ => GoodE.ok (C := C) q s (r M)
theorem xint {i : Int} {j pos} : PE X (.Constant (.int i) j pos) (tE C W (dC (.int i))) := cst pe_int fun _ => .int i
theorem xbl {i : Bool} {j pos} : PE X (.Constant (.bool i) j pos) (tE C W (dC (.bl i))) := cst pe_bl fun _ => .bl i
theorem xnon {j pos} : PE X (.Constant .none j pos) (tE C W (dC .non)) := cst pe_non fun _ => .non
theorem xstr {x : Str} {y : Str} {j pos} (h : x = y) : PE X (.Constant (.str x) j pos) (tE C W (dC (.str y))) := by subst h; exact cst pe_str fun _ => .str x
end

/-! ### operators by data -/
/-- an operator's rule: f on data gives what the model's operation gives -/
def OpD (X : Cx) (C : Cfg) (W : XK) (op : Value → Value → Sem Value) (f : D → D → Sto → Res D) : Prop :=
  ∃ r : R2, OpR X op r ∧ ∀ M S H a b x y Q, Sim C M S H → Rep C M a x → Rep C M b y → GoodE C M (f a b S) Q W → r x y H Q
def d2 (f : D → D → Sto → Res D) (fa fb : DE) : DE := fun Γ S => (fa Γ S).bind fun a S1 => (fb Γ S1).bind fun b S2 => f a b S2
section
variable {X : Cx} {C : Cfg} {W : XK} {fa fb : DE} {a b : Expr} {pos : Pos} {f : D → D → Sto → Res D}
theorem xbin {op : Operator} (ho : OpD X C W (binaryOp op) f) (ha : PE X a (tE C W fa)) (hb : PE X b (tE C W fb)) : PE X (.BinOp a op b pos) (tE C W (d2 f fa fb)) := by
  obtain ⟨r, hr, k⟩ := ho
  exact (pe_op hr ha hb).by fun σ H Q ⟨M, Γ, S, g, s, h⟩ => run2 g s h fun M' a b S' x y H' l s' ra rb q => k M' S' H' a b x y Q s' ra rb q
theorem xcmp {op : CmpOp} (ho : OpD X C W (compareOp op) f) (ha : PE X a (tE C W fa)) (hb : PE X b (tE C W fb)) (hm : behindInMarks op b = false) : PE X (.Compare a [op] [b] pos) (tE C W (d2 f fa fb)) := by
  obtain ⟨r, hr, k⟩ := ho
  exact (pe_cmpR hr ha hb hm).by fun σ H Q ⟨M, Γ, S, g, s, h⟩ => run2 g s h fun M' a b S' x y H' l s' ra rb q => k M' S' H' a b x y Q s' ra rb q
theorem OpD.or {op : Value → Value → Sem Value} {f' : D → D → Sto → Res D} (h : OpD X C W op f) (h' : OpD X C W op f') (p : D → D → Sto → Bool) : OpD X C W op (fun a b S => match p a b S with | true => f a b S | false => f' a b S) := by
  obtain ⟨r, hr, k⟩ := h
  obtain ⟨r', hr', k'⟩ := h'
  refine ⟨fun x y H Q => r x y H Q ∨ r' x y H Q, hr.or hr', fun M S H a b x y Q s ra rb q => ?_⟩
  have q : GoodE C M (match p a b S with | true => f a b S | false => f' a b S) Q W := q
  cases e : p a b S with
  | true => rw [e] at q; exact .inl (k M S H a b x y Q s ra rb q)
  | false => rw [e] at q; exact .inr (k' M S H a b x y Q s ra rb q)
end
end Pd

namespace Pd
open PySem PySem.Spec L2

/-! ### views -/
def lstV (S : Sto) : D → Option (List D)
  | .lst ds => some ds
  | .frl ds => some ds
  | .ref n => (match S.at n with
    | some (.lst ds) => some ds
    | _ => none)
  | _ => none
def lstX (S : Sto) : D → Option (List D)
  | .lst ds => some ds
  | .ref n => (match S.at n with
    | some (.lst ds) => some ds
    | _ => none)
  | _ => none
def tupV : D → Option (List D)
  | .tup ds => some ds
  | .ctp ds => some ds
  | _ => none
def dctV (S : Sto) : D → Option (List (Key × D))
  | .dct ds => some ds
  | .ref n => (match S.at n with
    | some (.dct ds) => some ds
    | some (.lck (.dct ds)) => some ds
    | _ => none)
  | _ => none
/-- a dict of tuple keys -/
def dttV (S : Sto) : D → Option (List (List Key × D))
  | .dtt ds => some ds
  | .ref n => (match S.at n with
    | some (.dtt ds) => some ds
    | some (.lck (.dtt ds)) => some ds
    | _ => none)
  | _ => none
def insV (S : Sto) : D → Option (Nat × List (Nat × D))
  | .ins c fs => some (c, fs)
  | .ref n => (match S.at n with
    | some (.ins c fs) => some (c, fs)
    | _ => none)
  | _ => none
section
variable {C : Cfg} {W : XK} {M : Wd} {S : Sto} {H : Hp} {d : D} {v : V}
theorem lst_of {ds : List D} (s : Sim C M S H) (r : Rep C M d v) (h : lstV S d = some ds) : ∃ a vs, v = .ref a ∧ SqL C.K H a vs ∧ RepL C M ds vs := by
  cases r with
  | lst hq hl hr => cases h; exact ⟨_, _, rfl, s.lst (.inl (.inl hq)), hl, hr⟩
  | frl hq hl hr => cases h; exact ⟨_, _, rfl, s.lst hq, hl, hr⟩
  | ref hm =>
    rename_i n a
    have h' : (match S.at n with | some (.lst ds) => some ds | _ => none) = some ds := h
    split at h'
    · rename_i ds' e
      cases h'
      obtain ⟨b, o, h1, h2, h3, vs, rfl, r⟩ := s.al n _ e
      rw [hm] at h1; cases h1
      exact ⟨a, vs, rfl, .inl (.inl h2), r⟩
    · cases h'
  | _ => cases h
theorem lstX_of {ds : List D} (s : Sim C M S H) (r : Rep C M d v) (h : lstX S d = some ds) : ∃ a vs, v = .ref a ∧ H a = some (.lst vs) ∧ RepL C M ds vs := by
  cases r with
  | lst hq hl hr =>
    cases h
    rcases s.fr _ _ hq with z | ⟨z, _⟩
    · exact ⟨_, _, rfl, z, hl, hr⟩
    · exact z.elim
  | ref hm =>
    rename_i n a
    have h' : (match S.at n with | some (.lst ds) => some ds | _ => none) = some ds := h
    split at h'
    · rename_i ds' e
      cases h'
      obtain ⟨b, o, h1, h2, h3, vs, rfl, r⟩ := s.al n _ e
      rw [hm] at h1; cases h1
      exact ⟨a, vs, rfl, h2, r⟩
    · cases h'
  | _ => cases h
theorem tup_of {ds : List D} (s : Sim C M S H) (r : Rep C M d v) (h : tupV d = some ds) : ∃ a vs, v = .ref a ∧ SqT C.K H a vs ∧ RepL C M ds vs := by
  cases r with
  | tup hq hl hr => cases h; exact ⟨_, _, rfl, s.tup (.inl (.inl hq)), hl, hr⟩
  | ctp hq hl hr => cases h; exact ⟨_, _, rfl, s.tup hq.sq, hl, hr⟩
  | _ => cases h
theorem dct_of {ds : List (Key × D)} (s : Sim C M S H) (r : Rep C M d v) (h : dctV S d = some ds) : ∃ a vs, v = .ref a ∧ Rd H a (.dK vs) ∧ RepK C M ds vs := by
  cases r with
  | dct hq hl hr =>
    cases h
    refine ⟨_, _, rfl, ?_, hl, hr⟩
    rcases hq with hq | ⟨o, hq⟩
    · rcases s.fr _ _ hq with z | ⟨_, ob, z⟩
      · exact .inl z
      · exact .inr ⟨ob, z⟩
    · rcases s.fr _ _ hq with z | ⟨z, _⟩
      · exact .inr ⟨o, z⟩
      · exact z.elim
  | ref hm =>
    rename_i n a
    have h' : (match S.at n with | some (.dct ds) => some ds | some (.lck (.dct ds)) => some ds | _ => none) = some ds := h
    split at h'
    · rename_i ds' e
      cases h'
      obtain ⟨b, o, h1, h2, h3, vs, rfl, r⟩ := s.al n _ e
      rw [hm] at h1; cases h1
      exact ⟨a, vs, rfl, .inl h2, r⟩
    · rename_i ds' e
      cases h'
      obtain ⟨b, o, h1, h2, h3, ob, u, rfl, vs, rfl, r⟩ := s.al n _ e
      rw [hm] at h1; cases h1
      exact ⟨a, vs, rfl, .inr ⟨ob, h2⟩, r⟩
    · cases h'
  | _ => cases h
theorem dtt_of {ds : List (List Key × D)} (s : Sim C M S H) (r : Rep C M d v) (h : dttV S d = some ds) : ∃ a vs, v = .ref a ∧ Rd H a (.dT vs) ∧ RepT C M ds vs := by
  cases r with
  | dtt hq hl hr =>
    cases h
    refine ⟨_, _, rfl, ?_, hl, hr⟩
    rcases hq with hq | ⟨o, hq⟩
    · rcases s.fr _ _ hq with z | ⟨_, ob, z⟩
      · exact .inl z
      · exact .inr ⟨ob, z⟩
    · rcases s.fr _ _ hq with z | ⟨z, _⟩
      · exact .inr ⟨o, z⟩
      · exact z.elim
  | ref hm =>
    rename_i n a
    have h' : (match S.at n with | some (.dtt ds) => some ds | some (.lck (.dtt ds)) => some ds | _ => none) = some ds := h
    split at h'
    · rename_i ds' e
      cases h'
      obtain ⟨b, o, h1, h2, h3, vs, rfl, r⟩ := s.al n _ e
      rw [hm] at h1; cases h1
      exact ⟨a, vs, rfl, .inl h2, r⟩
    · rename_i ds' e
      cases h'
      obtain ⟨b, o, h1, h2, h3, ob, u, rfl, vs, rfl, r⟩ := s.al n _ e
      rw [hm] at h1; cases h1
      exact ⟨a, vs, rfl, .inr ⟨ob, h2⟩, r⟩
    · cases h'
  | _ => cases h
theorem ins_of {c : Nat} {fs : List (Nat × D)} (s : Sim C M S H) (r : Rep C M d v) (h : insV S d = some (c, fs)) : ∃ a dx fv, v = .ref a ∧ H a = some (.ins (C.ga c) dx fv) ∧ RepF C M fs fv := by
  cases r with
  | ins hq hl hr => cases h; exact ⟨_, _, _, rfl, s.ins hq, hl, hr⟩
  | ref hm =>
    rename_i n a
    have h' : (match S.at n with | some (.ins c fs) => some (c, fs) | _ => none) = some (c, fs) := h
    split at h'
    · rename_i c' fs' e
      cases h'
      obtain ⟨b, o, h1, h2, h3, dx, fv, rfl, r⟩ := s.al n _ e
      rw [hm] at h1; cases h1
      exact ⟨a, dx, fv, rfl, h2, r⟩
    · cases h'
  | _ => cases h

/-! ### new things -/
theorem newTup {ds : List D} {vs : List V} {Q : VK} {p : Addr} (q : GoodE C M (.ok (.tup ds) S) Q W) (s : Sim C M S H) (r : RepL C M ds vs) (hp : H p = none) : Q (.ref p) (upd H p (.tup vs)) := by
  have l : M.le (M.lay p (.tup vs)) := Wd.lay_le (s.free hp)
  exact q _ _ _ l (s.lay hp) (.tup (show upd M.fz p (.tup vs) p = _ from upd_same) r.1 (r.mono l).2)
theorem newLst {ds : List D} {vs : List V} {Q : VK} {p : Addr} (q : GoodE C M (.ok (.lst ds) S) Q W) (s : Sim C M S H) (r : RepL C M ds vs) (hp : H p = none) : Q (.ref p) (upd H p (.lst vs)) := by
  have l : M.le (M.lay p (.lst vs)) := Wd.lay_le (s.free hp)
  exact q _ _ _ l (s.lay hp) (.lst (show upd M.fz p (.lst vs) p = _ from upd_same) r.1 (r.mono l).2)
theorem newDct {ds : List (Key × D)} {vs : List (Key × V)} {Q : VK} {p : Addr} (q : GoodE C M (.ok (.dct ds) S) Q W) (s : Sim C M S H) (r : RepK C M ds vs) (hp : H p = none) : Q (.ref p) (upd H p (.dK vs)) := by
  have l : M.le (M.lay p (.dK vs)) := Wd.lay_le (s.free hp)
  exact q _ _ _ l (s.lay hp) (.dct (.inl (show upd M.fz p (.dK vs) p = _ from upd_same)) r.1 (r.mono l).2)
theorem newDtt {ds : List (List Key × D)} {vs : List (List Key × V)} {Q : VK} {p : Addr} (q : GoodE C M (.ok (.dtt ds) S) Q W) (s : Sim C M S H) (r : RepT C M ds vs) (hp : H p = none) : Q (.ref p) (upd H p (.dT vs)) := by
  have l : M.le (M.lay p (.dT vs)) := Wd.lay_le (s.free hp)
  exact q _ _ _ l (s.lay hp) (.dtt (.inl (show upd M.fz p (.dT vs) p = _ from upd_same)) r.1 (r.mono l).2)
/-- .. into the store -/
theorem newSto {m : MO} {o : HO} {Q : VK} {p : Addr} (q : GoodE C M (.ok (.ref S.nx) (S.new m)) Q W) (s : Sim C M S H) (r : RepM C M m o) (hp : H p = none) : Q (.ref p) (upd H p o) :=
  q _ _ _ (Wd.bind_le s) (s.bindNew hp r) (.ref (show (if S.nx = S.nx then some p else M.mu S.nx) = some p from if_pos rfl))
end

/-! ### numbers -/
abbrev ltB := PySem.W.Z.ltB
abbrev leB := PySem.W.Z.leB
theorem bool_dec {b : Bool} {p : Prop} [Decidable p] (h : b = true ↔ p) : b = decide p := by
  cases b with
  | true => exact (decide_eq_true (h.mp rfl)).symm
  | false => exact (decide_eq_false fun q => by cases h.mpr q).symm
theorem ltB_eq (a b : Int) : ltB a b = decide (a < b) := bool_dec (PySem.W.Z.ltB_iff a b)
theorem leB_eq (a b : Int) : leB a b = decide (a ≤ b) := bool_dec (PySem.W.Z.leB_iff a b)
theorem eqB_eq (a b : Int) : eqB a b = decide (a = b) := bool_dec (PySem.W.Z.eqB_iff a b)
/-- small enough for a product -/
def small (i : Int) : Bool := Nat.blt i.natAbs 18446744073709551616
theorem small_ok {i : Int} (h : small i = true) : -(2 ^ 64) < i ∧ i < 2 ^ 64 := by
  have h1 : i.natAbs < 18446744073709551616 := Nat.le_of_ble_eq_true h
  constructor <;> omega
def lineOk (n : Nat) : Bool := Nat.ble n 1000000
theorem lineOk_ok {n : Nat} (h : lineOk n = true) : n ≤ sizeLine := by
  have h1 : n ≤ 1000000 := Nat.le_of_ble_eq_true h
  rw [sizeLine_eq]; omega
theorem lineOk_lt {n : Nat} (h : lineOk (n + 1) = true) : n < sizeLine := lineOk_ok h
def guard {α : Type} (b : Bool) (r : Res α) : Res α := match b with
  | true => r
  | false => .bad
theorem guard_ok {C : Cfg} {M : Wd} {Q : VK} {W : XK} {b : Bool} {r : Res D} (h : GoodE C M (guard b r) Q W) : b = true ∧ GoodE C M r Q W := by
  cases b with
  | true => exact ⟨rfl, h⟩
  | false => exact h.elim

/-! ### + -/
/-- two tuples, the left one not empty -/
def catT (a : D) (xs ys : List D) (S : Sto) : Res D := match xs, ys with
  | x :: xs, [] => guard (lineOk (xs.length + 1)) (.ok a S)
  | x :: xs, y :: ys => guard (lineOk ((x :: xs).length + (y :: ys).length)) (.ok (.tup (x :: xs ++ y :: ys)) S)
  | _, _ => .bad
def fAdd : D → D → Sto → Res D := fun a b S => match a, b with
  | .int i, .int j => .ok (.int (i + j)) S
  | .str x, .str y => guard (lineOk (x.length + y.length)) (.ok (.str (x ++ y)) S)
  | a, b => (match tupV a with
    | some xs => (match tupV b with
      | some ys => catT a xs ys S
      | none => .bad)
    | none => (match lstX S a, lstX S b with
      | some xs, some ys => guard (lineOk (xs.length + ys.length)) (.ok (.lst (xs ++ ys)) S)
      | _, _ => .bad))
section
variable {X : Cx} {C : Cfg} {W : XK}
theorem addL (M : Wd) (S : Sto) (H : Hp) (a b : D) (x y : V) (Q : VK) (s : Sim C M S H) (ra : Rep C M a x) (rb : Rep C M b y) (q : GoodE C M (match lstX S a, lstX S b with
    | some xs, some ys => guard (lineOk (xs.length + ys.length)) (.ok (.lst (xs ++ ys)) S)
    | _, _ => .bad) Q W) : rCat x y H Q := by
  split at q
  · rename_i xs ys e1 e2
    obtain ⟨l, vs, rfl, h1, r1⟩ := lstX_of s ra e1
    obtain ⟨m, ws, rfl, h2, r2⟩ := lstX_of s rb e2
    obtain ⟨g, q⟩ := guard_ok q
    refine ⟨l, m, vs, ws, rfl, rfl, h1, h2, ?_, fun p hp => newLst q s (r1.append r2) hp⟩
    rw [← r1.1, ← r2.1]; exact lineOk_ok g
  · exact q.elim
theorem oAdd (hK : X.K = C.K) : OpD X C W (binaryOp .Add) fAdd := by
  refine ⟨_, op_add.or (op_add_str.or (op_catT.or op_cat)), fun M S H a b x y Q s ra rb q => ?_⟩
  unfold fAdd at q
  split at q
  · cases ra; cases rb
    exact .inl ⟨_, _, rfl, rfl, q.ok s (.int _)⟩
  · cases ra; cases rb
    obtain ⟨g, q⟩ := guard_ok q
    exact .inr (.inl ⟨_, _, rfl, rfl, lineOk_ok g, q.ok s (.str _)⟩)
  · split at q
    · rename_i xs e1
      split at q
      · rename_i ys e2
        obtain ⟨l, vs, rfl, h1, r1⟩ := tup_of s ra e1
        obtain ⟨m, ws, rfl, h2, r2⟩ := tup_of s rb e2
        unfold catT at q
        split at q
        · obtain ⟨g, q⟩ := guard_ok q
          rw [r2.nil_inv] at h2
          refine .inr (.inr (.inl ⟨l, m, vs, [], rfl, rfl, hK ▸ h1, hK ▸ h2, ?_, ?_, fun _ => q.ok s ra, fun z => absurd rfl z⟩))
          · intro e; rw [e] at r1; exact absurd r1.1 (by simp)
          · rw [← r1.1]; exact lineOk_ok g
        · obtain ⟨g, q⟩ := guard_ok q
          refine .inr (.inr (.inl ⟨l, m, vs, ws, rfl, rfl, hK ▸ h1, hK ▸ h2, ?_, ?_, fun z => ?_, fun _ p hp => newTup q s (r1.append r2) hp⟩))
          · intro e; rw [e] at r1; exact absurd r1.1 (by simp)
          · rw [← r1.1, ← r2.1]; exact lineOk_ok g
          · rw [z] at r2; exact absurd r2.1 (by simp)
        · exact q.elim
      · exact q.elim
    · exact .inr (.inr (.inr (addL M S H _ _ x y Q s ra rb q)))
/-! ### - * // % -/
def fSub : D → D → Sto → Res D := fun a b S => match a, b with
  | .int i, .int j => .ok (.int (i - j)) S
  | _, _ => .bad
theorem oSub : OpD X C W (binaryOp .Sub) fSub := by
  refine ⟨_, op_sub, fun M S H a b x y Q s ra rb q => ?_⟩
  unfold fSub at q
  split at q
  · cases ra; cases rb
    exact ⟨_, _, rfl, rfl, q.ok s (.int _)⟩
  · exact q.elim
def repD (xs : List D) : Nat → List D
  | 0 => []
  | n + 1 => xs ++ repD xs n
theorem repD_ok {M : Wd} {ds : List D} {vs : List V} (r : RepL C M ds vs) : ∀ n, RepL C M (repD ds n) (List.replicate n vs).flatten
  | 0 => .nil
  | n + 1 => by
    rw [List.replicate_succ, List.flatten_cons]; exact r.append (repD_ok r n)
def fMul : D → D → Sto → Res D := fun a b S => match a, b with
  | .int i, .int j => guard (small i || small j) (.ok (.int (i * j)) S)
  | a, .int (.ofNat k) => (match lstX S a with
    | some xs => guard (lineOk (xs.length * k) && lineOk k) (.ok (.lst (repD xs k)) S)
    | none => .bad)
  | _, _ => .bad
theorem oMul : OpD X C W (binaryOp .Mult) fMul := by
  refine ⟨_, op_mul.or op_rep, fun M S H a b x y Q s ra rb q => ?_⟩
  unfold fMul at q
  split at q
  · cases ra; cases rb
    obtain ⟨g, q⟩ := guard_ok q
    refine .inl ⟨_, _, rfl, rfl, ?_, q.ok s (.int _)⟩
    rcases Bool.or_eq_true_iff.mp g with g | g
    · exact .inl (small_ok g)
    · exact .inr (small_ok g)
  · split at q
    · rename_i a k _ _ xs e
      obtain ⟨g, q⟩ := guard_ok q
      obtain ⟨g1, g2⟩ := Bool.and_eq_true_iff.mp g
      obtain ⟨l, vs, rfl, h1, r1⟩ := lstX_of s ra e
      cases rb
      have gk : k ≤ 1000000 := Nat.le_of_ble_eq_true (show Nat.ble k 1000000 = true from g2)
      refine .inr ⟨l, _, vs, rfl, rfl, h1, by show -(2 ^ 63) ≤ ((k : Nat) : Int); omega, by show ((k : Nat) : Int) < 2 ^ 63; omega, ?_, fun p hp => newLst q s (repD_ok r1 k) hp⟩
      show vs.length * k ≤ sizeLine
      rw [← r1.1]; exact lineOk_ok g1
    · exact q.elim
  · exact q.elim
def divOk (j : Int) : Bool := Nat.blt 0 j.natAbs && Nat.blt j.natAbs 1073741824
def fDiv : D → D → Sto → Res D := fun a b S => match a, b with
  | .int i, .int j => guard (divOk j) (.ok (.int (i.fdiv j)) S)
  | _, _ => .bad
theorem oDiv : OpD X C W (binaryOp .FloorDiv) fDiv := by
  refine ⟨_, op_fdivN, fun M S H a b x y Q s ra rb q => ?_⟩
  unfold fDiv at q
  split at q
  · rename_i i j
    cases ra; cases rb
    obtain ⟨g, q⟩ := guard_ok q
    obtain ⟨g1, g2⟩ := Bool.and_eq_true_iff.mp g
    have h1 : 0 < j.natAbs := Nat.le_of_ble_eq_true g1
    have h2 : j.natAbs < 1073741824 := Nat.le_of_ble_eq_true g2
    exact ⟨_, _, rfl, rfl, ⟨by omega, h2⟩, q.ok s (.int _)⟩
  · exact q.elim
def fMod : D → D → Sto → Res D := fun a b S => match a, b with
  | .int i, .int j => guard (Nat.blt 0 j.natAbs) (.ok (.int (i.fmod j)) S)
  | _, _ => .bad
theorem oMod : OpD X C W (binaryOp .Mod) fMod := by
  refine ⟨_, op_modN, fun M S H a b x y Q s ra rb q => ?_⟩
  unfold fMod at q
  split at q
  · rename_i i j
    cases ra; cases rb
    obtain ⟨g, q⟩ := guard_ok q
    have h1 : 0 < j.natAbs := Nat.le_of_ble_eq_true g
    exact ⟨_, _, rfl, rfl, by omega, q.ok s (.int _)⟩
  · exact q.elim
/-! ### order of ints -/
def fOrd (f : Int → Int → Bool) : D → D → Sto → Res D := fun a b S => match a, b with
  | .int i, .int j => .ok (.bl (f i j)) S
  | _, _ => .bad
theorem oOrd {op : Value → Value → Sem Value} {g f : Int → Int → Bool} (h : OpR X op (rI0 fun i j => .bl (g i j))) (e : ∀ i j, f i j = g i j) : OpD X C W op (fOrd f) := by
  refine ⟨_, h, fun M S H a b x y Q s ra rb q => ?_⟩
  unfold fOrd at q
  split at q
  · cases ra; cases rb
    rw [e] at q
    exact ⟨_, _, rfl, rfl, q.ok s (.bl _)⟩
  · exact q.elim
abbrev fLt := fOrd ltB
abbrev fLe := fOrd leB
abbrev fGt := fOrd fun i j => ltB j i
abbrev fGe := fOrd fun i j => leB j i
theorem oLt : OpD X C W (compareOp .Lt) fLt := oOrd op_lt fun i j => ltB_eq i j
theorem oLe : OpD X C W (compareOp .LtE) fLe := oOrd op_le fun i j => leB_eq i j
theorem oGt : OpD X C W (compareOp .Gt) fGt := oOrd op_gt fun i j => ltB_eq j i
theorem oGe : OpD X C W (compareOp .GtE) fGe := oOrd op_ge fun i j => leB_eq j i
/-! ### is None -/
def isNon : D → Bool
  | .non => true
  | _ => false
theorem isNon_eq {M : Wd} {d : D} {v : V} (r : Rep C M d v) : isNon d = decide (v = .non) := by
  cases r <;> simp [isNon]
def fIs : D → D → Sto → Res D := fun a b S => match b with
  | .non => .ok (.bl (isNon a)) S
  | _ => .bad
def fIsnt : D → D → Sto → Res D := fun a b S => match b with
  | .non => .ok (.bl (!isNon a)) S
  | _ => .bad
theorem oIs : OpD X C W (compareOp .Is) fIs := by
  refine ⟨_, op_isN, fun M S H a b x y Q s ra rb q => ?_⟩
  unfold fIs at q
  split at q
  · cases rb
    rw [isNon_eq ra] at q
    exact ⟨rfl, q.ok s (.bl _)⟩
  · exact q.elim
theorem oIsnt : OpD X C W (compareOp .IsNot) fIsnt := by
  refine ⟨_, op_notN, fun M S H a b x y Q s ra rb q => ?_⟩
  unfold fIsnt at q
  split at q
  · cases rb
    rw [isNon_eq ra] at q
    exact ⟨rfl, q.ok s (.bl _)⟩
  · exact q.elim
end
end Pd

namespace Pd
open PySem PySem.Spec L2

/-! ### texts compared sign by sign -/
theorem eqN_iff : ∀ (x y : List Nat), eqN x y = true ↔ x = y
  | [], [] => by simp [eqN]
  | [], _ :: _ => by simp [eqN]
  | _ :: _, [] => by simp [eqN]
  | a :: x, b :: y => by
    unfold eqN
    cases e : Nat.beq a b with
    | true =>
      have h := Nat.eq_of_beq_eq_true e
      subst h
      show eqN x y = true ↔ _
      rw [eqN_iff x y]; simp
    | false =>
      have h := Nat.ne_of_beq_eq_false e
      simp [h]
theorem eqS_iff (x y : Str) : eqS x y = true ↔ x = y := by
  unfold eqS
  rw [eqN_iff]
  constructor
  · intro h
    cases x; cases y
    exact congrArg Str.mk (Array.ext' h)
  · intro h; rw [h]
theorem eqS_eq (x y : Str) : eqS x y = decide (x = y) := bool_dec (eqS_iff x y)
theorem eqS_beq (x y : Str) : (x == y) = eqS x y := by
  cases e : eqS x y with
  | true => rw [(eqS_iff x y).mp e]; simp
  | false => exact beq_eq_false_iff_ne.mpr fun z => by rw [(eqS_iff x y).mpr z] at e; cases e

/-! ### data at any depth -/
def mapO {α β : Type} (f : α → Option β) : List α → Option (List β)
  | [] => some []
  | a :: r => (match f a with
    | some b => (match mapO f r with
      | some s => some (b :: s)
      | none => none)
    | none => none)
def okS (x : Str) : Bool := okN x.cps.toList where
  okN : List Nat → Bool
    | [] => true
    | c :: r => (match Nat.blt c 1114112 with
      | true => okN r
      | false => false)
theorem okN_all : ∀ l : List Nat, okS.okN l = true → l.all (· < 0x110000) = true
  | [], _ => rfl
  | c :: r, h => by
    unfold okS.okN at h
    cases e : Nat.blt c 1114112 with
    | false => rw [e] at h; cases h
    | true =>
      rw [e] at h
      have h1 : c < 1114112 := Nat.le_of_ble_eq_true e
      simp only [List.all_cons, Bool.and_eq_true, decide_eq_true_eq]
      exact ⟨h1, okN_all r h⟩
theorem okS_ok {x : Str} (h : okS x = true) : PyData.strOk x = true := by
  have := okN_all _ h
  unfold PyData.strOk
  rw [← Array.all_toList]
  exact this
def toPy : Nat → Sto → D → Option PyData
  | 0, _, _ => none
  | n + 1, S, d => match d with
    | .non => some .none
    | .bl b => some (.bool b)
    | .int i => some (.int i)
    | .str x => (match okS x with
      | true => some (.str x)
      | false => none)
    | .tup ds => (match mapO (toPy n S) ds with
      | some ps => some (.tuple ps)
      | none => none)
    | .ctp ds => (match mapO (toPy n S) ds with
      | some ps => some (.tuple ps)
      | none => none)
    | d => (match lstV S d with
      | some ds => (match mapO (toPy n S) ds with
        | some ps => some (.list ps)
        | none => none)
      | none => none)
section
variable {C : Cfg} {M : Wd} {S : Sto} {H : Hp}
theorem mapO_dp {K : PySem.W.Frag} {f : D → Option PyData} (ih : ∀ d v p, f d = some p → Rep C M d v → Dp K H v p) : ∀ {ds : List D} {vs : List V} {ps : List PyData}, mapO f ds = some ps → RepL C M ds vs → DpAll K H vs ps
  | [], vs, ps, h, r => by cases h; rw [r.nil_inv]; exact .nil
  | d :: ds, vs, ps, h, r => by
    obtain ⟨v, us, rfl, h1, r1⟩ := r.cons_inv
    unfold mapO at h
    split at h
    · rename_i b e
      split at h
      · rename_i s e2
        cases h
        exact .cons (ih d v b e h1) (mapO_dp ih e2 r1)
      · cases h
    · cases h
theorem toPy_dp (s : Sim C M S H) : ∀ (n : Nat) (d : D) (v : V) (p : PyData), toPy n S d = some p → Rep C M d v → Dp C.K H v p
  | 0, _, _, _, h, _ => by cases h
  | n + 1, d, v, p, h, r => by
    have tail : ∀ q, (match lstV S d with
      | some ds => (match mapO (toPy n S) ds with
        | some ps => some (PyData.list ps)
        | none => none)
      | none => none) = some q → Dp C.K H v q := fun q h => by
      split at h
      · rename_i ds e
        split at h
        · rename_i ps e2
          cases h
          obtain ⟨a, vs, rfl, h1, r1⟩ := lst_of s r e
          exact .lst h1 (mapO_dp (toPy_dp s n) e2 r1)
        · cases h
      · cases h
    unfold toPy at h
    split at h
    · cases h; cases r; exact .non
    · cases h; cases r; exact .bl _
    · cases h; cases r; exact .int _
    · split at h
      · cases h; cases r; exact .str _
      · cases h
    · split at h
      · rename_i ps e2
        cases h
        obtain ⟨a, vs, rfl, h1, r1⟩ := tup_of s r rfl
        exact .tup h1 (mapO_dp (toPy_dp s n) e2 r1)
      · cases h
    · split at h
      · rename_i ps e2
        cases h
        obtain ⟨a, vs, rfl, h1, r1⟩ := tup_of s r rfl
        exact .tup h1 (mapO_dp (toPy_dp s n) e2 r1)
      · cases h
    · exact tail p h
theorem mapO_lay {f : D → Option PyData} (ih : ∀ d p, f d = some p → p.canLay0 = true) : ∀ {ds : List D} {ps : List PyData}, mapO f ds = some ps → PyData.canLayAll0 ps = true
  | [], _, h => by cases h; simp only [PyData.canLayAll0]
  | d :: ds, _, h => by
    unfold mapO at h
    split at h
    · rename_i b e
      split at h
      · rename_i s e2
        cases h
        simp only [PyData.canLayAll0, Bool.and_eq_true]
        exact ⟨ih d b e, mapO_lay ih e2⟩
      · cases h
    · cases h
theorem mapO_depth {f : D → Option PyData} {n : Nat} (ih : ∀ d p, f d = some p → p.depth ≤ n) : ∀ {ds : List D} {ps : List PyData}, mapO f ds = some ps → PyData.depthAll ps ≤ n
  | [], _, h => by cases h; simp only [PyData.depthAll]; omega
  | d :: ds, _, h => by
    unfold mapO at h
    split at h
    · rename_i b e
      split at h
      · rename_i s e2
        cases h
        simp only [PyData.depthAll]
        have h1 := ih d b e
        have h2 := mapO_depth ih e2
        omega
      · cases h
    · cases h
theorem toPy_lay : ∀ (n : Nat) (d : D) (p : PyData), toPy n S d = some p → p.canLay0 = true
  | 0, _, _, h => by cases h
  | n + 1, d, p, h => by
    have ih := toPy_lay n
    unfold toPy at h
    split at h
    · cases h; simp only [PyData.canLay0]
    · cases h; simp only [PyData.canLay0]
    · cases h; simp only [PyData.canLay0]
    · split at h
      · rename_i e; cases h; simp only [PyData.canLay0]; exact okS_ok e
      · cases h
    · split at h
      · rename_i ps e2; cases h; simp only [PyData.canLay0]; exact mapO_lay ih e2
      · cases h
    · split at h
      · rename_i ps e2; cases h; simp only [PyData.canLay0]; exact mapO_lay ih e2
      · cases h
    · split at h
      · split at h
        · rename_i ps e2; cases h; simp only [PyData.canLay0]; exact mapO_lay ih e2
        · cases h
      · cases h
theorem toPy_depth : ∀ (n : Nat) (d : D) (p : PyData), toPy n S d = some p → p.depth ≤ n
  | 0, _, _, h => by cases h
  | n + 1, d, p, h => by
    have ih := toPy_depth n
    unfold toPy at h
    split at h
    · cases h; simp only [PyData.depth]; omega
    · cases h; simp only [PyData.depth]; omega
    · cases h; simp only [PyData.depth]; omega
    · split at h
      · cases h; simp only [PyData.depth]; omega
      · cases h
    · split at h
      · rename_i ps e2; cases h; simp only [PyData.depth]; have := mapO_depth ih e2; omega
      · cases h
    · split at h
      · rename_i ps e2; cases h; simp only [PyData.depth]; have := mapO_depth ih e2; omega
      · cases h
    · split at h
      · split at h
        · rename_i ps e2; cases h; simp only [PyData.depth]; have := mapO_depth ih e2; omega
        · cases h
      · cases h
theorem toPy_shaped {d : D} {p : PyData} (h : toPy 40 S d = some p) : SeqAt.shaped p = true := by
  unfold SeqAt.shaped
  rw [toPy_lay 40 d p h, decide_eq_true (show p.depth ≤ 64 from Nat.le_trans (toPy_depth 40 d p h) (by decide))]
  rfl
end
/-- == of data, by the kernel's own means -/
def eqL (f : PyData → PyData → Bool) : List PyData → List PyData → Bool
  | [], [] => true
  | x :: xs, y :: ys => (match f x y with
    | true => eqL f xs ys
    | false => false)
  | _, _ => false
def i01 : Bool → Int
  | true => 1
  | false => 0
def eqF : Nat → PyData → PyData → Bool
  | 0, _, _ => false
  | n + 1, p, q => match p, q with
    | .none, .none => true
    | .bool a, .bool b => (match a, b with
      | true, true => true
      | false, false => true
      | _, _ => false)
    | .bool a, .int j => eqB (i01 a) j
    | .int i, .bool b => eqB i (i01 b)
    | .int i, .int j => eqB i j
    | .str x, .str y => eqS x y
    | .list xs, .list ys => eqL (eqF n) xs ys
    | .tuple xs, .tuple ys => eqL (eqF n) xs ys
    | _, _ => false
theorem eqB_beq (a b : Int) : (a == b) = eqB a b := by
  rw [eqB_eq, Bool.beq_eq_decide_eq]
theorem eqL_eq {f : PyData → PyData → Bool} {n : Nat} (ih : ∀ p q, p.depth < n → p.canLay0 = true → f p q = PyData.eqv p q) : ∀ (xs ys : List PyData), PyData.depthAll xs < n → PyData.canLayAll0 xs = true → eqL f xs ys = PyData.eqvAll xs ys
  | [], [], _, _ => by simp [eqL, PyData.eqvAll]
  | [], _ :: _, _, _ => by simp [eqL, PyData.eqvAll]
  | _ :: _, [], _, _ => by simp [eqL, PyData.eqvAll]
  | x :: xs, y :: ys, hd, hl => by
    simp only [PyData.depthAll] at hd
    simp only [PyData.canLayAll0, Bool.and_eq_true] at hl
    have h1 := ih x y (by omega) hl.1
    have h2 := eqL_eq ih xs ys (by omega) hl.2
    unfold eqL
    simp only [PyData.eqvAll]
    rw [h1, h2]
    cases PyData.eqv x y <;> rfl
theorem eqF_eq : ∀ (n : Nat) (p q : PyData), p.depth < n → p.canLay0 = true → eqF n p q = PyData.eqv p q
  | 0, _, _, h, _ => absurd h (Nat.not_lt_zero _)
  | n + 1, p, q, hd, hl => by
    have ih := eqF_eq n
    cases p with
    | dict _ => simp only [PyData.canLay0] at hl; cases hl
    | none => cases q <;> simp [eqF, PyData.eqv]
    | bool a => cases q with
      | bool b => cases a <;> cases b <;> simp [eqF, PyData.eqv]
      | int j => simp only [eqF, PyData.eqv]; rw [eqB_beq]; cases a <;> rfl
      | _ => simp [eqF, PyData.eqv]
    | int i => cases q with
      | bool b => simp only [eqF, PyData.eqv]; rw [eqB_beq]; cases b <;> rfl
      | int j => simp only [eqF, PyData.eqv]; rw [eqB_beq]
      | _ => simp [eqF, PyData.eqv]
    | str x => cases q with
      | str y => simp only [eqF, PyData.eqv]; rw [eqS_beq]
      | _ => simp [eqF, PyData.eqv]
    | list xs => cases q with
      | list ys =>
        simp only [PyData.depth] at hd
        simp only [PyData.canLay0] at hl
        simp only [eqF, PyData.eqv]
        exact eqL_eq ih xs ys (by omega) hl
      | _ => simp [eqF, PyData.eqv]
    | tuple xs => cases q with
      | tuple ys =>
        simp only [PyData.depth] at hd
        simp only [PyData.canLay0] at hl
        simp only [eqF, PyData.eqv]
        exact eqL_eq ih xs ys (by omega) hl
      | _ => simp [eqF, PyData.eqv]
def eqD (S : Sto) (a b : D) : Option Bool := match toPy 40 S a, toPy 40 S b with
  | some p, some q => some (eqF 41 p q)
  | _, _ => none
def fEq : D → D → Sto → Res D := fun a b S => match eqD S a b with
  | some e => .ok (.bl e) S
  | none => .bad
def fNe : D → D → Sto → Res D := fun a b S => match eqD S a b with
  | some e => .ok (.bl (!e)) S
  | none => .bad
section
variable {X : Cx} {C : Cfg} {W : XK}
theorem eqD_of {M : Wd} {S : Sto} {H : Hp} {a b : D} {x y : V} {e : Bool} (s : Sim C M S H) (ra : Rep C M a x) (rb : Rep C M b y) (h : eqD S a b = some e) :
    ∃ p q, Dp C.K H x p ∧ Dp C.K H y q ∧ SeqAt.shaped p = true ∧ SeqAt.shaped q = true ∧ PyData.eqv p q = e := by
  unfold eqD at h
  split at h
  · rename_i p q e1 e2
    cases h
    exact ⟨p, q, toPy_dp s 40 a x p e1 ra, toPy_dp s 40 b y q e2 rb, toPy_shaped e1, toPy_shaped e2, (eqF_eq 41 p q (Nat.lt_of_le_of_lt (toPy_depth 40 a p e1) (by decide)) (toPy_lay 40 a p e1)).symm⟩
  · cases h
theorem oEq (hK : X.K = C.K) (hu : X.A.units + 64 < cLine) : OpD X C W (compareOp .Eq) fEq := by
  refine ⟨_, op_eqD hu, fun M S H a b x y Q s ra rb q => ?_⟩
  unfold fEq at q
  split at q
  · rename_i e he
    obtain ⟨p, r, h1, h2, h3, h4, h5⟩ := eqD_of s ra rb he
    exact ⟨p, r, hK ▸ h1, hK ▸ h2, h3, h4, by rw [h5]; exact q.ok s (.bl _)⟩
  · exact q.elim
theorem oNe (hK : X.K = C.K) (hu : X.A.units + 64 < cLine) : OpD X C W (compareOp .NotEq) fNe := by
  refine ⟨_, op_neD hu, fun M S H a b x y Q s ra rb q => ?_⟩
  unfold fNe at q
  split at q
  · rename_i e he
    obtain ⟨p, r, h1, h2, h3, h4, h5⟩ := eqD_of s ra rb he
    exact ⟨p, r, hK ▸ h1, hK ▸ h2, h3, h4, by rw [h5]; exact q.ok s (.bl _)⟩
  · exact q.elim

/-! ### in, not in -/
def flatD : D → Bool
  | .non => true
  | .bl _ => true
  | .int _ => true
  | .str _ => true
  | _ => false
def eqFl : D → D → Bool
  | .non, .non => true
  | .bl a, .bl b => (match a, b with
    | true, true => true
    | false, false => true
    | _, _ => false)
  | .bl a, .int j => eqB (i01 a) j
  | .int i, .bl b => eqB i (i01 b)
  | .int i, .int j => eqB i j
  | .str x, .str y => eqS x y
  | _, _ => false
def inD (x : D) : List D → Option Bool
  | [] => some false
  | y :: r => (match flatD y with
    | true => (match inD x r with
      | some b => (match eqFl y x with
        | true => some true
        | false => some b)
      | none => none)
    | false => none)
theorem flat_of {M : Wd} {d : D} {v : V} (r : Rep C M d v) (h : flatD d = true) : flatV v = true := by
  cases r <;> first | rfl | cases h
theorem eqFl_of {M : Wd} {d e : D} {v u : V} (r : Rep C M d v) (q : Rep C M e u) (h : flatD d = true) (h' : flatD e = true) : eqFl d e = eqV v u := by
  cases r <;> first | cases h | skip
  all_goals (cases q <;> first | cases h' | skip)
  all_goals first | rfl | skip
  · rename_i p q; cases p <;> cases q <;> rfl
  · rename_i a b; show eqB (i01 a) b = _; rw [← eqB_beq]; cases a <;> rfl
  · rename_i a b; show eqB a (i01 b) = _; rw [← eqB_beq]; cases b <;> rfl
  · rename_i a b; show eqB a b = _; rw [← eqB_beq]; rfl
  · rename_i a b; show eqS a b = _; rw [← eqS_beq]; rfl
theorem inD_of {M : Wd} {x : D} {v : V} (r : Rep C M x v) (hx : flatD x = true) : ∀ {ds : List D} {vs : List V} {b : Bool}, RepL C M ds vs → inD x ds = some b → vs.all flatV = true ∧ inV v vs = b
  | [], vs, b, q, h => by cases h; rw [q.nil_inv]; exact ⟨rfl, rfl⟩
  | d :: ds, vs, b, q, h => by
    obtain ⟨u, us, rfl, h1, q1⟩ := q.cons_inv
    unfold inD at h
    cases e : flatD d with
    | false => rw [e] at h; cases h
    | true =>
      rw [e] at h
      cases e2 : inD x ds with
      | none => rw [e2] at h; cases h
      | some c =>
        rw [e2] at h
        obtain ⟨i1, i2⟩ := inD_of r hx q1 e2
        refine ⟨by rw [List.all_cons, flat_of h1 e, i1]; rfl, ?_⟩
        show (eqV u v || inV v us) = b
        rw [← eqFl_of h1 r e hx, i2]
        cases e3 : eqFl d x with
        | true => rw [e3] at h; cases h; rfl
        | false => rw [e3] at h; cases h; rfl
def seqV (S : Sto) : D → Option (List D)
  | .tup ds => some ds
  | .ctp ds => some ds
  | d => lstV S d
theorem seq_of {M : Wd} {S : Sto} {H : Hp} {d : D} {v : V} {ds : List D} (s : Sim C M S H) (r : Rep C M d v) (h : seqV S d = some ds) : ∃ a vs, v = .ref a ∧ (SqL C.K H a vs ∨ SqT C.K H a vs) ∧ RepL C M ds vs := by
  unfold seqV at h
  split at h
  · cases h
    obtain ⟨a, vs, e, h1, r1⟩ := tup_of s r rfl
    exact ⟨a, vs, e, .inr h1, r1⟩
  · cases h
    obtain ⟨a, vs, e, h1, r1⟩ := tup_of s r rfl
    exact ⟨a, vs, e, .inr h1, r1⟩
  · obtain ⟨a, vs, e, h1, r1⟩ := lst_of s r h
    exact ⟨a, vs, e, .inl h1, r1⟩
/-- is a piece of a text: one sign -/
def memN (c : Nat) : List Nat → Bool
  | [] => false
  | x :: r => (match Nat.beq c x with
    | true => true
    | false => memN c r)
theorem memN_iff (c : Nat) : ∀ l : List Nat, memN c l = true ↔ c ∈ l
  | [] => by simp [memN]
  | x :: r => by
    unfold memN
    cases e : Nat.beq c x with
    | true => have := Nat.eq_of_beq_eq_true e; subst this; simp
    | false => have := Nat.ne_of_beq_eq_false e; simp [memN_iff c r, this]
def keyOf : D → Option Key
  | .int i => some (.inl i)
  | .str x => some (.inr x)
  | _ => none
def eqK : Key → Key → Bool
  | .inl i, .inl j => eqB i j
  | .inr x, .inr y => eqS x y
  | _, _ => false
theorem eqK_iff (a b : Key) : eqK a b = true ↔ a = b := by
  cases a <;> cases b
  · rename_i i j; show eqB i j = true ↔ _; rw [eqB_eq, decide_eq_true_eq]; simp
  · simp [eqK]
  · simp [eqK]
  · rename_i i j; show eqS i j = true ↔ _; rw [eqS_iff]; simp
def lookK : List (Key × D) → Key → Option D
  | [], _ => none
  | (k, d) :: r, j => (match eqK k j with
    | true => some d
    | false => lookK r j)
theorem keyOf_of {M : Wd} {d : D} {v : V} {k : Key} (r : Rep C M d v) (h : keyOf d = some k) : v = kV k := by
  cases r <;> first | cases h | skip
  · rfl
  · rfl
theorem lookK_of {M : Wd} : ∀ {kds : List (Key × D)} {kvs : List (Key × V)} (k : Key), RepK C M kds kvs → (match lookK kds k with | some d => ∃ v, valV kvs k = some v ∧ Rep C M d v | none => valV kvs k = none)
  | [], kvs, k, r => by
    have : kvs = [] := by
      have := r.1
      cases kvs with
      | nil => rfl
      | cons _ _ => simp at this
    subst this
    rfl
  | (k0, d) :: rs, kvs, k, r => by
    cases kvs with
    | nil => have := r.1; simp at this
    | cons p ps =>
      obtain ⟨k1, v⟩ := p
      have e1 : k0 = k1 ∧ rs.map (·.1) = ps.map (·.1) := by simpa using r.1
      obtain ⟨rfl, e2⟩ := e1
      have r1 : Rep C M d v := r.2 0 k0 d k0 v rfl rfl
      have rr : RepK C M rs ps := ⟨e2, fun i a b c e h1 h2 => r.2 (i + 1) a b c e (by simpa using h1) (by simpa using h2)⟩
      unfold lookK
      cases e : eqK k0 k with
      | true =>
        have := (eqK_iff _ _).mp e
        subst this
        exact ⟨v, valV_pos rfl, r1⟩
      | false =>
        have hne : ¬ k0 = k := fun z => by rw [(eqK_iff _ _).mpr z] at e; cases e
        have ih := lookK_of k rr
        show (match lookK rs k with | some d => _ | none => _)
        rw [valV_neg (show ¬ ((k0, v) : Key × V).1 = k from hne)]
        exact ih
def fIn (neg : Bool) : D → D → Sto → Res D := fun a b S => match dctV S b with
  | some kds => (match keyOf a with
    | some k => .ok (.bl (match lookK kds k with | some _ => !neg | none => neg)) S
    | none => .bad)
  | none => (match a, b with
    | .str ⟨⟨[c]⟩⟩, .str z => .ok (.bl (match memN c z.cps.toList with | true => !neg | false => neg)) S
    | a, b => (match seqV S b with
      | some ds => guard (flatD a) (match inD a ds with
        | some e => .ok (.bl (match e with | true => !neg | false => neg)) S
        | none => .bad)
      | none => .bad))
end
end Pd

namespace Pd
open PySem PySem.Spec L2

/-! ### in, not in -/
section
variable {X : Cx} {C : Cfg} {W : XK}
def rInDk (neg : Bool) : R2 := fun x y H Q => ∃ a o, y = .ref a ∧ DGet H a x o ∧ Q (.bl (if neg then !o.isSome else o.isSome)) H
theorem op_inDk (hu : X.A.units + 1 < cLine) : OpR X (compareOp .In) (rInDk false) := by
  intro pins s σ H x y v u Q I rx ry h; obtain ⟨a, o, rfl, g, q⟩ := h
  cases ry
  exact d_in hu I g rx fun s' I' => ⟨.bl _, H, I', rfl, q⟩
theorem op_notInDk (hu : X.A.units + 1 < cLine) : OpR X (compareOp .NotIn) (rInDk true) := by
  intro pins s σ H x y v u Q I rx ry h; obtain ⟨a, o, rfl, g, q⟩ := h
  cases ry
  exact d_notIn hu I g rx fun s' I' => ⟨.bl _, H, I', rfl, q⟩
def rInC (neg : Bool) : R2 := fun x y H Q => ∃ (c : Nat) (z : Str), x = .str ⟨#[c]⟩ ∧ y = .str z ∧ Q (.bl (if neg then !decide (c ∈ z.cps.toList) else decide (c ∈ z.cps.toList))) H
theorem in_of {M : Wd} {S : Sto} {H : Hp} {a b : D} {x y : V} {Q : VK} {K : PySem.W.Frag} (hK : K = C.K) (neg : Bool) (s : Sim C M S H) (ra : Rep C M a x) (rb : Rep C M b y) (q : GoodE C M (fIn neg a b S) Q W) :
    rInDk neg x y H Q ∨ rInC neg x y H Q ∨ rIn K neg x y H Q := by
  subst hK
  unfold fIn at q
  split at q
  · rename_i kds e
    split at q
    · rename_i k ek
      obtain ⟨p, kvs, rfl, h1, r1⟩ := dct_of s rb e
      have hx := keyOf_of ra ek
      subst hx
      have l := lookK_of k r1
      refine .inl ⟨p, valV kvs k, rfl, .inl ⟨kvs, k, h1, rfl, rfl⟩, ?_⟩
      cases e2 : lookK kds k with
      | some d =>
        rw [e2] at l q
        obtain ⟨v, hv, _⟩ := l
        rw [hv]
        have q' := GoodE.ok (v := .bl (!neg)) q s (.bl _)
        cases neg <;> exact q'
      | none =>
        rw [e2] at l q
        have l : valV kvs k = none := l
        rw [l]
        have q' := GoodE.ok (v := .bl neg) q s (.bl _)
        cases neg <;> exact q'
    · exact q.elim
  · split at q
    · rename_i c z _
      cases ra; cases rb
      refine .inr (.inl ⟨c, z, rfl, rfl, ?_⟩)
      cases e : memN c z.cps.toList with
      | true =>
        rw [e] at q
        rw [decide_eq_true ((memN_iff _ _).mp e)]
        have q' := GoodE.ok (v := .bl (!neg)) q s (.bl _)
        cases neg <;> exact q'
      | false =>
        rw [e] at q
        rw [decide_eq_false fun z => by rw [(memN_iff _ _).mpr z] at e; cases e]
        have q' := GoodE.ok (v := .bl neg) q s (.bl _)
        cases neg <;> exact q'
    · split at q
      · rename_i ds e
        obtain ⟨g, q⟩ := guard_ok q
        split at q
        · rename_i e2 he
          obtain ⟨p, vs, rfl, h1, r1⟩ := seq_of s rb e
          obtain ⟨i1, i2⟩ := inD_of ra g r1 he
          refine .inr (.inr ⟨p, vs, rfl, h1, flat_of ra g, i1, ?_⟩)
          rw [i2]
          cases e2 with
          | true => have q' := GoodE.ok (v := .bl (!neg)) q s (.bl _); cases neg <;> exact q'
          | false => have q' := GoodE.ok (v := .bl neg) q s (.bl _); cases neg <;> exact q'
        · exact q.elim
      · exact q.elim


/-! ### o[i] -/
def rIxD : R2 := fun x y H Q => ∃ a v, x = .ref a ∧ DGet H a y (some v) ∧ Q v H
theorem ix_dict (hu : X.A.units + 1 < cLine) : IxR X rIxD := fun ev es pn s0 σ0 H0 x y u1 u2 R I rx ry q hsub => by
  obtain ⟨a, w, rfl, g, q⟩ := q
  cases rx
  exact PyProof.Rows.tail_any (dict_typeIs I g) PySem.F.slot_dict_getitem.lookup (d_getItem hu I g ry fun w' s' I' r' => ⟨_, H0, I', r', q⟩) hsub
def atD (ds : List D) (i : Int) : Option D := atI ds i
theorem atI_of {M : Wd} {ds : List D} {vs : List V} {i : Int} {d : D} (r : RepL C M ds vs) (h : atI ds i = some d) : ∃ v, atI vs i = some v ∧ Rep C M d v := by
  unfold atI at h ⊢
  rw [← r.1]
  cases e : ixN ds.length i with
  | none => (rw [e] at h; cases h)
  | some j =>
    rw [e] at h
    exact r.get h
/-- the place of an index -/
def placeD (n : Nat) : Int → Option Nat
  | .ofNat k => (match Nat.blt k n with
    | true => some k
    | false => none)
  | .negSucc k => (match Nat.blt k n with
    | true => some (n - 1 - k)
    | false => none)
theorem placeD_eq (n : Nat) (i : Int) : placeD n i = ixN n i := by
  unfold ixN
  cases i with
  | ofNat k =>
    show (match Nat.blt k n with | true => some k | false => none) = _
    cases e : Nat.blt k n with
    | true =>
      have h : k < n := Nat.le_of_ble_eq_true e
      have h0 : (0 : Int) ≤ Int.ofNat k := Int.natCast_nonneg k
      have h1 : Int.ofNat k < (n : Int) := by show ((k : Nat) : Int) < n; omega
      rw [if_pos h0, if_pos h1] <;> rfl
    | false =>
      have h : ¬ k < n := fun z => by rw [show Nat.blt k n = true from Nat.ble_eq_true_of_le z] at e; cases e
      have h0 : (0 : Int) ≤ Int.ofNat k := Int.natCast_nonneg k
      have h1 : ¬ Int.ofNat k < (n : Int) := by show ¬ ((k : Nat) : Int) < n; omega
      rw [if_pos h0, if_neg h1]
  | negSucc k =>
    have h0 : ¬ (0 : Int) ≤ Int.negSucc k := by omega
    rw [if_neg h0]
    show (match Nat.blt k n with | true => some (n - 1 - k) | false => none) = _
    cases e : Nat.blt k n with
    | true =>
      have h : k < n := Nat.le_of_ble_eq_true e
      have h1 : -(n : Int) ≤ Int.negSucc k := by omega
      rw [if_pos h1]
      have : (Int.negSucc k + (n : Int)).toNat = n - 1 - k := by omega
      rw [this]
    | false =>
      have h : ¬ k < n := fun z => by rw [show Nat.blt k n = true from Nat.ble_eq_true_of_le z] at e; cases e
      have h1 : ¬ -(n : Int) ≤ Int.negSucc k := by omega
      rw [if_neg h1]
def nthD {α : Type} : List α → Nat → Option α
  | [], _ => none
  | a :: r, n => (match n with
    | 0 => some a
    | k + 1 => nthD r k)
theorem nthD_eq {α : Type} : ∀ (l : List α) (n : Nat), nthD l n = l[n]?
  | [], _ => by simp [nthD]
  | a :: r, 0 => by simp [nthD]
  | a :: r, k + 1 => by simp [nthD, nthD_eq r k]
def itemD {α : Type} (ds : List α) (i : Int) : Option α := match placeD ds.length i with
  | some j => nthD ds j
  | none => none
theorem itemD_eq {α : Type} (ds : List α) (i : Int) : itemD ds i = atI ds i := by
  unfold itemD atI
  rw [placeD_eq]
  cases ixN ds.length i with
  | none => rfl
  | some j => exact nthD_eq ds j
/-! ### keys that are tuples -/
def keyT : D → Option (List Key)
  | .tup ds => mapO keyOf ds
  | _ => none
def eqKs : List Key → List Key → Bool
  | [], [] => true
  | a :: r, b :: q => (match eqK a b with
    | true => eqKs r q
    | false => false)
  | _, _ => false
theorem eqKs_iff : ∀ a b : List Key, eqKs a b = true ↔ a = b
  | [], [] => Iff.intro (fun _ => rfl) fun _ => rfl
  | [], _ :: _ => ⟨fun h => (by cases h), fun h => (by cases h)⟩
  | _ :: _, [] => ⟨fun h => (by cases h), fun h => (by cases h)⟩
  | a :: r, b :: q => by
    unfold eqKs
    cases e : eqK a b with
    | true =>
      have e1 := (eqK_iff a b).mp e
      subst e1
      show eqKs r q = true ↔ _
      rw [eqKs_iff r q]
      exact ⟨fun h => by rw [h], fun h => by cases h; rfl⟩
    | false =>
      refine ⟨fun h => (by cases h), fun h => ?_⟩
      cases h
      rw [(eqK_iff a a).mpr rfl] at e
      cases e
def lookT : List (List Key × D) → List Key → Option D
  | [], _ => none
  | (k0, d) :: r, k => (match eqKs k0 k with
    | true => some d
    | false => lookT r k)
theorem keysOf_of {M : Wd} : ∀ {ds : List D} {vs : List V} {ks : List Key}, RepL C M ds vs → mapO keyOf ds = some ks → vs = ks.map kV
  | [], vs, ks, r, h => by cases h; exact r.nil_inv
  | d :: ds, vs, ks, r, h => by
    obtain ⟨v, us, rfl, h1, r1⟩ := r.cons_inv
    unfold mapO at h
    split at h
    · rename_i b e
      split at h
      · rename_i s e2
        cases h
        rw [keyOf_of h1 e, keysOf_of r1 e2]
        rfl
      · cases h
    · cases h
theorem keyT_of {M : Wd} {S : Sto} {H : Hp} {d : D} {v : V} {k : List Key} (s : Sim C M S H) (r : Rep C M d v) (h : keyT d = some k) : ∃ b, v = .ref b ∧ H b = some (.tup (k.map kV)) := by
  cases r with
  | tup hq hl hr =>
    have e := keysOf_of (ks := k) ⟨hl, hr⟩ h
    subst e
    exact ⟨_, rfl, s.tupX hq⟩
  | _ => cases h
theorem RepT.cons_inv {M : Wd} {k0 : List Key} {d : D} {rs : List (List Key × D)} {kvs : List (List Key × V)} (r : RepT C M ((k0, d) :: rs) kvs) : ∃ v ps, kvs = (k0, v) :: ps ∧ Rep C M d v ∧ RepT C M rs ps := by
  cases kvs with
  | nil => have := r.1; simp at this
  | cons p ps =>
    obtain ⟨k1, v⟩ := p
    have e1 : k0 = k1 ∧ rs.map (·.1) = ps.map (·.1) := by simpa using r.1
    obtain ⟨rfl, e2⟩ := e1
    exact ⟨v, ps, rfl, r.2 0 k0 d k0 v rfl rfl, e2, fun i a b c e h1 h2 => r.2 (i + 1) a b c e (by simpa using h1) (by simpa using h2)⟩
theorem RepT.nil_inv {M : Wd} {kvs : List (List Key × V)} (r : RepT C M [] kvs) : kvs = [] := by
  cases kvs with
  | nil => rfl
  | cons p ps => have := r.1; simp at this
theorem lookT_of {M : Wd} : ∀ {kds : List (List Key × D)} {kvs : List (List Key × V)} (k : List Key), RepT C M kds kvs → (match lookT kds k with | some d => ∃ v, valV kvs k = some v ∧ Rep C M d v | none => valV kvs k = none)
  | [], kvs, k, r => by rw [r.nil_inv]; rfl
  | (k0, d) :: rs, kvs, k, r => by
    obtain ⟨v, ps, rfl, r1, rr⟩ := r.cons_inv
    unfold lookT
    cases e : eqKs k0 k with
    | true =>
      have := (eqKs_iff _ _).mp e
      subst this
      exact ⟨v, valV_pos rfl, r1⟩
    | false =>
      have hne : ¬ k0 = k := fun z => by rw [(eqKs_iff _ _).mpr z] at e; cases e
      have ih := lookT_of k rr
      show (match lookT rs k with | some d => _ | none => _)
      rw [valV_neg (show ¬ ((k0, v) : List Key × V).1 = k from hne)]
      exact ih
/-! ### dicts of the module -/
def kdV : D → Option (List (Str × D))
  | .kdc kds => some kds
  | _ => none
def lookS : List (Str × D) → Str → Option D
  | [], _ => none
  | (x, d) :: r, z => (match eqS x z with
    | true => some d
    | false => lookS r z)
theorem lookS_at : ∀ {kds : List (Str × D)} {z : Str} {d : D}, lookS kds z = some d → ∃ i : Nat, kds[i]? = some (z, d)
  | [], _, _, h => by cases h
  | (x, d0) :: r, z, d, h => by
    unfold lookS at h
    split at h
    · rename_i e
      cases h
      have := (eqS_iff _ _).mp e
      subst this
      exact ⟨0, rfl⟩
    · obtain ⟨i, hi⟩ := lookS_at h
      exact ⟨i + 1, hi⟩
theorem lookS_none : ∀ {kds : List (Str × D)} {z : Str}, lookS kds z = none → ∀ p ∈ kds, p.1 ≠ z
  | [], _, _, p, hp => by cases hp
  | (x, d0) :: r, z, h, p, hp => by
    unfold lookS at h
    split at h
    · cases h
    · rename_i e
      rcases List.mem_cons.mp hp with rfl | there
      · exact fun q => by rw [(eqS_iff _ _).mpr q] at e; cases e
      · exact lookS_none h p there
theorem kd_of {C : Cfg} {M : Wd} {a : D} {x : V} {kds : List (Str × D)} (ra : Rep C M a x) (h : kdV a = some kds) : ∃ p, x = .ref p ∧ (∃ es n, KDict C.K C.w p es n) ∧ (∀ z d, lookS kds z = some d → ∃ u v, PySem.W.nsIn C.K p z = some (some u) ∧ RelV v u ∧ Rep C M d v) ∧
    ∀ z, lookS kds z = none → PySem.W.nsIn C.K p z = some none := by
  cases ra with
  | kdc hd hl hk hn hr =>
    cases h
    refine ⟨_, rfl, hd, fun z d e => ?_, fun z e => hn z (lookS_none e)⟩
    obtain ⟨i, hi⟩ := lookS_at e
    have hlt := (List.getElem?_eq_some_iff.mp hi).1
    rw [hl] at hlt
    have hv := List.getElem?_eq_getElem hlt
    obtain ⟨u, h1, h2⟩ := hk i z d _ hi hv
    exact ⟨u, _, h1, h2, hr i z d _ hi hv⟩
  | _ => cases h
def fInK (neg : Bool) : D → D → Sto → Res D := fun a b S => match kdV b with
  | some kds => (match a with
    | .str z => (match lookS kds z with
      | some _ => .ok (.bl (!neg)) S
      | none => .ok (.bl neg) S)
    | _ => .bad)
  | none => fIn neg a b S
def rInKd (K : PySem.W.Frag) (w : World) (neg : Bool) : R2 := fun x y H Q => ∃ (d : Addr) (z : Str) (r : Option Value), x = .str z ∧ y = .ref d ∧ (∃ es n, KDict K w d es n) ∧ PySem.W.nsIn K d z = some r ∧ Q (.bl (if neg then !r.isSome else r.isSome)) H
theorem op_inKd : OpR X (compareOp .In) (rInKd X.K X.w false) := by
  intro pins s σ H x y v u Q I rx ry h; obtain ⟨d, z, r, rfl, rfl, ⟨es, n, kd⟩, e, q⟩ := h
  exact op_in_kd kd pins s σ H _ _ v u Q I rx ry ⟨z, r, rfl, rfl, e, q⟩
theorem op_notInKd : OpR X (compareOp .NotIn) (rInKd X.K X.w true) := by
  intro pins s σ H x y v u Q I rx ry h; obtain ⟨d, z, r, rfl, rfl, ⟨es, n, kd⟩, e, q⟩ := h
  exact op_notIn_kd kd pins s σ H _ _ v u Q I rx ry ⟨z, r, rfl, rfl, e, q⟩
theorem inK_of {M : Wd} {S : Sto} {H : Hp} {a b : D} {x y : V} {Q : VK} {K : PySem.W.Frag} {w : World} (hK : K = C.K) (hw : w = C.w) (neg : Bool) (s : Sim C M S H) (ra : Rep C M a x) (rb : Rep C M b y) (q : GoodE C M (fInK neg a b S) Q W) :
    rInKd K w neg x y H Q ∨ rInDk neg x y H Q ∨ rInC neg x y H Q ∨ rIn K neg x y H Q := by
  unfold fInK at q
  split at q
  · rename_i kds e
    subst hK hw
    split at q
    · rename_i z
      obtain ⟨p, rfl, kd, l1, l2⟩ := kd_of rb e
      cases ra
      split at q
      · rename_i d ed
        obtain ⟨u, v, h1, _⟩ := l1 z d ed
        exact .inl ⟨p, z, _, rfl, rfl, kd, h1, by have q' := GoodE.ok (v := .bl (!neg)) q s (.bl _); cases neg <;> exact q'⟩
      · rename_i ed
        exact .inl ⟨p, z, _, rfl, rfl, kd, l2 z ed, by have q' := GoodE.ok (v := .bl neg) q s (.bl _); cases neg <;> exact q'⟩
    · exact q.elim
  · exact .inr (in_of hK neg s ra rb q)
theorem oIn (hK : X.K = C.K) (hw : X.w = C.w) (hu : X.A.units + 1 < cLine) : OpD X C W (compareOp .In) (fInK false) :=
  ⟨_, op_inKd.or ((op_inDk hu).or (OpR.or (r := rInC false) op_in_sign op_in_seq)), fun M S H a b x y Q s ra rb q => inK_of hK hw false s ra rb q⟩
theorem oNotIn (hK : X.K = C.K) (hw : X.w = C.w) (hu : X.A.units + 1 < cLine) : OpD X C W (compareOp .NotIn) (fInK true) :=
  ⟨_, op_notInKd.or ((op_notInDk hu).or (OpR.or (r := rInC true) op_notIn_sign op_notIn_seq)), fun M S H a b x y Q s ra rb q => inK_of hK hw true s ra rb q⟩
def fIx0 : D → D → Sto → Res D := fun a b S => match dttV S a with
  | some kds => (match keyT b with
    | some k => (match lookT kds k with
      | some d => .ok d S
      | none => .bad)
    | none => .bad)
  | none => (match dctV S a with
    | some kds => (match keyOf b with
      | some k => (match lookK kds k with
        | some d => .ok d S
        | none => .bad)
      | none => .bad)
    | none => (match b with
    | .int i => (match a with
      | .str z => guard (lineOk z.length) (match itemD z.cps.toList i with
        | some c => .ok (.str ⟨#[c]⟩) S
        | none => .bad)
      | a => (match seqV S a with
        | some ds => (match itemD ds i with
          | some d => .ok d S
          | none => .bad)
        | none => .bad))
    | _ => .bad))
def fIx : D → D → Sto → Res D := fun a b S => match kdV a with
  | some kds => (match b with
    | .str z => (match lookS kds z with
      | some d => .ok d S
      | none => .bad)
    | _ => .bad)
  | none => fIx0 a b S
theorem xix {fa fb : DE} {a b : Expr} {pos : Pos} (hK : X.K = C.K) (hw : X.w = C.w) (hu : X.A.units + 1 < cLine) (ha : PE X a (tE C W fa)) (hb : PE X b (tE C W fb)) (hs : PlainIx b) : PE X (.Subscript a b pos) (tE C W (d2 fIx fa fb)) := by
  refine (pe_ix (ix_kdict.or ((ix_dict hu).or ix_seq)) ha hb hs).by fun σ H Q ⟨M, Γ, S, g, s, h⟩ => run2 g s h fun M' a b S' x y H' l s' ra rb q => ?_
  rw [hK, hw]
  unfold fIx at q
  split at q
  · rename_i kds e
    split at q
    · rename_i z
      split at q
      · rename_i d ed
        obtain ⟨p, rfl, ⟨es, n, kd⟩, l, _⟩ := kd_of ra e
        obtain ⟨u, v, h1, h2, h3⟩ := l z d ed
        cases rb
        exact .inl ⟨p, z, v, rfl, rfl, ⟨es, n, u, kd.at_, kd.lit, h1, h2⟩, q.ok s' h3⟩
      · exact q.elim
    · exact q.elim
  refine .inr ?_
  unfold fIx0 at q
  split at q
  · rename_i kds e
    split at q
    · rename_i k ek
      split at q
      · rename_i d ed
        obtain ⟨p, kvs, rfl, h1, r1⟩ := dtt_of s' ra e
        obtain ⟨b', rfl, hb'⟩ := keyT_of s' rb ek
        have l := lookT_of k r1
        rw [ed] at l
        obtain ⟨v, hv, rv⟩ := l
        exact .inl ⟨p, v, rfl, .inr ⟨kvs, k, b', h1, rfl, hb', hv.symm⟩, q.ok s' rv⟩
      · exact q.elim
    · exact q.elim
  split at q
  · rename_i kds e
    split at q
    · rename_i k ek
      split at q
      · rename_i d ed
        obtain ⟨p, kvs, rfl, h1, r1⟩ := dct_of s' ra e
        have hx := keyOf_of rb ek
        subst hx
        have l := lookK_of k r1
        rw [ed] at l
        obtain ⟨v, hv, rv⟩ := l
        exact .inl ⟨p, v, rfl, .inl ⟨kvs, k, h1, rfl, hv.symm⟩, q.ok s' rv⟩
      · exact q.elim
    · exact q.elim
  · split at q
    · rename_i i
      split at q
      · rename_i z _ _ _
        obtain ⟨g1, q⟩ := guard_ok q
        split at q
        · rename_i c ec
          cases ra; cases rb
          rw [itemD_eq] at ec
          exact .inr (.inr (.inr ⟨z, i, c, rfl, rfl, lineOk_ok g1, ec, q.ok s' (.str _)⟩))
        · exact q.elim
      · split at q
        · rename_i ds e
          split at q
          · rename_i d ed
            cases rb
            rw [itemD_eq] at ed
            obtain ⟨p, vs, rfl, h1, r1⟩ := seq_of s' ra e
            obtain ⟨v, hv, rv⟩ := atI_of r1 ed
            rcases h1 with h1 | h1
            · exact .inr (.inl ⟨p, vs, i, v, rfl, rfl, h1, hv, q.ok s' rv⟩)
            · exact .inr (.inr (.inl ⟨p, vs, i, v, rfl, rfl, h1, hv, q.ok s' rv⟩))
          · exact q.elim
        · exact q.elim
    · exact q.elim

/-! ### truth -/
def truR (K : PySem.W.Frag) : V → Hp → (Bool → Hp → Prop) → Prop := fun x H Q => (∃ k, TruV K x H k ∧ Q k H) ∨ ∃ a kvs, x = .ref a ∧ Rd H a (.dK kvs) ∧ Q (!kvs.isEmpty) H
theorem tru_okD : TruR X (truR X.K) := by
  intro pins s σ H x v Q I r h
  rcases h with h | ⟨a, kvs, rfl, e, q⟩
  · exact tru_ok pins s σ H x v Q I r h
  · cases r
    exact d_truth I e fun s' I' => ⟨H, I', q⟩
def emptyL {α : Type} : List α → Bool
  | [] => true
  | _ :: _ => false
theorem emptyL_eq {α : Type} (l : List α) : emptyL l = l.isEmpty := by cases l <;> rfl
def truD (S : Sto) : D → Option Bool
  | .non => some false
  | .bl b => some b
  | .int i => some (!eqB i 0)
  | .str x => (match lineOk x.length with
    | true => some (!emptyL x.cps.toList)
    | false => none)
  | d => (match dctV S d with
    | some kds => some (!emptyL kds)
    | none => (match seqV S d with
      | some ds => some (!emptyL ds)
      | none => none))
theorem tru_of {M : Wd} {S : Sto} {H : Hp} {d : D} {v : V} {k : Bool} {Q : Bool → Hp → Prop} (s : Sim C M S H) (r : Rep C M d v) (h : truD S d = some k) (q : Q k H) : truR C.K v H Q := by
  unfold truD at h
  split at h
  · cases h; cases r; exact .inl ⟨_, rfl, q⟩
  · cases h; cases r; exact .inl ⟨_, rfl, q⟩
  · cases h; cases r
    refine .inl ⟨_, rfl, ?_⟩
    rename_i i
    have : (i != 0) = !eqB i 0 := by rw [bne, eqB_beq]
    rw [this]; exact q
  · rename_i x
    split at h
    · rename_i g
      cases h; cases r
      refine .inl ⟨_, ⟨lineOk_ok g, rfl⟩, ?_⟩
      have : (((x.length : Nat) : Int) != 0) = !emptyL x.cps.toList := by
        rw [emptyL_eq]
        show (((x.cps.size : Nat) : Int) != 0) = _
        cases x with
        | mk cps =>
          cases cps with
          | mk l => cases l <;> simp <;> omega
      rw [this]; exact q
    · cases h
  · split at h
    · rename_i kds e
      cases h
      obtain ⟨a, kvs, rfl, h1, r1⟩ := dct_of s r e
      refine .inr ⟨a, kvs, rfl, h1, ?_⟩
      have : (!kvs.isEmpty) = !emptyL kds := by
        rw [emptyL_eq]
        have := congrArg List.length r1.1
        simp only [List.length_map] at this
        cases kds <;> cases kvs <;> simp at this ⊢
      rw [this]; exact q
    · split at h
      · rename_i ds e
        cases h
        obtain ⟨a, vs, rfl, h1, r1⟩ := seq_of s r e
        have e1 : (!vs.isEmpty) = !emptyL ds := by
          rw [emptyL_eq]
          have := r1.1
          cases ds <;> cases vs <;> simp at this ⊢
        rcases h1 with h1 | h1
        · exact .inl ⟨_, .inl ⟨vs, h1, rfl⟩, by rw [e1]; exact q⟩
        · exact .inl ⟨_, .inr (.inl ⟨vs, h1, rfl⟩), by rw [e1]; exact q⟩
      · cases h
end
end Pd

namespace Pd
open PySem PySem.Spec L2

abbrev DT := Ga → Sto → Res Bool
section
variable {C : Cfg} {W : XK} {M M' : Wd} {Γ : Ga} {S : Sto} {σ : St} {H : Hp}
theorem Rbind_bad {α β : Type} {f : α → Sto → Res β} : (Res.bad : Res α).bind f = .bad := rfl
theorem GoodB.imp {r : Res Bool} {Q Q' : Bool → Hp → Prop} (g : GoodB C M r Q W) (h : ∀ v H, Q v H → Q' v H) : GoodB C M r Q' W := by
  cases r with
  | ok a S => exact fun M2 H' l2 s => h _ _ (g M2 H' l2 s)
  | exc c fs S => exact g
  | bad => exact g
/-- an expression, then a test of its value -/
theorem run1B {fa : DE} {f : D → Sto → Res Bool} {Q : Bool → Hp → Prop} {K1 : V → Hp → Prop} (g : SimG C M Γ σ) (s : Sim C M S H) (h : GoodB C M ((fa Γ S).bind fun a S1 => f a S1) Q W)
    (k : ∀ M' a S' x H', M.le M' → Sim C M' S' H' → Rep C M' a x → GoodB C M' (f a S') Q W → K1 x H') : tE C W fa σ H K1 := by
  refine ⟨M, Γ, S, g, s, ?_⟩
  cases ea : fa Γ S with
  | bad => rw [ea] at h; exact h
  | exc c fs S1 => rw [ea] at h; exact h
  | ok a S1 =>
    rw [ea] at h
    intro M1 x H1 l1 s1 r1
    exact k M1 a S1 x H1 l1 s1 r1 (GoodB.mono l1 h)
theorem run2B {fa fb : DE} {f : D → D → Sto → Res Bool} {Q : Bool → Hp → Prop} {K2 : V → V → Hp → Prop} (g : SimG C M Γ σ) (s : Sim C M S H) (h : GoodB C M ((fa Γ S).bind fun a S1 => (fb Γ S1).bind fun b S2 => f a b S2) Q W)
    (k : ∀ M' a b S' x y H', M.le M' → Sim C M' S' H' → Rep C M' a x → Rep C M' b y → GoodB C M' (f a b S') Q W → K2 x y H') :
    tE C W fa σ H fun x H1 => tE C W fb σ H1 fun y H2 => K2 x y H2 := by
  refine run1B g s h fun M1 a S1 x H1 l1 s1 r1 h1 => ?_
  exact run1B (g.mono l1) s1 h1 fun M2 b S2 y H2 l2 s2 r2 h2 => k M2 a b S2 x y H2 (l1.trans l2) s2 (r1.mono l2) r2 h2
/-- a test, then more -/
theorem runT {ft : DT} {f : Bool → Sto → Res D} {Q : VK} {K1 : Bool → Hp → Prop} (g : SimG C M Γ σ) (s : Sim C M S H) (h : GoodE C M ((ft Γ S).bind fun a S1 => f a S1) Q W)
    (k : ∀ M' a S' H', M.le M' → Sim C M' S' H' → GoodE C M' (f a S') Q W → K1 a H') : tT C W ft σ H K1 := by
  refine ⟨M, Γ, S, g, s, ?_⟩
  cases ea : ft Γ S with
  | bad => rw [ea] at h; exact h
  | exc c fs S1 => rw [ea] at h; exact h
  | ok a S1 =>
    rw [ea] at h
    intro M1 H1 l1 s1
    exact k M1 a S1 H1 l1 s1 (GoodE.mono l1 h)
theorem runTB {ft : DT} {f : Bool → Sto → Res Bool} {Q : Bool → Hp → Prop} {K1 : Bool → Hp → Prop} (g : SimG C M Γ σ) (s : Sim C M S H) (h : GoodB C M ((ft Γ S).bind fun a S1 => f a S1) Q W)
    (k : ∀ M' a S' H', M.le M' → Sim C M' S' H' → GoodB C M' (f a S') Q W → K1 a H') : tT C W ft σ H K1 := by
  refine ⟨M, Γ, S, g, s, ?_⟩
  cases ea : ft Γ S with
  | bad => rw [ea] at h; exact h
  | exc c fs S1 => rw [ea] at h; exact h
  | ok a S1 =>
    rw [ea] at h
    intro M1 H1 l1 s1
    exact k M1 a S1 H1 l1 s1 (GoodB.mono l1 h)
end

/-! ### tests -/
def trB : D → Sto → Res Bool := fun d S => match truD S d with
  | some b => .ok b S
  | none => .bad
def blB : D → Sto → Res Bool := fun d S => match d with
  | .bl b => .ok b S
  | _ => .bad
def dTr (fa : DE) : DT := fun Γ S => (fa Γ S).bind trB
def t2 (f : D → D → Sto → Res D) (fa fb : DE) : DT := fun Γ S => (fa Γ S).bind fun a S1 => (fb Γ S1).bind fun b S2 => (f a b S2).bind blB
section
variable {X : Cx} {C : Cfg} {W : XK} {fa fb fc : DE} {a b c : Expr} {pos : Pos} {f f' : D → D → Sto → Res D} {ft fu : DT}
theorem xtr (hK : X.K = C.K) (ha : PE X a (tE C W fa)) (he : ∀ whole, isTrue a X.env whole = (do let v ← whole; standAt a.pos; holding [v] (truthy v)) := by intro _; rfl) : PT X a (tT C W (dTr fa)) := by
  refine ⟨fun pins s σ H Q I h => ?_⟩; obtain ⟨M, Γ, S, g, sm, h⟩ := h
  have h2 := run1B g sm h (K1 := fun x H' => truR X.K x H' Q) fun M' a S' x H' l s' r q => by
    unfold trB at q
    split at q
    · rename_i k e
      rw [hK]
      exact tru_of s' r e (q M' H' (.refl M') s')
    · exact q.elim
  exact PyProof.Rows.isTrue_plain (thn (ha.run pins s σ H _ I h2) fun v s1 ⟨x, H1, I1, r1, q1⟩ => tru_okD pins s1 σ H1 x v Q I1 r1 q1) (he _)
/-- an operator's answer, a bool, as a test -/
theorem OpD.test {op : Value → Value → Sem Value} (ho : OpD X C W op f) : ∃ r : R2, OpR X op r ∧ ∀ M S H a b x y (Q : Bool → Hp → Prop), Sim C M S H → Rep C M a x → Rep C M b y → GoodB C M ((f a b S).bind blB) Q W → r x y H fun z H' => ∃ k, z = .bl k ∧ Q k H' := by
  obtain ⟨r, hr, k⟩ := ho
  refine ⟨r, hr, fun M S H a b x y Q s ra rb q => k M S H a b x y _ s ra rb ?_⟩
  cases e : f a b S with
  | bad => rw [e] at q; exact q
  | exc c fs S1 => rw [e] at q; exact q
  | ok d S1 =>
    rw [e] at q
    intro M' v H' l s' r'
    have q' : GoodB C M (blB d S1) Q W := q
    unfold blB at q'
    split at q'
    · cases r'
      exact ⟨_, rfl, q' M' H' l s'⟩
    · exact q'.elim
theorem xtcmp {op : CmpOp} (ho : OpD X C W (compareOp op) f) (ha : PE X a (tE C W fa)) (hb : PE X b (tE C W fb)) (hm : behindInMarks op b = false) : PT X (.Compare a [op] [b] pos) (tT C W (t2 f fa fb)) := by
  obtain ⟨r, hr, k⟩ := ho.test
  exact (pt_cmpR hr ha hb hm).by fun σ H Q ⟨M, Γ, S, g, s, h⟩ => run2B g s h fun M' a b S' x y H' l s' ra rb q => k M' S' H' a b x y Q s' ra rb q
/-- a op b op' c -/
def tch (f f' : D → D → Sto → Res D) (fa fb fc : DE) : DT := fun Γ S => (fa Γ S).bind fun a S1 => (fb Γ S1).bind fun b S2 => ((f a b S2).bind blB).bind fun k S3 => match k with
  | true => (fc Γ S3).bind fun c S4 => (f' b c S4).bind blB
  | false => .ok false S3
theorem xtch {op op' : CmpOp} (ho : OpD X C W (compareOp op) f) (ho' : OpD X C W (compareOp op') f') (ha : PE X a (tE C W fa)) (hb : PE X b (tE C W fb)) (hc : PE X c (tE C W fc))
    (hm : lastMarks [op, op'] [b, c] = false := by with_unfolding_all rfl) : PT X (.Compare a [op, op'] [b, c] pos) (tT C W (tch f f' fa fb fc)) := by
  obtain ⟨r, hr, k⟩ := ho.test
  obtain ⟨r', hr', k'⟩ := ho'.test
  refine (pt_chain hr hr' ha hb hc hm).by fun σ H Q ⟨M, Γ, S, g, s, h⟩ => ?_
  refine run1B g s h fun M1 a S1 x H1 l1 s1 ra h1 => ?_
  have g1 := g.mono l1
  refine run1B g1 s1 h1 fun M2 b S2 y H2 l2 s2 rb h2 => ?_
  have g2 := g1.mono l2
  have h2 : GoodB C M2 (((f a b S2).bind blB).bind fun k S3 => match k with
    | true => (fc Γ S3).bind fun c S4 => (f' b c S4).bind blB
    | false => .ok false S3) Q W := h2
  have key : GoodB C M2 ((f a b S2).bind blB) (fun k H3 => if k = true then tE C W fc σ H3 (fun w' H4 => r' y w' H4 fun z H5 => ∃ k, z = .bl k ∧ Q k H5) else Q false H3) W := by
    cases e : (f a b S2).bind blB with
    | bad => rw [e] at h2; exact h2
    | exc c fs S3 => rw [e] at h2; exact h2
    | ok k S3 =>
      rw [e] at h2
      intro M3 H3 l3 s3
      cases k with
      | false => exact iteF (h2 M3 H3 l3 s3)
      | true =>
        refine iteT ?_
        have h3 : GoodB C M2 ((fc Γ S3).bind fun c S4 => (f' b c S4).bind blB) Q W := h2
        refine run1B (g2.mono l3) s3 (GoodB.mono l3 h3) fun M4 c S4 w H4 l4 s4 rc h4 => ?_
        exact k' M4 S4 H4 b c y w Q s4 ((rb.mono l3).mono l4) rc h4
  have z := k M2 S2 H2 a b x y _ s2 (ra.mono l2) rb key
  -- the chain's reading: the first answer decides
  exact (show r x y H2 (fun z H3 => ∃ k, z = .bl k ∧ (if k = true then tE C W fc σ H3 (fun w' H4 => r' y w' H4 fun z H5 => ∃ k, z = .bl k ∧ Q k H5) else (∃ k, V.bl false = .bl k ∧ Q k H3))) from by
    have z2 := k M2 S2 H2 a b x y (fun k H3 => if k = true then tE C W fc σ H3 (fun w' H4 => r' y w' H4 fun z H5 => ∃ k, z = .bl k ∧ Q k H5) else (∃ k, V.bl false = .bl k ∧ Q k H3)) s2 (ra.mono l2) rb (key.imp fun v H q => by
      cases v with
      | true => exact iteT (by simpa using q)
      | false => exact iteF ⟨false, rfl, by simpa using q⟩)
    exact z2)
/-! ### not, and, or -/
def dNot (ft : DT) : DT := fun Γ S => (ft Γ S).bind fun k S1 => .ok (!k) S1
def dAnd (ft fu : DT) : DT := fun Γ S => (ft Γ S).bind fun k S1 => match k with
  | true => fu Γ S1
  | false => .ok false S1
def dOr (ft fu : DT) : DT := fun Γ S => (ft Γ S).bind fun k S1 => match k with
  | true => .ok true S1
  | false => fu Γ S1
theorem xnot (ha : PT X a (tT C W ft)) : PT X (.UnaryOp .Not a pos) (tT C W (dNot ft)) :=
  (pt_not ha).by fun σ H Q ⟨M, Γ, S, g, s, h⟩ => runTB g s h fun M' a S' H' l s' q => q M' H' (.refl M') s'
theorem PW.by {e : Expr} {t t' : TT} (h : PW X e t) (i : ∀ σ H Q, t' σ H Q → t σ H Q) : PW X e t' := ⟨fun wh pins s σ H Q I q => h.run wh pins s σ H Q I (i σ H Q q)⟩
theorem xand {rest : List Expr} (ha : PT X a (tT C W ft)) (hb : PW X (.BoolOp .And (b :: rest) pos) (tT C W fu)) : PW X (.BoolOp .And (a :: b :: rest) pos) (tT C W (dAnd ft fu)) :=
  PW.by (pw_and ha hb) fun σ H Q ⟨M, Γ, S, g, s, h⟩ => runTB g s h fun M' a S' H' l s' q => by
    cases a with
    | true => exact iteT ⟨M', Γ, S', g.mono l, s', q⟩
    | false => exact iteF (q M' H' (.refl M') s')
theorem xor {rest : List Expr} (ha : PT X a (tT C W ft)) (hb : PW X (.BoolOp .Or (b :: rest) pos) (tT C W fu)) : PW X (.BoolOp .Or (a :: b :: rest) pos) (tT C W (dOr ft fu)) :=
  PW.by (pw_or ha hb) fun σ H Q ⟨M, Γ, S, g, s, h⟩ => runTB g s h fun M' a S' H' l s' q => by
    cases a with
    | true => exact iteT (q M' H' (.refl M') s')
    | false => exact iteF ⟨M', Γ, S', g.mono l, s', q⟩
/-! .. as values: by truth -/
def vTr (S : Sto) (d : D) : Res Bool := match truD S d with
  | some b => .ok b S
  | none => .bad
def dNotV (fa : DE) : DE := fun Γ S => (fa Γ S).bind fun d S1 => (vTr S1 d).bind fun k S2 => .ok (.bl (!k)) S2
def dAndV (fa fb : DE) : DE := fun Γ S => (fa Γ S).bind fun d S1 => (vTr S1 d).bind fun k S2 => match k with
  | true => fb Γ S2
  | false => .ok d S2
def dOrV (fa fb : DE) : DE := fun Γ S => (fa Γ S).bind fun d S1 => (vTr S1 d).bind fun k S2 => match k with
  | true => .ok d S2
  | false => fb Γ S2
/-- a value's truth at the level of the machine, whatever the value -/
theorem tru_run {pins : List (Addr × Obj)} {s : Shared} {σ : St} {H : Hp} {M : Wd} {S : Sto} {d : D} {x : V} {v : Value} {k : Bool} (hK : X.K = C.K) (I : Inv X pins σ H s) (rv : RelV x v) (sm : Sim C M S H) (r : Rep C M d x) (e : truD S d = some k) {Q : Bool → Shared → Prop}
    (h : ∀ s', Inv X pins σ H s' → Q k s') : wpAny (model X.prog X.w) X.A (truthy v) Q X.xe s := by
  refine thn (tru_okD pins s σ H x v (fun c H2 => c = k ∧ H2 = H) I rv (hK ▸ tru_of sm r e ⟨rfl, rfl⟩)) fun c s' ⟨H2, I2, e1, e2⟩ => ?_
  subst e1 e2
  exact h s' I2
theorem xnotV (hK : X.K = C.K) (ha : PE X a (tE C W fa)) : PE X (.UnaryOp .Not a pos) (tE C W (dNotV fa)) := by
  refine ⟨fun pins s σ H Q I ⟨M, Γ, S, g, sm, h⟩ => ?_⟩
  have h2 := run1 g sm h (K1 := fun x H' => ∃ M' S' d k, Sim C M' S' H' ∧ Rep C M' d x ∧ truD S' d = some k ∧ Q (.bl (!k)) H') fun M' d S' x H' l s' r q => by
    unfold vTr at q
    cases e : truD S' d with
    | none => rw [e] at q; exact q.elim
    | some k => rw [e] at q; exact ⟨M', S', d, k, s', r, e, GoodE.ok (v := .bl (!k)) q s' (.bl _)⟩
  refine PyProof.Rows.UnaryOp_ (thn (ha.run pins s σ H _ I h2) fun v s1 ⟨x, H1, I1, r1, M', S', d, k, s', r, e, q⟩ => ?_)
  exact PyProof.Rows.not_of (tru_run hK I1 r1 s' r e fun s2 I2 => ⟨.bl (!k), H1, I2, rfl, q⟩)
theorem xandV {rest : List Expr} (hK : X.K = C.K) (ha : PE X a (tE C W fa)) (hb : PE X (.BoolOp .And (b :: rest) pos) (tE C W fb)) : PE X (.BoolOp .And (a :: b :: rest) pos) (tE C W (dAndV fa fb)) := by
  refine ⟨fun pins s σ H Q I ⟨M, Γ, S, g, sm, h⟩ => ?_⟩
  have h2 := run1 g sm h (K1 := fun x H' => ∃ M' S' d k, M.le M' ∧ Sim C M' S' H' ∧ Rep C M' d x ∧ truD S' d = some k ∧ GoodE C M' (match k with | true => fb Γ S' | false => .ok d S') Q W) fun M' d S' x H' l s' r q => by
    unfold vTr at q
    cases e : truD S' d with
    | none => rw [e] at q; exact q.elim
    | some k => rw [e] at q; exact ⟨M', S', d, k, l, s', r, e, q⟩
  refine PyProof.Rows.BoolOp_and (thn (ha.run pins s σ H _ I h2) fun v s1 ⟨x, H1, I1, r1, M', S', d, k, l, s', r, e, q⟩ => ?_)
  refine tru_run hK I1 r1 s' r e fun s2 I2 => ?_
  cases k with
  | true => exact hb.run pins s2 σ H1 Q I2 ⟨M', Γ, S', g.mono l, s', q⟩
  | false => exact ⟨x, H1, I2, r1, q.ok s' r⟩
theorem xorV {rest : List Expr} (hK : X.K = C.K) (ha : PE X a (tE C W fa)) (hb : PE X (.BoolOp .Or (b :: rest) pos) (tE C W fb)) : PE X (.BoolOp .Or (a :: b :: rest) pos) (tE C W (dOrV fa fb)) := by
  refine ⟨fun pins s σ H Q I ⟨M, Γ, S, g, sm, h⟩ => ?_⟩
  have h2 := run1 g sm h (K1 := fun x H' => ∃ M' S' d k, M.le M' ∧ Sim C M' S' H' ∧ Rep C M' d x ∧ truD S' d = some k ∧ GoodE C M' (match k with | true => .ok d S' | false => fb Γ S') Q W) fun M' d S' x H' l s' r q => by
    unfold vTr at q
    cases e : truD S' d with
    | none => rw [e] at q; exact q.elim
    | some k => rw [e] at q; exact ⟨M', S', d, k, l, s', r, e, q⟩
  refine PyProof.Rows.BoolOp_or (thn (ha.run pins s σ H _ I h2) fun v s1 ⟨x, H1, I1, r1, M', S', d, k, l, s', r, e, q⟩ => ?_)
  refine tru_run hK I1 r1 s' r e fun s2 I2 => ?_
  cases k with
  | true => exact ⟨x, H1, I2, r1, q.ok s' r⟩
  | false => exact hb.run pins s2 σ H1 Q I2 ⟨M', Γ, S', g.mono l, s', q⟩
/-! ### a if t else b -/
def dIf (ft : DT) (fa fb : DE) : DE := fun Γ S => (ft Γ S).bind fun k S1 => match k with
  | true => fa Γ S1
  | false => fb Γ S1
theorem xif (hc : PT X c (tT C W ft)) (ha : PE X a (tE C W fa)) (hb : PE X b (tE C W fb)) : PE X (.IfExp c a b pos) (tE C W (dIf ft fa fb)) :=
  (pe_ifExp hc ha hb).by fun σ H Q ⟨M, Γ, S, g, s, h⟩ => runT g s h fun M' a S' H' l s' q => by
    cases a with
    | true => exact iteT ⟨M', Γ, S', g.mono l, s', q⟩
    | false => exact iteF ⟨M', Γ, S', g.mono l, s', q⟩
end

/-! ### arguments, displays -/
def aNil : DA := fun _ S => .ok [] S
def aCons (fa : DE) (fr : DA) : DA := fun Γ S => (fa Γ S).bind fun d S1 => (fr Γ S1).bind fun ds S2 => .ok (d :: ds) S2
section
variable {C : Cfg} {W : XK} {M M' : Wd} {Γ : Ga} {S : Sto} {σ : St} {H : Hp}
theorem run1A {fa : DE} {f : D → Sto → Res (List D)} {Q : List V → Hp → Prop} {K1 : V → Hp → Prop} (g : SimG C M Γ σ) (s : Sim C M S H) (h : GoodA C M ((fa Γ S).bind fun a S1 => f a S1) Q W)
    (k : ∀ M' a S' x H', M.le M' → Sim C M' S' H' → Rep C M' a x → GoodA C M' (f a S') Q W → K1 x H') : tE C W fa σ H K1 := by
  refine ⟨M, Γ, S, g, s, ?_⟩
  cases ea : fa Γ S with
  | bad => rw [ea] at h; exact h
  | exc c fs S1 => rw [ea] at h; exact h
  | ok a S1 =>
    rw [ea] at h
    intro M1 x H1 l1 s1 r1
    exact k M1 a S1 x H1 l1 s1 r1 (GoodA.mono l1 h)
theorem runAA {fa : DA} {f : List D → Sto → Res (List D)} {Q : List V → Hp → Prop} {K1 : List V → Hp → Prop} (g : SimG C M Γ σ) (s : Sim C M S H) (h : GoodA C M ((fa Γ S).bind fun a S1 => f a S1) Q W)
    (k : ∀ M' a S' x H', M.le M' → Sim C M' S' H' → RepL C M' a x → GoodA C M' (f a S') Q W → K1 x H') : tA C W fa σ H K1 := by
  refine ⟨M, Γ, S, g, s, ?_⟩
  cases ea : fa Γ S with
  | bad => rw [ea] at h; exact h
  | exc c fs S1 => rw [ea] at h; exact h
  | ok a S1 =>
    rw [ea] at h
    intro M1 x H1 l1 s1 r1
    exact k M1 a S1 x H1 l1 s1 r1 (GoodA.mono l1 h)
theorem runA {fa : DA} {f : List D → Sto → Res D} {Q : VK} {K1 : List V → Hp → Prop} (g : SimG C M Γ σ) (s : Sim C M S H) (h : GoodE C M ((fa Γ S).bind fun a S1 => f a S1) Q W)
    (k : ∀ M' a S' x H', M.le M' → Sim C M' S' H' → RepL C M' a x → GoodE C M' (f a S') Q W → K1 x H') : tA C W fa σ H K1 := by
  refine ⟨M, Γ, S, g, s, ?_⟩
  cases ea : fa Γ S with
  | bad => rw [ea] at h; exact h
  | exc c fs S1 => rw [ea] at h; exact h
  | ok a S1 =>
    rw [ea] at h
    intro M1 x H1 l1 s1 r1
    exact k M1 a S1 x H1 l1 s1 r1 (GoodE.mono l1 h)
theorem GoodA.ok {a : List D} {vs : List V} {Q : List V → Hp → Prop} (g : GoodA C M (.ok a S) Q W) (s : Sim C M S H) (r : RepL C M a vs) : Q vs H := g M vs H (.refl M) s r
end
section
variable {X : Cx} {C : Cfg} {W : XK} {fa : DE} {fr : DA} {e : Expr} {es : List Expr} {pos : Pos}
theorem xanil : PA X [] (tA C W aNil) := pa_nil.by fun σ H Q ⟨M, Γ, S, g, s, h⟩ => GoodA.ok (C := C) h s .nil
theorem xacons (ha : PE X e (tE C W fa)) (hr : PA X es (tA C W fr)) (hs : starEach (e :: es) X.env = (false, eval e X.env) :: starEach es X.env := by rfl) : PA X (e :: es) (tA C W (aCons fa fr)) :=
  (pa_cons ha hr hs).by fun σ H Q ⟨M, Γ, S, g, s, h⟩ => run1A g s h fun M1 d S1 x H1 l1 s1 r1 h1 =>
    runAA (g.mono l1) s1 h1 fun M2 ds S2 xs H2 l2 s2 r2 h2 => GoodA.ok (C := C) h2 s2 (.cons (r1.mono l2) r2)
def dTup (fr : DA) : DE := fun Γ S => (fr Γ S).bind fun ds S1 => guard (lineOk ds.length) (.ok (.tup ds) S1)
def dLst (fr : DA) : DE := fun Γ S => (fr Γ S).bind fun ds S1 => guard (lineOk ds.length) (.ok (.lst ds) S1)
/-- a list that is to change -/
def dLstM (fr : DA) : DE := fun Γ S => (fr Γ S).bind fun ds S1 => guard (lineOk ds.length) (.ok (.ref S1.nx) (S1.new (.lst ds)))
theorem xtup {x1} (h : PA X es (tA C W fr)) : PE X (.Tuple es x1 pos) (tE C W (dTup fr)) :=
  (pe_tup h).by fun σ H Q ⟨M, Γ, S, g, s, h⟩ => runA g s h fun M1 ds S1 xs H1 l1 s1 r1 h1 => by
    obtain ⟨g1, h1⟩ := guard_ok h1
    exact ⟨by rw [← r1.1]; exact lineOk_ok g1, fun p hp => newTup h1 s1 r1 hp⟩
theorem xlst (h : PA X es (tA C W fr)) : PE X (.List es pos) (tE C W (dLst fr)) :=
  (pe_lst h).by fun σ H Q ⟨M, Γ, S, g, s, h⟩ => runA g s h fun M1 ds S1 xs H1 l1 s1 r1 h1 => by
    obtain ⟨g1, h1⟩ := guard_ok h1
    exact ⟨by rw [← r1.1]; exact lineOk_ok g1, fun p hp => newLst h1 s1 r1 hp⟩
theorem xlstM (h : PA X es (tA C W fr)) : PE X (.List es pos) (tE C W (dLstM fr)) :=
  (pe_lst h).by fun σ H Q ⟨M, Γ, S, g, s, h⟩ => runA g s h fun M1 ds S1 xs H1 l1 s1 r1 h1 => by
    obtain ⟨g1, h1⟩ := guard_ok h1
    exact ⟨by rw [← r1.1]; exact lineOk_ok g1, fun p hp => newSto h1 s1 ⟨xs, rfl, r1⟩ hp⟩
/-! ### what may change is frozen from here on -/
def frz : D → Sto → Res D := fun d S => match d with
  | .ref n => (match S.at n with
    | some (.lst ds) => .ok (.lst ds) (S.del n)
    | some (.dct ds) => .ok (.dct ds) (S.del n)
    | some (.ins c fs) => .ok (.ins c fs) (S.del n)
    | some (.dtt ds) => .ok (.dtt ds) (S.del n)
    | _ => .bad)
  | d => .ok d S
theorem frz_ok {M : Wd} {S : Sto} {H : Hp} {d : D} {v : V} {Q : VK} (s : Sim C M S H) (r : Rep C M d v) (q : GoodE C M (frz d S) Q W) : Q v H := by
  unfold frz at q
  split at q
  · rename_i n
    cases r
    rename_i a hm
    cases e : S.at n with
    | none => rw [e] at q; exact q.elim
    | some m =>
      obtain ⟨b, o, h1, h2, h3, h4⟩ := s.freeze e
      rw [hm] at h1; cases h1
      have l : M.le (M.lay a o) := Wd.lay_le h3
      rw [e] at q
      cases m with
      | lst ds =>
        obtain ⟨vs, rfl, r⟩ := h2
        exact q _ _ _ l h4 (.lst (show upd M.fz a (.lst vs) a = _ from upd_same) r.1 (r.mono l).2)
      | dct ds =>
        obtain ⟨vs, rfl, r⟩ := h2
        exact q _ _ _ l h4 (.dct (.inl (show upd M.fz a (.dK vs) a = _ from upd_same)) r.1 (r.mono l).2)
      | dtt ds =>
        obtain ⟨vs, rfl, r⟩ := h2
        exact q _ _ _ l h4 (.dtt (.inl (show upd M.fz a (.dT vs) a = _ from upd_same)) r.1 (r.mono l).2)
      | lck m => exact q.elim
      | ins c fs =>
        obtain ⟨dx, fv, rfl, r⟩ := h2
        exact q _ _ _ l h4 (.ins (show upd M.fz a (.ins (C.ga c) dx fv) a = _ from upd_same) r.1 (r.mono l).2)
  · exact q.ok s r
def dFrz (fa : DE) : DE := fun Γ S => (fa Γ S).bind frz
theorem xfrz (ha : PE X e (tE C W fa)) : PE X e (tE C W (dFrz fa)) := ha.by fun σ H Q ⟨M, Γ, S, g, s, h⟩ => run1 g s h fun M1 d S1 x H1 l1 s1 r1 h1 => frz_ok s1 r1 h1
end
end Pd

namespace Pd
open PySem PySem.Spec L2

/-! ### own defs -/
def spD (C : Cfg) (n : Nat) (f : List D → Sto → Res D) : Sp := fun vs H Q E => ∃ M S ds, ds.length = n ∧ Sim C M S H ∧ RepL C M ds vs ∧ GoodE C M (f ds S) Q E
def lenIs : Nat → List D → Bool
  | 0, [] => true
  | n + 1, _ :: r => lenIs n r
  | _, _ => false
theorem lenIs_ok : ∀ {n : Nat} {ds : List D}, lenIs n ds = true → ds.length = n
  | 0, [], _ => rfl
  | 0, _ :: _, h => by cases h
  | _ + 1, [], h => by cases h
  | n + 1, _ :: r, h => by rw [List.length_cons, lenIs_ok (n := n) (ds := r) h]
def dCall (n : Nat) (f : List D → Sto → Res D) (fr : DA) : DE := fun Γ S => (fr Γ S).bind fun ds S1 => guard (lenIs n ds) (f ds S1)
section
variable {X : Cx} {C : Cfg} {W : XK} {CX : CXT} {k n : Nat} {f : Addr} {fd : FuncData} {ps : List Str} {fn : List D → Sto → Res D} {x m : Str} {p pos apos : Pos} {e o : Expr} {es : List Expr} {fr : DA} {fo : DE}
theorem xcall (F : FnOk X.prog X.w X.K X.mg X.base CX k f fd ps (spD C n fn)) (hr : Room k X.A) (hg : Gl X x) (hm : X.mg x = some (.ref f)) (hk : PySem.W.keepIn X.K (.ref f) = true) (hb : Binds X.K fd ps []) (hx : Passes CX X W)
    (ha : PA X (e :: es) (tA C W fr)) (hdb : (x == ("__debug__" : Str)) = false := by decide) (he : starEach (e :: es) X.env = (false, eval e X.env) :: starEach es X.env := by rfl) (hpl : (backTo pos (starEach es X.env)).any (·.1) = false := by rfl) :
    PE X (.Call (.Name x p) (e :: es) [] pos) (tE C W (dCall n fn fr)) :=
  (pe_call F hr hg hm hk hb .nil hx ha hdb he hpl).by fun σ H Q ⟨M, Γ, S, g, s, h⟩ => runA g s h fun M1 ds S1 vs H1 l1 s1 r1 h1 => by
    obtain ⟨g1, h1⟩ := guard_ok h1
    rw [List.append_nil]
    exact ⟨M1, S1, ds, lenIs_ok g1, s1, r1, h1⟩
theorem xcall0 (F : FnOk X.prog X.w X.K X.mg X.base CX k f fd ps (spD C 0 fn)) (hr : Room k X.A) (hg : Gl X x) (hm : X.mg x = some (.ref f)) (hk : PySem.W.keepIn X.K (.ref f) = true) (hb : Binds X.K fd ps []) (hx : Passes CX X W)
    (hdb : (x == ("__debug__" : Str)) = false := by decide) : PE X (.Call (.Name x p) [] [] pos) (tE C W (dCall 0 fn aNil)) :=
  (pe_call0 F hr hg hm hk hb .nil hx hdb).by fun σ H Q ⟨M, Γ, S, g, s, h⟩ => ⟨M, S, [], rfl, s, .nil, h⟩

/-! ### attributes -/
def lookF : List (Nat × D) → Nat → Option D
  | [], _ => none
  | (k, d) :: r, j => (match Nat.beq k j with
    | true => some d
    | false => lookF r j)
def putA : List (Nat × D) → Nat → D → List (Nat × D)
  | [], j, v => [(j, v)]
  | (k, d) :: r, j, v => (match Nat.beq k j with
    | true => (k, v) :: r
    | false => (k, d) :: putA r j v)
theorem RepF.cons_inv {M : Wd} {k : Nat} {d : D} {fs : List (Nat × D)} {fv : List (Str × V)} (r : RepF C M ((k, d) :: fs) fv) : ∃ nm v fv', fv = (nm, v) :: fv' ∧ C.an[k]? = some nm ∧ Rep C M d v ∧ RepF C M fs fv' := by
  cases fv with
  | nil => have := r.1; simp at this
  | cons q fv' =>
    obtain ⟨nm, v⟩ := q
    have h : C.an[k]? = some nm ∧ fs.map (fun p => C.an[p.1]?) = fv'.map (fun p => some p.1) := by simpa using r.1
    exact ⟨nm, v, fv', rfl, h.1, r.2 0 k d nm v rfl rfl, h.2, fun i a b c e h1 h2 => r.2 (i + 1) a b c e (by simpa using h1) (by simpa using h2)⟩
theorem RepF.nil_inv {M : Wd} {fv : List (Str × V)} (r : RepF C M [] fv) : fv = [] := by
  cases fv with
  | nil => rfl
  | cons q fv' => have := r.1; simp at this
theorem RepF.cons {M : Wd} {k : Nat} {d : D} {nm : Str} {v : V} {fs : List (Nat × D)} {fv : List (Str × V)} (hk : C.an[k]? = some nm) (h : Rep C M d v) (r : RepF C M fs fv) : RepF C M ((k, d) :: fs) ((nm, v) :: fv) :=
  ⟨by simp only [List.map_cons, hk, r.1], fun i a b c e h1 h2 => by
    cases i with
    | zero => simp at h1 h2; obtain ⟨rfl, rfl⟩ := h1; obtain ⟨rfl, rfl⟩ := h2; exact h
    | succ i => exact r.2 i a b c e (by simpa using h1) (by simpa using h2)⟩
theorem RepF.nil {M : Wd} : RepF C M [] [] := ⟨rfl, fun i a b c e h1 h2 => by simp at h1⟩
theorem an_inj (nd : C.an.Nodup) {i j : Nat} {x : Str} (a : C.an[i]? = some x) (b : C.an[j]? = some x) : i = j := nodup_ix nd a b
theorem lookF_of {M : Wd} (nd : C.an.Nodup) {j : Nat} {nm : Str} (hj : C.an[j]? = some nm) : ∀ {fs : List (Nat × D)} {fv : List (Str × V)} {d : D}, RepF C M fs fv → lookF fs j = some d → ∃ v, fv.lookup nm = some v ∧ Rep C M d v
  | [], fv, d, _, h => by cases h
  | (k, d0) :: fs, fv, d, r, h => by
    obtain ⟨n0, v, fv', rfl, hk, r0, r1⟩ := r.cons_inv
    unfold lookF at h
    cases e : Nat.beq k j with
    | true =>
      have := Nat.eq_of_beq_eq_true e
      subst this
      rw [hk] at hj; cases hj
      rw [e] at h; cases h
      exact ⟨v, by simp [List.lookup], r0⟩
    | false =>
      rw [e] at h
      obtain ⟨u, h1, h2⟩ := lookF_of nd hj r1 h
      have hne : nm ≠ n0 := fun z => by subst z; have := an_inj nd hk hj; rw [this, Nat.beq_refl] at e; cases e
      exact ⟨u, by rw [List.lookup_cons, beq_eq_false_iff_ne.mpr hne]; exact h1, h2⟩
theorem noF_of {M : Wd} {nm : Str} (hn : nm ∉ C.an) : ∀ {fs : List (Nat × D)} {fv : List (Str × V)}, RepF C M fs fv → fv.lookup nm = none
  | [], fv, r => by rw [r.nil_inv]; rfl
  | (k, d0) :: fs, fv, r => by
    obtain ⟨n0, v, fv', rfl, hk, r0, r1⟩ := r.cons_inv
    have hne : nm ≠ n0 := fun z => by subst z; exact hn (List.mem_of_getElem? hk)
    rw [List.lookup_cons, beq_eq_false_iff_ne.mpr hne]; exact noF_of hn r1
theorem putA_of {M : Wd} (nd : C.an.Nodup) {j : Nat} {nm : Str} (hj : C.an[j]? = some nm) {d : D} {v : V} (rv : Rep C M d v) : ∀ {fs : List (Nat × D)} {fv : List (Str × V)}, RepF C M fs fv → RepF C M (putA fs j d) (putF nm v fv)
  | [], fv, r => by rw [r.nil_inv]; exact .cons hj rv .nil
  | (k, d0) :: fs, fv, r => by
    obtain ⟨n0, u, fv', rfl, hk, r0, r1⟩ := r.cons_inv
    unfold putA
    cases e : Nat.beq k j with
    | true =>
      have := Nat.eq_of_beq_eq_true e
      subst this
      rw [hk] at hj; cases hj
      show RepF C M ((k, d) :: fs) (if nm = nm then (nm, v) :: fv' else (nm, u) :: putF nm v fv')
      rw [if_pos rfl]
      exact .cons hk rv r1
    | false =>
      have hne : n0 ≠ nm := fun z => by subst z; have := an_inj nd hk hj; rw [this, Nat.beq_refl] at e; cases e
      show RepF C M ((k, d0) :: putA fs j d) (if n0 = nm then (n0, v) :: fv' else (n0, u) :: putF nm v fv')
      rw [if_neg hne]
      exact .cons hk r0 (putA_of nd hj rv r1)
theorem RepF.length {M : Wd} {fs : List (Nat × D)} {fv : List (Str × V)} (r : RepF C M fs fv) : fs.length = fv.length := by
  have := congrArg List.length r.1
  simpa using this
def dFld (c j : Nat) (fo : DE) : DE := fun Γ S => (fo Γ S).bind fun d S1 => match insV S1 d with
  | some (c', fs) => guard (Nat.beq c' c) (match lookF fs j with
    | some v => .ok v S1
    | none => .bad)
  | none => .bad
theorem xfld {c j : Nat} (hK : X.K = C.K) (nd : C.an.Nodup) (hj : C.an[j]? = some m) (cl : Cls X.K (C.ga c)) (na : NoAttr X.K (C.ga c) m) (ho : PE X o (tE C W fo)) (hb : attributeBase o m X.env (eval o X.env) = eval o X.env := by rfl) : PE X (.Attribute o m pos) (tE C W (dFld c j fo)) :=
  (pe_fld ho hb).by fun σ H Q ⟨M, Γ, S, g, s, h⟩ => run1 g s h fun M1 d S1 x H1 l1 s1 r1 h1 => by
    split at h1
    · rename_i c' fs e
      obtain ⟨g1, h3⟩ := guard_ok h1
      clear h1
      have := Nat.eq_of_beq_eq_true g1
      subst this
      obtain ⟨a, dx, fv, rfl, ha, rf⟩ := ins_of s1 r1 e
      split at h3
      · rename_i v ev
        obtain ⟨u, hu, ru⟩ := lookF_of nd hj rf ev
        exact ⟨a, C.ga c', dx, fv, u, rfl, ha, cl, na, hu, h3.ok s1 ru⟩
      · exact h3.elim
    · exact h1.elim

/-! ### methods, new instances -/
def dMeth (c n : Nat) (f : List D → Sto → Res D) (fo : DE) (fr : DA) : DE := fun Γ S => (fo Γ S).bind fun d S1 => match insV S1 d with
  | some (c', _) => guard (Nat.beq c' c) ((fr Γ S1).bind fun ds S2 => guard (lenIs n (d :: ds)) (f (d :: ds) S2))
  | none => .bad
theorem meth_rd {c : Nat} {K : PySem.W.Frag} (hn : m ∉ C.an) {M : Wd} {Γ : Ga} {S : Sto} {σ : St} {H : Hp} {Q : VK} (g : SimG C M Γ σ) (s : Sim C M S H) (h : GoodE C M (dMeth c n fn fo fr Γ S) Q W) :
    tMeth (C.ga c) m (spD C n fn) [] W (tE C W fo) (tA C W fr) σ H Q := by
  refine run1 g s h fun M1 d S1 x H1 l1 s1 r1 h1 => ?_
  split at h1
  · rename_i c' fs e
    obtain ⟨g1, h3⟩ := guard_ok h1
    clear h1
    have := Nat.eq_of_beq_eq_true g1
    subst this
    obtain ⟨a, dx, fv, rfl, ha, rf⟩ := ins_of s1 r1 e
    refine ⟨a, dx, fv, rfl, ha, noF_of hn rf, ?_⟩
    refine runA (g.mono l1) s1 h3 fun M2 ds S2 vs H2 l2 s2 r2 h2 => ?_
    obtain ⟨g2, h2⟩ := guard_ok h2
    rw [List.append_nil]
    exact ⟨M2, S2, d :: ds, lenIs_ok g2, s2, .cons (r1.mono l2) r2, h2⟩
  · exact h1.elim
theorem xmeth {c : Nat} {pl : Sem Bool} (hn : m ∉ C.an) (ho : PE X o (tE C W fo)) (cl : Cls X.K (C.ga c)) (hm : Meth X.K (C.ga c) m f) (F : FnOk X.prog X.w X.K X.mg X.base CX k f fd ps (spD C n fn)) (hr : Room k X.A) (hb : Binds X.K fd ps []) (hx : Passes CX X W) (ha : PA X (e :: es) (tA C W fr)) (hst : starEach (e :: es) X.env = (false, eval e X.env) :: starEach es X.env := by rfl) (hpl : (backTo pos (starEach es X.env)).any (·.1) = false := by rfl) (ht : eval (.Call (.Attribute o m apos) (e :: es) [] pos) X.env = (do let ov ← eval o X.env; standAt apos.atName; let (f, first) ← holding [ov] (getMethod ov m pl); callWith pos f first (backTo pos (starEach (e :: es) X.env)) (backToKw pos (keywordEach [] X.env))) := by rfl) :
    PE X (.Call (.Attribute o m apos) (e :: es) [] pos) (tE C W (dMeth c n fn fo fr)) :=
  (pe_meth ho cl hm F hr hb .nil hx ha hst hpl ht).by fun σ H Q ⟨M, Γ, S, g, s, h⟩ => meth_rd (K := X.K) hn g s h
theorem xmeth0 {c : Nat} {pl : Sem Bool} (hn : m ∉ C.an) (ho : PE X o (tE C W fo)) (cl : Cls X.K (C.ga c)) (hm : Meth X.K (C.ga c) m f) (F : FnOk X.prog X.w X.K X.mg X.base CX k f fd ps (spD C n fn)) (hr : Room k X.A) (hb : Binds X.K fd ps []) (hx : Passes CX X W) (ht : eval (.Call (.Attribute o m apos) [] [] pos) X.env = (do let ov ← eval o X.env; standAt apos.atName; let (f, first) ← holding [ov] (getMethod ov m pl); callWith pos f first (backTo pos (starEach [] X.env)) (backToKw pos (keywordEach [] X.env))) := by rfl) :
    PE X (.Call (.Attribute o m apos) [] [] pos) (tE C W (dMeth c n fn fo aNil)) :=
  (pe_meth0 ho cl hm F hr hb .nil hx ht).by fun σ H Q ⟨M, Γ, S, g, s, h⟩ => by
    refine run1 g s h fun M1 d S1 x H1 l1 s1 r1 h1 => ?_
    split at h1
    · rename_i c' fs e
      obtain ⟨g1, h3⟩ := guard_ok h1
      clear h1
      have := Nat.eq_of_beq_eq_true g1
      subst this
      obtain ⟨a, dx, fv, rfl, ha, rf⟩ := ins_of s1 r1 e
      refine ⟨a, dx, fv, rfl, ha, noF_of hn rf, ?_⟩
      have h2 : GoodE C M1 (guard (lenIs n [d]) (fn [d] S1)) Q W := h3
      obtain ⟨g2, h2⟩ := guard_ok h2
      exact ⟨M1, S1, [d], lenIs_ok g2, s1, .cons r1 .nil, h2⟩
    · exact h1.elim
def ifNon (r : D) (q : Res D) : Res D := match r with
  | .non => q
  | _ => .bad
def dMake (c n : Nat) (f : List D → Sto → Res D) (fr : DA) : DE := fun Γ S => (fr Γ S).bind fun ds S1 => guard (lenIs n (.ref S1.nx :: ds)) ((f (.ref S1.nx :: ds) (S1.new (.ins c []))).bind fun r S2 => ifNon r (.ok (.ref S1.nx) S2))
theorem make_rd {c : Nat} {M : Wd} {S : Sto} {H : Hp} {Q : VK} {ds : List D} {vs : List V} {x dx : Addr} (s : Sim C M S H) (r : RepL C M ds vs) (hx : H x = none) (hd : H dx = none) (ne : dx ≠ x)
    (h : GoodE C M (guard (lenIs n (.ref S.nx :: ds)) ((fn (.ref S.nx :: ds) (S.new (.ins c []))).bind fun r S2 => ifNon r (.ok (.ref S.nx) S2))) Q W) :
    spD C n fn (.ref x :: (vs ++ [])) (upd (upd H dx (.own x)) x (.ins (C.ga c) dx [])) (fun v H2 => v = .non ∧ Q (.ref x) H2) W := by
  obtain ⟨g, h⟩ := guard_ok h
  have l1 : M.le (M.lay dx (.own x)) := Wd.lay_le (s.free hd)
  have s1 : Sim C (M.lay dx (.own x)) S (upd H dx (.own x)) := s.lay hd
  have hx1 : upd H dx (.own x) x = none := by rw [upd_ne ne.symm]; exact hx
  have l2 : (M.lay dx (.own x)).le ((M.lay dx (.own x)).bind S.nx x) := Wd.bind_le s1
  have s2 := s1.bindNew (m := .ins c []) (o := .ins (C.ga c) dx []) hx1 ⟨dx, [], rfl, .nil⟩
  have l := l1.trans l2
  have hmu : ((M.lay dx (.own x)).bind S.nx x).mu S.nx = some x := if_pos rfl
  rw [List.append_nil]
  refine ⟨_, _, .ref S.nx :: ds, lenIs_ok g, s2, .cons (.ref hmu) (r.mono l), ?_⟩
  have h := GoodE.mono l h
  cases e : fn (.ref S.nx :: ds) (S.new (.ins c [])) with
  | bad => rw [e] at h; exact h
  | exc c' fs S3 => rw [e] at h; exact h
  | ok d S3 =>
    rw [e] at h
    intro M' v H' l' s' r'
    have h : GoodE C _ (ifNon d (.ok (.ref S.nx) S3)) Q W := h
    unfold ifNon at h
    split at h
    · cases r'
      exact ⟨rfl, h M' _ H' l' s' (.ref (l'.2.1 _ _ hmu))⟩
    · exact h.elim
theorem xmake {c : Nat} {fI : Addr} (Mk' : Mk X.K (C.ga c) fI) (F : FnOk X.prog X.w X.K X.mg X.base CX k fI fd ps (spD C n fn)) (hr : Room (k + 1) X.A) (hg : Gl X x) (hm : X.mg x = some (.ref (C.ga c))) (hb : Binds X.K fd ps []) (hx : Passes CX X W)
    (ha : PA X (e :: es) (tA C W fr)) (hdb : (x == ("__debug__" : Str)) = false := by decide) (he : starEach (e :: es) X.env = (false, eval e X.env) :: starEach es X.env := by rfl) (hpl : (backTo pos (starEach es X.env)).any (·.1) = false := by rfl) :
    PE X (.Call (.Name x p) (e :: es) [] pos) (tE C W (dMake c n fn fr)) :=
  (pe_make Mk' F hr hg hm hb .nil hx ha hdb he hpl).by fun σ H Q ⟨M, Γ, S, g, s, h⟩ => runA g s h fun M1 ds S1 vs H1 l1 s1 r1 h1 => fun y dx hy hd ne => make_rd s1 r1 hy hd ne h1
theorem xmake0 {c : Nat} {fI : Addr} (Mk' : Mk X.K (C.ga c) fI) (F : FnOk X.prog X.w X.K X.mg X.base CX k fI fd ps (spD C n fn)) (hr : Room (k + 1) X.A) (hg : Gl X x) (hm : X.mg x = some (.ref (C.ga c))) (hb : Binds X.K fd ps []) (hx : Passes CX X W)
    (hdb : (x == ("__debug__" : Str)) = false := by decide) : PE X (.Call (.Name x p) [] [] pos) (tE C W (dMake c n fn aNil)) :=
  (pe_make0 Mk' F hr hg hm hb .nil hx hdb).by fun σ H Q ⟨M, Γ, S, g, s, h⟩ => fun y dx hy hd ne => make_rd (n := n) (ds := []) (vs := []) s .nil hy hd ne h
end

/-! ### built-in calls by data -/
def CaD (X : Cx) (C : Cfg) (W : XK) (f : Value) (g : List D → Sto → Res D) : Prop :=
  ∃ r, CallR X f r ∧ ∀ M S H ds vs Q, Sim C M S H → RepL C M ds vs → GoodE C M (g ds S) Q W → r vs H Q
def dCB (g : List D → Sto → Res D) (fr : DA) : DE := fun Γ S => (fr Γ S).bind g
section
variable {X : Cx} {C : Cfg} {W : XK} {g : List D → Sto → Res D} {x : Str} {p pos : Pos} {e : Expr} {es : List Expr} {fr : DA} {id T : String}
theorem xcb (hc : CaD X C W (.builtin id) g) (hg : Gl X x) (hm : X.mg x = none) (hv : bootBuiltins x = some (.builtin id)) (ha : PA X (e :: es) (tA C W fr)) (hn : x ≠ "__name__" := by decide) (hdb : (x == ("__debug__" : Str)) = false := by decide)
    (he : starEach (e :: es) X.env = (false, eval e X.env) :: starEach es X.env := by rfl) (hpl : (backTo pos (starEach es X.env)).any (·.1) = false := by rfl) : PE X (.Call (.Name x p) (e :: es) [] pos) (tE C W (dCB g fr)) := by
  obtain ⟨r, hr, k⟩ := hc
  exact (pe_callB hr hg hm hv ha hn hdb he hpl).by fun σ H Q ⟨M, Γ, S, g, s, h⟩ => runA g s h fun M1 ds S1 vs H1 l1 s1 r1 h1 => k M1 S1 H1 ds vs Q s1 r1 h1
theorem xct (hc : CaD X C W (.type T) g) (hg : Gl X x) (hm : X.mg x = none) (hv : bootBuiltins x = some (.type T)) (ha : PA X (e :: es) (tA C W fr)) (hn : x ≠ "__name__" := by decide) (hdb : (x == ("__debug__" : Str)) = false := by decide)
    (he : starEach (e :: es) X.env = (false, eval e X.env) :: starEach es X.env := by rfl) (hpl : (backTo pos (starEach es X.env)).any (·.1) = false := by rfl) : PE X (.Call (.Name x p) (e :: es) [] pos) (tE C W (dCB g fr)) := by
  obtain ⟨r, hr, k⟩ := hc
  exact (pe_callTy hr hg hm hv ha hn hdb he hpl).by fun σ H Q ⟨M, Γ, S, g, s, h⟩ => runA g s h fun M1 ds S1 vs H1 l1 s1 r1 h1 => k M1 S1 H1 ds vs Q s1 r1 h1
end
end Pd

namespace Pd
open PySem PySem.Spec L2

/-! ### statements -/
abbrev WS (W : XK) : WX := fun c d _ H => W c d H
/-- an expression's result, then a statement's -/
def Res.then {α : Type} (r : Res α) (f : α → Sto → SRes) : SRes := match r with
  | .ok a S => f a S
  | .exc c fs S => .exc c fs S
  | .bad => .bad
def SRes.then (r : SRes) (f : Ga → Sto → SRes) : SRes := match r with
  | .nx Γ S => f Γ S
  | r => r
section
variable {C : Cfg} {W : XK} {M M' : Wd} {Γ : Ga} {S : Sto} {σ : St} {H : Hp} {E : Ends}
theorem run1S {fa : DE} {f : D → Sto → SRes} {K1 : V → Hp → Prop} (g : SimG C M Γ σ) (s : Sim C M S H) (h : GoodS C (WS W) M ((fa Γ S).then f) E)
    (k : ∀ M' a S' x H', M.le M' → Sim C M' S' H' → Rep C M' a x → GoodS C (WS W) M' (f a S') E → K1 x H') : tE C W fa σ H K1 := by
  refine ⟨M, Γ, S, g, s, ?_⟩
  cases ea : fa Γ S with
  | bad => rw [ea] at h; exact h
  | exc c fs S1 => rw [ea] at h; exact fun M' c' d H' l s' r => h M' σ c' d H' l s' r
  | ok a S1 =>
    rw [ea] at h
    intro M1 x H1 l1 s1 r1
    exact k M1 a S1 x H1 l1 s1 r1 (GoodS.mono l1 h)
theorem runTS {ft : DT} {f : Bool → Sto → SRes} {K1 : Bool → Hp → Prop} (g : SimG C M Γ σ) (s : Sim C M S H) (h : GoodS C (WS W) M ((ft Γ S).then f) E)
    (k : ∀ M' a S' H', M.le M' → Sim C M' S' H' → GoodS C (WS W) M' (f a S') E → K1 a H') : tT C W ft σ H K1 := by
  refine ⟨M, Γ, S, g, s, ?_⟩
  cases ea : ft Γ S with
  | bad => rw [ea] at h; exact h
  | exc c fs S1 => rw [ea] at h; exact fun M' c' d H' l s' r => h M' σ c' d H' l s' r
  | ok a S1 =>
    rw [ea] at h
    intro M1 H1 l1 s1
    exact k M1 a S1 H1 l1 s1 (GoodS.mono l1 h)
theorem GoodS.nxt {Γ : Ga} (h : GoodS C (WS W) M (.nx Γ S) E) (g : SimG C M Γ σ) (s : Sim C M S H) : E.nx σ H := h M σ H (.refl M) g s
theorem SimG.set (g : SimG C M Γ σ) {d : D} {v : V} (r : Rep C M d v) (i : Nat) : SimG C M (Γ.set i (some d)) (σ.set i (some v)) := by
  refine ⟨by simp [g.1], fun j e h => ?_⟩
  by_cases hj : i = j
  · subst hj
    by_cases hi : i < Γ.length
    · rw [List.getElem?_set_self hi] at h
      cases h
      exact ⟨v, List.getElem?_set_self (by rw [← g.1]; exact hi), r⟩
    · rw [List.getElem?_eq_none (by simpa using hi)] at h; cases h
  · rw [List.getElem?_set_ne hj] at h ⊢
    exact g.2 j e h
end
section
variable {X : Cx} {C : Cfg} {W : XK} {f f' : DS} {fa fb : DE} {ft : DT} {st : Stmt} {rest a b : List Stmt} {e c : Expr} {pos : Pos}
def sNil : DS := fun Γ S => .nx Γ S
def sSeq (f g : DS) : DS := fun Γ S => (f Γ S).then g
theorem ynil : PSs X [] (tS C W sNil) := pss_nil.by fun D σ H ⟨M, Γ, S, g, s, h⟩ => h.nxt g s
/-- a statement with more behind it -/
theorem tS_seq {M : Wd} {Γ : Ga} {S : Sto} {σ : St} {H : Hp} {E : Ends} (g : SimG C M Γ σ) (s : Sim C M S H) (h : GoodS C (WS W) M (sSeq f f' Γ S) E) : tS C W f { E with nx := fun σ H => tS C W f' E σ H } σ H := by
  refine ⟨M, Γ, S, g, s, ?_⟩
  have h : GoodS C (WS W) M ((f Γ S).then f') E := h
  cases e : f Γ S with
  | nx Γ1 S1 => rw [e] at h; exact fun M1 σ1 H1 l1 g1 s1 => ⟨M1, Γ1, S1, g1, s1, GoodS.mono l1 h⟩
  | rt d S1 => rw [e] at h; exact h
  | bk Γ1 S1 => rw [e] at h; exact h
  | ct Γ1 S1 => rw [e] at h; exact h
  | exc c fs S1 => rw [e] at h; exact h
  | bad => rw [e] at h; exact h
theorem ycons (h1 : PS X st (tS C W f)) (h2 : PSs X rest (tS C W f')) : PSs X (st :: rest) (tS C W (sSeq f f')) := (pss_cons h1 h2).by fun D σ H ⟨M, Γ, S, g, s, h⟩ => tS_seq g s h
theorem yone (h1 : PS X st (tS C W f)) : PSs X [st] (tS C W f) := pss_one h1
def sBad : DS := fun _ _ => .bad
theorem ybad : PS X st (tS C W sBad) := ⟨fun _ _ _ _ _ _ ⟨_, _, _, _, _, h⟩ => False.elim h⟩
theorem ysbad {sts : List Stmt} : PSs X sts (tS C W sBad) := ⟨fun _ _ _ _ _ _ ⟨_, _, _, _, _, h⟩ => False.elim h⟩
theorem xbad : PE X e (tE C W (fun _ _ => .bad)) := ⟨fun _ _ _ _ _ _ ⟨_, _, _, _, _, h⟩ => False.elim h⟩
theorem ypass : PS X (.Pass pos) (tS C W sNil) := ps_pass.by fun D σ H ⟨M, Γ, S, g, s, h⟩ => h.nxt g s
theorem ydoc {x j pos pos'} : PS X (.Expr (.Constant (.str x) j pos) pos') (tS C W sNil) := ps_doc.by fun D σ H ⟨M, Γ, S, g, s, h⟩ => h.nxt g s
theorem ybreak : PS X (.Break pos) (tS C W (fun Γ S => .bk Γ S)) := ps_break.by fun D σ H ⟨M, Γ, S, g, s, h⟩ => h M σ H (.refl M) g s
theorem ycont : PS X (.Continue pos) (tS C W (fun Γ S => .ct Γ S)) := ps_continue.by fun D σ H ⟨M, Γ, S, g, s, h⟩ => h M σ H (.refl M) g s
def sDrop (fa : DE) : DS := fun Γ S => (fa Γ S).then fun _ S1 => .nx Γ S1
theorem ydrop (he : PE X e (tE C W fa)) (hs : swapsWith e none pos.line X.env = pure false := by rfl) : PS X (.Expr e pos) (tS C W (sDrop fa)) :=
  (ps_expr he hs).by fun D σ H ⟨M, Γ, S, g, s, h⟩ => run1S g s h fun M1 d S1 x H1 l1 s1 r1 h1 => h1.nxt (g.mono l1) s1
def sRet (fa : DE) : DS := fun Γ S => (fa Γ S).then fun d S1 => .rt d S1
theorem yret (he : PE X e (tE C W fa)) : PS X (.Return (some e) pos) (tS C W (sRet fa)) :=
  (ps_ret he).by fun D σ H ⟨M, Γ, S, g, s, h⟩ => run1S g s h fun M1 d S1 x H1 l1 s1 r1 h1 => h1 M1 x H1 (.refl M1) s1 r1
theorem yretN : PS X (.Return none pos) (tS C W (fun _ S => .rt .non S)) := ps_retN.by fun D σ H ⟨M, Γ, S, g, s, h⟩ => h M .non H (.refl M) s .non
def sIf (ft : DT) (f f' : DS) : DS := fun Γ S => (ft Γ S).then fun k S1 => match k with
  | true => f Γ S1
  | false => f' Γ S1
theorem yif (hc : PT X c (tT C W ft)) (ha : PSs X a (tS C W f)) (hb : PSs X b (tS C W f')) : PS X (.If c a b pos) (tS C W (sIf ft f f')) :=
  (ps_if hc ha hb).by fun D σ H ⟨M, Γ, S, g, s, h⟩ => runTS g s h fun M1 k S1 H1 l1 s1 h1 => by
    cases k with
    | true => exact iteT ⟨M1, Γ, S1, g.mono l1, s1, h1⟩
    | false => exact iteF ⟨M1, Γ, S1, g.mono l1, s1, h1⟩

/-! ### targets -/
/-- a target by data; vs: the slots it may change -/
def TgD (X : Cx) (C : Cfg) (tg : Expr) (vs : List Nat) (f : D → Ga → Sto → Option Ga) : Prop :=
  ∃ t : TG, PG X tg t ∧ ∀ (M : Wd) (S : Sto) (Γ Γ' : Ga) (σ : St) (H : Hp) (d : D) (v : V) (Q : St → Hp → Prop), SimG C M Γ σ → Sim C M S H → Rep C M d v → f d Γ S = some Γ' →
    (∀ σ', SimG C M Γ' σ' → wipe σ' vs = wipe σ vs → Q σ' H) → t v σ H Q
def gN (i : Nat) : D → Ga → Sto → Option Ga := fun d Γ _ => some (Γ.set i (some d))
theorem wipe_at : ∀ (vs : List Nat) (σ : St) (i : Nat), (wipe σ vs)[i]? = if i < σ.length then (if i ∈ vs then some none else σ[i]?) else none
  | [], σ, i => by
    show σ[i]? = _
    by_cases h : i < σ.length
    · rw [if_pos h, if_neg (by simp)]
    · rw [if_neg h, List.getElem?_eq_none (by omega)]
  | v :: vs, σ, i => by
    show ((wipe σ vs).set v none)[i]? = _
    by_cases h : i < σ.length
    · rw [if_pos h]
      by_cases hv : v = i
      · subst hv
        rw [List.getElem?_set_self (by rw [wipe_length]; exact h), if_pos (by simp)]
      · rw [List.getElem?_set_ne hv, wipe_at vs σ i, if_pos h]
        by_cases hm : i ∈ vs
        · rw [if_pos hm, if_pos (List.mem_cons_of_mem _ hm)]
        · rw [if_neg hm, if_neg (by simp only [List.mem_cons, not_or]; exact ⟨fun z => hv z.symm, hm⟩)]
    · rw [if_neg h, List.getElem?_eq_none (by rw [List.length_set, wipe_length]; omega)]
theorem wipe_set {vs : List Nat} {σ : St} {i : Nat} {x : Option V} (h : i ∈ vs) : wipe (σ.set i x) vs = wipe σ vs := by
  refine List.ext_getElem? fun j => ?_; rw [wipe_at, wipe_at, List.length_set]
  by_cases hj : j < σ.length
  · rw [if_pos hj, if_pos hj]
    by_cases hm : j ∈ vs
    · rw [if_pos hm, if_pos hm]
    · rw [if_neg hm, if_neg hm, List.getElem?_set_ne (fun z => hm (by rw [← z]; exact h))]
  · rw [if_neg hj, if_neg hj]
theorem wipe_wipe (σ : St) (vs : List Nat) : wipe (wipe σ vs) vs = wipe σ vs := by
  refine List.ext_getElem? fun j => ?_; rw [wipe_at vs (wipe σ vs) j, wipe_at vs σ j, wipe_length]
  by_cases hj : j < σ.length
  · by_cases hm : j ∈ vs
    · simp [hj, hm]
    · simp [hj, hm]
  · simp [hj]
theorem zname {i : Nat} {x : Str} {vs : List Nat} (hN : X.N.Nodup) (hi : X.N[i]? = some x) (hx : Loc X.env.scope x) (hv : i ∈ vs) (hf : X.fn x = true ∨ X.env.scope.names.lookup x = some .local := by first | exact .inl rfl | exact .inr rfl | assumption) : TgD X C (.Name x pos) vs (gN i) :=
  ⟨gName i, pg_name hN hi hx hf, fun M S Γ Γ' σ H d v Q g s r e q => by
    cases e
    exact q _ (g.set r i) (wipe_set hv)⟩
/-- several targets -/
def TgDs (X : Cx) (C : Cfg) (ts : List Expr) (vs : List Nat) (f : List D → Ga → Sto → Option Ga) : Prop :=
  ∃ t : TGs, PGs X ts t ∧ ∀ (M : Wd) (S : Sto) (Γ Γ' : Ga) (σ : St) (H : Hp) (ds : List D) (xs : List V) (Q : St → Hp → Prop), SimG C M Γ σ → Sim C M S H → RepL C M ds xs → f ds Γ S = some Γ' →
    (∀ σ', SimG C M Γ' σ' → wipe σ' vs = wipe σ vs → Q σ' H) → t xs σ H Q
def gNil : List D → Ga → Sto → Option Ga := fun ds Γ _ => match ds with
  | [] => some Γ
  | _ => none
def gCons (f : D → Ga → Sto → Option Ga) (fr : List D → Ga → Sto → Option Ga) : List D → Ga → Sto → Option Ga := fun ds Γ S => match ds with
  | d :: r => (match f d Γ S with
    | some Γ1 => fr r Γ1 S
    | none => none)
  | [] => none
theorem zsnil {vs : List Nat} : TgDs X C [] vs gNil := ⟨L2.gNil, pgs_nil, fun M S Γ Γ' σ H ds xs Q g s r e q => by
  unfold gNil at e
  split at e
  · cases e; exact ⟨r.nil_inv, q σ g rfl⟩
  · cases e⟩
theorem zscons {vs : List Nat} {e : Expr} {es : List Expr} {f : D → Ga → Sto → Option Ga} {fr : List D → Ga → Sto → Option Ga} (h1 : TgD X C e vs f) (h2 : TgDs X C es vs fr)
    (hs : (assignEach (e :: es) X.env).map (·.2) = assign e X.env :: (assignEach es X.env).map (·.2) := by rfl) : TgDs X C (e :: es) vs (gCons f fr) := by
  obtain ⟨t, ht, k⟩ := h1
  obtain ⟨u, hu, k2⟩ := h2
  refine ⟨L2.gCons t u, pgs_cons ht hu hs, fun M S Γ Γ' σ H ds xs Q g s r e q => ?_⟩
  unfold gCons at e
  split at e
  · rename_i d ds'
    split at e
    · rename_i Γ1 e1
      obtain ⟨v, us, rfl, r1, r2⟩ := r.cons_inv
      refine ⟨v, us, rfl, k M S Γ Γ1 σ H d v _ g s r1 e1 fun σ1 g1 w1 => ?_⟩
      exact k2 M S Γ1 Γ' σ1 H ds' us Q g1 s r2 e fun σ2 g2 w2 => q σ2 g2 (w2.trans w1)
    · cases e
  · cases e
def gTp (n : Nat) (fr : List D → Ga → Sto → Option Ga) : D → Ga → Sto → Option Ga := fun d Γ S => match d with
  | .tup ds => (match lenIs n ds with
    | true => fr ds Γ S
    | false => none)
  | _ => none
theorem ztup {vs : List Nat} {es : List Expr} {k n : Nat} {fr : List D → Ga → Sto → Option Ga} (hK : X.K = C.K) (hc : X.calm = true) (h : TgDs X C es vs fr) (hn : (assignEach es X.env).length = n := by rfl) (hst : (assignEach es X.env).findIdx? (·.1) = none := by rfl) : TgD X C (.Tuple es k pos) vs (gTp n fr) := by
  obtain ⟨t, ht, k1⟩ := h
  refine ⟨gTup X.K n t, pg_tup hc ht hn hst, fun M S Γ Γ' σ H d v Q g s r e q => ?_⟩
  unfold gTp at e
  split at e
  · rename_i ds
    split at e
    · rename_i el
      obtain ⟨a, xs, rfl, ha, rl⟩ := tup_of s r rfl
      exact ⟨a, xs, rfl, hK ▸ ha, by rw [← rl.1]; exact lenIs_ok el, k1 M S Γ Γ' σ H ds xs Q g s rl e q⟩
    · cases e
  · cases e
/-- target = e -/
def sAsg (fa : DE) (gt : D → Ga → Sto → Option Ga) : DS := fun Γ S => (fa Γ S).then fun d S1 => match gt d Γ S1 with
  | some Γ1 => .nx Γ1 S1
  | none => .bad
theorem yasg {tg : Expr} {vs : List Nat} {gt : D → Ga → Sto → Option Ga} (he : PE X e (tE C W fa)) (hg : TgD X C tg vs gt) (hs : swapsWithSole [tg] e pos.line X.env = pure false := by rfl) (hw : swappedStores [tg] e X.env = pure none := by rfl)
    (h1 : (assignEach [tg] X.env).map (·.2) = [assign tg X.env] := by rfl) : PS X (.Assign [tg] e pos) (tS C W (sAsg fa gt)) := by
  obtain ⟨t, ht, k⟩ := hg
  exact (ps_asg he ht hs hw h1).by fun D σ H ⟨M, Γ, S, g, s, h⟩ => run1S g s h fun M1 d S1 x H1 l1 s1 r1 h1 => by
    split at h1
    · rename_i Γ1 e1
      exact k M1 S1 Γ Γ1 σ H1 d x _ (g.mono l1) s1 r1 e1 fun σ' g' _ => h1.nxt g' s1
    · exact h1.elim
def sSet (fa : DE) (i : Nat) : DS := fun Γ S => (fa Γ S).then fun d S1 => .nx (Γ.set i (some d)) S1
theorem yset {i : Nat} {x : Str} {pos' : Pos} (hN : X.N.Nodup) (hi : X.N[i]? = some x) (hx : Loc X.env.scope x) (he : PE X e (tE C W fa)) (hs : swapsWith e (some (.Name x pos')) pos.line X.env = pure false := by rfl) (hf : X.fn x = true ∨ X.env.scope.names.lookup x = some .local := by first | exact .inl rfl | exact .inr rfl | assumption) : PS X (.Assign [.Name x pos'] e pos) (tS C W (sSet fa i)) :=
  (ps_set hN hi hx he hs hf).by fun D σ H ⟨M, Γ, S, g, s, h⟩ => run1S g s h fun M1 d S1 x H1 l1 s1 r1 h1 => h1.nxt ((g.mono l1).set r1 i) s1
/-- a, b = x, y -/
def sPar (fa fb : DE) (i j : Nat) : DS := fun Γ S => (fa Γ S).then fun d S1 => (fb Γ S1).then fun e S2 => .nx ((Γ.set i (some d)).set j (some e)) S2
theorem runAS {C : Cfg} {M : Wd} {Γ : Ga} {S : Sto} {σ : St} {H : Hp} {E : Ends} {fr : DA} {f : List D → Sto → SRes} {K1 : List V → Hp → Prop} (g : SimG C M Γ σ) (s : Sim C M S H) (h : GoodS C (WS W) M ((fr Γ S).then f) E)
    (k : ∀ M' a S' x H', M.le M' → Sim C M' S' H' → RepL C M' a x → GoodS C (WS W) M' (f a S') E → K1 x H') : tA C W fr σ H K1 := by
  refine ⟨M, Γ, S, g, s, ?_⟩
  cases ea : fr Γ S with
  | bad => rw [ea] at h; exact h
  | exc c fs S1 => rw [ea] at h; exact fun M' c' d H' l s' r => h M' σ c' d H' l s' r
  | ok a S1 =>
    rw [ea] at h
    intro M1 x H1 l1 s1 r1
    exact k M1 a S1 x H1 l1 s1 r1 (GoodS.mono l1 h)
def sParA (fr : DA) (i j : Nat) : DS := fun Γ S => (fr Γ S).then fun ds S1 => match ds with
  | [d, e] => .nx ((Γ.set i (some d)).set j (some e)) S1
  | _ => .bad
theorem ypar {i j : Nat} {x y : Str} {a b : Expr} {fr : DA} {px py pt : Pos} {kt k2 pt2} (hc : X.calm = true) (hN : X.N.Nodup) (hi : X.N[i]? = some x) (hj : X.N[j]? = some y) (hij : i ≠ j)
    (hx : X.env.scope.names.lookup x = some .local) (hy : X.env.scope.names.lookup y = some .local) (ha : PA X [a, b] (tA C W fr)) (hw : swappedStores [.Tuple [.Name x px, .Name y py] kt pt] (.Tuple [a, b] k2 pt2) X.env = pure (some [x, y])) (hs : swapsWithSole [.Tuple [.Name x px, .Name y py] kt pt] (.Tuple [a, b] k2 pt2) pos.line X.env = pure false := by rfl) :
    PS X (.Assign [.Tuple [.Name x px, .Name y py] kt pt] (.Tuple [a, b] k2 pt2) pos) (tS C W (sParA fr i j)) :=
  (ps_par hc hN hi hj hij hx hy ha hw hs).by fun D σ H ⟨M, Γ, S, g, s, h⟩ => runAS g s h fun M1 ds S1 xs H1 l1 s1 r1 h1 => by
    split at h1
    · rename_i d e
      obtain ⟨v, us, rfl, q1, r2⟩ := r1.cons_inv
      obtain ⟨u, us', rfl, q2, r3⟩ := r2.cons_inv
      rw [r3.nil_inv]
      exact ⟨v, u, rfl, h1.nxt (((g.mono l1).set q1 i).set q2 j) s1⟩
    · exact h1.elim
end
end Pd

namespace Pd
open PySem PySem.Spec L2

/-! ### what is walked -/
/-- the iterator J gives the data ds, from whatever state behind M -/
def Gives (C : Cfg) (M : Wd) (J : It) (ds : List D) : Prop :=
  ∀ M' S H, M.le M' → Sim C M' S H → ∀ i : Nat, (ds.length ≤ i → J.stop i H) ∧ ∀ d, ds[i]? = some d → J.go i H ∧ ∀ x H', J.yld i H x H' → ∃ M'', M'.le M'' ∧ Sim C M'' S H' ∧ Rep C M'' d x
theorem Gives.mono {C : Cfg} {M M' : Wd} {J : It} {ds : List D} (l : M.le M') (g : Gives C M J ds) : Gives C M' J ds := fun M2 S H l2 s => g M2 S H (l.trans l2) s
/-- something that is walked, by data -/
def ItD (X : Cx) (C : Cfg) (W : XK) (tg iter : Expr) (f : DA) : Prop :=
  ∃ wi : TI, PI X tg iter wi ∧ ∀ (M : Wd) (Γ : Ga) (S : Sto) (σ : St) (H : Hp) (R : It → Hp → Prop), SimG C M Γ σ → Sim C M S H →
    (match f Γ S with
      | .ok ds S1 => ∀ M1 H1 J, M.le M1 → Sim C M1 S1 H1 → Gives C M1 J ds → R J H1
      | .exc c fs S1 => ∀ M' cls dd H', M.le M' → Sim C M' S1 H' → RepX C M' H' cls dd c fs → W cls dd H'
      | .bad => False) → wi σ H R
section
variable {X : Cx} {C : Cfg} {W : XK} {tg e iter : Expr} {fa : DE} {fr : DA} {pos p : Pos}
/-- over a list that stands still -/
def iFrz : D → Option (List D)
  | .lst ds => some ds
  | .frl ds => some ds
  | _ => none
def aLst (fa : DE) : DA := fun Γ S => (fa Γ S).bind fun d S1 => match iFrz d with
  | some ds => .ok ds S1
  | none => .bad
def aTup (fa : DE) : DA := fun Γ S => (fa Γ S).bind fun d S1 => match tupV d with
  | some ds => .ok ds S1
  | none => .bad
theorem gives_lst {M : Wd} {d : D} {ds : List D} {a : Addr} (r : Rep C M d (.ref a)) (h : iFrz d = some ds) : Gives C M (Itl C.K a) ds := by
  intro M' S H l s i
  obtain ⟨b, vs, e, hs, rl⟩ : ∃ b vs, V.ref a = .ref b ∧ SqL C.K H b vs ∧ RepL C M' ds vs := lst_of s (r.mono l) (by cases d <;> simp [iFrz] at h <;> simp [lstV, h])
  cases e
  refine ⟨fun hi => ⟨vs, hs, by rw [← rl.1]; exact hi⟩, fun d' hd => ?_⟩
  obtain ⟨v, hv, rv⟩ := rl.get hd
  refine ⟨⟨vs, v, hs, hv⟩, fun x H' y => ?_⟩
  obtain ⟨rfl, y⟩ := y
  have := y vs hs
  rw [hv] at this; cases this
  exact ⟨M', .refl M', s, rv⟩
theorem gives_tup {M : Wd} {d : D} {ds : List D} {a : Addr} (r : Rep C M d (.ref a)) (h : tupV d = some ds) : Gives C M (Itt C.K a) ds := by
  intro M' S H l s i
  obtain ⟨b, vs, e, hs, rl⟩ := tup_of s (r.mono l) h
  cases e
  refine ⟨fun hi => ⟨vs, hs, by rw [← rl.1]; exact hi⟩, fun d' hd => ?_⟩
  obtain ⟨v, hv, rv⟩ := rl.get hd
  refine ⟨⟨vs, v, hs, hv⟩, fun x H' y => ?_⟩
  obtain ⟨rfl, y⟩ := y
  have := y vs hs
  rw [hv] at this; cases this
  exact ⟨M', .refl M', s, rv⟩
/-- from an expression's value to the iterator -/
theorem run1I {M : Wd} {Γ : Ga} {S : Sto} {σ : St} {H : Hp} {f : D → Sto → Res (List D)} {R : It → Hp → Prop} {K1 : V → Hp → Prop} (g : SimG C M Γ σ) (s : Sim C M S H)
    (h : match (fa Γ S).bind f with
      | .ok ds S1 => ∀ M1 H1 J, M.le M1 → Sim C M1 S1 H1 → Gives C M1 J ds → R J H1
      | .exc c fs S1 => ∀ M' cls dd H', M.le M' → Sim C M' S1 H' → RepX C M' H' cls dd c fs → W cls dd H'
      | .bad => False)
    (k : ∀ M' a S' x H', M.le M' → Sim C M' S' H' → Rep C M' a x → (match f a S' with
      | .ok ds S1 => ∀ M1 H1 J, M'.le M1 → Sim C M1 S1 H1 → Gives C M1 J ds → R J H1
      | .exc c fs S1 => ∀ M2 cls dd H', M'.le M2 → Sim C M2 S1 H' → RepX C M2 H' cls dd c fs → W cls dd H'
      | .bad => False) → K1 x H') : tE C W fa σ H K1 := by
  refine ⟨M, Γ, S, g, s, ?_⟩
  cases ea : fa Γ S with
  | bad => rw [ea] at h; exact h
  | exc c fs S1 => rw [ea] at h; exact h
  | ok a S1 =>
    rw [ea] at h
    intro M1 x H1 l1 s1 r1
    refine k M1 a S1 x H1 l1 s1 r1 ?_
    have h : (match f a S1 with
      | .ok ds S1 => ∀ M1 H1 J, M.le M1 → Sim C M1 S1 H1 → Gives C M1 J ds → R J H1
      | .exc c fs S1 => ∀ M' cls dd H', M.le M' → Sim C M' S1 H' → RepX C M' H' cls dd c fs → W cls dd H'
      | .bad => False) := h
    cases ef : f a S1 with
    | bad => rw [ef] at h; exact h
    | exc c fs S2 => rw [ef] at h; exact fun M2 cls dd H' l => h M2 cls dd H' (l1.trans l)
    | ok ds S2 => rw [ef] at h; exact fun M2 H2 J l => h M2 H2 J (l1.trans l)
theorem wlst (hK : X.K = C.K) (he : PE X e (tE C W fa)) : ItD X C W tg e (aLst fa) := by
  refine ⟨_, pi_list he, fun M Γ S σ H R g s h => run1I g s h fun M1 d S1 x H1 l1 s1 r1 h1 => ?_⟩
  split at h1
  · rename_i ds S2 e1
    split at e1
    · rename_i ds' ei
      cases e1
      obtain ⟨a, vs, rfl, hs, rl⟩ : ∃ a vs, x = .ref a ∧ SqL C.K H1 a vs ∧ RepL C M1 ds vs := lst_of s1 r1 (by cases d <;> simp [iFrz] at ei <;> simp [lstV, ei])
      exact ⟨a, rfl, ⟨vs, hK ▸ hs⟩, h1 M1 H1 _ (.refl M1) s1 (by rw [hK]; exact gives_lst r1 ei)⟩
    · cases e1
  · rename_i c fs S2 e1
    split at e1 <;> cases e1
  · exact h1.elim
theorem wtup (hK : X.K = C.K) (he : PE X e (tE C W fa)) : ItD X C W tg e (aTup fa) := by
  refine ⟨_, pi_tup he, fun M Γ S σ H R g s h => run1I g s h fun M1 d S1 x H1 l1 s1 r1 h1 => ?_⟩
  split at h1
  · rename_i ds S2 e1
    split at e1
    · rename_i ds' ei
      cases e1
      obtain ⟨a, vs, rfl, hs, rl⟩ := tup_of s1 r1 ei
      exact ⟨a, rfl, ⟨vs, hK ▸ hs⟩, h1 M1 H1 _ (.refl M1) s1 (by rw [hK]; exact gives_tup r1 ei)⟩
    · cases e1
  · rename_i c fs S2 e1
    split at e1 <;> cases e1
  · exact h1.elim
/-- lo, lo + 1, .. -/
def upto (lo : Int) : Nat → List D
  | 0 => []
  | n + 1 => .int lo :: upto (lo + 1) n
theorem upto_get : ∀ (n i : Nat) (lo : Int), (upto lo n)[i]? = if i < n then some (.int (lo + i)) else none
  | 0, i, lo => by simp [upto]
  | n + 1, 0, lo => by simp [upto]
  | n + 1, i + 1, lo => by
    show (upto (lo + 1) n)[i]? = _
    rw [upto_get n i (lo + 1)]
    by_cases h : i < n
    · rw [if_pos h, if_pos (show _ by omega)]
      congr 2
      push_cast
      omega
    · rw [if_neg h, if_neg (show ¬ _ by omega)]
theorem upto_len : ∀ (n : Nat) (lo : Int), (upto lo n).length = n
  | 0, _ => rfl
  | n + 1, lo => by show (upto (lo + 1) n).length + 1 = _; rw [upto_len]
theorem gives_range {M : Wd} {lo : Int} {n : Nat} : Gives C M (Itr lo n) (upto lo n) := by
  intro M' S H l s i
  refine ⟨fun hi => by rw [upto_len] at hi; exact hi, fun d hd => ?_⟩
  rw [upto_get] at hd
  split at hd
  · rename_i h
    cases hd
    refine ⟨h, fun x H' y => ?_⟩
    obtain ⟨rfl, rfl⟩ := y
    exact ⟨M', .refl M', s, .int _⟩
  · cases hd
/-- within 62 bits -/
def mid (i : Int) : Bool := Nat.blt i.natAbs 1000000
theorem mid_ok {i : Int} (h : mid i = true) : -(2 ^ 62) ≤ i ∧ i < 2 ^ 62 := by
  have h1 : i.natAbs < 1000000 := Nat.le_of_ble_eq_true h
  constructor <;> omega
theorem runAI {M : Wd} {Γ : Ga} {S : Sto} {σ : St} {H : Hp} {f : List D → Sto → Res (List D)} {R : It → Hp → Prop} {K1 : List V → Hp → Prop} (g : SimG C M Γ σ) (s : Sim C M S H)
    (h : match (fr Γ S).bind f with
      | .ok ds S1 => ∀ M1 H1 J, M.le M1 → Sim C M1 S1 H1 → Gives C M1 J ds → R J H1
      | .exc c fs S1 => ∀ M' cls dd H', M.le M' → Sim C M' S1 H' → RepX C M' H' cls dd c fs → W cls dd H'
      | .bad => False)
    (k : ∀ M' a S' x H', M.le M' → Sim C M' S' H' → RepL C M' a x → (match f a S' with
      | .ok ds S1 => ∀ M1 H1 J, M'.le M1 → Sim C M1 S1 H1 → Gives C M1 J ds → R J H1
      | .exc c fs S1 => ∀ M2 cls dd H', M'.le M2 → Sim C M2 S1 H' → RepX C M2 H' cls dd c fs → W cls dd H'
      | .bad => False) → K1 x H') : tA C W fr σ H K1 := by
  refine ⟨M, Γ, S, g, s, ?_⟩
  cases ea : fr Γ S with
  | bad => rw [ea] at h; exact h
  | exc c fs S1 => rw [ea] at h; exact h
  | ok a S1 =>
    rw [ea] at h
    intro M1 x H1 l1 s1 r1
    refine k M1 a S1 x H1 l1 s1 r1 ?_
    have h : (match f a S1 with
      | .ok ds S1 => ∀ M1 H1 J, M.le M1 → Sim C M1 S1 H1 → Gives C M1 J ds → R J H1
      | .exc c fs S1 => ∀ M' cls dd H', M.le M' → Sim C M' S1 H' → RepX C M' H' cls dd c fs → W cls dd H'
      | .bad => False) := h
    cases ef : f a S1 with
    | bad => rw [ef] at h; exact h
    | exc c fs S2 => rw [ef] at h; exact fun M2 cls dd H' l => h M2 cls dd H' (l1.trans l)
    | ok ds S2 => rw [ef] at h; exact fun M2 H2 J l => h M2 H2 J (l1.trans l)
def rng1 : List D → Sto → Res (List D) := fun ds S => match ds with
  | [.int j] => (match mid j with
    | true => .ok (upto 0 j.toNat) S
    | false => .bad)
  | _ => .bad
def rng2 : List D → Sto → Res (List D) := fun ds S => match ds with
  | [.int i, .int j] => (match mid i && mid j with
    | true => .ok (upto i (j - i).toNat) S
    | false => .bad)
  | _ => .bad
def aBind (fr : DA) (f : List D → Sto → Res (List D)) : DA := fun Γ S => (fr Γ S).bind f
theorem wrng1 {a : Expr} (hg : Gl X "range") (hm : X.mg "range" = none) (ha : PA X [a] (tA C W fr)) (hs : starEach [a] X.env = [(false, eval a X.env)] := by rfl) : ItD X C W tg (.Call (.Name "range" p) [a] [] pos) (aBind fr rng1) := by
  refine ⟨_, pi_range1 hg hm ha hs, fun M Γ S σ H R g s h => runAI g s h fun M1 ds S1 xs H1 l1 s1 r1 h1 => ?_⟩
  unfold rng1 at h1
  split at h1
  · rename_i o S2 e1
    split at e1
    · rename_i j
      split at e1
      · rename_i hj
        cases e1
        obtain ⟨v, us, rfl, q, t⟩ := r1.cons_inv
        rw [t.nil_inv]
        cases q
        obtain ⟨m1, m2⟩ := mid_ok hj
        exact ⟨j, rfl, m1, m2, h1 M1 H1 _ (.refl M1) s1 gives_range⟩
      · cases e1
    · cases e1
  · rename_i c fs S2 e1
    split at e1
    · split at e1 <;> cases e1
    · cases e1
  · exact h1.elim
theorem wrng2 {a b : Expr} (hg : Gl X "range") (hm : X.mg "range" = none) (ha : PA X [a, b] (tA C W fr)) (hs : starEach [a, b] X.env = [(false, eval a X.env), (false, eval b X.env)] := by rfl) (hs2 : starEach [b] X.env = [(false, eval b X.env)] := by rfl) : ItD X C W tg (.Call (.Name "range" p) [a, b] [] pos) (aBind fr rng2) := by
  refine ⟨_, pi_range2 hg hm ha hs hs2, fun M Γ S σ H R g s h => runAI g s h fun M1 ds S1 xs H1 l1 s1 r1 h1 => ?_⟩
  unfold rng2 at h1
  split at h1
  · rename_i o S2 e1
    split at e1
    · rename_i i j
      split at e1
      · rename_i hj
        cases e1
        obtain ⟨v, us, rfl, q, t⟩ := r1.cons_inv
        obtain ⟨v2, us2, rfl, q2, t2⟩ := t.cons_inv
        rw [t2.nil_inv]
        cases q; cases q2
        obtain ⟨g1, g2⟩ := Bool.and_eq_true_iff.mp hj
        obtain ⟨m1, m2⟩ := mid_ok g1
        obtain ⟨m3, m4⟩ := mid_ok g2
        exact ⟨i, j, rfl, ⟨m1, m2, m3, m4⟩, h1 M1 H1 _ (.refl M1) s1 gives_range⟩
      · cases e1
    · cases e1
  · rename_i c fs S2 e1
    split at e1
    · split at e1 <;> cases e1
    · cases e1
  · exact h1.elim
/-- a text, sign by sign -/
def signs : List Nat → List D
  | [] => []
  | c :: r => .str ⟨#[c]⟩ :: signs r
theorem signs_get : ∀ (l : List Nat) (i : Nat), (signs l)[i]? = (l[i]?).map fun c => D.str ⟨#[c]⟩
  | [], i => by simp [signs]
  | c :: r, 0 => by simp [signs]
  | c :: r, i + 1 => by simp [signs, signs_get r i]
theorem signs_len : ∀ l : List Nat, (signs l).length = l.length
  | [] => rfl
  | c :: r => by show (signs r).length + 1 = _; rw [signs_len]; rfl
def aStr (fa : DE) : DA := fun Γ S => (fa Γ S).bind fun d S1 => match d with
  | .str x => .ok (signs x.cps.toList) S1
  | _ => .bad
theorem wstr (he : PE X e (tE C W fa)) : ItD X C W tg e (aStr fa) := by
  refine ⟨_, pi_str he, fun M Γ S σ H R g s h => run1I g s h fun M1 d S1 x H1 l1 s1 r1 h1 => ?_⟩
  split at h1
  · rename_i ds S2 e1
    split at e1
    · rename_i z
      cases e1
      cases r1
      refine ⟨z, rfl, h1 M1 H1 _ (.refl M1) s1 ?_⟩
      intro M' S H l s i
      refine ⟨fun hi => ?_, fun d hd => ?_⟩
      · rw [signs_len] at hi
        show z.cps.size ≤ i
        simpa using hi
      · rw [signs_get] at hd
        cases ec : z.cps.toList[i]? with
        | none => rw [ec] at hd; cases hd
        | some c =>
          rw [ec] at hd; cases hd
          have ec' : z.cps[i]? = some c := by simpa using ec
          refine ⟨?_, fun x H' y => ?_⟩
          · show i < z.cps.size
            exact (Array.getElem?_eq_some_iff.mp ec').1
          · obtain ⟨rfl, c', e1, rfl⟩ := y
            rw [ec'] at e1; cases e1
            exact ⟨M', .refl M', s, .str _⟩
    · cases e1
  · rename_i c fs S2 e1
    split at e1 <;> cases e1
  · exact h1.elim

/-! ### for -/
def loopD (gt : D → Ga → Sto → Option Ga) (body : DS) : List D → DS
  | [], Γ, S => .nx Γ S
  | d :: r, Γ, S => (match gt d Γ S with
    | some Γ1 => (match body Γ1 S with
      | .nx Γ2 S2 => loopD gt body r Γ2 S2
      | .ct Γ2 S2 => loopD gt body r Γ2 S2
      | .bk Γ2 S2 => .nx Γ2 S2
      | o => o)
    | none => .bad)
/-- what is undone behind a walk: nothing, the lock of a frozen dict, of a dict of the store -/
inductive UK where
  | no | fz | st (n : Nat)
def unl : UK → Sto → Option Sto
  | .no, S => some S
  | .fz, S => some S
  | .st n, S => (match S.at n with
    | some (.lck m) => some (S.set n m)
    | _ => none)
abbrev DI := Ga → Sto → Res (List D × UK)
def NoFrz (X : Cx) (d : Addr) : Prop := ∀ o' u', X.H_0 d ≠ some (.frz o' u')
def BackTo (X : Cx) (H H' : Hp) : Prop := H' = H ∨ ∃ d od u, H d = some (.frz od u) ∧ NoFrz X d ∧ H' = upd H d u
def EndOk (X : Cx) (C : Cfg) (M M1 : Wd) (k : UK) : Prop := ∀ M' S' S'' H', M1.le M' → Sim C M' S' H' → unl k S' = some S'' → ∃ M'' H'', M.le M'' ∧ M'.lev M'' ∧ Sim C M'' S'' H'' ∧ BackTo X H' H''
/-- something that is walked, by data, with what is undone -/
def ItU (X : Cx) (C : Cfg) (W : XK) (tg iter : Expr) (f : DI) : Prop :=
  ∃ wi : TI, PI X tg iter wi ∧ ∀ (M : Wd) (Γ : Ga) (S : Sto) (σ : St) (H : Hp) (R : It → Hp → Prop), SimG C M Γ σ → Sim C M S H →
    (match f Γ S with
      | .ok (ds, k) S1 => ∀ M1 H1 J, M.le M1 → Sim C M1 S1 H1 → Gives C M1 J ds → EndOk X C M M1 k → R J H1
      | .exc c fs S1 => ∀ M' cls dd H', M.le M' → Sim C M' S1 H' → RepX C M' H' cls dd c fs → W cls dd H'
      | .bad => False) → wi σ H R
def iNo (f : DA) : DI := fun Γ S => (f Γ S).bind fun ds S1 => .ok (ds, .no) S1
theorem end_no {M M1 : Wd} (l : M.le M1) : EndOk X C M M1 .no := fun M' S' S'' H' l1 s e => by
  cases e
  exact ⟨M', H', l.trans l1, ⟨fun _ _ h => h, fun _ _ h => h⟩, s, .inl rfl⟩
theorem ItD.u {f : DA} (h : ItD X C W tg iter f) : ItU X C W tg iter (iNo f) := by
  obtain ⟨wi, hw, k⟩ := h
  refine ⟨wi, hw, fun M Γ S σ H R g s q => k M Γ S σ H R g s ?_⟩
  have q : (match (f Γ S).bind fun ds S1 => Res.ok (ds, UK.no) S1 with
      | .ok (ds, k) S1 => ∀ M1 H1 J, M.le M1 → Sim C M1 S1 H1 → Gives C M1 J ds → EndOk X C M M1 k → R J H1
      | .exc c fs S1 => ∀ M' cls dd H', M.le M' → Sim C M' S1 H' → RepX C M' H' cls dd c fs → W cls dd H'
      | .bad => False) := q
  cases e : f Γ S with
  | bad => rw [e] at q; exact q
  | exc c fs S1 => rw [e] at q; exact q
  | ok ds S1 => rw [e] at q; exact fun M1 H1 J l s1 gv => q M1 H1 J l s1 gv (end_no l)
/-- every end, also with a lock to undo -/
def unlE (X : Cx) (E : Ends) : Ends := ⟨fun σ H => ∃ H', BackTo X H H' ∧ E.nx σ H', fun v H => ∃ H', BackTo X H H' ∧ E.rt v H', fun σ H => ∃ H', BackTo X H H' ∧ E.bk σ H', fun σ H => ∃ H', BackTo X H H' ∧ E.ct σ H'⟩
theorem BackTo.inv {pins : List (Addr × Obj)} {σ : St} {H H' : Hp} {s : Shared} (b : BackTo X H H') (I : Inv X pins σ H s) : Inv X pins σ H' s := by
  rcases b with rfl | ⟨d, od, u, h, n, rfl⟩
  · exact I
  · exact I.unlock h n
theorem ps_unl {st : Stmt} {t : TS} (h : PS X st t) : PS X st (fun E σ H => t (unlE X E) σ H) := ⟨fun pins s σ H E I q => by
  refine thn (h.run pins s σ H _ I q) fun f s1 r => ?_
  cases f with
  | next => obtain ⟨σ', H', I2, H'', b, e⟩ := r; exact ⟨σ', _, b.inv I2, e⟩
  | brk => obtain ⟨σ', H', I2, H'', b, e⟩ := r; exact ⟨σ', _, b.inv I2, e⟩
  | cont => obtain ⟨σ', H', I2, H'', b, e⟩ := r; exact ⟨σ', _, b.inv I2, e⟩
  | ret v => obtain ⟨x, σ', H', I2, rv, H'', b, e⟩ := r; exact ⟨x, σ', _, b.inv I2, rv, e⟩⟩
theorem pe_unl {e : Expr} {t : TE} (h : PE X e t) : PE X e (fun σ H Q => t σ H fun v H1 => ∃ H', BackTo X H1 H' ∧ Q v H') := ⟨fun pins s σ H Q I q => by
  refine thn (h.run pins s σ H _ I q) fun v s1 ⟨x, H1, I1, rv, H', b, q'⟩ => ?_
  exact ⟨x, H', b.inv I1, rv, q'⟩⟩
theorem SimG.monoV {M M' : Wd} {Γ : Ga} {σ : St} (l : M.lev M') (g : SimG C M Γ σ) : SimG C M' Γ σ := ⟨g.1, fun i d e => let ⟨v, a, r⟩ := g.2 i d e; ⟨v, a, r.monoV l⟩⟩
def unlS (k : UK) (r : SRes) : SRes := match r with
  | .nx Γ S => (match unl k S with
    | some S' => .nx Γ S'
    | none => .bad)
  | .rt d S => (match unl k S with
    | some S' => .rt d S'
    | none => .bad)
  | .bk Γ S => (match unl k S with
    | some S' => .bk Γ S'
    | none => .bad)
  | .ct Γ S => (match unl k S with
    | some S' => .ct Γ S'
    | none => .bad)
  | .exc c fs S => (match k with
    | .no => .exc c fs S
    | _ => .bad)
  | .bad => .bad
theorem unl_good {M M1 : Wd} {k : UK} {r : SRes} {E : Ends} (l : M.le M1) (en : EndOk X C M M1 k) (h : GoodS C (WS W) M (unlS k r) E) : GoodS C (WS W) M1 r (unlE X E) := by
  cases r with
  | bad => exact h
  | exc c fs S =>
    cases k with
    | no => exact fun M' σ' cls dd H' l' => h M' σ' cls dd H' (l.trans l')
    | fz => exact h.elim
    | st n => exact h.elim
  | nx Γ S =>
    have h : GoodS C (WS W) M (match unl k S with
      | some S' => .nx Γ S'
      | none => .bad) E := h
    split at h
    · rename_i S' e
      intro M' σ' H' l' g s
      obtain ⟨M'', H'', l2, lv, s2, b⟩ := en M' S S' H' l' s e
      exact ⟨H'', b, h M'' σ' H'' l2 (g.monoV lv) s2⟩
    · exact h.elim
  | bk Γ S =>
    have h : GoodS C (WS W) M (match unl k S with
      | some S' => .bk Γ S'
      | none => .bad) E := h
    split at h
    · rename_i S' e
      intro M' σ' H' l' g s
      obtain ⟨M'', H'', l2, lv, s2, b⟩ := en M' S S' H' l' s e
      exact ⟨H'', b, h M'' σ' H'' l2 (g.monoV lv) s2⟩
    · exact h.elim
  | ct Γ S =>
    have h : GoodS C (WS W) M (match unl k S with
      | some S' => .ct Γ S'
      | none => .bad) E := h
    split at h
    · rename_i S' e
      intro M' σ' H' l' g s
      obtain ⟨M'', H'', l2, lv, s2, b⟩ := en M' S S' H' l' s e
      exact ⟨H'', b, h M'' σ' H'' l2 (g.monoV lv) s2⟩
    · exact h.elim
  | rt d S =>
    have h : GoodS C (WS W) M (match unl k S with
      | some S' => .rt d S'
      | none => .bad) E := h
    split at h
    · rename_i S' e
      intro M' v H' l' s r
      obtain ⟨M'', H'', l2, lv, s2, b⟩ := en M' S S' H' l' s e
      exact ⟨H'', b, h M'' v H'' l2 s2 (r.monoV lv)⟩
    · exact h.elim
def sFor (fi : DI) (gt : D → Ga → Sto → Option Ga) (body : DS) : DS := fun Γ S => (fi Γ S).then fun p S1 => unlS p.2 (loopD gt body p.1 Γ S1)
theorem yfor {fi : DI} {body : List Stmt} {vs : List Nat} {fb : DS} {gt : D → Ga → Sto → Option Ga} (hp : PassesOwn (model X.prog X.w) X.A X.env X.xe) (hc : X.calm = true) (hi : ItU X C W tg iter fi) (hg : TgD X C tg vs gt) (hb : PSs X body (tS C W fb)) (hs : ∀ x, foldedSetIterable iter X.env x = pure x := by intro _; rfl) : PS X (.For tg iter body [] pos) (tS C W (sFor fi gt fb)) := by
  obtain ⟨wi, hwi, k⟩ := hi
  obtain ⟨t, ht, kt⟩ := hg
  refine (ps_unl (ps_for hp hc hwi ht hb hs)).by fun E σ H ⟨M, Γ, S, g, s, h⟩ => ?_
  refine k M Γ S σ H _ g s ?_
  have h : GoodS C (WS W) M ((fi Γ S).then fun p S1 => unlS p.2 (loopD gt fb p.1 Γ S1)) E := h
  cases e : fi Γ S with
  | bad => rw [e] at h; exact h
  | exc c fs S1 => rw [e] at h; exact fun M' cls dd H' l s' r => h M' σ cls dd H' l s' r
  | ok p S1 =>
    obtain ⟨ds, uk⟩ := p
    rw [e] at h
    have h0 : GoodS C (WS W) M (unlS uk (loopD gt fb ds Γ S1)) E := h
    clear h
    intro M1 H1 J l1 s1 gv en
    have h : GoodS C (WS W) M1 (loopD gt fb ds Γ S1) (unlE X E) := unl_good l1 en h0
    refine ⟨fun i m σ H => ∃ M' Γ' S' r, M1.le M' ∧ SimG C M' Γ' σ ∧ Sim C M' S' H ∧ r = ds.drop i ∧ m = r.length ∧ i ≤ ds.length ∧ GoodS C (WS W) M' (loopD gt fb r Γ' S') (unlE X E), ⟨_, M1, Γ, S1, ds, .refl M1, g.mono l1, s1, rfl, rfl, Nat.zero_le _, h⟩, ?_⟩
    rintro i m σ H ⟨M', Γ', S', r, l', g', s', er, em, hle, h'⟩
    obtain ⟨gs, gg⟩ := gv M' S' H l' s' i
    cases r with
    | nil =>
      have : ds.length ≤ i := by
        have := congrArg List.length er
        simp at this; omega
      exact .inl ⟨gs this, GoodS.nxt h' g' s'⟩
    | cons d r =>
      have hd : ds[i]? = some d := by
        have h1 : (ds.drop i)[0]? = some d := by rw [← er]; rfl
        simpa using h1
      have hr : r = ds.drop (i + 1) := by
        rw [show ds.drop (i + 1) = (ds.drop i).drop 1 by rw [List.drop_drop], ← er]; rfl
      have hlt : i < ds.length := (List.getElem?_eq_some_iff.mp hd).1
      obtain ⟨go, yl⟩ := gg d hd
      refine .inr ⟨go, fun σ H => ∃ M2 Γ2 S2, M1.le M2 ∧ SimG C M2 Γ2 σ ∧ Sim C M2 S2 H ∧ GoodS C (WS W) M2 (loopD gt fb r Γ2 S2) (unlE X E), fun σ' H' ⟨M2, Γ2, S2, a, b, c, q⟩ => ⟨r.length, by rw [em]; simp, M2, Γ2, S2, r, a, b, c, hr, rfl, hlt, q⟩, fun x H' y => ?_⟩
      obtain ⟨M2, l2, s2, rx⟩ := yl x H' y
      unfold loopD at h'
      cases eg : gt d Γ' S' with
      | none => rw [eg] at h'; exact h'.elim
      | some Γ1 =>
        rw [eg] at h'
        refine kt M2 S' Γ' Γ1 σ H' d x _ (g'.mono l2) s2 rx eg fun σ1 g1 _ => ⟨M2, Γ1, S', g1, s2, ?_⟩
        have h' : GoodS C (WS W) M2 (match fb Γ1 S' with
          | .nx Γ2 S2 => loopD gt fb r Γ2 S2
          | .ct Γ2 S2 => loopD gt fb r Γ2 S2
          | .bk Γ2 S2 => .nx Γ2 S2
          | o => o) (unlE X E) := GoodS.mono l2 h'
        cases eb : fb Γ1 S' with
        | nx Γ3 S3 => rw [eb] at h'; exact fun M3 σ3 H3 l3 g3 s3 => ⟨M3, Γ3, S3, (l'.trans l2).trans l3, g3, s3, GoodS.mono l3 h'⟩
        | ct Γ3 S3 => rw [eb] at h'; exact fun M3 σ3 H3 l3 g3 s3 => ⟨M3, Γ3, S3, (l'.trans l2).trans l3, g3, s3, GoodS.mono l3 h'⟩
        | bk Γ3 S3 => rw [eb] at h'; exact h'
        | rt d S3 => rw [eb] at h'; exact h'
        | exc c fs S3 => rw [eb] at h'; exact h'
        | bad => rw [eb] at h'; exact h'
/-! ### while -/
def loopW (ft : DT) (body : DS) : Nat → DS
  | 0, _, _ => .bad
  | n + 1, Γ, S => (ft Γ S).then fun k S1 => match k with
    | true => (match body Γ S1 with
      | .nx Γ2 S2 => loopW ft body n Γ2 S2
      | .ct Γ2 S2 => loopW ft body n Γ2 S2
      | .bk Γ2 S2 => .nx Γ2 S2
      | o => o)
    | false => .nx Γ S1
theorem ywhile {body : List Stmt} {c : Expr} {ft : DT} {fb : DS} (n : Nat) (hp : PassesOwn (model X.prog X.w) X.A X.env X.xe) (hc : PT X c (tT C W ft)) (hb : PSs X body (tS C W fb)) : PS X (.While c body [] pos) (tS C W (loopW ft fb n)) := by
  refine (ps_while hp hc hb).by fun E σ H ⟨M, Γ, S, g, s, h⟩ => ?_
  refine ⟨fun m σ H => ∃ M' Γ' S', SimG C M' Γ' σ ∧ Sim C M' S' H ∧ GoodS C (WS W) M' (loopW ft fb m Γ' S') E, ⟨n, M, Γ, S, g, s, h⟩, ?_⟩
  rintro m σ H ⟨M', Γ', S', g', s', h'⟩
  cases m with
  | zero => exact h'.elim
  | succ m =>
    unfold loopW at h'
    refine runTS g' s' h' fun M1 k S1 H1 l1 s1 h1 => ?_
    cases k with
    | false => exact iteF (GoodS.nxt h1 (g'.mono l1) s1)
    | true =>
      refine iteT ⟨fun σ H => ∃ M2 Γ2 S2, SimG C M2 Γ2 σ ∧ Sim C M2 S2 H ∧ GoodS C (WS W) M2 (loopW ft fb m Γ2 S2) E, fun σ' H' q => ⟨m, Nat.lt_succ_self m, q⟩, M1, Γ', S1, g'.mono l1, s1, ?_⟩
      have h1 : GoodS C (WS W) M1 (match fb Γ' S1 with
        | .nx Γ2 S2 => loopW ft fb m Γ2 S2
        | .ct Γ2 S2 => loopW ft fb m Γ2 S2
        | .bk Γ2 S2 => .nx Γ2 S2
        | o => o) E := h1
      cases eb : fb Γ' S1 with
      | nx Γ3 S3 => rw [eb] at h1; exact fun M3 σ3 H3 l3 g3 s3 => ⟨M3, Γ3, S3, g3, s3, GoodS.mono l3 h1⟩
      | ct Γ3 S3 => rw [eb] at h1; exact fun M3 σ3 H3 l3 g3 s3 => ⟨M3, Γ3, S3, g3, s3, GoodS.mono l3 h1⟩
      | bk Γ3 S3 => rw [eb] at h1; exact h1
      | rt d S3 => rw [eb] at h1; exact h1
      | exc c fs S3 => rw [eb] at h1; exact h1
      | bad => rw [eb] at h1; exact h1
end
end Pd

namespace Pd
open PySem PySem.Spec L2

/-! ### comprehensions -/
abbrev W0 : XK := fun _ _ _ => False
/-- a target within every block of this scope -/
def TgU (X : Cx) (C : Cfg) (scope : Scope) (tg : Expr) (vs : List Nat) (f : D → Ga → Sto → Option Ga) : Prop :=
  ∃ t : TG, (∀ (s : Shared) (H : Hp) (c : Addr) (cl : List (Str × Addr)) (fp : List Addr), PG (X.blk s H scope (compEnvC scope cl c X.env) fp) tg t) ∧
    ∀ (M : Wd) (S : Sto) (Γ Γ' : Ga) (σ : St) (H : Hp) (d : D) (v : V) (Q : St → Hp → Prop), SimG C M Γ σ → Sim C M S H → Rep C M d v → f d Γ S = some Γ' →
      (∀ σ', SimG C M Γ' σ' → wipe σ' vs = wipe σ vs → Q σ' H) → t v σ H Q
def TgUs (X : Cx) (C : Cfg) (scope : Scope) (ts : List Expr) (vs : List Nat) (f : List D → Ga → Sto → Option Ga) : Prop :=
  ∃ t : TGs, (∀ (s : Shared) (H : Hp) (c : Addr) (cl : List (Str × Addr)) (fp : List Addr), PGs (X.blk s H scope (compEnvC scope cl c X.env) fp) ts t) ∧
    ∀ (M : Wd) (S : Sto) (Γ Γ' : Ga) (σ : St) (H : Hp) (ds : List D) (xs : List V) (Q : St → Hp → Prop), SimG C M Γ σ → Sim C M S H → RepL C M ds xs → f ds Γ S = some Γ' →
      (∀ σ', SimG C M Γ' σ' → wipe σ' vs = wipe σ vs → Q σ' H) → t xs σ H Q
section
variable {X : Cx} {C : Cfg} {W : XK} {scope : Scope} {pos : Pos} {vs : List Nat}
theorem uname {i : Nat} {x : Str} (h : ∀ (s : Shared) (H : Hp) (c : Addr) (cl : List (Str × Addr)) (fp : List Addr), PG (X.blk s H scope (compEnvC scope cl c X.env) fp) (.Name x pos) (gName i)) (hv : i ∈ vs) : TgU X C scope (.Name x pos) vs (gN i) :=
  ⟨gName i, h, fun M S Γ Γ' σ H d v Q g s r e q => by
    cases e
    exact q _ (g.set r i) (wipe_set hv)⟩
theorem usnil : TgUs X C scope [] vs gNil := ⟨L2.gNil, fun _ _ _ _ _ => pgs_nil, fun M S Γ Γ' σ H ds xs Q g s r e q => by
  unfold gNil at e
  split at e
  · cases e; exact ⟨r.nil_inv, q σ g rfl⟩
  · cases e⟩
theorem uscons {e : Expr} {es : List Expr} {f : D → Ga → Sto → Option Ga} {fr : List D → Ga → Sto → Option Ga} (h1 : TgU X C scope e vs f) (h2 : TgUs X C scope es vs fr)
    (hs : ∀ env, (assignEach (e :: es) env).map (·.2) = assign e env :: (assignEach es env).map (·.2) := by intro _; rfl) : TgUs X C scope (e :: es) vs (gCons f fr) := by
  obtain ⟨t, ht, k⟩ := h1
  obtain ⟨u, hu, k2⟩ := h2
  refine ⟨L2.gCons t u, fun s H c cl fp => pgs_cons (ht s H c cl fp) (hu s H c cl fp) (hs _), fun M S Γ Γ' σ H ds xs Q g s r e q => ?_⟩
  unfold gCons at e
  split at e
  · rename_i d ds'
    split at e
    · rename_i Γ1 e1
      obtain ⟨v, us, rfl, r1, r2⟩ := r.cons_inv
      refine ⟨v, us, rfl, k M S Γ Γ1 σ H d v _ g s r1 e1 fun σ1 g1 w1 => ?_⟩
      exact k2 M S Γ1 Γ' σ1 H ds' us Q g1 s r2 e fun σ2 g2 w2 => q σ2 g2 (w2.trans w1)
    · cases e
  · cases e
theorem utup {es : List Expr} {k n : Nat} {fr : List D → Ga → Sto → Option Ga} (hK : X.K = C.K) (hc : X.calm = true) (h : TgUs X C scope es vs fr) (hn : ∀ env, (assignEach es env).length = n := by intro _; rfl) (hst : ∀ env, (assignEach es env).findIdx? (·.1) = none := by intro _; rfl) : TgU X C scope (.Tuple es k pos) vs (gTp n fr) := by
  obtain ⟨t, ht, k1⟩ := h
  refine ⟨gTup X.K n t, fun s H c cl fp => pg_tup hc (ht s H c cl fp) (hn _) (hst _), fun M S Γ Γ' σ H d v Q g s r e q => ?_⟩
  unfold gTp at e
  split at e
  · rename_i ds
    split at e
    · rename_i el
      obtain ⟨a, xs, rfl, ha, rl⟩ := tup_of s r rfl
      exact ⟨a, xs, rfl, hK ▸ ha, by rw [← rl.1]; exact lenIs_ok el, k1 M S Γ Γ' σ H ds xs Q g s rl e q⟩
    · cases e
  · cases e
def wipeG (Γ : Ga) : List Nat → Ga
  | [] => Γ
  | v :: vs => (wipeG Γ vs).set v none
theorem wipeG_ok {M : Wd} {Γ : Ga} {σ : St} (g : SimG C M Γ σ) : ∀ vs : List Nat, SimG C M (wipeG Γ vs) (wipe σ vs)
  | [] => g
  | v :: vs => by
    have ih := wipeG_ok g vs
    refine ⟨by show ((wipeG Γ vs).set v none).length = ((wipe σ vs).set v none).length; rw [List.length_set, List.length_set, ih.1], fun i d h => ?_⟩
    have h : ((wipeG Γ vs).set v none)[i]? = some (some d) := h
    show ∃ u, ((wipe σ vs).set v none)[i]? = some (some u) ∧ _
    by_cases hv : v = i
    · subst hv
      by_cases hl : v < (wipeG Γ vs).length
      · rw [List.getElem?_set_self hl] at h; cases h
      · rw [List.getElem?_eq_none (by simpa using hl)] at h; cases h
    · rw [List.getElem?_set_ne hv] at h ⊢
      exact ih.2 i d h
def loopC (gt : D → Ga → Sto → Option Ga) (ft : DT) (fe : DE) (Γ : Ga) (n : Nat) : List D → Sto → Option Sto
  | [], S => some S
  | d :: r, S => (match gt d Γ S with
    | some Γ1 => (match ft Γ1 S with
      | .ok true S1 => (match fe Γ1 S1 with
        | .ok e S2 => (match S2.at n with
          | some (.lst acc) => (match lineOk (acc.length + 1) with
            | true => loopC gt ft fe Γ n r (S2.set n (.lst (acc ++ [e])))
            | false => none)
          | _ => none)
        | _ => none)
      | .ok false S1 => loopC gt ft fe Γ n r S1
      | _ => none)
    | none => none)
/-- [fe for gt in fi if ft]; fin: what becomes of the new list -/
def dLc (fin : D → Sto → Res D) (fi : DI) (gt : D → Ga → Sto → Option Ga) (ft : DT) (fe : DE) (vs : List Nat) : DE := fun Γ S => (fi Γ S).bind fun p S1 => match loopC gt ft fe (wipeG Γ vs) S1.nx p.1 (S1.new (.lst [])) with
  | some S2 => (match unl p.2 S2 with
    | some S3 => fin (.ref S1.nx) S3
    | none => .bad)
  | none => .bad
def keep : D → Sto → Res D := fun d S => .ok d S
/-- what may be done with a new list in the end -/
def FinOk (C : Cfg) (W : XK) (fin : D → Sto → Res D) : Prop := ∀ (M : Wd) (S : Sto) (H : Hp) (d : D) (v : V) (Q : VK), Sim C M S H → Rep C M d v → GoodE C M (fin d S) Q W → Q v H
theorem fin_frz : FinOk C W frz := fun M S H d v Q s r q => frz_ok s r q
theorem fin_keep : FinOk C W keep := fun M S H d v Q s r q => q.ok s r
theorem lc_rd {tg iter : Expr} {fi : DI} {gt : D → Ga → Sto → Option Ga} {ft : DT} {fe : DE} {fin : D → Sto → Res D} {wi : TI} {t : TG} (hfin : FinOk C W fin)
    (k : ∀ (M : Wd) (Γ : Ga) (S : Sto) (σ : St) (H : Hp) (R : It → Hp → Prop), SimG C M Γ σ → Sim C M S H →
    (match fi Γ S with
      | .ok (ds, k) S1 => ∀ M1 H1 J, M.le M1 → Sim C M1 S1 H1 → Gives C M1 J ds → EndOk X C M M1 k → R J H1
      | .exc c fs S1 => ∀ M' cls dd H', M.le M' → Sim C M' S1 H' → RepX C M' H' cls dd c fs → W cls dd H'
      | .bad => False) → wi σ H R)
    (kt : ∀ (M : Wd) (S : Sto) (Γ Γ' : Ga) (σ : St) (H : Hp) (d : D) (v : V) (Q : St → Hp → Prop), SimG C M Γ σ → Sim C M S H → Rep C M d v → gt d Γ S = some Γ' →
      (∀ σ', SimG C M Γ' σ' → wipe σ' vs = wipe σ vs → Q σ' H) → t v σ H Q) {σ : St} {H : Hp} {Q : VK} (h : tE C W (dLc fin fi gt ft fe vs) σ H Q) : tLc wi t (tT C W0 ft) (tE C W0 fe) vs σ H fun v H1 => ∃ H', BackTo X H1 H' ∧ Q v H' := by
  obtain ⟨M, Γ, S, g, s, h⟩ := h
  refine k M Γ S σ H _ g s ?_
  have h : GoodE C M ((fi Γ S).bind fun p S1 => match loopC gt ft fe (wipeG Γ vs) S1.nx p.1 (S1.new (.lst [])) with
    | some S2 => (match unl p.2 S2 with
      | some S3 => fin (.ref S1.nx) S3
      | none => .bad)
    | none => .bad) Q W := h
  cases e : fi Γ S with
  | bad => rw [e] at h; exact h
  | exc c fs S1 => rw [e] at h; exact h
  | ok p S1 =>
    obtain ⟨ds, uk⟩ := p
    rw [e] at h
    have h : GoodE C M (match loopC gt ft fe (wipeG Γ vs) S1.nx ds (S1.new (.lst [])) with
      | some S2 => (match unl uk S2 with
        | some S3 => fin (.ref S1.nx) S3
        | none => .bad)
      | none => .bad) Q W := h
    cases el : loopC gt ft fe (wipeG Γ vs) S1.nx ds (S1.new (.lst [])) with
    | none => rw [el] at h; exact h.elim
    | some S2 =>
    rw [el] at h
    intro M1 H1 J l1 s1 gv en Dd hD
    have lb : M1.le (M1.bind S1.nx Dd) := Wd.bind_le s1
    have sb : Sim C (M1.bind S1.nx Dd) (S1.new (.lst [])) (upd H1 Dd (.lst [])) := s1.bindNew hD ⟨[], rfl, .nil⟩
    have hmu : (M1.bind S1.nx Dd).mu S1.nx = some Dd := if_pos rfl
    refine ⟨fun i m H => ∃ M' S' r, (M1.bind S1.nx Dd).le M' ∧ Sim C M' S' H ∧ r = ds.drop i ∧ m = r.length ∧ i ≤ ds.length ∧ loopC gt ft fe (wipeG Γ vs) S1.nx r S' = some S2, ⟨_, _, _, ds, .refl _, sb, rfl, rfl, Nat.zero_le _, el⟩, ?_⟩
    rintro i m H ⟨M', S', r, l', s', er, em, hle, h'⟩
    have lM : M1.le M' := lb.trans l'
    obtain ⟨gs, gg⟩ := gv M' S' H lM s' i
    cases r with
    | nil =>
      have : ds.length ≤ i := by
        have := congrArg List.length er
        simp at this; omega
      have e2 : S' = S2 := by unfold loopC at h'; exact Option.some.inj h'
      subst e2
      have h : GoodE C M (match unl uk S' with
        | some S3 => fin (.ref S1.nx) S3
        | none => .bad) Q W := h
      split at h
      · rename_i S3 e3
        obtain ⟨M'', H'', l2, lv, s2, b⟩ := en M' S' S3 H lM s' e3
        exact .inl ⟨gs this, H'', b, hfin M'' S3 H'' _ _ Q s2 (.ref (lv.2 _ _ (l'.2.1 _ _ hmu))) (GoodE.mono l2 h)⟩
      · exact h.elim
    | cons d r =>
      have hd : ds[i]? = some d := by
        have h1 : (ds.drop i)[0]? = some d := by rw [← er]; rfl
        simpa using h1
      have hr : r = ds.drop (i + 1) := by
        rw [show ds.drop (i + 1) = (ds.drop i).drop 1 by rw [List.drop_drop], ← er]; rfl
      have hlt : i < ds.length := (List.getElem?_eq_some_iff.mp hd).1
      obtain ⟨go, yl⟩ := gg d hd
      refine .inr ⟨go, fun H => ∃ M' S', (M1.bind S1.nx Dd).le M' ∧ Sim C M' S' H ∧ loopC gt ft fe (wipeG Γ vs) S1.nx r S' = some S2, fun H' ⟨M2, S3, a, b, c⟩ => ⟨r.length, by rw [em]; simp, M2, S3, r, a, b, hr, rfl, hlt, c⟩, fun x H' y => ?_⟩
      obtain ⟨M2, l2, s2, rx⟩ := yl x H' y
      unfold loopC at h'
      cases eg : gt d (wipeG Γ vs) S' with
      | none => rw [eg] at h'; cases h'
      | some Γ1 =>
        rw [eg] at h'
        have g0 : SimG C M2 (wipeG Γ vs) (wipe σ vs) := (wipeG_ok g vs).mono ((l1.trans lM).trans l2)
        refine kt M2 S' (wipeG Γ vs) Γ1 (wipe σ vs) H' d x _ g0 s2 rx eg fun σ1 g1 w1 => ⟨w1.trans (wipe_wipe σ vs), M2, Γ1, S', g1, s2, ?_⟩
        have h' : (match ft Γ1 S' with
          | .ok true S1' => (match fe Γ1 S1' with
            | .ok e S2 => (match S2.at S1.nx with
              | some (.lst acc) => (match lineOk (acc.length + 1) with
                | true => loopC gt ft fe (wipeG Γ vs) S1.nx r (S2.set S1.nx (.lst (acc ++ [e])))
                | false => none)
              | _ => none)
            | _ => none)
          | .ok false S1' => loopC gt ft fe (wipeG Γ vs) S1.nx r S1'
          | _ => none) = some S2 := h'
        cases eft : ft Γ1 S' with
        | bad => rw [eft] at h'; cases h'
        | exc c fs S3 => rw [eft] at h'; cases h'
        | ok b S3 =>
          rw [eft] at h'
          intro M3 H3 l3 s3
          cases b with
          | false => exact iteF ⟨M3, S3, (l'.trans l2).trans l3, s3, h'⟩
          | true =>
            refine iteT ⟨M3, Γ1, S3, g1.mono l3, s3, ?_⟩
            have h' : (match fe Γ1 S3 with
              | .ok e S2 => (match S2.at S1.nx with
                | some (.lst acc) => (match lineOk (acc.length + 1) with
                  | true => loopC gt ft fe (wipeG Γ vs) S1.nx r (S2.set S1.nx (.lst (acc ++ [e])))
                  | false => none)
                | _ => none)
              | _ => none) = some S2 := h'
            cases efe : fe Γ1 S3 with
            | bad => rw [efe] at h'; cases h'
            | exc c fs S3 => rw [efe] at h'; cases h'
            | ok e4 S4 =>
              rw [efe] at h'
              intro M4 y4 H4 l4 s4 r4
              have h' : (match S4.at S1.nx with
                | some (.lst acc) => (match lineOk (acc.length + 1) with
                  | true => loopC gt ft fe (wipeG Γ vs) S1.nx r (S4.set S1.nx (.lst (acc ++ [e4])))
                  | false => none)
                | _ => none) = some S2 := h'
              split at h'
              · rename_i acc ea
                split at h'
                · rename_i eo
                  have lall : (M1.bind S1.nx Dd).le M4 := ((l'.trans l2).trans l3).trans l4
                  obtain ⟨a, o, h1, h2, h3, avs, rfl, ra⟩ := s4.al _ _ ea
                  have hmu4 : M4.mu S1.nx = some Dd := lall.2.1 _ _ hmu
                  rw [hmu4] at h1; cases h1
                  refine ⟨avs, h2, by rw [← ra.1]; exact lineOk_lt eo, M4, _, lall, s4.write (m' := .lst (acc ++ [e4])) ea hmu4 ⟨_, rfl, ra.append (.cons r4 .nil)⟩, h'⟩
                · cases h'
              · cases h'
theorem xlc {elt tg iter : Expr} {ifs : List Expr} {own : List (Str × Nat)} {fi : DI} {gt : D → Ga → Sto → Option Ga} {ft : DT} {fe : DE} {fin : D → Sto → Res D} (hfin : FinOk C W fin) (hc : X.calm = true) (hN : X.N.Nodup) (hi : ItU X C W tg iter fi) (ok : BlkOk X.N X.env.scope scope own)
    (hg : TgU X C scope tg (own.map (·.2)) gt) (ht : ∀ (s : Shared) (H : Hp) (c : Addr) (cl : List (Str × Addr)) (fp : List Addr), PTs (X.blk s H scope (compEnvC scope cl c X.env) fp) ifs (tT C W0 ft))
    (he : ∀ (s : Shared) (H : Hp) (c : Addr) (cl : List (Str × Addr)) (fp : List Addr), PE (X.blk s H scope (compEnvC scope cl c X.env) fp) elt (tE C W0 fe)) (hs : ∀ x, foldedSetIterable iter X.env x = pure x := by intro _; rfl) :
    PE X (.ListComp elt [⟨tg, iter, ifs, 0⟩] scope pos) (tE C W (dLc fin fi gt ft fe (own.map (·.2)))) := by
  obtain ⟨wi, hwi, k⟩ := hi
  obtain ⟨t, htg, kt⟩ := hg
  exact (pe_unl (pe_lc hc hN hwi ok htg ht he hs)).by fun σ H Q h => lc_rd (tg := tg) (iter := iter) hfin k kt h
theorem ysetLc {i : Nat} {y : Str} {py spos : Pos} {elt tg iter : Expr} {ifs : List Expr} {own : List (Str × Nat)} {fi : DI} {gt : D → Ga → Sto → Option Ga} {ft : DT} {fe : DE} {fin : D → Sto → Res D} (hfin : FinOk C W fin) (hc : X.calm = true) (hN : X.N.Nodup) (hy : X.N[i]? = some y) (hyl : X.env.scope.names.lookup y = some .local)
    (hsw : swapsWith (.ListComp elt [⟨tg, iter, ifs, 0⟩] scope pos) (some (.Name y py)) spos.line X.env = pure true) (hi : ItU X C W tg iter fi) (ok : BlkOk X.N X.env.scope scope own)
    (hg : TgU X C scope tg (own.map (·.2)) gt) (ht : ∀ (s : Shared) (H : Hp) (c : Addr) (cl : List (Str × Addr)) (fp : List Addr), PTs (X.blk s H scope (compEnvC scope cl c X.env) fp) ifs (tT C W0 ft))
    (he : ∀ (s : Shared) (H : Hp) (c : Addr) (cl : List (Str × Addr)) (fp : List Addr), PE (X.blk s H scope (compEnvC scope cl c X.env) fp) elt (tE C W0 fe)) (hs : ∀ x, foldedSetIterable iter X.env x = pure x := by intro _; rfl) :
    PS X (.Assign [.Name y py] (.ListComp elt [⟨tg, iter, ifs, 0⟩] scope pos) spos) (tS C W (sSet (dLc fin fi gt ft fe (own.map (·.2))) i)) := by
  obtain ⟨wi, hwi, k⟩ := hi
  obtain ⟨t, htg, kt⟩ := hg
  refine (ps_unl (ps_setLc hc hN hy hyl hsw hwi ok htg ht he hs)).by fun E σ H ⟨M, Γ, S, g, s, h⟩ => ?_
  refine lc_rd (W := W) (tg := tg) (iter := iter) (fin := fin) hfin k kt (Q := fun x H1 => gName i x σ H1 E.nx) ?_
  exact run1S g s h fun M1 d S1 x H1 l1 s1 r1 h1 => h1.nxt ((g.mono l1).set r1 i) s1
def dYes : DT := fun _ S => .ok true S
theorem PTs.by {X : Cx} {e : List Expr} {t t' : TT} (h : PTs X e t) (i : ∀ σ H Q, t' σ H Q → t σ H Q) : PTs X e t' := ⟨fun pins s σ H Q I q => h.run pins s σ H Q I (i σ H Q q)⟩
theorem xtnil {X : Cx} : PTs X [] (tT C W dYes) := PTs.by pts_nil fun σ H Q ⟨M, Γ, S, g, s, h⟩ => h M H (.refl M) s
theorem xtone {X : Cx} {c : Expr} {ft : DT} (h : PT X c (tT C W ft)) : PTs X [c] (tT C W ft) := pts_one h
end
end Pd

namespace Pd
open PySem PySem.Spec L2

/-! ### methods of what is built in -/
def MtD (X : Cx) (C : Cfg) (W : XK) (id : String) (g : D → List D → Sto → Res D) : Prop :=
  ∃ r, MtR X id r ∧ ∀ M S H d ds x vs Q, Sim C M S H → Rep C M d x → RepL C M ds vs → GoodE C M (g d ds S) Q W → r x vs H Q
/-- what is seen of a receiver's type -/
def TyD (C : Cfg) (T : String) (p : Sto → D → Bool) : Prop := ∀ M S H d x, Sim C M S H → Rep C M d x → p S d = true → tyV C.K T x H
def dBM (p : Sto → D → Bool) (g : D → List D → Sto → Res D) (fo : DE) (fr : DA) : DE := fun Γ S => (fo Γ S).bind fun d S1 => guard (p S1 d) ((fr Γ S1).bind fun ds S2 => g d ds S2)
section
variable {X : Cx} {C : Cfg} {W : XK} {id T : String} {g : D → List D → Sto → Res D} {p : Sto → D → Bool} {o e : Expr} {es : List Expr} {name : Str} {apos cpos : Pos} {fo : DE} {fr : DA}
theorem xbm (hK : X.K = C.K) (pa : PlainAttrs T) (slot : Slot T name id) (hty : typeOf (.builtin id) = pure (.type "method_descriptor")) (hm : MtD X C W id g) (ty : TyD C T p) (ho : PE X o (tE C W fo)) (ha : PA X (e :: es) (tA C W fr)) (hbase : attributeBase o name X.env (eval o X.env) = eval o X.env := by rfl) (hfew : ((backTo cpos (starEach (e :: es) X.env)).all (fun x => !x.1) && (backToKw cpos (keywordEach [] X.env)).all (fun x => x.1.isSome) && decide ((e :: es).length + ([] : List Keyword).length + (if ([] : List Keyword).isEmpty then 0 else 1) < 30)) = true := by rfl) (hline : (apos.endLine == cpos.line) = true := by rfl) (hs : starEach (e :: es) X.env = (false, eval e X.env) :: starEach es X.env := by rfl) (hplain : (backTo cpos (starEach es X.env)).any (·.1) = false := by rfl) :
    PE X (.Call (.Attribute o name apos) (e :: es) [] cpos) (tE C W (dBM p g fo fr)) := by
  obtain ⟨r, hr, k⟩ := hm
  exact (pe_bm pa slot hty hr ho ha hbase hfew hline hs hplain).by fun σ H Q ⟨M, Γ, S, g, s, h⟩ => run1 g s h fun M1 d S1 x H1 l1 s1 r1 h1 => by
    obtain ⟨g1, h1⟩ := guard_ok h1
    exact ⟨hK ▸ ty M1 S1 H1 d x s1 r1 g1, runA (g.mono l1) s1 h1 fun M2 ds S2 vs H2 l2 s2 r2 h2 => k M2 S2 H2 d ds x vs Q s2 (r1.mono l2) r2 h2⟩
theorem xbm0 (hK : X.K = C.K) (pa : PlainAttrs T) (slot : Slot T name id) (hty : typeOf (.builtin id) = pure (.type "method_descriptor")) (hm : MtD X C W id g) (ty : TyD C T p) (ho : PE X o (tE C W fo))
    (hbase : attributeBase o name X.env (eval o X.env) = eval o X.env := by rfl) (hline : (apos.endLine == cpos.line) = true := by rfl) : PE X (.Call (.Attribute o name apos) [] [] cpos) (tE C W (dBM p g fo aNil)) := by
  obtain ⟨r, hr, k⟩ := hm
  exact (pe_bm0 pa slot hty hr ho hbase hline).by fun σ H Q ⟨M, Γ, S, g, s, h⟩ => run1 g s h fun M1 d S1 x H1 l1 s1 r1 h1 => by
    obtain ⟨g1, h1⟩ := guard_ok h1
    exact ⟨hK ▸ ty M1 S1 H1 d x s1 r1 g1, k M1 S1 H1 d [] x [] Q s1 r1 .nil h1⟩
def isL (S : Sto) (d : D) : Bool := match lstV S d with
  | some _ => true
  | none => false
def isS (_ : Sto) (d : D) : Bool := match d with
  | .str _ => true
  | _ => false
theorem ty_lst : TyD C "list" isL := fun M S H d x s r h => by
  unfold isL at h
  split at h
  · rename_i ds e
    obtain ⟨a, vs, rfl, q, _⟩ := lst_of s r e
    exact .inl ⟨rfl, vs, q⟩
  · cases h
theorem ty_str : TyD C "str" isS := fun M S H d x s r h => by
  unfold isS at h
  split at h
  · cases r; rfl
  · cases h

/-! ### lists that change -/
def onL (d : D) (S : Sto) (f : Nat → List D → Res D) : Res D := match d with
  | .ref n => (match S.at n with
    | some (.lst xs) => f n xs
    | _ => .bad)
  | _ => .bad
theorem onL_of {M : Wd} {S : Sto} {H : Hp} {d : D} {x : V} {Q : VK} {f : Nat → List D → Res D} (s : Sim C M S H) (r : Rep C M d x) (q : GoodE C M (onL d S f) Q W) :
    ∃ n xs a vs, S.at n = some (.lst xs) ∧ M.mu n = some a ∧ x = .ref a ∧ H a = some (.lst vs) ∧ RepL C M xs vs ∧ GoodE C M (f n xs) Q W := by
  unfold onL at q
  split at q
  · rename_i n
    split at q
    · rename_i xs e
      cases r
      rename_i a hm
      obtain ⟨b, o, h1, h2, h3, vs, rfl, r⟩ := s.al n _ e
      rw [hm] at h1; cases h1
      exact ⟨n, xs, a, vs, e, hm, rfl, h2, r, q⟩
    · exact q.elim
  · exact q.elim
def gAppend : D → List D → Sto → Res D := fun d ds S => onL d S fun n xs => match ds with
  | [y] => guard (lineOk (xs.length + 1)) (.ok .non (S.set n (.lst (xs ++ [y]))))
  | _ => .bad
/-- a list of the store is written: what comes behind -/
theorem GoodE.wrote {M : Wd} {S : Sto} {H : Hp} {n : Nat} {a : Addr} {m m' : MO} {o : HO} {d : D} {v : V} {Q : VK} (q : GoodE C M (.ok d (S.set n m')) Q W) (s : Sim C M S H) (hm : S.at n = some m) (ha : M.mu n = some a) (r : RepM C M m' o) (rd : Rep C M d v) (op : m.opn = true := by rfl) : Q v (upd H a o) :=
  q.ok (s.write hm ha r op) rd
theorem mAppend : MtD X C W "list.append" gAppend := by
  refine ⟨_, mt_append, fun M S H d ds x vs Q s r rl q => ?_⟩
  obtain ⟨n, xs, a, us, e, hm, rfl, h2, rx, q⟩ := onL_of s r q
  split at q
  · rename_i y
    obtain ⟨g, q⟩ := guard_ok q
    obtain ⟨v, ws, rfl, ry, rn⟩ := rl.cons_inv
    rw [rn.nil_inv]
    exact ⟨a, us, v, rfl, rfl, h2, by rw [← rx.1]; exact lineOk_lt g, q.wrote s e hm ⟨_, rfl, rx.append (.cons ry .nil)⟩ .non⟩
  · exact q.elim
def gExtend : D → List D → Sto → Res D := fun d ds S => onL d S fun n xs => match ds with
  | [b] => (match lstX S b with
    | some zs => guard (lineOk (xs.length + zs.length)) (.ok .non (S.set n (.lst (xs ++ zs))))
    | none => .bad)
  | _ => .bad
theorem mExtend : MtD X C W "list.extend" gExtend := by
  refine ⟨_, mt_extend, fun M S H d ds x vs Q s r rl q => ?_⟩
  obtain ⟨n, xs, a, us, e, hm, rfl, h2, rx, q⟩ := onL_of s r q
  split at q
  · rename_i b
    obtain ⟨v, ws, rfl, ry, rn⟩ := rl.cons_inv
    split at q
    · rename_i zs ez
      obtain ⟨g, q⟩ := guard_ok q
      obtain ⟨p, zv, rfl, hz, rz⟩ := lstX_of s ry ez
      rw [rn.nil_inv]
      exact ⟨a, p, us, zv, rfl, rfl, h2, hz, by rw [← rx.1, ← rz.1]; exact lineOk_ok g, q.wrote s e hm ⟨_, rfl, rx.append rz⟩ .non⟩
    · exact q.elim
  · exact q.elim
def unsnoc {α : Type} : List α → Option (List α × α)
  | [] => none
  | [x] => some ([], x)
  | x :: y :: r => (match unsnoc (y :: r) with
    | some (i, z) => some (x :: i, z)
    | none => none)
theorem unsnoc_of {α : Type} : ∀ {l i : List α} {z : α}, unsnoc l = some (i, z) → l = i ++ [z]
  | [], _, _, h => by cases h
  | [x], _, _, h => by cases h; rfl
  | x :: y :: r, i, z, h => by
    unfold unsnoc at h
    split at h
    · rename_i j w e
      cases h
      rw [unsnoc_of e]
      rfl
    · cases h
theorem RepL.snoc_inv {M : Wd} {ds : List D} {d : D} {vs : List V} (r : RepL C M (ds ++ [d]) vs) : ∃ us v, vs = us ++ [v] ∧ RepL C M ds us ∧ Rep C M d v := by
  induction ds generalizing vs with
  | nil =>
    obtain ⟨v, us, rfl, h1, h2⟩ := r.cons_inv
    rw [h2.nil_inv]
    exact ⟨[], v, rfl, .nil, h1⟩
  | cons e ds ih =>
    obtain ⟨v, us, rfl, h1, h2⟩ := RepL.cons_inv (ds := ds ++ [d]) r
    obtain ⟨ws, w, rfl, q1, q2⟩ := ih h2
    exact ⟨v :: ws, w, rfl, .cons h1 q1, q2⟩
def gPop : D → List D → Sto → Res D := fun d ds S => onL d S fun n xs => match ds with
  | [] => (match unsnoc xs with
    | some (i, z) => .ok z (S.set n (.lst i))
    | none => .bad)
  | _ => .bad
theorem mPop : MtD X C W "list.pop" gPop := by
  refine ⟨_, mt_pop, fun M S H d ds x vs Q s r rl q => ?_⟩
  obtain ⟨n, xs, a, us, e, hm, rfl, h2, rx, q⟩ := onL_of s r q
  split at q
  · split at q
    · rename_i i z eu
      have ex := unsnoc_of eu
      subst ex
      obtain ⟨ws, w, rfl, q1, q2⟩ := rx.snoc_inv
      rw [rl.nil_inv]
      refine ⟨a, _, w, rfl, rfl, h2, by simp, ?_⟩
      rw [List.dropLast_concat]
      exact q.wrote s e hm ⟨_, rfl, q1⟩ q2
    · exact q.elim
  · exact q.elim
def gReverse : D → List D → Sto → Res D := fun d ds S => onL d S fun n xs => match ds with
  | [] => .ok .non (S.set n (.lst xs.reverse))
  | _ => .bad
theorem RepL.reverse {M : Wd} {ds : List D} {vs : List V} (r : RepL C M ds vs) : RepL C M ds.reverse vs.reverse := by
  induction ds generalizing vs with
  | nil => rw [r.nil_inv]; exact .nil
  | cons d ds ih =>
    obtain ⟨v, us, rfl, h1, h2⟩ := r.cons_inv
    rw [List.reverse_cons, List.reverse_cons]; exact (ih h2).append (.cons h1 .nil)
theorem mReverse : MtD X C W "list.reverse" gReverse := by
  refine ⟨_, mt_reverse, fun M S H d ds x vs Q s r rl q => ?_⟩
  obtain ⟨n, xs, a, us, e, hm, rfl, h2, rx, q⟩ := onL_of s r q
  split at q
  · rw [rl.nil_inv]
    exact ⟨a, us, rfl, rfl, h2, q.wrote s e hm ⟨_, rfl, rx.reverse⟩ .non⟩
  · exact q.elim
/-- the place of the first equal one -/
def findD (y : D) : List D → Nat → Option Nat
  | [], _ => none
  | z :: r, j => (match eqFl z y with
    | true => some j
    | false => findD y r (j + 1))
def allFl : List D → Bool
  | [] => true
  | z :: r => (match flatD z with
    | true => allFl r
    | false => false)
def gIndex : D → List D → Sto → Res D := fun d ds S => match lstV S d, ds with
  | some xs, [y] => guard (flatD y) (guard (allFl xs) (match findD y xs 0 with
    | some j => .ok (.int j) S
    | none => .bad))
  | _, _ => .bad
theorem allFl_of {M : Wd} : ∀ {ds : List D} {vs : List V}, RepL C M ds vs → allFl ds = true → vs.all flatV = true
  | [], vs, r, _ => by rw [r.nil_inv]; rfl
  | d :: ds, vs, r, h => by
    obtain ⟨v, us, rfl, h1, h2⟩ := r.cons_inv
    unfold allFl at h
    split at h
    · rename_i e
      rw [List.all_cons, flat_of h1 e, allFl_of h2 h]; rfl
    · cases h
theorem findD_of {M : Wd} {y : D} {v : V} (ry : Rep C M y v) (fy : flatD y = true) : ∀ {ds : List D} {vs : List V} {i j : Nat}, RepL C M ds vs → allFl ds = true → findD y ds i = some j → ∃ k z, j = i + k ∧ vs[k]? = some z ∧ eqV z v = true ∧ ∀ (m : Nat) (z' : V), m < k → vs[m]? = some z' → eqV z' v = false
  | [], vs, i, j, r, _, h => by cases h
  | d :: ds, vs, i, j, r, ha, h => by
    obtain ⟨u, us, rfl, h1, h2⟩ := r.cons_inv
    unfold allFl at ha
    split at ha
    · rename_i fd
      unfold findD at h
      have e0 := eqFl_of h1 ry fd fy
      split at h
      · rename_i e
        cases h
        exact ⟨0, u, rfl, rfl, by rw [← e0]; exact e, fun m z' hm => absurd hm (Nat.not_lt_zero m)⟩
      · rename_i e
        obtain ⟨k, z, rfl, h3, h4, h5⟩ := findD_of ry fy h2 ha h
        refine ⟨k + 1, z, by omega, h3, h4, fun m z' hm hz => ?_⟩
        cases m with
        | zero => cases hz; rw [← e0]; exact e
        | succ m => exact h5 m z' (by omega) hz
    · cases ha
theorem mIndex (hK : X.K = C.K) : MtD X C W "list.index" gIndex := by
  refine ⟨_, mt_index, fun M S H d ds x vs Q s r rl q => ?_⟩
  unfold gIndex at q
  split at q
  · rename_i xs y e
    obtain ⟨fy, q⟩ := guard_ok q
    obtain ⟨fx, q⟩ := guard_ok q
    split at q
    · rename_i j ej
      obtain ⟨a, us, rfl, h1, rx⟩ := lst_of s r e
      obtain ⟨v, ws, rfl, ry, rn⟩ := rl.cons_inv
      rw [rn.nil_inv]
      obtain ⟨k, z, e1, h3, h4, h5⟩ := findD_of ry fy rx fx ej
      have e2 : j = k := by omega
      subst e2
      exact ⟨a, us, v, j, z, rfl, rfl, hK ▸ h1, flat_of ry fy, allFl_of rx fx, h3, h4, h5, q.ok s (.int _)⟩
    · exact q.elim
  · exact q.elim
end
end Pd

namespace Pd
open PySem PySem.Spec L2

/-! ### tables that change -/
section
variable {κ : Type} [DecidableEq κ] -- keys
def RepG (C : Cfg) (M : Wd) (kds : List (κ × D)) (kvs : List (κ × V)) : Prop := kds.map (·.1) = kvs.map (·.1) ∧ ∀ (i : Nat) k d k' v, kds[i]? = some (k, d) → kvs[i]? = some (k', v) → Rep C M d v
variable {C : Cfg} {M : Wd}
theorem RepG.nil : RepG C M ([] : List (κ × D)) [] := ⟨rfl, fun i k d k' v h _ => by simp at h⟩
theorem RepG.nil_inv {kvs : List (κ × V)} (r : RepG C M [] kvs) : kvs = [] := by
  cases kvs with
  | nil => rfl
  | cons p ps => have := r.1; simp at this
theorem RepG.cons {k : κ} {d : D} {v : V} {kds : List (κ × D)} {kvs : List (κ × V)} (h : Rep C M d v) (r : RepG C M kds kvs) : RepG C M ((k, d) :: kds) ((k, v) :: kvs) :=
  ⟨by simp only [List.map_cons, r.1], fun i a b c e h1 h2 => by
    cases i with
    | zero => simp at h1 h2; obtain ⟨rfl, rfl⟩ := h1; obtain ⟨rfl, rfl⟩ := h2; exact h
    | succ i => exact r.2 i a b c e (by simpa using h1) (by simpa using h2)⟩
theorem RepG.cons_inv {k0 : κ} {d : D} {rs : List (κ × D)} {kvs : List (κ × V)} (r : RepG C M ((k0, d) :: rs) kvs) : ∃ v ps, kvs = (k0, v) :: ps ∧ Rep C M d v ∧ RepG C M rs ps := by
  cases kvs with
  | nil => have := r.1; simp at this
  | cons p ps =>
    obtain ⟨k1, v⟩ := p
    have e1 : k0 = k1 ∧ rs.map (·.1) = ps.map (·.1) := by simpa using r.1
    obtain ⟨rfl, e2⟩ := e1
    exact ⟨v, ps, rfl, r.2 0 k0 d k0 v rfl rfl, e2, fun i a b c e h1 h2 => r.2 (i + 1) a b c e (by simpa using h1) (by simpa using h2)⟩
theorem RepG.length {kds : List (κ × D)} {kvs : List (κ × V)} (r : RepG C M kds kvs) : kds.length = kvs.length := by
  have := congrArg List.length r.1
  simpa using this
theorem RepG.snoc {kds : List (κ × D)} {kvs : List (κ × V)} {k : κ} {d : D} {v : V} (r : RepG C M kds kvs) (h : Rep C M d v) : RepG C M (kds ++ [(k, d)]) (kvs ++ [(k, v)]) := by
  induction kds generalizing kvs with
  | nil => rw [r.nil_inv]; exact .cons h .nil
  | cons p kds ih =>
    obtain ⟨k0, d0⟩ := p
    obtain ⟨u, ps, rfl, h1, h2⟩ := r.cons_inv
    exact .cons h1 (ih h2)
def hasG (eq : κ → κ → Bool) : List (κ × D) → κ → Bool
  | [], _ => false
  | (k0, _) :: r, k => (match eq k0 k with
    | true => true
    | false => hasG eq r k)
def repG (eq : κ → κ → Bool) : List (κ × D) → κ → D → List (κ × D)
  | [], _, _ => []
  | (k0, d0) :: r, k, d => (match eq k0 k with
    | true => (k0, d) :: repG eq r k d
    | false => (k0, d0) :: repG eq r k d)
def putG (eq : κ → κ → Bool) (kds : List (κ × D)) (k : κ) (d : D) : List (κ × D) := match hasG eq kds k with
  | true => repG eq kds k d
  | false => kds ++ [(k, d)]
variable {eq : κ → κ → Bool}
theorem hasG_of (he : ∀ a b, eq a b = true ↔ a = b) : ∀ {kds : List (κ × D)} {kvs : List (κ × V)} (k : κ), RepG C M kds kvs → hasG eq kds k = kvs.any fun kv => decide (kv.1 = k)
  | [], _, k, r => by rw [r.nil_inv]; rfl
  | (k0, d) :: rs, _, k, r => by
    obtain ⟨v, ps, rfl, h1, h2⟩ := r.cons_inv
    unfold hasG
    rw [List.any_cons]
    cases e : eq k0 k with
    | true => rw [decide_eq_true ((he _ _).mp e)]; rfl
    | false =>
      have hn : ¬ k0 = k := fun z => by rw [(he _ _).mpr z] at e; cases e
      show hasG eq rs k = _
      rw [decide_eq_false (show ¬ (k0, v).1 = k from hn), Bool.false_or]
      exact hasG_of he k h2
theorem repG_of (he : ∀ a b, eq a b = true ↔ a = b) {d : D} {v : V} (rd : Rep C M d v) : ∀ {kds : List (κ × D)} {kvs : List (κ × V)} (k : κ), RepG C M kds kvs → RepG C M (repG eq kds k d) (kvs.map fun kv => if kv.1 = k then (kv.1, v) else kv)
  | [], _, k, r => by rw [r.nil_inv]; exact .nil
  | (k0, d0) :: rs, _, k, r => by
    obtain ⟨v0, ps, rfl, h1, h2⟩ := r.cons_inv
    unfold repG
    rw [List.map_cons]
    cases e : eq k0 k with
    | true => rw [if_pos ((he _ _).mp e)]; exact .cons rd (repG_of he rd k h2)
    | false =>
      have hn : ¬ k0 = k := fun z => by rw [(he _ _).mpr z] at e; cases e
      rw [if_neg (show ¬ (k0, v0).1 = k from hn)]; exact .cons h1 (repG_of he rd k h2)
theorem putG_of (he : ∀ a b, eq a b = true ↔ a = b) {d : D} {v : V} (rd : Rep C M d v) {kds : List (κ × D)} {kvs : List (κ × V)} (k : κ) (r : RepG C M kds kvs) : RepG C M (putG eq kds k d) (putK kvs k v) := by
  have h := hasG_of he k r
  unfold putG putK
  cases e : hasG eq kds k with
  | true => rw [if_pos (by rw [← h]; exact e)]; exact repG_of he rd k r
  | false => rw [if_neg (by rw [← h, e]; decide)]; exact r.snoc rd
end

/-! ### o[i] = v -/
def onS (d : D) (S : Sto) (f : Nat → MO → Option Sto) : Option Sto := match d with
  | .ref n => (match S.at n with
    | some m => f n m
    | none => none)
  | _ => none
def ifS (b : Bool) (S : Sto) : Option Sto := match b with
  | true => some S
  | false => none
def setD {α : Type} : List α → Nat → α → List α
  | [], _, _ => []
  | _ :: r, 0, y => y :: r
  | x :: r, n + 1, y => x :: setD r n y
theorem setD_eq {α : Type} : ∀ (l : List α) (n : Nat) (y : α), setD l n y = l.set n y
  | [], n, y => rfl
  | x :: r, 0, y => rfl
  | x :: r, n + 1, y => by show x :: setD r n y = _; rw [setD_eq r n y]; rfl
/-- d[i] = v, d a dict of the store -/
def fPutD (o i v : D) (S : Sto) : Option Sto := onS o S fun n m => match m with
  | .dct kds => (match keyOf i with
    | some k => ifS (lineOk (kds.length + 1)) (S.set n (.dct (putG eqK kds k v)))
    | none => none)
  | .dtt kds => (match keyT i with
    | some k => ifS (lineOk (kds.length + 1)) (S.set n (.dtt (putG eqKs kds k v)))
    | none => none)
  | _ => none
def fPutL (o i v : D) (S : Sto) : Option Sto := onS o S fun n m => match m with
  | .lst xs => (match i with
    | .int k => (match placeD xs.length k with
      | some j => some (S.set n (.lst (setD xs j v)))
      | none => none)
    | _ => none)
  | _ => none
def fPut (o i v : D) (S : Sto) : Option Sto := match fPutL o i v S with
  | some S' => some S'
  | none => fPutD o i v S
section
variable {X : Cx} {C : Cfg} {W : XK}
theorem PSet.or {t t' : TSet} (h : PSet X t) (h' : PSet X t') : PSet X (fun o i v H Q => t o i v H Q ∨ t' o i v H Q) := by
  intro pins s σ H o i v ov iv u Q I ro ri rv q
  rcases q with q | q
  · exact h pins s σ H o i v ov iv u Q I ro ri rv q
  · exact h' pins s σ H o i v ov iv u Q I ro ri rv q
theorem RepL.set {M : Wd} {ds : List D} {vs : List V} {d : D} {v : V} (r : RepL C M ds vs) (h : Rep C M d v) : ∀ j : Nat, RepL C M (ds.set j d) (vs.set j v) := by
  induction ds generalizing vs with
  | nil => intro j; rw [r.nil_inv]; exact .nil
  | cons e ds ih =>
    intro j
    obtain ⟨u, us, rfl, h1, h2⟩ := r.cons_inv
    cases j with
    | zero => exact .cons h h2
    | succ j => exact .cons h1 (ih h2 j)
theorem dput_of {M : Wd} {S S' : Sto} {H : Hp} {o i v : D} {x y z : V} (s : Sim C M S H) (ro : Rep C M o x) (ri : Rep C M i y) (rv : Rep C M v z) (h : fPutD o i v S = some S') : ∃ a H', x = .ref a ∧ DPut H a y z H' ∧ Sim C M S' H' := by
  unfold fPutD onS at h
  split at h
  · rename_i n
    cases ro
    rename_i a hm
    split at h
    · rename_i m em
      obtain ⟨b, u, h1, h2, h3, h4⟩ := s.al n m em
      rw [hm] at h1; cases h1
      dsimp only at h
      split at h
      · rename_i kds
        obtain ⟨kvs, rfl, rx⟩ := h4
        split at h
        · rename_i k ek
          have hy := keyOf_of ri ek
          subst hy
          unfold ifS at h
          split at h
          · rename_i g
            cases h
            have rg : RepG C M kds kvs := rx
            exact ⟨a, _, rfl, .inl ⟨kvs, k, h2, rfl, by rw [← rg.length]; exact lineOk_lt g, rfl⟩, s.write em hm ⟨_, rfl, putG_of eqK_iff rv k rg⟩⟩
          · cases h
        · cases h
      · rename_i kds
        obtain ⟨kvs, rfl, rx⟩ := h4
        split at h
        · rename_i k ek
          obtain ⟨b, rfl, hb⟩ := keyT_of s ri ek
          unfold ifS at h
          split at h
          · rename_i g
            cases h
            have rg : RepG C M kds kvs := rx
            exact ⟨a, _, rfl, .inr ⟨kvs, k, b, h2, rfl, hb, by rw [← rg.length]; exact lineOk_lt g, rfl⟩, s.write em hm ⟨_, rfl, putG_of eqKs_iff rv k rg⟩⟩
          · cases h
        · cases h
      · cases h
    · cases h
  · cases h
theorem put_of {M : Wd} {S S' : Sto} {H : Hp} {o i v : D} {x y z : V} {Q : Hp → Prop} (s : Sim C M S H) (ro : Rep C M o x) (ri : Rep C M i y) (rv : Rep C M v z) (h : fPut o i v S = some S') (q : ∀ H', Sim C M S' H' → Q H') :
    rSetL x y z H Q ∨ rSetD x y z H Q := by
  unfold fPut at h
  split at h
  · rename_i S1 e
    cases h
    unfold fPutL onS at e
    split at e
    · rename_i n
      cases ro
      rename_i a hm
      split at e
      · rename_i m em
        obtain ⟨b, u, h1, h2, h3, h4⟩ := s.al n m em
        rw [hm] at h1; cases h1
        dsimp only at e
        split at e
        · rename_i xs
          obtain ⟨vs, rfl, rx⟩ := h4
          split at e
          · rename_i k
            split at e
            · rename_i j ej
              cases e
              cases ri
              rw [placeD_eq, rx.1] at ej
              rw [setD_eq] at q
              exact .inl ⟨a, vs, k, j, rfl, rfl, h2, ej, q _ (s.write em hm ⟨_, rfl, rx.set rv j⟩)⟩
            · cases e
          · cases e
        · cases e
      · cases e
    · cases e
  · obtain ⟨a, H', rfl, g, s'⟩ := dput_of s ro ri rv h
    exact .inr ⟨a, H', rfl, g, q H' s'⟩
/-- o[i] = v, as a statement: v first -/
def sPut (fv fo fi : DE) : DS := fun Γ S => (fv Γ S).then fun v S1 => (fo Γ S1).then fun o S2 => (fi Γ S2).then fun i S3 => match fPut o i v S3 with
  | some S4 => .nx Γ S4
  | none => .bad
theorem yput {o i e : Expr} {fv fo fi : DE} {pos tpos : Pos} (hu : X.A.units + 1 < cLine) (he : PE X e (tE C W fv)) (ho : PE X o (tE C W fo)) (hi : PE X i (tE C W fi))
    (hs : swapsWithSole [.Subscript o i tpos] e pos.line X.env = pure false := by rfl) (hw : swappedStores [.Subscript o i tpos] e X.env = pure none := by rfl)
    (h1 : (assignEach [.Subscript o i tpos] X.env).map (·.2) = [assign (.Subscript o i tpos) X.env] := by rfl)
    (ha : ∀ v, assign (.Subscript o i tpos) X.env v = (do let ov ← holding [v] (eval o X.env); let iv ← holding [v, ov] (eval i X.env); standAt tpos; holding [v, ov, iv] (setItem ov iv v); release [v, ov, iv] []) := by intro _; rfl) : PS X (.Assign [.Subscript o i tpos] e pos) (tS C W (sPut fv fo fi)) :=
  (ps_asg he (pg_sub ho hi (PSet.or set_list (set_dict hu)) ha) hs hw h1).by fun D σ H ⟨M, Γ, S, g, s, h⟩ => run1S g s h fun M1 v S1 z H1 l1 s1 r1 h1 =>
    run1S (g.mono l1) s1 h1 fun M2 o S2 x H2 l2 s2 r2 h2 => run1S (g.mono (l1.trans l2)) s2 h2 fun M3 i S3 y H3 l3 s3 r3 h3 => by
      split at h3
      · rename_i S4 e4
        exact put_of s3 (r2.mono l3) r3 (r1.mono (l2.trans l3)) e4 fun H' s' => h3.nxt (g.mono ((l1.trans l2).trans l3)) s'
      · exact h3.elim

/-! ### o.f = v -/
def fSetA (c j : Nat) (o v : D) (S : Sto) : Option Sto := onS o S fun n m => match m with
  | .ins c' fs => (match Nat.beq c' c with
    | true => ifS (Nat.blt fs.length 100) (S.set n (.ins c' (putA fs j v)))
    | false => none)
  | _ => none
def sSetA (c j : Nat) (fv fo : DE) : DS := fun Γ S => (fv Γ S).then fun v S1 => (fo Γ S1).then fun o S2 => match fSetA c j o v S2 with
  | some S3 => .nx Γ S3
  | none => .bad
theorem yseta {c j : Nat} {o e : Expr} {m : Str} {fv fo : DE} {pos tpos : Pos} (hK : X.K = C.K) (nd : C.an.Nodup) (hj : C.an[j]? = some m) (cl : Cls X.K (C.ga c)) (na : NoAttr X.K (C.ga c) m) (he : PE X e (tE C W fv)) (ho : PE X o (tE C W fo))
    (hs : swapsWith e (some (.Attribute o m tpos)) pos.line X.env = pure false := by rfl) : PS X (.Assign [.Attribute o m tpos] e pos) (tS C W (sSetA c j fv fo)) :=
  (ps_fld ho he hs).by fun D σ H ⟨M, Γ, S, g, s, h⟩ => run1S g s h fun M1 v S1 z H1 l1 s1 r1 h1 =>
    run1S (g.mono l1) s1 h1 fun M2 o S2 x H2 l2 s2 r2 h2 => by
      split at h2
      · rename_i S3 e3
        unfold fSetA onS at e3
        split at e3
        · rename_i n
          cases r2
          rename_i a hm
          split at e3
          · rename_i mo em
            obtain ⟨b, u, q1, q2, q3, q4⟩ := s2.al n mo em
            rw [hm] at q1; cases q1
            dsimp only at e3
            split at e3
            · rename_i c' fs
              obtain ⟨dx, fv', rfl, rf⟩ := q4
              split at e3
              · rename_i ec
                have := Nat.eq_of_beq_eq_true ec
                subst this
                unfold ifS at e3
                split at e3
                · rename_i gl
                  cases e3
                  have hl : fs.length < 100 := Nat.le_of_ble_eq_true gl
                  rw [rf.length] at hl
                  refine ⟨a, C.ga c', dx, fv', rfl, q2, cl, na, by omega, ?_⟩
                  exact h2.nxt (g.mono (l1.trans l2)) (s2.write em hm ⟨dx, _, rfl, putA_of nd hj (r1.mono l2) rf⟩)
                · cases e3
              · cases e3
            · cases e3
          · cases e3
        · cases e3
      · exact h2.elim
end
end Pd

namespace Pd
open PySem PySem.Spec L2

/-! ### dict displays -/
abbrev DP := Ga → Sto → Res (List (D × D))
def RepP (C : Cfg) (M : Wd) (ps : List (D × D)) (vs : List (V × V)) : Prop := Paired (fun p q => Rep C M p.1 q.1 ∧ Rep C M p.2 q.2) ps vs
def GoodP (C : Cfg) (M : Wd) (r : Res (List (D × D))) (Q : List (V × V) → Hp → Prop) (E : XK) : Prop := match r with
  | .ok a S => ∀ M' vs H', M.le M' → Sim C M' S H' → RepP C M' a vs → Q vs H'
  | .exc c fs S => ∀ M' cls dd H', M.le M' → Sim C M' S H' → RepX C M' H' cls dd c fs → E cls dd H'
  | .bad => False
abbrev TPp := St → Hp → (List (V × V) → Hp → Prop) → Prop
def tP (C : Cfg) (W : XK) (f : DP) : TPp := fun σ H Q => ∃ M Γ S, SimG C M Γ σ ∧ Sim C M S H ∧ GoodP C M (f Γ S) Q W
/-- the pairs of a display, by a reading -/
structure PPd (X : Cx) (pos : Pos) (ks : List (Option Expr)) (es : List Expr) (t : TPp) : Prop where
  go : ∀ (pn : List (Addr × Obj)) (s0 : Shared) (σ0 : St) (H0 : Hp) (R : List (V × V) → Hp → Prop), Inv X pn σ0 H0 s0 → t σ0 H0 R →
    wpAny (model X.prog X.w) X.A (evalPairs (pairTrees ks es X.env pos)) (fun us s1 => ∃ qs H1, Inv X pn σ0 H1 s1 ∧ VV qs us ∧ R qs H1) X.xe s0
section
variable {X : Cx} {C : Cfg} {W : XK} {pos : Pos}
theorem RepP.mono {M M' : Wd} (l : M.le M') {ps : List (D × D)} {vs : List (V × V)} (r : RepP C M ps vs) : RepP C M' ps vs := Paired.mapP r fun _ _ h => ⟨h.1.mono l, h.2.mono l⟩
theorem GoodP.mono {M M' : Wd} (l : M.le M') {r : Res (List (D × D))} {Q : List (V × V) → Hp → Prop} (g : GoodP C M r Q W) : GoodP C M' r Q W := by
  cases r with
  | ok a S => exact fun M2 v H' l2 => g M2 v H' (l.trans l2)
  | exc c fs S => exact fun M2 c' d H' l2 => g M2 c' d H' (l.trans l2)
  | bad => exact g
def pNil : DP := fun _ S => .ok [] S
def pCons (fk fv : DE) (fp : DP) : DP := fun Γ S => (fk Γ S).bind fun k S1 => (fv Γ S1).bind fun v S2 => (fp Γ S2).bind fun ps S3 => .ok ((k, v) :: ps) S3
theorem ppnil : PPd X pos [] [] (tP C W pNil) := ⟨fun pn s0 σ0 H0 R I h => by
  obtain ⟨M, Γ, S, g, s, h⟩ := h
  exact pairTrees_nil_walk ⟨[], H0, I, .nil, h M [] H0 (.refl M) s .nil⟩⟩
/-- from an expression to the pairs -/
theorem run1P {M : Wd} {Γ : Ga} {S : Sto} {σ : St} {H : Hp} {fa : DE} {f : D → Sto → Res (List (D × D))} {Q : List (V × V) → Hp → Prop} {K1 : V → Hp → Prop} (g : SimG C M Γ σ) (s : Sim C M S H) (h : GoodP C M ((fa Γ S).bind fun a S1 => f a S1) Q W)
    (k : ∀ M' a S' x H', M.le M' → Sim C M' S' H' → Rep C M' a x → GoodP C M' (f a S') Q W → K1 x H') : tE C W fa σ H K1 := by
  refine ⟨M, Γ, S, g, s, ?_⟩
  cases ea : fa Γ S with
  | bad => rw [ea] at h; exact h
  | exc c fs S1 => rw [ea] at h; exact h
  | ok a S1 =>
    rw [ea] at h
    intro M1 x H1 l1 s1 r1
    exact k M1 a S1 x H1 l1 s1 r1 (GoodP.mono l1 h)
theorem ppcons {k v : Expr} {ks : List (Option Expr)} {es : List Expr} {fk fv : DE} {fp : DP} (hk : PE X k (tE C W fk)) (hv : PE X v (tE C W fv)) (hr : PPd X pos ks es (tP C W fp)) : PPd X pos (some k :: ks) (v :: es) (tP C W (pCons fk fv fp)) := ⟨fun pn s0 σ0 H0 R I h => by
  obtain ⟨M, Γ, S, g, s, h⟩ := h
  have t0 : tE C W fk σ0 H0 fun x H1 => tE C W fv σ0 H1 fun y H2 => tP C W fp σ0 H2 fun qs H3 => R ((x, y) :: qs) H3 :=
    run1P g s h fun M1 a S1 x H1 l1 s1 r1 h1 => run1P (g.mono l1) s1 h1 fun M2 b S2 y H2 l2 s2 r2 h2 => by
      refine ⟨M2, Γ, S2, g.mono (l1.trans l2), s2, ?_⟩
      cases ep : fp Γ S2 with
      | bad => rw [ep] at h2; exact h2
      | exc c fs S3 => rw [ep] at h2; exact h2
      | ok ps S3 =>
        rw [ep] at h2
        intro M3 qs H3 l3 s3 r3
        exact h2 M3 ((x, y) :: qs) H3 l3 s3 (.cons ⟨r1.mono (l2.trans l3), r2.mono l3⟩ r3)
  exact pairTrees_cons_walk (thn (hk.run pn s0 σ0 H0 _ I t0) fun u s1 ⟨x, H1, I1, rx, t1⟩ => thn (hv.run pn s1 σ0 H1 _ I1 t1) fun u2 s2 ⟨y, H2, I2, ry, t2⟩ =>
    thn (hr.go pn s2 σ0 H2 _ I2 t2) fun us s3 ⟨qs, H3, I3, rel, t3⟩ => ⟨(x, y) :: qs, H3, I3, .cons ⟨rx, ry⟩ rel, t3⟩)⟩

/-- a pair is laid into a dict, by the walk's own means -/
theorem laid_one {pn : List (Addr × Obj)} {σ : St} {H H' : Hp} {s : Shared} {E : Value → Shared → Prop} {a : Addr} {y z : V} {u r : Value} {R : PUnit → Shared → Prop} (hu : X.A.units < cLine) (I : Inv X pn σ H s) (g : DPut H a y z H') (ry : RelV y u) (rz : RelV z r) (k : ∀ s', Inv X pn σ H' s' → R () s') :
    wpAny (model X.prog X.w) X.A (dictSet a u r) R E s := by
  rcases g with ⟨kvs, key, e, rfl, l, rfl⟩ | ⟨kvs, key, b, e, rfl, eb, l, rfl⟩
  · exact d_dictSet I e l ry rz k
  · cases ry
    obtain ⟨z0, hd, xs, rel, dd⟩ := dt_of I.hok e
    have few : (putK kvs key z).length ≤ sizeLine := Nat.le_trans (length_putK kvs key z) l
    refine wpAny_dictSet_heap (knd := tupleKind (mixKind X.prog X.w)) (hsz := by rw [← Paired.length rel]; exact z0) hu (key_of I.hok eb) dd fun h1 dd1 sb => k _ ?_
    obtain ⟨q, es, ep, hq, g1, g2, g3, _, g4⟩ := dd1
    have still : ∀ c ys, H c = some (.tup ys) → upd H a (.dT (putK kvs key z)) c = some (.tup ys) := fun c ys ec => (upd_ne (fun w => by rw [w, e] at ec; cases ec)).trans ec
    exact d_write I (by rw [e]; exact True.intro) sb ⟨q, hq⟩ ⟨few, hd, _, (rel.put key eb rz).keeps still, q, es, ep, hq, g1, g2, g3, g4⟩
def putAll (n : Nat) : List (D × D) → Sto → Option Sto
  | [], S => some S
  | (k, v) :: r, S => (match fPutD (.ref n) k v S with
    | some S1 => putAll n r S1
    | none => none)
theorem laid_all {pn : List (Addr × Obj)} {σ : St} {E : Value → Shared → Prop} {a : Addr} {n : Nat} {R : PUnit → Shared → Prop} (hu : X.A.units < cLine) {M : Wd} (hm : M.mu n = some a) : ∀ {ps : List (D × D)} {vs : List (V × V)} {us : List (Value × Value)} {S S' : Sto} {H : Hp} {s : Shared}, Inv X pn σ H s → Sim C M S H → RepP C M ps vs → VV vs us → putAll n ps S = some S' →
    (∀ H' s', Inv X pn σ H' s' → Sim C M S' H' → R () s') → wpAny (model X.prog X.w) X.A (storeAll a us) R E s
  | [], _, _, S, S', H, s, I, sm, r, rv, e, k => by
    cases r
    cases rv
    cases e
    unfold storeAll
    rw [List.forIn_nil]
    exact wpAny_pure (k H s I sm)
  | (d1, d2) :: ps, _, _, S, S', H, s, I, sm, r, rv, e, k => by
    cases r with
    | cons r1 rr =>
      cases rv with
      | cons v1 vr =>
        unfold putAll at e
        split at e
        · rename_i S1 e1
          obtain ⟨b, H1, eb, g, sm1⟩ := dput_of sm (.ref hm) r1.1 r1.2 e1
          cases eb
          unfold storeAll
          rw [List.forIn_cons]
          exact wpAny_bind (wpAny_bind (laid_one hu I g v1.1 v1.2 fun s1 I1 => wpAny_pure (laid_all hu hm I1 sm1 rr vr e k)))
        · cases e
def few15 : List (Option Expr) → Bool := fun l => Nat.ble l.length 15
def newD (b : Bool) : MO := match b with
  | true => .dtt []
  | false => .dct []
/-- {k: v, ..}; b: the keys are tuples -/
def dDisp (b : Bool) (fp : DP) : DE := fun Γ S => (fp Γ (S.new (newD b))).bind fun ps S1 => match putAll S.nx ps S1 with
  | some S2 => .ok (.ref S.nx) S2
  | none => .bad
theorem xdisp (b : Bool) {ks : List (Option Expr)} {es : List Expr} {fp : DP} (hu : X.A.units < cLine) (h : PPd X pos ks es (tP C W fp)) (hall : ks.all (·.isSome) = true := by rfl) (hl : ks.length = es.length := by rfl) (h0 : ks ≠ [] := by exact fun z => nomatch z) (h15 : few15 ks = true := by rfl) :
    PE X (.Dict ks es pos) (tE C W (dDisp b fp)) := ⟨fun pn s0 σ0 H0 Q I q => by
  obtain ⟨M, Γ, S, g, sm, q⟩ := q
  have hn := I.hok.fresh (Nat.le_refl s0.heap.objs.size)
  refine wpAny_Dict_any hall hl h0 (Nat.le_of_ble_eq_true h15) ?_
  have start : ∃ o, RepM C M (newD b) o ∧ Inv X pn σ0 (upd H0 s0.heap.objs.size o) { s0 with heap := s0.heap.push { cls := .type "dict", data := .dict #[] } } := by
    cases b with
    | true => exact ⟨.dT [], ⟨[], rfl, RepG.nil⟩, I.laid (t' := s0.toks) (fun _ _ e => Heap.get?_push_of_some _ e) (Nat.le_refl _) (dt_empty s0.heap I.big)⟩
    | false => exact ⟨.dK [], ⟨[], rfl, RepG.nil⟩, I.laid (t' := s0.toks) (fun _ _ e => Heap.get?_push_of_some _ e) (Nat.le_refl _) (dk_empty s0.heap I.big)⟩
  obtain ⟨o, ro, I1⟩ := start
  have l1 := Wd.bind_le sm (a := s0.heap.objs.size)
  have sm1 := sm.bindNew hn ro
  have hm : (M.bind S.nx s0.heap.objs.size).mu S.nx = some s0.heap.objs.size := if_pos rfl
  have t : tP C W fp σ0 (upd H0 s0.heap.objs.size o) fun qs H2 => ∃ M2 S1 S2 ps, (M.bind S.nx s0.heap.objs.size).le M2 ∧ Sim C M2 S1 H2 ∧ RepP C M2 ps qs ∧ putAll S.nx ps S1 = some S2 ∧ GoodE C M2 (.ok (.ref S.nx) S2) Q W := by
    refine ⟨_, Γ, S.new (newD b), g.mono l1, sm1, ?_⟩
    unfold dDisp at q
    cases ep : fp Γ (S.new (newD b)) with
    | bad => rw [ep] at q; exact q
    | exc c fs S1 => rw [ep] at q; exact fun M2 c' d H' l s r => q M2 c' d H' (l1.trans l) s r
    | ok ps S1 =>
      rw [ep] at q
      intro M2 qs H2 l2 s2 r2
      have q : GoodE C M (match putAll S.nx ps S1 with
        | some S2 => .ok (.ref S.nx) S2
        | none => .bad) Q W := q
      split at q
      · rename_i S2 e2
        exact ⟨M2, S1, S2, ps, l2, s2, r2, e2, q.mono (l1.trans l2)⟩
      · exact q.elim
  refine thn (h.go pn _ σ0 _ _ I1 t) fun us s2 ⟨qs, H2, I2, rel, M2, S1, S2, ps, l2, sm2, rp, ea, q2⟩ => ?_
  have hm2 := l2.2.1 _ _ hm
  exact laid_all hu hm2 I2 sm2 rp rel ea fun H3 s3 I3 sm3 => ⟨.ref s0.heap.objs.size, H3, I3, rfl, q2.ok sm3 (.ref hm2)⟩⟩
/-- {} -/
def dNewD (b : Bool) : DE := fun _ S => .ok (.ref S.nx) (S.new (newD b))
theorem xnewd (b : Bool) : PE X (.Dict [] [] pos) (tE C W (dNewD b)) := by
  cases b with
  | true => exact pe_dnewT.by fun σ H Q ⟨M, Γ, S, g, s, h⟩ => fun p hp => newSto h s ⟨[], rfl, RepG.nil⟩ hp
  | false => exact pe_dnewK.by fun σ H Q ⟨M, Γ, S, g, s, h⟩ => fun p hp => newSto h s ⟨[], rfl, RepG.nil⟩ hp
end
end Pd

namespace Pd
open PySem PySem.Spec L2

/-! ### dict.get -/
def getD (a b : D) (S : Sto) : Option (Option D) := match dttV S a with
  | some kds => (match keyT b with
    | some k => some (lookT kds k)
    | none => none)
  | none => (match dctV S a with
    | some kds => (match keyOf b with
      | some k => some (lookK kds k)
      | none => none)
    | none => none)
def isD (S : Sto) (d : D) : Bool := match dttV S d with
  | some _ => true
  | none => (match dctV S d with
    | some _ => true
    | none => false)
section
variable {X : Cx} {C : Cfg} {W : XK} {M : Wd} {S : Sto} {H : Hp} {a b : D} {x y : V}
def RepO (C : Cfg) (M : Wd) (o : Option D) (ov : Option V) : Prop := match o with
  | some d => ∃ v, ov = some v ∧ Rep C M d v
  | none => ov = none
theorem isD_of (s : Sim C M S H) (r : Rep C M a x) (h : isD S a = true) : ∃ p, x = .ref p ∧ IsD H p := by
  unfold isD at h
  split at h
  · rename_i k e
    obtain ⟨p, kvs, rfl, h1, _⟩ := dtt_of s r e
    exact ⟨p, rfl, .inr ⟨kvs, h1⟩⟩
  · split at h
    · rename_i k e
      obtain ⟨p, kvs, rfl, h1, _⟩ := dct_of s r e
      exact ⟨p, rfl, .inl ⟨kvs, h1⟩⟩
    · cases h
theorem getD_of {o : Option D} (s : Sim C M S H) (ra : Rep C M a x) (rb : Rep C M b y) (h : getD a b S = some o) : ∃ p ov, x = .ref p ∧ DGet H p y ov ∧ RepO C M o ov := by
  unfold getD at h
  split at h
  · rename_i kds e
    split at h
    · rename_i k ek
      cases h
      obtain ⟨p, kvs, rfl, h1, r1⟩ := dtt_of s ra e
      obtain ⟨q, rfl, hq⟩ := keyT_of s rb ek
      exact ⟨p, valV kvs k, rfl, .inr ⟨kvs, k, q, h1, rfl, hq, rfl⟩, lookT_of k r1⟩
    · cases h
  · split at h
    · rename_i kds e
      split at h
      · rename_i k ek
        cases h
        obtain ⟨p, kvs, rfl, h1, r1⟩ := dct_of s ra e
        have hy := keyOf_of rb ek
        subst hy
        exact ⟨p, valV kvs k, rfl, .inl ⟨kvs, k, h1, rfl, rfl⟩, lookK_of k r1⟩
      · cases h
    · cases h
end
def dGet1 (fo fi : DE) : DE := fun Γ S => (fo Γ S).bind fun a S1 => guard (isD S1 a) ((fi Γ S1).bind fun b S2 => match getD a b S2 with
  | some (some d) => .ok d S2
  | some none => .ok .non S2
  | none => .bad)
def dGet2 (fo fi ff : DE) : DE := fun Γ S => (fo Γ S).bind fun a S1 => guard (isD S1 a) ((fi Γ S1).bind fun b S2 => (ff Γ S2).bind fun z S3 => match getD a b S3 with
  | some (some d) => .ok d S3
  | some none => .ok z S3
  | none => .bad)
section
variable {X : Cx} {C : Cfg} {W : XK} {o e f : Expr} {fo fi ff : DE} {apos cpos : Pos}
theorem xget1 (hu : X.A.units + 1 < cLine) (ho : PE X o (tE C W fo)) (hi : PE X e (tE C W fi)) (m : L2.M1 X o "get" apos e cpos) : PE X (.Call (.Attribute o "get" apos) [e] [] cpos) (tE C W (dGet1 fo fi)) :=
  (pe_dget1 hu ho hi m).by fun σ H Q ⟨M, Γ, S, g, s, h⟩ => run1 g s h fun M1 a S1 x H1 l1 s1 r1 h1 => by
    obtain ⟨gd, h1⟩ := guard_ok h1
    obtain ⟨p, rfl, hp⟩ := isD_of s1 r1 gd
    refine ⟨p, rfl, hp, run1 (g.mono l1) s1 h1 fun M2 b S2 y H2 l2 s2 r2 h2 => ?_⟩
    split at h2
    · rename_i d e
      obtain ⟨p', ov, ep, hg, v, rfl, rv⟩ := getD_of s2 (r1.mono l2) r2 e
      cases ep
      exact ⟨_, hg, h2.ok s2 rv⟩
    · rename_i e
      obtain ⟨p', ov, ep, hg, eo⟩ := getD_of s2 (r1.mono l2) r2 e
      cases ep
      exact ⟨_, hg, by rw [show ov = none from eo]; exact h2.ok s2 .non⟩
    · exact h2.elim
theorem xget2 (hu : X.A.units + 1 < cLine) (ho : PE X o (tE C W fo)) (hi : PE X e (tE C W fi)) (hf : PE X f (tE C W ff)) (m : L2.M2 X o "get" apos e f cpos) : PE X (.Call (.Attribute o "get" apos) [e, f] [] cpos) (tE C W (dGet2 fo fi ff)) :=
  (pe_dget2 hu ho hi hf m).by fun σ H Q ⟨M, Γ, S, g, s, h⟩ => run1 g s h fun M1 a S1 x H1 l1 s1 r1 h1 => by
    obtain ⟨gd, h1⟩ := guard_ok h1
    obtain ⟨p, rfl, hp⟩ := isD_of s1 r1 gd
    refine ⟨p, rfl, hp, run1 (g.mono l1) s1 h1 fun M2 b S2 y H2 l2 s2 r2 h2 => run1 (g.mono (l1.trans l2)) s2 h2 fun M3 z S3 w H3 l3 s3 r3 h3 => ?_⟩
    split at h3
    · rename_i d e
      obtain ⟨p', ov, ep, hg, v, rfl, rv⟩ := getD_of s3 (r1.mono (l2.trans l3)) (r2.mono l3) e
      cases ep
      exact ⟨_, hg, h3.ok s3 rv⟩
    · rename_i e
      obtain ⟨p', ov, ep, hg, eo⟩ := getD_of s3 (r1.mono (l2.trans l3)) (r2.mono l3) e
      cases ep
      exact ⟨_, hg, by rw [show ov = none from eo]; exact h3.ok s3 r3⟩
    · exact h3.elim
end

/-! ### slices -/
abbrev DO := Ga → Sto → Res (Option Int)
def GoodO (C : Cfg) (M : Wd) (r : Res (Option Int)) (Q : Option Int → Hp → Prop) (E : XK) : Prop := match r with
  | .ok a S => ∀ M' H', M.le M' → Sim C M' S H' → Q a H'
  | .exc c fs S => ∀ M' cls dd H', M.le M' → Sim C M' S H' → RepX C M' H' cls dd c fs → E cls dd H'
  | .bad => False
def PtD (X : Cx) (C : Cfg) (W : XK) (lo : Option Expr) (f : DO) : Prop := ∃ t, PO X lo t ∧ ∀ σ H R, (∃ M Γ S, SimG C M Γ σ ∧ Sim C M S H ∧ GoodO C M (f Γ S) R W) → t σ H R
def oNone : DO := fun _ S => .ok none S
def ixO (d : D) (S : Sto) : Res (Option Int) := match d with
  | .int i => .ok (some i) S
  | _ => .bad
def oSome (fa : DE) : DO := fun Γ S => (fa Γ S).bind ixO
section
variable {X : Cx} {C : Cfg} {W : XK}
theorem GoodO.mono {M M' : Wd} (l : M.le M') {r : Res (Option Int)} {Q : Option Int → Hp → Prop} (g : GoodO C M r Q W) : GoodO C M' r Q W := by
  cases r with
  | ok a S => exact fun M2 H' l2 => g M2 H' (l.trans l2)
  | exc c fs S => exact fun M2 c' d H' l2 => g M2 c' d H' (l.trans l2)
  | bad => exact g
theorem ptnone : PtD X C W none oNone := ⟨_, po_none, fun σ H R ⟨M, Γ, S, g, s, h⟩ => h M H (.refl M) s⟩
theorem ptsome {e : Expr} {fa : DE} (he : PE X e (tE C W fa)) : PtD X C W (some e) (oSome fa) := ⟨_, po_some he, fun σ H R ⟨M, Γ, S, g, s, h⟩ => by
  refine ⟨M, Γ, S, g, s, ?_⟩
  unfold oSome at h
  cases ea : fa Γ S with
  | bad => rw [ea] at h; exact h
  | exc c fs S1 => rw [ea] at h; exact h
  | ok d S1 =>
    rw [ea] at h
    intro M1 x H1 l1 s1 r1
    have h : GoodO C M (ixO d S1) R W := h
    unfold ixO at h
    split at h
    · cases r1; exact ⟨_, rfl, h M1 H1 l1 s1⟩
    · exact h.elim⟩
end
def sixD (n d : Nat) : Option Int → Nat
  | none => d
  | some (.ofNat k) => (match Nat.ble k n with
    | true => k
    | false => n)
  | some (.negSucc k) => n - (k + 1)
theorem sixD_eq (n d : Nat) : ∀ o, sixD n d o = HT.sIx n d o
  | none => rfl
  | some (.ofNat k) => by
    have e0 : HT.sIx n d (some (Int.ofNat k)) = min k n := HT.sIx_nat n d k
    rw [e0]
    show (match Nat.ble k n with
      | true => k
      | false => n) = min k n
    cases e : Nat.ble k n with
    | true => rw [Nat.min_eq_left (Nat.le_of_ble_eq_true e)]
    | false =>
      have hn : ¬ k ≤ n := fun z => by rw [Nat.ble_eq_true_of_le z] at e; cases e
      rw [Nat.min_eq_right (by omega)]
  | some (.negSucc k) => by
    show n - (k + 1) = if (Int.negSucc k) < 0 then (Int.negSucc k + (n : Int)).toNat else _
    rw [if_pos (Int.negSucc_lt_zero k)]
    omega
def cutD {α : Type} (xs : List α) (lo hi : Option Int) : List α := (xs.drop (sixD xs.length 0 lo)).take (sixD xs.length xs.length hi - sixD xs.length 0 lo)
/-- not the whole of it -/
def partD (n : Nat) (lo hi : Option Int) : Bool := match Nat.beq (sixD n 0 lo) 0 with
  | true => !(Nat.beq (sixD n n hi) n)
  | false => true
def fSl (a : D) (lo hi : Option Int) (S : Sto) : Res D := match a with
  | .str z => guard (lineOk z.length) (.ok (.str ⟨(cutD z.cps.toList lo hi).toArray⟩) S)
  | a => (match tupV a with
    | some ds => guard (partD ds.length lo hi) (.ok (.tup (cutD ds lo hi)) S)
    | none => (match lstV S a with
      | some ds => .ok (.ref S.nx) (S.new (.lst (cutD ds lo hi)))
      | none => .bad))
def dSl (fa : DE) (fl fh : DO) : DE := fun Γ S => (fa Γ S).bind fun a S1 => (fl Γ S1).bind fun lo S2 => (fh Γ S2).bind fun hi S3 => fSl a lo hi S3
section
variable {X : Cx} {C : Cfg} {W : XK}
theorem RepL.drop {M : Wd} {ds : List D} {vs : List V} (r : RepL C M ds vs) : ∀ n : Nat, RepL C M (ds.drop n) (vs.drop n) := by
  induction ds generalizing vs with
  | nil => intro n; rw [r.nil_inv, List.drop_nil, List.drop_nil]; exact .nil
  | cons d ds ih =>
    intro n
    obtain ⟨v, us, rfl, h1, h2⟩ := r.cons_inv
    cases n with
    | zero => exact .cons h1 h2
    | succ n => exact ih h2 n
theorem RepL.take {M : Wd} {ds : List D} {vs : List V} (r : RepL C M ds vs) : ∀ n : Nat, RepL C M (ds.take n) (vs.take n) := by
  induction ds generalizing vs with
  | nil => intro n; rw [r.nil_inv, List.take_nil, List.take_nil]; exact .nil
  | cons d ds ih =>
    intro n
    obtain ⟨v, us, rfl, h1, h2⟩ := r.cons_inv
    cases n with
    | zero => exact .nil
    | succ n => exact .cons h1 (ih h2 n)
theorem RepL.cut {M : Wd} {ds : List D} {vs : List V} (r : RepL C M ds vs) (lo hi : Option Int) : RepL C M (cutD ds lo hi) (cutV vs lo hi) := by
  unfold cutD cutV
  rw [← r.1, sixD_eq, sixD_eq]
  exact (r.drop _).take _
/-- a part of a slice is run -/
theorem runO {M : Wd} {Γ : Ga} {S : Sto} {σ : St} {H : Hp} {lo : Option Expr} {fl : DO} {t : TO} {f : Option Int → Sto → Res D} {Q : VK} {K1 : Option Int → Hp → Prop} (k0 : ∀ σ H R, (∃ M Γ S, SimG C M Γ σ ∧ Sim C M S H ∧ GoodO C M (fl Γ S) R W) → t σ H R) (g : SimG C M Γ σ) (s : Sim C M S H) (h : GoodE C M ((fl Γ S).bind fun a S1 => f a S1) Q W)
    (k : ∀ M' a S' H', M.le M' → Sim C M' S' H' → GoodE C M' (f a S') Q W → K1 a H') : t σ H K1 := by
  refine k0 σ H K1 ⟨M, Γ, S, g, s, ?_⟩
  cases ea : fl Γ S with
  | bad => rw [ea] at h; exact h
  | exc c fs S1 => rw [ea] at h; exact h
  | ok a S1 =>
    rw [ea] at h
    intro M1 H1 l1 s1
    exact k M1 a S1 H1 l1 s1 (GoodE.mono l1 h)
theorem xsl {e : Expr} {lo hi : Option Expr} {p2 pos : Pos} {fa : DE} {fl fh : DO} (hK : X.K = C.K) (he : PE X e (tE C W fa)) (hl : PtD X C W lo fl) (hh : PtD X C W hi fh) : PE X (.Subscript e (.Slice lo hi none p2) pos) (tE C W (dSl fa fl fh)) := by
  obtain ⟨tl, h1, k1⟩ := hl
  obtain ⟨th, h2, k2⟩ := hh
  refine (pe_slice (sl_list.or (sl_tup.or sl_str)) he h1 h2).by fun σ H Q ⟨M, Γ, S, g, s, h⟩ => run1 g s h fun M1 a S1 x H1 l1 s1 r1 h1 => ?_
  refine runO (lo := lo) k1 (g.mono l1) s1 h1 fun M2 lo S2 H2 l2 s2 h2 => runO (lo := hi) k2 (g.mono (l1.trans l2)) s2 h2 fun M3 hi S3 H3 l3 s3 h3 => ?_
  have r3 := r1.mono (l2.trans l3)
  rw [hK]
  unfold fSl at h3
  split at h3
  · obtain ⟨gd, h3⟩ := guard_ok h3
    cases r3
    refine .inr (.inr ⟨_, rfl, lineOk_ok gd, ?_⟩)
    have e1 : ∀ z : Str, cutS z lo hi = ⟨(cutD z.cps.toList lo hi).toArray⟩ := fun z => by
      unfold cutS cutD
      rw [sixD_eq, sixD_eq, Array.length_toList]
      rfl
    rw [e1]
    exact h3.ok s3 (.str _)
  · split at h3
    · rename_i ds e
      obtain ⟨gd, h3⟩ := guard_ok h3
      obtain ⟨p, vs, rfl, hs, rl⟩ := tup_of s3 r3 e
      refine .inr (.inl ⟨p, vs, rfl, hs, ?_, fun q hq => newTup h3 s3 (rl.cut lo hi) hq⟩)
      rw [← rl.1, ← sixD_eq, ← sixD_eq]
      rintro ⟨z1, z2⟩
      unfold partD at gd
      rw [z1, z2, Nat.beq_refl, Nat.beq_refl] at gd
      cases gd
    · split at h3
      · rename_i ds e
        obtain ⟨p, vs, rfl, hs, rl⟩ := lst_of s3 r3 e
        exact .inl ⟨p, vs, rfl, hs, fun q hq => newSto h3 s3 ⟨_, rfl, rl.cut lo hi⟩ hq⟩
      · exact h3.elim
end
end Pd

namespace Pd
open PySem PySem.Spec L2

/-! ### len, list, tuple, all, any -/
def lenD (S : Sto) (d : D) : Option Nat := match d with
  | .str z => (match lineOk z.length with
    | true => some z.length
    | false => none)
  | d => (match seqV S d with
    | some ds => some ds.length
    | none => (match dctV S d with
      | some ks => some ks.length
      | none => (match dttV S d with
        | some ks => some ks.length
        | none => none)))
def gLen : List D → Sto → Res D := fun ds S => match ds with
  | [d] => (match lenD S d with
    | some n => .ok (.int n) S
    | none => .bad)
  | _ => .bad
def keyD : Key → D
  | .inl i => .int i
  | .inr x => .str x
def keysD : List (Key × D) → List D
  | [] => []
  | (k, _) :: r => keyD k :: keysD r
def gList : List D → Sto → Res D := fun ds S => match ds with
  | [d] => (match seqV S d with
    | some xs => .ok (.ref S.nx) (S.new (.lst xs))
    | none => (match dctV S d with
      | some ks => .ok (.ref S.nx) (S.new (.lst (keysD ks)))
      | none => .bad))
  | _ => .bad
def gTuple : List D → Sto → Res D := fun ds S => match ds with
  | [d] => (match tupV d with
    | some _ => .ok d S
    | none => (match lstV S d with
      | some xs => .ok (.tup xs) S
      | none => .bad))
  | _ => .bad
def boolsD : List D → Option (List Bool)
  | [] => some []
  | .bl b :: r => (match boolsD r with
    | some bs => some (b :: bs)
    | none => none)
  | _ => none
def allB : List Bool → Bool
  | [] => true
  | b :: r => (match b with
    | true => allB r
    | false => false)
def anyB : List Bool → Bool
  | [] => false
  | b :: r => (match b with
    | true => true
    | false => anyB r)
theorem allB_eq : ∀ bs, allB bs = bs.all id
  | [] => rfl
  | true :: bs => by show allB bs = _; rw [allB_eq bs]; rfl
  | false :: bs => rfl
theorem anyB_eq : ∀ bs, anyB bs = bs.any id
  | [] => rfl
  | false :: bs => by show anyB bs = _; rw [anyB_eq bs]; rfl
  | true :: bs => rfl
def gBools (f : List Bool → Bool) : List D → Sto → Res D := fun ds S => match ds with
  | [d] => (match lstV S d with
    | some xs => (match boolsD xs with
      | some bs => .ok (.bl (f bs)) S
      | none => .bad)
    | none => .bad)
  | _ => .bad
section
variable {X : Cx} {C : Cfg} {W : XK}
theorem CaD.or {f : Value} {r r' : List V → Hp → VK → Prop} (h : CallR X f r) (h' : CallR X f r') : CallR X f (fun xs H Q => r xs H Q ∨ r' xs H Q) := CallR.or h h'
theorem call_lenDR : CallR X (.builtin "len") (fun xs H Q => ∃ (a : Addr) (kvs : List (Key × V)), xs = [V.ref a] ∧ Rd H a (.dK kvs) ∧ Q (.int kvs.length) H) := by
  intro pins s σ H xs us Q I r h; obtain ⟨a, kvs, rfl, e, q⟩ := h
  obtain rfl := Vals.ref1 r
  exact d_len I e fun t s' I' => ⟨.int kvs.length, H, I', ⟨t, rfl⟩, q⟩
theorem call_lenTR : CallR X (.builtin "len") (fun xs H Q => ∃ (a : Addr) (kvs : List (List Key × V)), xs = [V.ref a] ∧ Rd H a (.dT kvs) ∧ Q (.int kvs.length) H) := by
  intro pins s σ H xs us Q I r h; obtain ⟨a, kvs, rfl, e, q⟩ := h
  obtain rfl := Vals.ref1 r
  obtain ⟨few, hd, ys, rel, dd⟩ := dt_rd I.hok e
  have same : kvs.length = ys.length := Paired.length rel
  have small : (ys.length : Int) < 2 ^ 63 := by rw [← same]; rw [sizeLine_eq] at few; omega
  refine call_len_dictH hd dd small ?_
  rw [← same]
  exact ⟨.int kvs.length, H, I.tok _, ⟨_, rfl⟩, q⟩
theorem one_of {M : Wd} {d : D} {vs : List V} (r : RepL C M [d] vs) : ∃ v, vs = [v] ∧ Rep C M d v := by
  obtain ⟨v, us, rfl, h1, h2⟩ := r.cons_inv
  exact ⟨v, by rw [h2.nil_inv], h1⟩
theorem cLen (hK : X.K = C.K) : CaD X C W (.builtin "len") gLen := by
  refine ⟨_, CallR.or call_len_seq (CallR.or call_len_str (CallR.or call_lenDR call_lenTR)), fun M S H ds vs Q s r q => ?_⟩
  rw [hK]
  unfold gLen at q
  split at q
  · rename_i d
    obtain ⟨v, rfl, rd⟩ := one_of r
    split at q
    · rename_i n e
      unfold lenD at e
      split at e
      · rename_i z
        split at e
        · rename_i g
          cases e; cases rd
          exact .inr (.inl ⟨z, rfl, lineOk_ok g, q.ok s (.int _)⟩)
        · cases e
      · split at e
        · rename_i xs e1
          cases e
          obtain ⟨a, us, rfl, h1, h2⟩ := seq_of s rd e1
          rw [h2.1] at q
          exact .inl ⟨a, us, rfl, h1, q.ok s (.int _)⟩
        · split at e
          · rename_i ks e1
            cases e
            obtain ⟨a, us, rfl, h1, h2⟩ := dct_of s rd e1
            have h3 : RepG C M ks us := h2
            rw [h3.length] at q
            exact .inr (.inr (.inl ⟨a, us, rfl, h1, q.ok s (.int _)⟩))
          · split at e
            · rename_i ks e1
              cases e
              obtain ⟨a, us, rfl, h1, h2⟩ := dtt_of s rd e1
              have h3 : RepG C M ks us := h2
              rw [h3.length] at q
              exact .inr (.inr (.inr ⟨a, us, rfl, h1, q.ok s (.int _)⟩))
            · cases e
    · exact q.elim
  · exact q.elim
theorem keysD_of {M : Wd} : ∀ {kds : List (Key × D)} {kvs : List (Key × V)}, RepG C M kds kvs → RepL C M (keysD kds) (kvs.map fun kv => kV kv.1)
  | [], _, r => by rw [r.nil_inv]; exact .nil
  | (k, d) :: rs, _, r => by
    obtain ⟨v, ps, rfl, h1, h2⟩ := r.cons_inv
    refine .cons ?_ (keysD_of h2)
    cases k with
    | inl i => exact .int i
    | inr x => exact .str x
theorem cList (hK : X.K = C.K) (hc : X.calm = true) : CaD X C W (.type "list") gList := by
  refine ⟨_, CallR.or call_list_of (call_listD hc), fun M S H ds vs Q s r q => ?_⟩
  rw [hK]
  unfold gList at q
  split at q
  · rename_i d
    obtain ⟨v, rfl, rd⟩ := one_of r
    split at q
    · rename_i xs e1
      obtain ⟨a, us, rfl, h1, h2⟩ := seq_of s rd e1
      exact .inl ⟨a, us, rfl, h1, fun p hp => newSto q s ⟨_, rfl, h2⟩ hp⟩
    · split at q
      · rename_i ks e1
        obtain ⟨a, us, rfl, h1, h2⟩ := dct_of s rd e1
        exact .inr ⟨a, us, rfl, h1, fun p hp => newSto q s ⟨_, rfl, keysD_of h2⟩ hp⟩
      · exact q.elim
  · exact q.elim
theorem cTuple (hK : X.K = C.K) : CaD X C W (.type "tuple") gTuple := by
  refine ⟨_, call_tuple_of, fun M S H ds vs Q s r q => ?_⟩
  rw [hK]
  unfold gTuple at q
  split at q
  · rename_i d
    obtain ⟨v, rfl, rd⟩ := one_of r
    split at q
    · rename_i xs e1
      obtain ⟨a, us, rfl, h1, h2⟩ := tup_of s rd e1
      exact ⟨a, us, rfl, .inr ⟨h1, q.ok s rd⟩⟩
    · split at q
      · rename_i xs e1
        obtain ⟨a, us, rfl, h1, h2⟩ := lst_of s rd e1
        exact ⟨a, us, rfl, .inl ⟨h1, fun p hp => newTup q s h2 hp⟩⟩
      · exact q.elim
  · exact q.elim
theorem boolsD_of {M : Wd} : ∀ {ds : List D} {vs : List V} {bs : List Bool}, RepL C M ds vs → boolsD ds = some bs → vs = bs.map V.bl
  | [], _, _, r, h => by cases h; exact r.nil_inv
  | d :: ds, _, bs, r, h => by
    obtain ⟨v, us, rfl, h1, h2⟩ := r.cons_inv
    unfold boolsD at h
    split at h
    · rename_i e; cases e
    · rename_i b r' e
      cases e
      split at h
      · rename_i bs' e2
        cases h
        cases h1
        rw [boolsD_of h2 e2]; rfl
      · cases h
    · cases h
theorem cAll (hK : X.K = C.K) (hc : X.calm = true) : CaD X C W (.builtin "all") (gBools allB) := by
  refine ⟨_, cr_all hc, fun M S H ds vs Q s r q => ?_⟩
  rw [hK]
  unfold gBools at q
  split at q
  · rename_i d
    obtain ⟨v, rfl, rd⟩ := one_of r
    split at q
    · rename_i xs e1
      split at q
      · rename_i bs e2
        obtain ⟨a, us, rfl, h1, h2⟩ := lst_of s rd e1
        have := boolsD_of h2 e2
        subst this
        rw [allB_eq] at q
        exact ⟨a, bs, rfl, h1, q.ok s (.bl _)⟩
      · exact q.elim
    · exact q.elim
  · exact q.elim
theorem cAny (hK : X.K = C.K) (hc : X.calm = true) : CaD X C W (.builtin "any") (gBools anyB) := by
  refine ⟨_, cr_any hc, fun M S H ds vs Q s r q => ?_⟩
  rw [hK]
  unfold gBools at q
  split at q
  · rename_i d
    obtain ⟨v, rfl, rd⟩ := one_of r
    split at q
    · rename_i xs e1
      split at q
      · rename_i bs e2
        obtain ⟨a, us, rfl, h1, h2⟩ := lst_of s rd e1
        have := boolsD_of h2 e2
        subst this
        rw [anyB_eq] at q
        exact ⟨a, bs, rfl, h1, q.ok s (.bl _)⟩
      · exact q.elim
    · exact q.elim
  · exact q.elim
end

/-! ### isinstance, of built-in types -/
inductive TK where
  | non | bl | int | str | tup | lst | dct
def TK.nm : TK → String
  | .non => "NoneType" | .bl => "bool" | .int => "int" | .str => "str" | .tup => "tuple" | .lst => "list" | .dct => "dict"
/-- is what is of the one type of the other one -/
def TK.is : TK → TK → Bool
  | .non, .non => true
  | .bl, .bl => true
  | .bl, .int => true
  | .int, .int => true
  | .str, .str => true
  | .tup, .tup => true
  | .lst, .lst => true
  | .dct, .dct => true
  | _, _ => false
theorem TK.is_ok {K : PySem.W.Frag} (a b : TK) : PySem.W.kitOne K (.type a.nm) (.type b.nm) = some (a.is b) := by
  refine kit_ty ?_
  cases a <;> cases b <;> decide +kernel
def tkOf (S : Sto) : D → Option TK
  | .non => some .non
  | .bl _ => some .bl
  | .int _ => some .int
  | .str _ => some .str
  | d => (match tupV d with
    | some _ => some .tup
    | none => (match lstV S d with
      | some _ => some .lst
      | none => (match dctV S d with
        | some _ => some .dct
        | none => (match dttV S d with
          | some _ => some .dct
          | none => none))))
/-- a value's type, a locked dict of tuple keys too -/
inductive TyZ (K : PySem.W.Frag) (H : Hp) : V → Value → Prop where
  | x {v : V} {t : Value} (h : TyX K H v t) : TyZ K H v t
  | f {a : Addr} {ob : Obj} {kvs : List (List Key × V)} (h : H a = some (.frz ob (.dT kvs))) : TyZ K H (.ref a) (.type "dict")
theorem TyZ.inv {K : PySem.W.Frag} {H : Hp} {v : V} {t : Value} (h : TyZ K H v t) : TyX K H v t ∨ ∃ (a : Addr) (ob : Obj) (kvs : List (List Key × V)), v = .ref a ∧ H a = some (.frz ob (.dT kvs)) ∧ t = .type "dict" := by
  cases h with
  | x h => exact .inl h
  | f h => exact .inr ⟨_, _, _, rfl, h, rfl⟩
def rIsZ (K : PySem.W.Frag) : List V → Hp → VK → Prop := fun xs H Q => ∃ (v c : V) (t u : Value) (b : Bool), xs = [v, c] ∧ ClsV c u ∧ TyZ K H v t ∧ PySem.W.kitOne K t u = some b ∧ Q (.bl b) H
theorem call_isZ {X : Cx} : CallR X (.builtin "isinstance") (rIsZ X.K) := by
  intro pn s0 σ0 H0 vs ws R I rel hyp
  obtain ⟨v, c, t, u, b, rfl, kc, ty, ek, q⟩ := hyp
  cases ty with
  | x ty => exact call_isi pn s0 σ0 H0 _ ws R I rel ⟨v, c, t, u, b, rfl, kc, ty, ek, q⟩
  | @f a ob kvs ha =>
    obtain ⟨u1, u2, rfl, r1, r2⟩ := Vals.two rel
    have same := kc.eq r2
    subst same
    cases r1
    obtain ⟨_, _, _, xs, _, o, es, ep, g1, g2, _⟩ := (show ObjOk X.prog X.w H0 s0.heap a (.frz ob (.dT kvs)) from I.hok a _ ha)
    exact PySem.W.kia_one PySem.W.kitx_dict I.kIn ⟨o, g1, g2.1⟩ ek (fun z => nomatch z) fun tk => ⟨.bl b, H0, I.tok tk, rfl, q⟩
theorem tk_dct {K : PySem.W.Frag} {H : Hp} {a : Addr} {kvs : List (Key × V)} (h : Rd H a (.dK kvs)) : TyZ K H (.ref a) (.type "dict") := by
  rcases h with h | ⟨ob, h⟩
  · exact .x (.base (.dK h))
  · exact .x (.fDict h)
theorem tk_dtt {K : PySem.W.Frag} {H : Hp} {a : Addr} {kvs : List (List Key × V)} (h : Rd H a (.dT kvs)) : TyZ K H (.ref a) (.type "dict") := by
  rcases h with h | ⟨ob, h⟩
  · exact .x (.base (.dT h))
  · exact .f h
section
variable {X : Cx} {C : Cfg} {W : XK}
theorem tkOf_of {M : Wd} {S : Sto} {H : Hp} {d : D} {x : V} {k : TK} (s : Sim C M S H) (r : Rep C M d x) (h : tkOf S d = some k) : TyZ C.K H x (.type k.nm) := by
  unfold tkOf at h
  split at h
  · cases h; cases r; exact .x (.base .non)
  · cases h; cases r; exact .x (.base (.bl _))
  · cases h; cases r; exact .x (.base (.int _))
  · cases h; cases r; exact .x (.base (.str _))
  · split at h
    · rename_i ds e
      cases h
      obtain ⟨a, vs, rfl, q, _⟩ := tup_of s r e
      rcases q with (q | ⟨ob, q⟩) | ⟨o, its, n, q, c, _⟩
      · exact .x (.base (.tup q))
      · exact .x (.fTuple q)
      · exact .x (.kTuple q c)
    · split at h
      · rename_i ds e
        cases h
        obtain ⟨a, vs, rfl, q, _⟩ := lst_of s r e
        rcases q with (q | ⟨ob, q⟩) | ⟨o, its, n, q, c, _⟩
        · exact .x (.base (.lst q))
        · exact .x (.base (.frz q))
        · exact .x (.kList q c)
      · split at h
        · rename_i ds e
          cases h
          obtain ⟨a, vs, rfl, q, _⟩ := dct_of s r e
          exact tk_dct q
        · split at h
          · rename_i ds e
            cases h
            obtain ⟨a, vs, rfl, q, _⟩ := dtt_of s r e
            exact tk_dtt q
          · cases h
def vIs (b : TK) (S : Sto) (d : D) : Res D := match tkOf S d with
  | some k => .ok (.bl (k.is b)) S
  | none => .bad
def dIsi (b : TK) (fa : DE) : DE := fun Γ S => (fa Γ S).bind fun d S1 => vIs b S1 d
theorem xisi {e ce : Expr} {fa : DE} {p pos : Pos} (b : TK) (hK : X.K = C.K) (hg : Gl X "isinstance") (hm : X.mg "isinstance" = none) (ha : PE X e (tE C W fa)) (hc : PE X ce (tC (.ty b.nm)))
    (he : starEach [e, ce] X.env = (false, eval e X.env) :: starEach [ce] X.env := by rfl) (he2 : starEach [ce] X.env = (false, eval ce X.env) :: starEach [] X.env := by rfl) (hpl : (backTo pos (starEach [ce] X.env)).any (·.1) = false := by rfl) :
    PE X (.Call (.Name "isinstance" p) [e, ce] [] pos) (tE C W (dIsi b fa)) :=
  (pe_callB call_isZ hg hm (by rfl) (pa_cons ha (pa_cons hc pa_nil he2) he) (by decide) (by decide) he hpl).by fun σ H Q ⟨M, Γ, S, g, s, h⟩ => run1 g s h fun M1 d S1 x H1 l1 s1 r1 h1 => by
    unfold vIs at h1
    split at h1
    · rename_i k e
      exact ⟨x, _, _, _, _, rfl, .ty _, hK ▸ tkOf_of s1 r1 e, TK.is_ok k b, h1.ok s1 (.bl _)⟩
    · exact h1.elim
/-- isinstance(x, (T1, T2)) -/
def isAny (k : TK) : List TK → Bool
  | [] => false
  | b :: r => (match k.is b with
    | true => true
    | false => isAny k r)
def vIsT (bs : List TK) (S : Sto) (d : D) : Res D := match tkOf S d with
  | some k => .ok (.bl (isAny k bs)) S
  | none => .bad
def dIsiT (bs : List TK) (fa : DE) : DE := fun Γ S => (fa Γ S).bind fun d S1 => vIsT bs S1 d
theorem isAny_ok {K : PySem.W.Frag} (k : TK) : ∀ bs : List TK, PySem.W.kitAny K (.type k.nm) (bs.map fun b => .type b.nm) = some (isAny k bs)
  | [] => kitAny_nil
  | b :: r => by
    refine kitAny_cons (b := k.is b) (TK.is_ok k b) (fun e => ?_) fun e => ?_
    · unfold isAny; rw [e]; exact isAny_ok k r
    · unfold isAny; rw [e]
def rIsZT (K : PySem.W.Frag) : List V → Hp → VK → Prop := fun xs H Q => ∃ (v : V) (tp : Addr) (bs : List TK) (k : TK), xs = [v, .ref tp] ∧ H tp = some (.tup (bs.map fun b => .ty b.nm)) ∧ TyZ K H v (.type k.nm) ∧ Q (.bl (isAny k bs)) H
theorem tys_of : ∀ bs : List TK, Paired ClsV (bs.map fun b => V.ty b.nm) (bs.map fun b => Value.type b.nm)
  | [] => .nil
  | b :: r => .cons (.ty _) (tys_of r)
theorem call_isZT : CallR X (.builtin "isinstance") (rIsZT X.K) := by
  intro pn s0 σ0 H0 vs ws R I rel hyp
  obtain ⟨v, tp, bs, k, rfl, ht, ty, q⟩ := hyp
  rcases ty.inv with ty | ⟨a, ob, kvs, rfl, ha, ek⟩
  · exact call_isiT pn s0 σ0 H0 _ ws R I rel ⟨v, tp, _, _, _, _, rfl, ht, tys_of bs, ty, isAny_ok k bs, q⟩
  · obtain ⟨u1, u2, rfl, r1, r2⟩ := Vals.two rel
    cases r1
    cases r2
    obtain ⟨_, its, rv, o, h1, h2, n, h3⟩ := (show ObjOk X.prog X.w H0 s0.heap tp (.tup (bs.map fun b => .ty b.nm)) from I.hok tp _ ht)
    have same := ClsV.all (tys_of bs) rv
    subst same
    obtain ⟨oc, od, dt, sl⟩ := o
    obtain ⟨_, _, _, xs, _, o, es, ep, g1, g2, _⟩ := (show ObjOk X.prog X.w H0 s0.heap a (.frz ob (.dT kvs)) from I.hok a _ ha)
    simp only at h2 h3
    subst h2 h3
    have hk : k = .dct := by cases k <;> first | rfl | exact absurd ek (by decide)
    subst hk
    exact PySem.W.kia_tup PySem.W.kitx_dict I.kIn ⟨o, g1, g2.1⟩ h1 (isAny_ok .dct bs) (fun z => nomatch z) fun tk => ⟨.bl (isAny .dct bs), H0, I.tok tk, rfl, q⟩
theorem xisiT {e : Expr} {ces : List Expr} {fa : DE} {p pos tpos : Pos} {k1} {t : TA} (bs : List TK) (hK : X.K = C.K) (hg : Gl X "isinstance") (hm : X.mg "isinstance" = none) (ha : PE X e (tE C W fa)) (hc : PA X ces t) (hb : ∀ σ H Q, Q (bs.map fun b => V.ty b.nm) H → t σ H Q) (few : lineOk bs.length = true := by rfl)
    (he : starEach [e, .Tuple ces k1 tpos] X.env = (false, eval e X.env) :: starEach [.Tuple ces k1 tpos] X.env := by rfl) (he2 : starEach [.Tuple ces k1 tpos] X.env = (false, eval (.Tuple ces k1 tpos) X.env) :: starEach [] X.env := by rfl) (hpl : (backTo pos (starEach [.Tuple ces k1 tpos] X.env)).any (·.1) = false := by rfl) :
    PE X (.Call (.Name "isinstance" p) [e, .Tuple ces k1 tpos] [] pos) (tE C W (dIsiT bs fa)) :=
  (pe_callB call_isZT hg hm (by rfl) (pa_cons ha (pa_cons (pe_tup hc) pa_nil he2) he) (by decide) (by decide) he hpl).by fun σ H Q ⟨M, Γ, S, g, s, h⟩ => run1 g s h fun M1 d S1 x H1 l1 s1 r1 h1 => by
    unfold vIsT at h1
    split at h1
    · rename_i k e
      refine hb σ H1 _ ⟨by rw [List.length_map]; exact lineOk_ok few, fun q hq => ?_⟩
      have l2 : M1.le (M1.lay q (.tup (bs.map fun b => V.ty b.nm))) := Wd.lay_le (s1.free hq)
      have s2 := s1.lay (o := .tup (bs.map fun b => V.ty b.nm)) hq
      exact ⟨x, q, bs, k, rfl, upd_same, hK ▸ tkOf_of s2 (r1.mono l2) e, (h1.mono l2).ok s2 (.bl _)⟩
    · exact h1.elim
end
end Pd

namespace Pd
open PySem PySem.Spec L2

/-! ### over a dict's keys, which is locked for as long -/
def iKeysL (X : Cx) (td : TE) : TI := fun σ H R => td σ H fun x H1 => ∃ d, x = .ref d ∧
  ((∃ o kvs, H1 d = some (.frz o (.dK kvs)) ∧ R (Itk d o kvs) H1) ∨ (∃ o kvs, H1 d = some (.frz o (.dT kvs)) ∧ R (Itkt d o kvs) H1) ∨
   (∃ kvs, H1 d = some (.dK kvs) ∧ ∀ od, NoFrz X d → R (Itk d od kvs) (upd H1 d (.frz od (.dK kvs)))) ∨ ∃ kvs, H1 d = some (.dT kvs) ∧ ∀ od, NoFrz X d → R (Itkt d od kvs) (upd H1 d (.frz od (.dT kvs))))
section
variable {X : Cx} {tg e : Expr} {td : TE}
theorem keys_K {pn : List (Addr × Obj)} {σ : St} {H : Hp} {s : Shared} {d : Addr} {o : Obj} {kvs : List (Key × V)} {R : It → Hp → Prop} {E : Value → Shared → Prop} (I : Inv X pn σ H s) (h : H d = some (.frz o (.dK kvs))) (q : R (Itk d o kvs) H) :
    wpAny (model X.prog X.w) X.A (pyIter (.ref d)) (PIE X pn σ tg R) E s := by
  obtain ⟨g1, g2, g3, es, ep, vs, g4, g5, kv, hm⟩ := I.frzK h
  refine iter_keys g1 g2 g3 g4 (pi_one (tk := s.toks) I _ (turn_keys _ g4) ⟨_, Heap.get?_push_size _ rfl, rfl, ?_⟩ q)
  rw [g5]
  all_goals rfl
theorem keys_T {pn : List (Addr × Obj)} {σ : St} {H : Hp} {s : Shared} {d : Addr} {o : Obj} {kvs : List (List Key × V)} {R : It → Hp → Prop} {E : Value → Shared → Prop} (I : Inv X pn σ H s) (h : H d = some (.frz o (.dT kvs))) (q : R (Itkt d o kvs) H) :
    wpAny (model X.prog X.w) X.A (pyIter (.ref d)) (PIE X pn σ tg R) E s := by
  obtain ⟨g1, g2, g3, es, ep, g4, g5, en⟩ := I.frzT h
  refine iter_keys g1 g2 g3 g4 (pi_one (tk := s.toks) I _ (turn_keysT _ g4) ⟨_, Heap.get?_push_size _ rfl, rfl, ?_⟩ q)
  rw [g5]
  all_goals rfl
theorem pi_keysL (he : PE X e td) : PI X tg e (iKeysL X td) := ⟨fun pn s0 σ0 H0 R I h => by
  refine thn (he.run pn s0 σ0 H0 _ I h) fun u s1 ⟨x, H1, I1, rx, d, ex, q⟩ => ?_
  subst ex
  cases rx
  rcases q with ⟨o, kvs, hd, q⟩ | ⟨o, kvs, hd, q⟩ | ⟨kvs, hd, q⟩ | ⟨kvs, hd, q⟩
  · exact keys_K I1 hd q
  · exact keys_T I1 hd q
  · obtain ⟨od, I2⟩ := I1.lock hd True.intro
    exact keys_K I2 upd_same (q od (I1.nofrz hd True.intro))
  · obtain ⟨od, I2⟩ := I1.lock hd True.intro
    exact keys_T I2 upd_same (q od (I1.nofrz hd True.intro))⟩
end
def tkeysD : List (List Key × D) → List D
  | [] => []
  | (k, _) :: r => .tup (k.map keyD) :: tkeysD r
/-- the keys, and what is to be undone -/
def lockD (d : D) (S : Sto) : Res (List D × UK) := match d with
  | .dct kds => .ok (keysD kds, .fz) S
  | .dtt kds => .ok (tkeysD kds, .fz) S
  | .ref n => (match S.at n with
    | some (.dct kds) => .ok (keysD kds, .st n) (S.set n (.lck (.dct kds)))
    | some (.dtt kds) => .ok (tkeysD kds, .st n) (S.set n (.lck (.dtt kds)))
    | some (.lck (.dct kds)) => .ok (keysD kds, .no) S
    | some (.lck (.dtt kds)) => .ok (tkeysD kds, .no) S
    | _ => .bad)
  | _ => .bad
def iDct (fa : DE) : DI := fun Γ S => (fa Γ S).bind lockD
section
variable {X : Cx} {C : Cfg} {W : XK}
theorem keysD_get {M : Wd} {kds : List (Key × D)} {kvs : List (Key × V)} (r : RepG C M kds kvs) (i : Nat) (d : D) (h : (keysD kds)[i]? = some d) : ∃ k v, kvs[i]? = some (k, v) ∧ Rep C M d (kV k) := by
  have rl := keysD_of r
  obtain ⟨v, hv, rv⟩ := rl.get h
  rw [List.getElem?_map] at hv
  cases e : kvs[i]? with
  | none => rw [e] at hv; cases hv
  | some p => rw [e] at hv; cases hv; exact ⟨p.1, p.2, rfl, rv⟩
theorem keysD_len : ∀ kds : List (Key × D), (keysD kds).length = kds.length
  | [] => rfl
  | _ :: r => by show (keysD r).length + 1 = _; rw [keysD_len r]; rfl
theorem tkeysD_len : ∀ kds : List (List Key × D), (tkeysD kds).length = kds.length
  | [] => rfl
  | _ :: r => by show (tkeysD r).length + 1 = _; rw [tkeysD_len r]; rfl
theorem tkeysD_get {M : Wd} : ∀ {kds : List (List Key × D)} {kvs : List (List Key × V)}, RepG C M kds kvs → ∀ (i : Nat) (d : D), (tkeysD kds)[i]? = some d → ∃ k v, kvs[i]? = some (k, v) ∧ d = .tup (k.map keyD)
  | [], _, r, i, d, h => by simp [tkeysD] at h
  | (k, d0) :: rs, _, r, i, d, h => by
    obtain ⟨v, ps, rfl, h1, h2⟩ := r.cons_inv
    cases i with
    | zero =>
      have h : some (D.tup (k.map keyD)) = some d := h
      cases h
      exact ⟨k, v, rfl, rfl⟩
    | succ i => exact tkeysD_get h2 i d h
theorem keyD_rep {M : Wd} : ∀ k : Key, Rep C M (keyD k) (kV k)
  | .inl i => .int i
  | .inr x => .str x
theorem keysL_rep {M : Wd} : ∀ ks : List Key, RepL C M (ks.map keyD) (ks.map kV)
  | [] => .nil
  | k :: ks => .cons (keyD_rep k) (keysL_rep ks)
theorem gives_K {M : Wd} {d : Addr} {od : Obj} {kds : List (Key × D)} {kvs : List (Key × V)} (h : M.lk d = some (od, .dK kvs)) (r : RepG C M kds kvs) : Gives C M (Itk d od kvs) (keysD kds) := by
  intro M' S H l s i
  have hd := s.lk _ _ _ (l.2.2 _ _ h)
  refine ⟨fun hi => ⟨hd, by rw [keysD_len, r.length] at hi; exact hi⟩, fun x hx => ?_⟩
  obtain ⟨k, v, hk, rx⟩ := keysD_get r i x hx
  refine ⟨⟨hd, (List.getElem?_eq_some_iff.mp hk).1⟩, fun y H' q => ?_⟩
  obtain ⟨rfl, k', v', hk', rfl⟩ := q
  rw [hk] at hk'; cases hk'
  exact ⟨M', .refl M', s, rx.mono l⟩
theorem gives_T {M : Wd} {d : Addr} {od : Obj} {kds : List (List Key × D)} {kvs : List (List Key × V)} (h : M.lk d = some (od, .dT kvs)) (r : RepG C M kds kvs) : Gives C M (Itkt d od kvs) (tkeysD kds) := by
  intro M' S H l s i
  have hd := s.lk _ _ _ (l.2.2 _ _ h)
  refine ⟨fun hi => ⟨hd, by rw [tkeysD_len, r.length] at hi; exact hi⟩, fun x hx => ?_⟩
  obtain ⟨k, v, hk, rfl⟩ := tkeysD_get r i x hx
  refine ⟨⟨hd, (List.getElem?_eq_some_iff.mp hk).1⟩, fun y H' q => ?_⟩
  obtain ⟨rfl, k', v', p, hk', rfl, hp⟩ := q
  rw [hk] at hk'; cases hk'
  obtain ⟨M2, l2, s2, f2⟩ := s.track hp
  have rl : RepL C M2 (k.map keyD) (k.map kV) := keysL_rep k
  exact ⟨M2, l2, s2, .tup f2 rl.1 rl.2⟩
/-- a frozen dict: its lock is loosened in the end -/
theorem end_fz {M M1 : Wd} {d : Addr} {od : Obj} {u : HO} (l : M.le M1) (n0 : M.lk d = none) (h : M1.lk d = some (od, u)) (f : M1.fz d = some u) (nf : NoFrz X d) : EndOk X C M M1 .fz := fun M' S' S'' H' l1 s e => by
  cases e
  have hl := l1.2.2 _ _ h
  have s1 := s.drop d
  have nl : (M'.unlk d).lk d = none := if_pos rfl
  exact ⟨M'.unlk d, upd H' d u, Wd.unlk_le (l.trans l1) n0, Wd.unlk_lev, s1.relock (l1.1 _ _ f) nl (.inl rfl), .inr ⟨d, od, u, s.lk _ _ _ hl, nf, rfl⟩⟩
theorem end_fz0 {M M1 : Wd} (l : M.le M1) : EndOk X C M M1 .fz := fun M' S' S'' H' l1 s e => by
  cases e
  exact ⟨M', H', l.trans l1, ⟨fun _ _ h => h, fun _ _ h => h⟩, s, .inl rfl⟩
theorem end_st {M M1 : Wd} {n : Nat} {d : Addr} {od : Obj} {u : HO} (l : M.le M1) (n0 : M.lk d = none) (h : M1.lk d = some (od, u)) (hm : M1.mu n = some d) (nf : NoFrz X d) : EndOk X C M M1 (.st n) := fun M' S' S'' H' l1 s e => by
  have e : (match S'.at n with
    | some (.lck m) => some (S'.set n m)
    | _ => none) = some S'' := e
  split at e
  · rename_i m em
    cases e
    have hl := l1.2.2 _ _ h
    have hd := s.lk _ _ _ hl
    have s1 := s.drop d
    have nl : (M'.unlk d).lk d = none := if_pos rfl
    obtain ⟨b, o, h1, h2, h3, h4⟩ := s1.al n _ em
    have hm' : (M'.unlk d).mu n = some d := l1.2.1 _ _ hm
    rw [hm'] at h1; cases h1
    rw [hd] at h2; cases h2
    obtain ⟨ob, w, e, rm⟩ := h4
    cases e
    exact ⟨M'.unlk d, upd H' d u, Wd.unlk_le (l.trans l1) n0, Wd.unlk_lev, s1.write0 em hm' rm nl, .inr ⟨d, od, u, hd, nf, rfl⟩⟩
  · cases e
/-- from an expression's value to the iterator, with what is undone -/
theorem run1U {M : Wd} {Γ : Ga} {S : Sto} {σ : St} {H : Hp} {fa : DE} {f : D → Sto → Res (List D × UK)} {R : It → Hp → Prop} {K1 : V → Hp → Prop} (g : SimG C M Γ σ) (s : Sim C M S H)
    (h : match (fa Γ S).bind f with
      | .ok (ds, k) S1 => ∀ M1 H1 J, M.le M1 → Sim C M1 S1 H1 → Gives C M1 J ds → EndOk X C M M1 k → R J H1
      | .exc c fs S1 => ∀ M' cls dd H', M.le M' → Sim C M' S1 H' → RepX C M' H' cls dd c fs → W cls dd H'
      | .bad => False)
    (k : ∀ M' a S' x H', M.le M' → Sim C M' S' H' → Rep C M' a x → (match f a S' with
      | .ok (ds, k) S1 => ∀ M1 H1 J, M'.le M1 → Sim C M1 S1 H1 → Gives C M1 J ds → EndOk X C M' M1 k → R J H1
      | .exc c fs S1 => ∀ M2 cls dd H', M'.le M2 → Sim C M2 S1 H' → RepX C M2 H' cls dd c fs → W cls dd H'
      | .bad => False) → K1 x H') : tE C W fa σ H K1 := by
  refine ⟨M, Γ, S, g, s, ?_⟩
  cases ea : fa Γ S with
  | bad => rw [ea] at h; exact h
  | exc c fs S1 => rw [ea] at h; exact h
  | ok a S1 =>
    rw [ea] at h
    intro M1 x H1 l1 s1 r1
    refine k M1 a S1 x H1 l1 s1 r1 ?_
    have h : (match f a S1 with
      | .ok (ds, k) S1 => ∀ M1 H1 J, M.le M1 → Sim C M1 S1 H1 → Gives C M1 J ds → EndOk X C M M1 k → R J H1
      | .exc c fs S1 => ∀ M' cls dd H', M.le M' → Sim C M' S1 H' → RepX C M' H' cls dd c fs → W cls dd H'
      | .bad => False) := h
    cases ef : f a S1 with
    | bad => rw [ef] at h; exact h
    | exc c fs S2 => rw [ef] at h; exact fun M2 cls dd H' l => h M2 cls dd H' (l1.trans l)
    | ok p S2 =>
      obtain ⟨ds, k⟩ := p
      rw [ef] at h
      exact fun M2 H2 J l s2 gv en => h M2 H2 J (l1.trans l) s2 gv fun M' S' S'' H' l2 s3 e => by
        obtain ⟨M'', H'', l3, lv, s4, b⟩ := en M' S' S'' H' l2 s3 e
        exact ⟨M'', H'', l1.trans l3, lv, s4, b⟩
theorem wdct {tg e : Expr} {fa : DE} (he : PE X e (tE C W fa)) : ItU X C W tg e (iDct fa) := by
  refine ⟨_, pi_keysL he, fun M Γ S σ H R g s q => run1U g s q fun M1 d S1 x H1 l1 s1 r1 h1 => ?_⟩
  cases r1 with
  | dct hq hl hr =>
    rename_i kds a kvs
    have rg : RepG C M1 kds kvs := ⟨hl, hr⟩
    refine ⟨a, rfl, ?_⟩
    rcases hq with hq | ⟨ob, hq⟩
    · rcases s1.fr _ _ hq with z | ⟨_, ob, z⟩
      · have n0 := s1.nolk (a := a) (fun ob u w => by rw [z] at w; cases w)
        refine .inr (.inr (.inl ⟨kvs, z, fun od nf => ?_⟩))
        have s2 := (s1.relock hq n0 (.inr ⟨True.intro, od, rfl⟩)).addlk (od := od) (u := .dK kvs) upd_same
        exact h1 _ _ _ (Wd.lck_le n0) s2 (gives_K Wd.lck_at ⟨rg.1, fun i k d k' v a b => (rg.2 i k d k' v a b).mono (Wd.lck_le n0)⟩) (end_fz (Wd.lck_le n0) n0 Wd.lck_at hq nf)
      · refine .inl ⟨ob, kvs, z, ?_⟩
        have s2 := s1.addlk z
        cases e0 : M1.lk a with
        | none => exact h1 _ _ _ (Wd.lck_le e0) s2 (gives_K Wd.lck_at ⟨rg.1, fun i k d k' v a b => (rg.2 i k d k' v a b).mono (Wd.lck_le e0)⟩) (end_fz0 (Wd.lck_le e0))
        | some p =>
          obtain ⟨od, u⟩ := p
          have w := s1.lk _ _ _ e0
          rw [z] at w; cases w
          exact h1 _ _ _ (.refl _) s1 (gives_K e0 rg) (end_fz0 (.refl _))
    · rcases s1.fr _ _ hq with z | ⟨z, _⟩
      · refine .inl ⟨ob, kvs, z, ?_⟩
        have s2 := s1.addlk z
        cases e0 : M1.lk a with
        | none => exact h1 _ _ _ (Wd.lck_le e0) s2 (gives_K Wd.lck_at ⟨rg.1, fun i k d k' v a b => (rg.2 i k d k' v a b).mono (Wd.lck_le e0)⟩) (end_fz0 (Wd.lck_le e0))
        | some p =>
          obtain ⟨od, u⟩ := p
          have w := s1.lk _ _ _ e0
          rw [z] at w; cases w
          exact h1 _ _ _ (.refl _) s1 (gives_K e0 rg) (end_fz0 (.refl _))
      · exact z.elim
  | dtt hq hl hr =>
    rename_i kds a kvs
    have rg : RepG C M1 kds kvs := ⟨hl, hr⟩
    refine ⟨a, rfl, ?_⟩
    rcases hq with hq | ⟨ob, hq⟩
    · rcases s1.fr _ _ hq with z | ⟨_, ob, z⟩
      · have n0 := s1.nolk (a := a) (fun ob u w => by rw [z] at w; cases w)
        refine .inr (.inr (.inr ⟨kvs, z, fun od nf => ?_⟩))
        have s2 := (s1.relock hq n0 (.inr ⟨True.intro, od, rfl⟩)).addlk (od := od) (u := .dT kvs) upd_same
        exact h1 _ _ _ (Wd.lck_le n0) s2 (gives_T Wd.lck_at ⟨rg.1, fun i k d k' v a b => (rg.2 i k d k' v a b).mono (Wd.lck_le n0)⟩) (end_fz (Wd.lck_le n0) n0 Wd.lck_at hq nf)
      · refine .inr (.inl ⟨ob, kvs, z, ?_⟩)
        have s2 := s1.addlk z
        cases e0 : M1.lk a with
        | none => exact h1 _ _ _ (Wd.lck_le e0) s2 (gives_T Wd.lck_at ⟨rg.1, fun i k d k' v a b => (rg.2 i k d k' v a b).mono (Wd.lck_le e0)⟩) (end_fz0 (Wd.lck_le e0))
        | some p =>
          obtain ⟨od, u⟩ := p
          have w := s1.lk _ _ _ e0
          rw [z] at w; cases w
          exact h1 _ _ _ (.refl _) s1 (gives_T e0 rg) (end_fz0 (.refl _))
    · rcases s1.fr _ _ hq with z | ⟨z, _⟩
      · refine .inr (.inl ⟨ob, kvs, z, ?_⟩)
        have s2 := s1.addlk z
        cases e0 : M1.lk a with
        | none => exact h1 _ _ _ (Wd.lck_le e0) s2 (gives_T Wd.lck_at ⟨rg.1, fun i k d k' v a b => (rg.2 i k d k' v a b).mono (Wd.lck_le e0)⟩) (end_fz0 (Wd.lck_le e0))
        | some p =>
          obtain ⟨od, u⟩ := p
          have w := s1.lk _ _ _ e0
          rw [z] at w; cases w
          exact h1 _ _ _ (.refl _) s1 (gives_T e0 rg) (end_fz0 (.refl _))
      · exact z.elim
  | ref hm =>
    rename_i n a
    refine ⟨a, rfl, ?_⟩
    unfold lockD at h1
    dsimp only at h1
    split at h1
    · rename_i ds' k' S' e'
      split at e'
      · rename_i kds em
        cases e'
        obtain ⟨b, o, h2, h3, h4, kvs, rfl, rr⟩ := s1.al n _ em
        rw [hm] at h2; cases h2
        have rg : RepG C M1 kds kvs := rr
        have n0 := s1.nolk (a := a) (fun ob u w => by rw [h3] at w; cases w)
        refine .inr (.inr (.inl ⟨kvs, h3, fun od nf => ?_⟩))
        have s2 := (s1.write (m' := .lck (.dct kds)) (o := .frz od (.dK kvs)) em hm ⟨od, _, rfl, kvs, rfl, rr⟩).addlk (od := od) (u := .dK kvs) upd_same
        exact h1 _ _ _ (Wd.lck_le n0) s2 (gives_K Wd.lck_at ⟨rg.1, fun i k d k' v a b => (rg.2 i k d k' v a b).mono (Wd.lck_le n0)⟩) (end_st (Wd.lck_le n0) n0 Wd.lck_at hm nf)
      · rename_i kds em
        cases e'
        obtain ⟨b, o, h2, h3, h4, kvs, rfl, rr⟩ := s1.al n _ em
        rw [hm] at h2; cases h2
        have rg : RepG C M1 kds kvs := rr
        have n0 := s1.nolk (a := a) (fun ob u w => by rw [h3] at w; cases w)
        refine .inr (.inr (.inr ⟨kvs, h3, fun od nf => ?_⟩))
        have s2 := (s1.write (m' := .lck (.dtt kds)) (o := .frz od (.dT kvs)) em hm ⟨od, _, rfl, kvs, rfl, rr⟩).addlk (od := od) (u := .dT kvs) upd_same
        exact h1 _ _ _ (Wd.lck_le n0) s2 (gives_T Wd.lck_at ⟨rg.1, fun i k d k' v a b => (rg.2 i k d k' v a b).mono (Wd.lck_le n0)⟩) (end_st (Wd.lck_le n0) n0 Wd.lck_at hm nf)
      · rename_i kds em
        cases e'
        obtain ⟨b, o, h2, h3, h4, ob, u, rfl, kvs, rfl, rr⟩ := s1.al n _ em
        rw [hm] at h2; cases h2
        have rg : RepG C M1 kds kvs := rr
        refine .inl ⟨ob, kvs, h3, ?_⟩
        have s2 := s1.addlk h3
        cases e0 : M1.lk a with
        | none => exact h1 _ _ _ (Wd.lck_le e0) s2 (gives_K Wd.lck_at ⟨rg.1, fun i k d k' v a b => (rg.2 i k d k' v a b).mono (Wd.lck_le e0)⟩) (end_no (Wd.lck_le e0))
        | some p =>
          obtain ⟨od, u⟩ := p
          have w := s1.lk _ _ _ e0
          rw [h3] at w; cases w
          exact h1 _ _ _ (.refl _) s1 (gives_K e0 rg) (end_no (.refl _))
      · rename_i kds em
        cases e'
        obtain ⟨b, o, h2, h3, h4, ob, u, rfl, kvs, rfl, rr⟩ := s1.al n _ em
        rw [hm] at h2; cases h2
        have rg : RepG C M1 kds kvs := rr
        refine .inr (.inl ⟨ob, kvs, h3, ?_⟩)
        have s2 := s1.addlk h3
        cases e0 : M1.lk a with
        | none => exact h1 _ _ _ (Wd.lck_le e0) s2 (gives_T Wd.lck_at ⟨rg.1, fun i k d k' v a b => (rg.2 i k d k' v a b).mono (Wd.lck_le e0)⟩) (end_no (Wd.lck_le e0))
        | some p =>
          obtain ⟨od, u⟩ := p
          have w := s1.lk _ _ _ e0
          rw [h3] at w; cases w
          exact h1 _ _ _ (.refl _) s1 (gives_T e0 rg) (end_no (.refl _))
      · cases e'
    · rename_i c fs S' e'
      split at e' <;> cases e'
    · exact h1.elim
  | _ => exact h1.elim
end
end Pd

namespace Pd
open PySem PySem.Spec L2

/-! ### enumerate, zip, reversed -/
def numD (i : Int) : List D → List D
  | [] => []
  | d :: r => .tup [.int i, d] :: numD (i + 1) r
theorem numD_get : ∀ (ds : List D) (i : Nat) (k : Int) (d : D), (numD k ds)[i]? = some d → ∃ x, ds[i]? = some x ∧ d = .tup [.int (k + i), x]
  | [], i, k, d, h => by simp [numD] at h
  | x :: r, 0, k, d, h => by
    have h : some (D.tup [.int k, x]) = some d := h
    cases h
    exact ⟨x, rfl, by simp⟩
  | x :: r, i + 1, k, d, h => by
    obtain ⟨y, h1, h2⟩ := numD_get r i (k + 1) d h
    refine ⟨y, h1, ?_⟩
    rw [h2]
    have : k + 1 + (i : Int) = k + ((i + 1 : Nat) : Int) := by omega
    rw [this]
theorem numD_len : ∀ (ds : List D) (k : Int), (numD k ds).length = ds.length
  | [], _ => rfl
  | _ :: r, k => by show (numD (k + 1) r).length + 1 = _; rw [numD_len r]; rfl
def zipD : List D → List D → List D
  | x :: xs, y :: ys => .tup [x, y] :: zipD xs ys
  | _, _ => []
theorem zipD_get : ∀ (xs ys : List D) (i : Nat) (d : D), (zipD xs ys)[i]? = some d → ∃ x y, xs[i]? = some x ∧ ys[i]? = some y ∧ d = .tup [x, y]
  | [], _, i, d, h => by simp [zipD] at h
  | _ :: _, [], i, d, h => by simp [zipD] at h
  | x :: xs, y :: ys, 0, d, h => by
    have h : some (D.tup [x, y]) = some d := h
    cases h
    exact ⟨x, y, rfl, rfl, rfl⟩
  | x :: xs, y :: ys, i + 1, d, h => zipD_get xs ys i d h
theorem zipD_len : ∀ (xs ys : List D) (i : Nat), (zipD xs ys).length ≤ i → xs.length ≤ i ∨ ys.length ≤ i
  | [], _, i, _ => .inl (Nat.zero_le _)
  | _ :: _, [], i, _ => .inr (Nat.zero_le _)
  | x :: xs, y :: ys, 0, h => by simp [zipD] at h
  | x :: xs, y :: ys, i + 1, h => by
    have h : (zipD xs ys).length + 1 ≤ i + 1 := h
    rcases zipD_len xs ys i (by omega) with z | z
    · exact .inl (by show xs.length + 1 ≤ i + 1; omega)
    · exact .inr (by show ys.length + 1 ≤ i + 1; omega)
section
variable {X : Cx} {C : Cfg} {W : XK}
/-- a list that stands still, as it stands -/
theorem still {M M' : Wd} {S : Sto} {H : Hp} {d : D} {ds : List D} {a : Addr} (l : M.le M') (s : Sim C M' S H) (r : Rep C M d (.ref a)) (h : iFrz d = some ds) : ∃ vs, SqL C.K H a vs ∧ RepL C M' ds vs := by
  obtain ⟨b, vs, e, hs, rl⟩ : ∃ b vs, V.ref a = .ref b ∧ SqL C.K H b vs ∧ RepL C M' ds vs := lst_of s (r.mono l) (by cases d <;> simp [iFrz] at h <;> simp [lstV, h])
  cases e
  exact ⟨vs, hs, rl⟩
theorem stillT {M M' : Wd} {S : Sto} {H : Hp} {d : D} {ds : List D} {a : Addr} (l : M.le M') (s : Sim C M' S H) (r : Rep C M d (.ref a)) (h : tupV d = some ds) : ∃ vs, SqT C.K H a vs ∧ RepL C M' ds vs := by
  obtain ⟨b, vs, e, hs, rl⟩ := tup_of s (r.mono l) h
  cases e
  exact ⟨vs, hs, rl⟩
theorem gives_enum {M : Wd} {d : D} {ds : List D} {a : Addr} (r : Rep C M d (.ref a)) (h : iFrz d = some ds) : Gives C M (Ite C.K a) (numD 0 ds) := by
  intro M' S H l s i
  obtain ⟨vs, hs, rl⟩ := still l s r h
  refine ⟨fun hi => ⟨vs, hs, by rw [← rl.1]; rw [numD_len] at hi; exact hi⟩, fun d' hd => ?_⟩
  obtain ⟨x, hx, rfl⟩ := numD_get ds i 0 d' hd
  obtain ⟨v, hv, rv⟩ := rl.get hx
  refine ⟨⟨vs, v, hs, hv⟩, fun y H' q => ?_⟩
  obtain ⟨p, v', rfl, hn, rfl, hall⟩ := q
  have := hall vs hs
  rw [hv] at this; cases this
  have lp : M'.le (M'.lay p (.tup [.int (i : Nat), v])) := Wd.lay_le (s.free hn)
  refine ⟨_, lp, s.lay hn, ?_⟩
  have rl2 : RepL C (M'.lay p (.tup [.int (i : Nat), v])) [.int (0 + (i : Nat)), x] [.int (i : Nat), v] := by
    rw [show (0 : Int) + ((i : Nat) : Int) = ((i : Nat) : Int) by omega]
    exact .cons (.int _) (.cons (rv.mono lp) .nil)
  exact .tup (show upd M'.fz p _ p = _ from upd_same) rl2.1 rl2.2
theorem gives_rev {M : Wd} {d : D} {ds : List D} {a : Addr} (r : Rep C M d (.ref a)) (h : iFrz d = some ds) : Gives C M (Itv C.K a ds.length) ds.reverse := by
  intro M' S H l s i
  obtain ⟨vs, hs, rl⟩ := still l s r h
  refine ⟨fun hi => by rw [List.length_reverse] at hi; exact hi, fun d' hd => ?_⟩
  have hlt : i < ds.length := by
    have := (List.getElem?_eq_some_iff.mp hd).1
    rwa [List.length_reverse] at this
  rw [List.getElem?_reverse hlt] at hd
  obtain ⟨v, hv, rv⟩ := rl.get hd
  refine ⟨⟨hlt, vs, v, hs, hv⟩, fun y H' q => ?_⟩
  obtain ⟨rfl, hall⟩ := q
  have := hall vs hs
  rw [hv] at this; cases this
  exact ⟨M', .refl M', s, rv⟩
theorem gives_zipT {M : Wd} {d e : D} {ds es : List D} {a b : Addr} (r : Rep C M d (.ref a)) (h : tupV d = some ds) (r2 : Rep C M e (.ref b)) (h2 : tupV e = some es) : Gives C M (RZ.ItzT C.K a b) (zipD ds es) := by
  intro M' S H l s i
  obtain ⟨vs, hs, rl⟩ := stillT l s r h
  obtain ⟨ws, hs2, rl2⟩ := stillT l s r2 h2
  refine ⟨fun hi => ⟨vs, ws, hs, hs2, by rw [← rl.1, ← rl2.1]; exact zipD_len ds es i hi⟩, fun d' hd => ?_⟩
  obtain ⟨x, y, hx, hy, rfl⟩ := zipD_get ds es i d' hd
  obtain ⟨v, hv, rv⟩ := rl.get hx
  obtain ⟨w, hw, rw'⟩ := rl2.get hy
  refine ⟨⟨vs, ws, v, w, hs, hs2, hv, hw⟩, fun z H' q => ?_⟩
  obtain ⟨p, v', w', rfl, hn, rfl, hall, hall2⟩ := q
  have e1 := hall vs hs
  rw [hv] at e1; cases e1
  have e2 := hall2 ws hs2
  rw [hw] at e2; cases e2
  have lp : M'.le (M'.lay p (.tup [v, w])) := Wd.lay_le (s.free hn)
  refine ⟨_, lp, s.lay hn, ?_⟩
  have rl3 : RepL C (M'.lay p (.tup [v, w])) [x, y] [v, w] := .cons (rv.mono lp) (.cons (rw'.mono lp) .nil)
  exact .tup (show upd M'.fz p _ p = _ from upd_same) rl3.1 rl3.2
theorem gives_zipL {M : Wd} {d e : D} {ds es : List D} {a b : Addr} (r : Rep C M d (.ref a)) (h : iFrz d = some ds) (r2 : Rep C M e (.ref b)) (h2 : iFrz e = some es) : Gives C M (Itz C.K a b) (zipD ds es) := by
  intro M' S H l s i
  obtain ⟨vs, hs, rl⟩ := still l s r h
  obtain ⟨ws, hs2, rl2⟩ := still l s r2 h2
  refine ⟨fun hi => ⟨vs, ws, hs, hs2, by rw [← rl.1, ← rl2.1]; exact zipD_len ds es i hi⟩, fun d' hd => ?_⟩
  obtain ⟨x, y, hx, hy, rfl⟩ := zipD_get ds es i d' hd
  obtain ⟨v, hv, rv⟩ := rl.get hx
  obtain ⟨w, hw, rw'⟩ := rl2.get hy
  refine ⟨⟨vs, ws, v, w, hs, hs2, hv, hw⟩, fun z H' q => ?_⟩
  obtain ⟨p, v', w', rfl, hn, rfl, hall, hall2⟩ := q
  have e1 := hall vs hs
  rw [hv] at e1; cases e1
  have e2 := hall2 ws hs2
  rw [hw] at e2; cases e2
  have lp : M'.le (M'.lay p (.tup [v, w])) := Wd.lay_le (s.free hn)
  refine ⟨_, lp, s.lay hn, ?_⟩
  have rl3 : RepL C (M'.lay p (.tup [v, w])) [x, y] [v, w] := .cons (rv.mono lp) (.cons (rw'.mono lp) .nil)
  exact .tup (show upd M'.fz p _ p = _ from upd_same) rl3.1 rl3.2
end
def ofO {α : Type} (o : Option α) (S : Sto) : Res α := match o with
  | some a => .ok a S
  | none => .bad
def oEnum : List D → Option (List D)
  | [d] => (match iFrz d with
    | some xs => some (numD 0 xs)
    | none => none)
  | _ => none
def oZip : List D → Option (List D)
  | [d, e] => (match tupV d with
    | some xs => (match tupV e with
      | some ys => some (zipD xs ys)
      | none => none)
    | none => (match iFrz d with
      | some xs => (match iFrz e with
        | some ys => some (zipD xs ys)
        | none => none)
      | none => none))
  | _ => none
def oRev (d : D) : Option (List D) := match tupV d with
  | some xs => some xs.reverse
  | none => (match iFrz d with
    | some xs => some xs.reverse
    | none => none)
def fEnum : List D → Sto → Res (List D) := fun ds S => ofO (oEnum ds) S
def fZip : List D → Sto → Res (List D) := fun ds S => ofO (oZip ds) S
def aRev (fa : DE) : DA := fun Γ S => (fa Γ S).bind fun d S1 => ofO (oRev d) S1
section
variable {X : Cx} {C : Cfg} {W : XK} {fr : DA} {fa : DE}
theorem it_ofO {o : Option (List D)} {S1 : Sto} {P : List D → Sto → Prop} {Z : Nat → List (Nat × D) → Sto → Prop} (h : match ofO o S1 with
    | .ok ds S1 => P ds S1
    | .exc c fs S1 => Z c fs S1
    | .bad => False) : ∃ ds, o = some ds ∧ P ds S1 := by
  cases o with
  | none => exact h.elim
  | some ds => exact ⟨ds, rfl, h⟩
theorem wenum {e : Expr} {p pos tpos : Pos} {elts : List Expr} {kk : Nat} (hK : X.K = C.K) (hg : Gl X "enumerate") (hm : X.mg "enumerate" = none) (ha : PA X [e] (tA C W fr)) (hs : starEach [e] X.env = [(false, eval e X.env)] := by rfl) : ItD X C W (.Tuple elts kk tpos) (.Call (.Name "enumerate" p) [e] [] pos) (aBind fr fEnum) := by
  refine ⟨_, pi_enum hg hm ha hs, fun M Γ S σ H R g s h => runAI g s h fun M1 ds S1 xs H1 l1 s1 r1 h1 => ?_⟩
  obtain ⟨zs, e1, h1⟩ := it_ofO h1
  unfold oEnum at e1
  split at e1
  · rename_i d
    obtain ⟨v, rfl, rd⟩ := one_of r1
    split at e1
    · rename_i ys ei
      cases e1
      obtain ⟨a, vs, rfl, hs', rl⟩ : ∃ a vs, v = .ref a ∧ SqL C.K H1 a vs ∧ RepL C M1 ys vs := lst_of s1 rd (by cases d <;> simp [iFrz] at ei <;> simp [lstV, ei])
      exact ⟨a, vs, rfl, hK ▸ hs', h1 M1 H1 _ (.refl M1) s1 (by rw [hK]; exact gives_enum rd ei)⟩
    · cases e1
  · cases e1
theorem wzip {e e2 : Expr} {p pos tpos : Pos} {elts : List Expr} {kk : Nat} (hK : X.K = C.K) (hg : Gl X "zip") (hm : X.mg "zip" = none) (ha : PA X [e, e2] (tA C W fr)) (hs : starEach [e, e2] X.env = (false, eval e X.env) :: starEach [e2] X.env := by rfl) (hpl : (backTo pos (starEach [e2] X.env)).any (·.1) = false := by rfl) :
    ItD X C W (.Tuple elts kk tpos) (.Call (.Name "zip" p) [e, e2] [] pos) (aBind fr fZip) := by
  refine ⟨_, RZ.pi_zipA hg hm ha hs hpl, fun M Γ S σ H R g s h => runAI g s h fun M1 ds S1 xs H1 l1 s1 r1 h1 => ?_⟩
  obtain ⟨zs, e1, h1⟩ := it_ofO h1
  unfold oZip at e1
  split at e1
  · rename_i d d2
    obtain ⟨v, us, rfl, rd, rt⟩ := r1.cons_inv
    obtain ⟨v2, rfl, rd2⟩ := one_of rt
    split at e1
    · rename_i ys ei
      split at e1
      · rename_i ws ei2
        cases e1
        obtain ⟨a, vs, rfl, ha', rl⟩ := tup_of s1 rd ei
        obtain ⟨b, vs2, rfl, hb', rl2⟩ := tup_of s1 rd2 ei2
        exact ⟨a, b, vs, vs2, rfl, .inr ⟨hK ▸ ha', hK ▸ hb', h1 M1 H1 _ (.refl M1) s1 (by rw [hK]; exact gives_zipT rd ei rd2 ei2)⟩⟩
      · cases e1
    · split at e1
      · rename_i ys ei
        split at e1
        · rename_i ws ei2
          cases e1
          obtain ⟨a, vs, rfl, ha', rl⟩ : ∃ a vs, v = .ref a ∧ SqL C.K H1 a vs ∧ RepL C M1 ys vs := lst_of s1 rd (by cases d <;> simp [iFrz] at ei <;> simp [lstV, ei])
          obtain ⟨b, vs2, rfl, hb', rl2⟩ : ∃ a vs, v2 = .ref a ∧ SqL C.K H1 a vs ∧ RepL C M1 ws vs := lst_of s1 rd2 (by cases d2 <;> simp [iFrz] at ei2 <;> simp [lstV, ei2])
          exact ⟨a, b, vs, vs2, rfl, .inl ⟨hK ▸ ha', hK ▸ hb', h1 M1 H1 _ (.refl M1) s1 (by rw [hK]; exact gives_zipL rd ei rd2 ei2)⟩⟩
        · cases e1
      · cases e1
  · cases e1
theorem gives_revT {M : Wd} {d : D} {ds : List D} {a : Addr} (r : Rep C M d (.ref a)) (h : tupV d = some ds) : Gives C M (RT.ItvT C.K a ds.length) ds.reverse := by
  intro M' S H l s i
  obtain ⟨vs, hs, rl⟩ := stillT l s r h
  refine ⟨fun hi => by rw [List.length_reverse] at hi; exact hi, fun d' hd => ?_⟩
  have hlt : i < ds.length := by
    have := (List.getElem?_eq_some_iff.mp hd).1
    rwa [List.length_reverse] at this
  rw [List.getElem?_reverse hlt] at hd
  obtain ⟨v, hv, rv⟩ := rl.get hd
  refine ⟨⟨hlt, vs, v, hs, hv⟩, fun y H' q => ?_⟩
  obtain ⟨rfl, hall⟩ := q
  have := hall vs hs
  rw [hv] at this; cases this
  exact ⟨M', .refl M', s, rv⟩
theorem wrev {tg e : Expr} {p pos : Pos} (hK : X.K = C.K) (hg : Gl X "reversed") (hm : X.mg "reversed" = none) (he : PE X e (tE C W fa)) (hs : starEach [e] X.env = (false, eval e X.env) :: starEach [] X.env := by rfl) : ItD X C W tg (.Call (.Name "reversed" p) [e] [] pos) (aRev fa) := by
  refine ⟨_, RT.pi_revA hg hm he hs, fun M Γ S σ H R g s h => run1I g s h fun M1 d S1 v H1 l1 s1 r1 h1 => ?_⟩
  obtain ⟨zs, e1, h1⟩ := it_ofO h1
  unfold oRev at e1
  split at e1
  · rename_i ys ei
    cases e1
    obtain ⟨a, vs, rfl, ha', rl⟩ := tup_of s1 r1 ei
    exact ⟨a, vs, rfl, .inr ⟨hK ▸ ha', h1 M1 H1 _ (.refl M1) s1 (by rw [hK, ← rl.1]; exact gives_revT r1 ei)⟩⟩
  · split at e1
    · rename_i ys ei
      cases e1
      obtain ⟨a, vs, rfl, ha', rl⟩ : ∃ a vs, v = .ref a ∧ SqL C.K H1 a vs ∧ RepL C M1 ys vs := lst_of s1 r1 (by cases d <;> simp [iFrz] at ei <;> simp [lstV, ei])
      exact ⟨a, vs, rfl, .inl ⟨hK ▸ ha', h1 M1 H1 _ (.refl M1) s1 (by rw [hK, ← rl.1]; exact gives_rev r1 ei)⟩⟩
    · cases e1
end
end Pd

namespace Pd
open PySem PySem.Spec L2

/-! ### dict comprehensions, keys of either kind -/
def newO (b : Bool) : HO := match b with
  | true => .dT []
  | false => .dK []
theorem newO_ok {P : Program} {w : World} {H : Hp} (b : Bool) (h : Heap) (hb : sysModules < h.objs.size) : ObjOk P w H (h.push { cls := .type "dict", data := .dict #[] }) h.objs.size (newO b) := by
  cases b with
  | true => exact dt_empty h hb
  | false => exact dk_empty h hb
section
variable {X : Cx}
/-- the reading: Dd is the new dict; K i n is what stands ahead of turn i, at most n turns being left -/
def tDcG (b : Bool) (wi : TI) (g : TG) (tt : TT) (tk tv : TE) (vs : List Nat) : TE := fun σ0 H0 Q => wi σ0 H0 fun J Hi => ∀ Dd, Hi Dd = none → ∃ K : Nat → Nat → Hp → Prop, (∃ n, K 0 n (upd Hi Dd (newO b))) ∧ ∀ i n Ha, K i n Ha →
  (J.stop i Ha ∧ Q (.ref Dd) Ha) ∨ (J.go i Ha ∧ ∃ Nx : Hp → Prop, (∀ Hb, Nx Hb → ∃ n', n' < n ∧ K (i + 1) n' Hb) ∧ ∀ x Hb, J.yld i Ha x Hb → g x (wipe σ0 vs) Hb fun σ2 Hc => wipe σ2 vs = wipe σ0 vs ∧ tt σ2 Hc fun ok Hd =>
    if ok = true then tk σ2 Hd fun y He => tv σ2 He fun z Hf => ∃ Hg, DPut Hf Dd y z Hg ∧ Nx Hg else Nx Hd)
theorem dcg_run {pn : List (Addr × Obj)} {s0 : Shared} {σ0 : St} {H0 : Hp} {Q : VK} {b : Bool} {kx vx tg iter : Expr} {ifs : List Expr} {sc : Scope} {own : List (Str × Nat)} {p1 p2 : Pos} {wi : TI} {g : TG} {tt : TT} {tk tv : TE} {use : Option (Value → Sem Unit)} {Qf : Value → Shared → Prop}
    (hu : X.A.units < cLine) (hc : X.calm = true) (hN : X.N.Nodup) (I0 : Inv X pn σ0 H0 s0) (hi : PI X tg iter wi) (ok : BlkOk X.N X.env.scope sc own)
    (pg : ∀ (s : Shared) (H : Hp) (c : Addr) (cl : List (Str × Addr)) (fp : List Addr), PG (X.blk s H sc (compEnvC sc cl c X.env) fp) tg g) (pt : ∀ (s : Shared) (H : Hp) (c : Addr) (cl : List (Str × Addr)) (fp : List Addr), PTs (X.blk s H sc (compEnvC sc cl c X.env) fp) ifs tt)
    (pk : ∀ (s : Shared) (H : Hp) (c : Addr) (cl : List (Str × Addr)) (fp : List Addr), PE (X.blk s H sc (compEnvC sc cl c X.env) fp) kx tk)
    (pv : ∀ (s : Shared) (H : Hp) (c : Addr) (cl : List (Str × Addr)) (fp : List Addr), PE (X.blk s H sc (compEnvC sc cl c X.env) fp) vx tv) (hs : ∀ x, foldedSetIterable iter X.env x = pure x)
    (h : tDcG b wi g tt tk tv (own.map (·.2)) σ0 H0 Q)
    (fin : ∀ Dd c s' m H', Inv X pn σ0 H' s' → Q (.ref Dd) H' → s'.heap.Ns c m → FpOk X pn H' c → compPost (model X.prog X.w) X.A X.xe use Qf (.ref Dd) c (.ok .next) s') :
    wpAny (model X.prog X.w) X.A (comprehension (.DictComp kx vx [⟨tg, iter, ifs, 0⟩] sc p1) sc X.env p2 newDict false (eval iter X.env) use) Qf X.xe s0 := by
  have caught : ∀ y ∈ sc.names, y.2 = .free → ∃ c, X.env.cells.lookup y.1 = some c := fun y hy e => (ok.free y hy e).elim (fun k => I0.ok.has _ (.inl k)) fun k => I0.ok.has _ (.inr k)
  refine wpAny_comprehension_free (use := use) rfl hs (closure_ok caught) ok.kind (fun y hy e => by rw [ok.uniq y hy, e]) (thn (hi.run pn s0 σ0 H0 _ I0 h) fun _ s1 hx => thn hx fun _ s2 h2 => ?_)
  obtain ⟨it, fp, tn, J, Hi, rfl, I2, T, st2, f2, q⟩ := h2
  refine wpAny_newObj_type (newEnv_comp ?_); generalize eD : s2.heap.objs.size = Dd
  have freeD : Hi Dd = none := I2.hok.fresh (Nat.le_of_eq eD)
  obtain ⟨K, ⟨n0, k0⟩, turn⟩ := q Dd freeD
  -- the empty dict is laid
  generalize e3 : ({ s2 with heap := s2.heap.push { cls := .type "dict", data := .dict #[] } } : Shared) = s3
  have grew : s3.heap = s2.heap.push { cls := .type "dict", data := .dict #[] } := by rw [← e3]
  have I3 : Inv X pn σ0 (upd Hi Dd (newO b)) s3 := by
    rw [← e3]
    exact I2.laid (t' := s2.toks) (fun _ _ e => Heap.get?_push_of_some _ e) (Nat.le_of_eq eD) (by rw [← eD]; exact newO_ok b s2.heap I2.big)
  have young : ∀ c ∈ fp, c < s2.heap.objs.size := fun c hc' => let ⟨_, e, _⟩ := T.obj _ _ st2 c hc'; Heap.lt_size e
  have f3 : ∀ c ∈ fp, FpOk X pn (upd Hi Dd (newO b)) c ∧ c < s3.heap.objs.size := fun c hc' => by
    have lt := young c hc'
    have apart : c ≠ Dd := by rw [← eD]; exact Nat.ne_of_lt lt
    exact ⟨⟨(upd_ne apart).trans (f2 c hc').1, (f2 c hc').2⟩, by rw [grew, Heap.size_push]; exact Nat.lt_succ_of_lt lt⟩
  have st3 : tn 0 s3.heap := T.keep _ _ _ st2 fun _ _ _ e => by rw [grew]; exact Heap.get?_push_of_some _ e
  have I4 := block_start I3 ok hN f3; have pg0 := pg s3 (upd Hi Dd (newO b)) s3.heap.objs.size (cellsFrom (s3.heap.objs.size + 1) sc.names (cloFrom X.env.cells sc.names [])) fp
  have pt0 := pt s3 (upd Hi Dd (newO b)) s3.heap.objs.size (cellsFrom (s3.heap.objs.size + 1) sc.names (cloFrom X.env.cells sc.names [])) fp
  have pk0 := pk s3 (upd Hi Dd (newO b)) s3.heap.objs.size (cellsFrom (s3.heap.objs.size + 1) sc.names (cloFrom X.env.cells sc.names [])) fp
  have pv0 := pv s3 (upd Hi Dd (newO b)) s3.heap.objs.size (cellsFrom (s3.heap.objs.size + 1) sc.names (cloFrom X.env.cells sc.names [])) fp
  show codeAny _ _ (.compStart (.DictComp kx vx [⟨tg, iter, ifs, 0⟩] sc p1) 0 (.ref it) (.ref Dd) (compEnvC sc (cellsFrom (s3.heap.objs.size + 1) sc.names (cloFrom X.env.cells sc.names [])) s3.heap.objs.size X.env)) (compPost (model X.prog X.w) X.A X.xe use Qf (.ref Dd) s3.heap.objs.size) { s3 with heap := pushCells (s3.heap.push { cls := .type "dict", data := .dict #[] }) sc.names }
  have none3 : ∀ c ∈ fp, (upd Hi Dd (newO b)) c = none := fun c hc' => (f3 c hc').1.1
  generalize ece : compEnvC sc (cellsFrom (s3.heap.objs.size + 1) sc.names (cloFrom X.env.cells sc.names [])) s3.heap.objs.size X.env = ce at I4 pg0 pt0 pk0 pv0 ⊢
  have eL : ce.locals = s3.heap.objs.size := by subst ece; rfl
  generalize eH3 : upd Hi Dd (newO b) = H3 at I3 I4 pg0 pt0 pk0 pv0 k0 none3 f3
  generalize e4 : ({ s3 with heap := pushCells (s3.heap.push { cls := .type "dict", data := .dict #[] }) sc.names } : Shared) = s4 at I4 ⊢
  have st4 : tn 0 s4.heap := T.keep _ _ _ st3 fun _ _ _ e => by rw [← e4]; exact pushCells_keeps _ _ _ _ (Heap.get?_push_of_some _ e)
  have turns : ∀ {σ' : St} {H' : Hp} {s' : Shared}, Inv (X.blk s3 H3 sc ce fp) [] σ' H' s' → (∀ c ∈ fp, H' c = none) → ∀ c ∈ fp, FpOk (X.blk s3 H3 sc ce fp) [] H' c := fun I' hn c hc' =>
    ⟨hn c hc', (I'.ok.exf c hc').1, I'.ok.exfs c hc', .inl hc', fun x cc e => (I'.ok.exf c hc').2 x cc e, fun p hp => absurd (show p ∈ ([] : List (Addr × Obj)) ++ [] from hp) (by simp)⟩
  suffices loop : codeAny (model X.prog X.w) X.A (.compLoop (.DictComp kx vx [⟨tg, iter, ifs, 0⟩] sc p1) 0 (.ref it) (.ref Dd) ce) (compPost (model X.prog X.w) X.A X.xe use Qf (.ref Dd) s3.heap.objs.size) s4 from codeAny_compStart_dict loop (T.self X.A 0 _ _ _ st4 loop)
  refine compLoop_anyD (fun n s' => ∃ i H', Inv (X.blk s3 H3 sc ce fp) [] (wipe σ0 (own.map (·.2))) H' s' ∧ tn i s'.heap ∧ (∀ c ∈ fp, H' c = none) ∧ K i n H') ?_ n0 ⟨0, H3, I4, st4, none3, k0⟩
  rintro n s5 ⟨i, H5, I5, st5, n5, k5⟩
  rcases turn i n H5 k5 with ⟨stop, qq⟩ | ⟨go, Nx, down, step⟩
  · refine thnF (T.done (X.blk s3 H3 sc ce fp) rfl rfl rfl hc i [] s5 _ H5 (fun _ _ => False) I5 (turns I5 n5) st5 stop) fun r s6 ⟨er, I6⟩ => ?_
    subst er
    have I7 : Inv X pn σ0 H5 s6 := I3.call' (ch := fp) I6.os I6.base I6.hok I6.bare fun c hc' => ⟨(f3 c hc').1.2.2.2.1, (f3 c hc').1.2.1, (f3 c hc').1.2.2.2.2.1, (f3 c hc').1.2.2.2.2.2⟩
    have noC : H5 s3.heap.objs.size = none := by rw [← eL]; exact I6.free
    obtain ⟨m, hn, _⟩ := I6.loc
    have hn : s6.heap.Ns ce.locals m := hn; rw [eL] at hn
    exact fin Dd s3.heap.objs.size s6 m H5 I7 qq hn (I3.fpOk (Nat.le_refl _) noC)
  · refine thnF (T.item (X.blk s3 H3 sc ce fp) rfl rfl rfl hc i [] s5 _ H5 (fun _ _ => False) I5 (turns I5 n5) st5 go) fun r s6 ⟨u, er, h6⟩ => ?_
    subst er
    refine thnF h6 fun _ s7 ⟨x, H7, I7, r7, y7, st7, n7⟩ => ?_; have I7' := I7.pinned (turns I7 n7) (T.obj _ _ st7)
    refine thnF (pg0.run _ s7 _ H7 x u _ I7' r7 (step x H7 y7)) fun _ s8 ⟨σ8, H8, I8, w8, q8⟩ => ?_
    refine thnF (pt0.run _ s8 σ8 H8 _ I8 q8) fun okb s9 ⟨H9, I9, q9⟩ => ?_
    have again : ∀ {s' : Shared} {H' : Hp}, Inv (X.blk s3 H3 sc ce fp) ([] ++ pinsAt fp s7.heap) σ8 H' s' → Nx H' → ∃ m, m < n ∧ ∃ i H', Inv (X.blk s3 H3 sc ce fp) [] (wipe σ0 (own.map (·.2))) H' s' ∧ tn i s'.heap ∧ (∀ c ∈ fp, H' c = none) ∧ K i m H' := fun {s' H'} I' nx => by
      obtain ⟨n', ln, k'⟩ := down H' nx
      have stays : ∀ c ∈ fp, ∀ o, s7.heap.get? c = some o → s'.heap.get? c = some o ∧ H' c = none := fun c hc' o e => let z := I'.pin (c, o) (List.mem_append_right _ (List.mem_append_right _ (mem_pinsAt hc' e))); ⟨z.1, z.2.1⟩
      have len8 : (wipe σ0 (own.map (·.2))).length = σ8.length := by rw [← w8, wipe_length]
      refine ⟨n', ln, i + 1, H', (I'.unpinned (pins := [])).weak len8 (fun j v e => (wipe_some (by rw [w8]; exact e)).1), T.keep _ _ _ st7 fun c hc' o e => (stays c hc' o e).1, fun c hc' => ?_, k'⟩
      obtain ⟨o, e, _⟩ := T.obj _ _ st7 c hc'
      exact (stays c hc' o e).2
    cases okb with
    | false =>
      have q9 : Nx H9 := q9
      show ∃ m, m < n ∧ _
      exact again I9 q9
    | true =>
      have q9 : tk σ8 H9 fun y He => tv σ8 He fun z Hf => ∃ Hg, DPut Hf Dd y z Hg ∧ Nx Hg := q9
      refine thnF (pk0.run _ s9 σ8 H9 _ I9 q9) fun uk s10 ⟨y, H10, I10, r10, q10⟩ => ?_
      refine thnF (pv0.run _ s10 σ8 H10 _ I10 q10) fun uv s11 ⟨z, H11, I11, r11, Hg, dp, nx⟩ => ?_
      exact laid_one (X := X.blk s3 H3 sc ce fp) hu I11 dp r10 r11 fun s12 I12 => again I12 nx
theorem pe_dcg (b : Bool) {kx vx tg iter : Expr} {ifs : List Expr} {sc : Scope} {own : List (Str × Nat)} {pos : Pos} {wi : TI} {g : TG} {tt : TT} {tk tv : TE} (hu : X.A.units < cLine) (hc : X.calm = true) (hN : X.N.Nodup) (hi : PI X tg iter wi) (ok : BlkOk X.N X.env.scope sc own)
    (pg : ∀ (s : Shared) (H : Hp) (c : Addr) (cl : List (Str × Addr)) (fp : List Addr), PG (X.blk s H sc (compEnvC sc cl c X.env) fp) tg g) (pt : ∀ (s : Shared) (H : Hp) (c : Addr) (cl : List (Str × Addr)) (fp : List Addr), PTs (X.blk s H sc (compEnvC sc cl c X.env) fp) ifs tt)
    (pk : ∀ (s : Shared) (H : Hp) (c : Addr) (cl : List (Str × Addr)) (fp : List Addr), PE (X.blk s H sc (compEnvC sc cl c X.env) fp) kx tk)
    (pv : ∀ (s : Shared) (H : Hp) (c : Addr) (cl : List (Str × Addr)) (fp : List Addr), PE (X.blk s H sc (compEnvC sc cl c X.env) fp) vx tv) (hs : ∀ x, foldedSetIterable iter X.env x = pure x := by intro _; rfl) :
    PE X (.DictComp kx vx [⟨tg, iter, ifs, 0⟩] sc pos) (tDcG b wi g tt tk tv (own.map (·.2))) := ⟨fun pn s0 σ0 H0 Q I q => by
  rw [arm_eval_DictComp]
  exact dcg_run hu hc hN I hi ok pg pt pk pv hs q fun Dd c s' m H' I' q' hn f => ⟨m, hn, fun h'' sb => ⟨.ref Dd, H', I'.turned (t' := s'.toks) (fun a o ha e => (sb.2 a ha).trans e) f.1 f.2.1 f.2.2.2.1 f.2.2.2.2.1 f.2.2.2.2.2, rfl, q'⟩⟩⟩
end
end Pd

namespace Pd
open PySem PySem.Spec L2
section
variable {X : Cx}
theorem swd_true {kx vx : Expr} {gs : List Comprehension} {sc : Scope} {pos py : Pos} {y : Str} {l : Nat} {env : Env} (hk : env.scope.kind = .function) (hy : env.scope.names.lookup y = some .local) (hl : (py.line == pos.line) = true)
    (ha : (sc.names.any fun (n, k) => n == y && (k == .local || k == .cell)) = false) : swapsWith (.DictComp kx vx gs sc pos) (some (.Name y py)) l env = pure true := by
  have e1 : env.kindOf y = some .local := hy
  have e2 : env.blockKind = .function := by unfold Env.blockKind; rw [hk]; rfl
  unfold swapsWith
  simp only [e2, e1, ha, Expr.pos, hl]
  rfl
/-- name = {.. for ..} on one line -/
theorem ps_setDc (b : Bool) {i : Nat} {y : Str} {py spos : Pos} {kx vx tg iter : Expr} {ifs : List Expr} {sc : Scope} {own : List (Str × Nat)} {pos : Pos} {wi : TI} {g : TG} {tt : TT} {tk tv : TE} (hu : X.A.units < cLine) (hc : X.calm = true) (hN : X.N.Nodup) (hy : X.N[i]? = some y) (hyl : X.env.scope.names.lookup y = some .local)
    (hsw : swapsWith (.DictComp kx vx [⟨tg, iter, ifs, 0⟩] sc pos) (some (.Name y py)) spos.line X.env = pure true) (hi : PI X tg iter wi) (ok : BlkOk X.N X.env.scope sc own)
    (pg : ∀ (s : Shared) (H : Hp) (c : Addr) (cl : List (Str × Addr)) (fp : List Addr), PG (X.blk s H sc (compEnvC sc cl c X.env) fp) tg g) (pt : ∀ (s : Shared) (H : Hp) (c : Addr) (cl : List (Str × Addr)) (fp : List Addr), PTs (X.blk s H sc (compEnvC sc cl c X.env) fp) ifs tt)
    (pk : ∀ (s : Shared) (H : Hp) (c : Addr) (cl : List (Str × Addr)) (fp : List Addr), PE (X.blk s H sc (compEnvC sc cl c X.env) fp) kx tk)
    (pv : ∀ (s : Shared) (H : Hp) (c : Addr) (cl : List (Str × Addr)) (fp : List Addr), PE (X.blk s H sc (compEnvC sc cl c X.env) fp) vx tv) (hs : ∀ x, foldedSetIterable iter X.env x = pure x := by intro _; rfl) :
    PS X (.Assign [.Name y py] (.DictComp kx vx [⟨tg, iter, ifs, 0⟩] sc pos) spos) (tAsg (tDcG b wi g tt tk tv (own.map (·.2))) (gName i)) := ⟨fun pn s0 σ0 H0 E I q => by
  rw [exec_Assign_Name_used _ _ _ _ hsw]; refine wpAny_bind (wpAny_standAt (wpAny_bind ?_))
  show wpAny _ X.A (do let _ ← comprehension (.DictComp kx vx [⟨tg, iter, ifs, 0⟩] sc pos) sc X.env (firstIterPos [⟨tg, iter, ifs, 0⟩] pos) newDict false (eval iter X.env) (some (assign (.Name y py) X.env))) _ _ s0
  have q : tDcG b wi g tt tk tv (own.map (·.2)) σ0 H0 (fun x H1 => gName i x σ0 H1 E.nx) := q
  refine wpAny_bind (thn (dcg_run (Qf := fun _ s' => SP X pn E .next s') hu hc hN I hi ok pg pt pk pv hs q fun Dd c s' m H' I' q' hn f => ?_) fun _ s' z => wpAny_pure (wpAny_pure z))
  show wpAny _ _ (assign (.Name y py) X.env (.ref Dd)) _ _ _
  refine wpAny_assign_Name (store_ok2 (v := V.ref Dd) I' hN hy (.inl hyl) rfl (fun s2 I2 ⟨a, sb, ha⟩ => ?_) (.inr hyl))
  have other : c ≠ a := ha.elim (fun z => by rw [z]; exact f.2.1) fun z e => f.2.2.2.2.1 y a z e.symm
  exact ⟨m, hn.sameBut sb other, fun h3 sb3 => ⟨_, H', I2.turned (t' := s2.toks) (fun a o ha e => (sb3.2 a ha).trans e) f.1 f.2.1 f.2.2.2.1 f.2.2.2.2.1 f.2.2.2.2.2, q'⟩⟩⟩
end

/-! ### by data -/
def loopCD (gt : D → Ga → Sto → Option Ga) (ft : DT) (fk fv : DE) (Γ : Ga) (n : Nat) : List D → Sto → Option Sto
  | [], S => some S
  | d :: r, S => (match gt d Γ S with
    | some Γ1 => (match ft Γ1 S with
      | .ok true S1 => (match fk Γ1 S1 with
        | .ok k S2 => (match fv Γ1 S2 with
          | .ok v S3 => (match fPutD (.ref n) k v S3 with
            | some S4 => loopCD gt ft fk fv Γ n r S4
            | none => none)
          | _ => none)
        | _ => none)
      | .ok false S1 => loopCD gt ft fk fv Γ n r S1
      | _ => none)
    | none => none)
def dDc (b : Bool) (fin : D → Sto → Res D) (fi : DI) (gt : D → Ga → Sto → Option Ga) (ft : DT) (fk fv : DE) (vs : List Nat) : DE := fun Γ S => (fi Γ S).bind fun p S1 => match loopCD gt ft fk fv (wipeG Γ vs) S1.nx p.1 (S1.new (newD b)) with
  | some S2 => (match unl p.2 S2 with
    | some S3 => fin (.ref S1.nx) S3
    | none => .bad)
  | none => .bad
section
variable {X : Cx} {C : Cfg} {W : XK} {vs : List Nat} {scope : Scope} {pos : Pos}
theorem newD_rep {M : Wd} (b : Bool) : RepM C M (newD b) (newO b) := by
  cases b with
  | true => exact ⟨[], rfl, RepG.nil⟩
  | false => exact ⟨[], rfl, RepG.nil⟩
theorem dc_rd (b : Bool) {tg iter : Expr} {fi : DI} {gt : D → Ga → Sto → Option Ga} {ft : DT} {fk fv : DE} {fin : D → Sto → Res D} {wi : TI} {t : TG} (hfin : FinOk C W fin)
    (k : ∀ (M : Wd) (Γ : Ga) (S : Sto) (σ : St) (H : Hp) (R : It → Hp → Prop), SimG C M Γ σ → Sim C M S H →
    (match fi Γ S with
      | .ok (ds, k) S1 => ∀ M1 H1 J, M.le M1 → Sim C M1 S1 H1 → Gives C M1 J ds → EndOk X C M M1 k → R J H1
      | .exc c fs S1 => ∀ M' cls dd H', M.le M' → Sim C M' S1 H' → RepX C M' H' cls dd c fs → W cls dd H'
      | .bad => False) → wi σ H R)
    (kt : ∀ (M : Wd) (S : Sto) (Γ Γ' : Ga) (σ : St) (H : Hp) (d : D) (v : V) (Q : St → Hp → Prop), SimG C M Γ σ → Sim C M S H → Rep C M d v → gt d Γ S = some Γ' →
      (∀ σ', SimG C M Γ' σ' → wipe σ' vs = wipe σ vs → Q σ' H) → t v σ H Q) {σ : St} {H : Hp} {Q : VK} (h : tE C W (dDc b fin fi gt ft fk fv vs) σ H Q) : tDcG b wi t (tT C W0 ft) (tE C W0 fk) (tE C W0 fv) vs σ H fun v H1 => ∃ H', BackTo X H1 H' ∧ Q v H' := by
  obtain ⟨M, Γ, S, g, s, h⟩ := h
  refine k M Γ S σ H _ g s ?_
  have h : GoodE C M ((fi Γ S).bind fun p S1 => match loopCD gt ft fk fv (wipeG Γ vs) S1.nx p.1 (S1.new (newD b)) with
    | some S2 => (match unl p.2 S2 with
      | some S3 => fin (.ref S1.nx) S3
      | none => .bad)
    | none => .bad) Q W := h
  cases e : fi Γ S with
  | bad => rw [e] at h; exact h
  | exc c fs S1 => rw [e] at h; exact h
  | ok p S1 =>
    obtain ⟨ds, uk⟩ := p
    rw [e] at h
    have h : GoodE C M (match loopCD gt ft fk fv (wipeG Γ vs) S1.nx ds (S1.new (newD b)) with
      | some S2 => (match unl uk S2 with
        | some S3 => fin (.ref S1.nx) S3
        | none => .bad)
      | none => .bad) Q W := h
    cases el : loopCD gt ft fk fv (wipeG Γ vs) S1.nx ds (S1.new (newD b)) with
    | none => rw [el] at h; exact h.elim
    | some S2 =>
    rw [el] at h
    intro M1 H1 J l1 s1 gv en Dd hD
    have lb : M1.le (M1.bind S1.nx Dd) := Wd.bind_le s1
    have sb : Sim C (M1.bind S1.nx Dd) (S1.new (newD b)) (upd H1 Dd (newO b)) := s1.bindNew hD (newD_rep b)
    have hmu : (M1.bind S1.nx Dd).mu S1.nx = some Dd := if_pos rfl
    refine ⟨fun i m H => ∃ M' S' r, (M1.bind S1.nx Dd).le M' ∧ Sim C M' S' H ∧ r = ds.drop i ∧ m = r.length ∧ i ≤ ds.length ∧ loopCD gt ft fk fv (wipeG Γ vs) S1.nx r S' = some S2, ⟨_, _, _, ds, .refl _, sb, rfl, rfl, Nat.zero_le _, el⟩, ?_⟩
    rintro i m H ⟨M', S', r, l', s', er, em, hle, h'⟩
    have lM : M1.le M' := lb.trans l'
    obtain ⟨gs, gg⟩ := gv M' S' H lM s' i
    cases r with
    | nil =>
      have : ds.length ≤ i := by
        have := congrArg List.length er
        simp at this; omega
      have e2 : S' = S2 := by unfold loopCD at h'; exact Option.some.inj h'
      subst e2
      have h : GoodE C M (match unl uk S' with
        | some S3 => fin (.ref S1.nx) S3
        | none => .bad) Q W := h
      split at h
      · rename_i S3 e3
        obtain ⟨M'', H'', l2, lv, s2, bk⟩ := en M' S' S3 H lM s' e3
        exact .inl ⟨gs this, H'', bk, hfin M'' S3 H'' _ _ Q s2 (.ref (lv.2 _ _ (l'.2.1 _ _ hmu))) (GoodE.mono l2 h)⟩
      · exact h.elim
    | cons d r =>
      have hd : ds[i]? = some d := by
        have h1 : (ds.drop i)[0]? = some d := by rw [← er]; rfl
        simpa using h1
      have hr : r = ds.drop (i + 1) := by
        rw [show ds.drop (i + 1) = (ds.drop i).drop 1 by rw [List.drop_drop], ← er]; rfl
      have hlt : i < ds.length := (List.getElem?_eq_some_iff.mp hd).1
      obtain ⟨go, yl⟩ := gg d hd
      refine .inr ⟨go, fun H => ∃ M' S', (M1.bind S1.nx Dd).le M' ∧ Sim C M' S' H ∧ loopCD gt ft fk fv (wipeG Γ vs) S1.nx r S' = some S2, fun H' ⟨M2, S3, a, b, c⟩ => ⟨r.length, by rw [em]; simp, M2, S3, r, a, b, hr, rfl, hlt, c⟩, fun x H' y => ?_⟩
      obtain ⟨M2, l2, s2, rx⟩ := yl x H' y
      unfold loopCD at h'
      cases eg : gt d (wipeG Γ vs) S' with
      | none => rw [eg] at h'; cases h'
      | some Γ1 =>
        rw [eg] at h'
        have g0 : SimG C M2 (wipeG Γ vs) (wipe σ vs) := (wipeG_ok g vs).mono ((l1.trans lM).trans l2)
        refine kt M2 S' (wipeG Γ vs) Γ1 (wipe σ vs) H' d x _ g0 s2 rx eg fun σ1 g1 w1 => ⟨w1.trans (wipe_wipe σ vs), M2, Γ1, S', g1, s2, ?_⟩
        have h' : (match ft Γ1 S' with
          | .ok true S1' => (match fk Γ1 S1' with
            | .ok k S2' => (match fv Γ1 S2' with
              | .ok v S3' => (match fPutD (.ref S1.nx) k v S3' with
                | some S4 => loopCD gt ft fk fv (wipeG Γ vs) S1.nx r S4
                | none => none)
              | _ => none)
            | _ => none)
          | .ok false S1' => loopCD gt ft fk fv (wipeG Γ vs) S1.nx r S1'
          | _ => none) = some S2 := h'
        cases eft : ft Γ1 S' with
        | bad => rw [eft] at h'; cases h'
        | exc c fs S3 => rw [eft] at h'; cases h'
        | ok okb S3 =>
          rw [eft] at h'
          intro M3 H3 l3 s3
          cases okb with
          | false => exact iteF ⟨M3, S3, (l'.trans l2).trans l3, s3, h'⟩
          | true =>
            refine iteT ⟨M3, Γ1, S3, g1.mono l3, s3, ?_⟩
            have h' : (match fk Γ1 S3 with
              | .ok k S2' => (match fv Γ1 S2' with
                | .ok v S3' => (match fPutD (.ref S1.nx) k v S3' with
                  | some S4 => loopCD gt ft fk fv (wipeG Γ vs) S1.nx r S4
                  | none => none)
                | _ => none)
              | _ => none) = some S2 := h'
            cases efk : fk Γ1 S3 with
            | bad => rw [efk] at h'; cases h'
            | exc c fs S3 => rw [efk] at h'; cases h'
            | ok dk S4 =>
              rw [efk] at h'
              intro M4 yk H4 l4 s4 r4
              refine ⟨M4, Γ1, S4, (g1.mono l3).mono l4, s4, ?_⟩
              have h' : (match fv Γ1 S4 with
                | .ok v S3' => (match fPutD (.ref S1.nx) dk v S3' with
                  | some S4 => loopCD gt ft fk fv (wipeG Γ vs) S1.nx r S4
                  | none => none)
                | _ => none) = some S2 := h'
              cases efv : fv Γ1 S4 with
              | bad => rw [efv] at h'; cases h'
              | exc c fs S3 => rw [efv] at h'; cases h'
              | ok dv S5 =>
                rw [efv] at h'
                intro M5 yv H5 l5 s5 r5
                have h' : (match fPutD (.ref S1.nx) dk dv S5 with
                  | some S4 => loopCD gt ft fk fv (wipeG Γ vs) S1.nx r S4
                  | none => none) = some S2 := h'
                split at h'
                · rename_i S6 e6
                  have lall : (M1.bind S1.nx Dd).le M5 := (((l'.trans l2).trans l3).trans l4).trans l5
                  obtain ⟨a, H6, ea, dp, s6⟩ := dput_of s5 (.ref (lall.2.1 _ _ hmu)) (r4.mono l5) r5 e6
                  cases ea
                  exact ⟨H6, dp, M5, S6, lall, s6, h'⟩
                · cases h'
theorem xdc (b : Bool) {kx vx tg iter : Expr} {ifs : List Expr} {own : List (Str × Nat)} {fi : DI} {gt : D → Ga → Sto → Option Ga} {ft : DT} {fk fv : DE} {fin : D → Sto → Res D} (hfin : FinOk C W fin) (hu : X.A.units < cLine) (hc : X.calm = true) (hN : X.N.Nodup) (hi : ItU X C W tg iter fi) (ok : BlkOk X.N X.env.scope scope own)
    (hg : TgU X C scope tg (own.map (·.2)) gt) (ht : ∀ (s : Shared) (H : Hp) (c : Addr) (cl : List (Str × Addr)) (fp : List Addr), PTs (X.blk s H scope (compEnvC scope cl c X.env) fp) ifs (tT C W0 ft))
    (hk : ∀ (s : Shared) (H : Hp) (c : Addr) (cl : List (Str × Addr)) (fp : List Addr), PE (X.blk s H scope (compEnvC scope cl c X.env) fp) kx (tE C W0 fk))
    (hv : ∀ (s : Shared) (H : Hp) (c : Addr) (cl : List (Str × Addr)) (fp : List Addr), PE (X.blk s H scope (compEnvC scope cl c X.env) fp) vx (tE C W0 fv)) (hs : ∀ x, foldedSetIterable iter X.env x = pure x := by intro _; rfl) :
    PE X (.DictComp kx vx [⟨tg, iter, ifs, 0⟩] scope pos) (tE C W (dDc b fin fi gt ft fk fv (own.map (·.2)))) := by
  obtain ⟨wi, hwi, k⟩ := hi
  obtain ⟨t, htg, kt⟩ := hg
  exact (pe_unl (pe_dcg b hu hc hN hwi ok htg ht hk hv hs)).by fun σ H Q h => dc_rd b (tg := tg) (iter := iter) hfin k kt h
theorem ysetDc (b : Bool) {i : Nat} {y : Str} {py spos : Pos} {kx vx tg iter : Expr} {ifs : List Expr} {own : List (Str × Nat)} {fi : DI} {gt : D → Ga → Sto → Option Ga} {ft : DT} {fk fv : DE} {fin : D → Sto → Res D} (hfin : FinOk C W fin) (hu : X.A.units < cLine) (hc : X.calm = true) (hN : X.N.Nodup) (hy : X.N[i]? = some y) (hyl : X.env.scope.names.lookup y = some .local)
    (hsw : swapsWith (.DictComp kx vx [⟨tg, iter, ifs, 0⟩] scope pos) (some (.Name y py)) spos.line X.env = pure true) (hi : ItU X C W tg iter fi) (ok : BlkOk X.N X.env.scope scope own)
    (hg : TgU X C scope tg (own.map (·.2)) gt) (ht : ∀ (s : Shared) (H : Hp) (c : Addr) (cl : List (Str × Addr)) (fp : List Addr), PTs (X.blk s H scope (compEnvC scope cl c X.env) fp) ifs (tT C W0 ft))
    (hk : ∀ (s : Shared) (H : Hp) (c : Addr) (cl : List (Str × Addr)) (fp : List Addr), PE (X.blk s H scope (compEnvC scope cl c X.env) fp) kx (tE C W0 fk))
    (hv : ∀ (s : Shared) (H : Hp) (c : Addr) (cl : List (Str × Addr)) (fp : List Addr), PE (X.blk s H scope (compEnvC scope cl c X.env) fp) vx (tE C W0 fv)) (hs : ∀ x, foldedSetIterable iter X.env x = pure x := by intro _; rfl) :
    PS X (.Assign [.Name y py] (.DictComp kx vx [⟨tg, iter, ifs, 0⟩] scope pos) spos) (tS C W (sSet (dDc b fin fi gt ft fk fv (own.map (·.2))) i)) := by
  obtain ⟨wi, hwi, k⟩ := hi
  obtain ⟨t, htg, kt⟩ := hg
  refine (ps_unl (ps_setDc b hu hc hN hy hyl hsw hwi ok htg ht hk hv hs)).by fun E σ H ⟨M, Γ, S, g, s, h⟩ => ?_
  refine dc_rd b (W := W) (tg := tg) (iter := iter) (fin := fin) hfin k kt (Q := fun x H1 => gName i x σ H1 E.nx) ?_
  exact run1S g s h fun M1 d S1 x H1 l1 s1 r1 h1 => h1.nxt ((g.mono l1).set r1 i) s1
end
end Pd

namespace Pd
open PySem PySem.Spec L2

/-! ### things of the module -/
section
variable {X : Cx} {C : Cfg} {W : XK}
/-- a constant of the module: what it is, in whatever state -/
def KRep (C : Cfg) (d : D) (v : V) : Prop := ∀ M, Rep C M d v
theorem xglo {x : Str} {v : V} {u : Value} {d : D} {pos : Pos} (hg : Gl X x) (hm : X.mg x = some u) (rv : RelV v u) (r : KRep C d v) (hd : (x == ("__debug__" : Str)) = false := by decide) : PE X (.Name x pos) (tE C W (dC d)) := cst (pe_glob hg hm rv hd) r
theorem xty {x : Str} {T : String} {pos : Pos} (hg : Gl X x) (hm : X.mg x = none) (hv : bootBuiltins x = some (.type T)) (hn : x ≠ "__name__" := by decide) (hd : (x == ("__debug__" : Str)) = false := by decide) : PE X (.Name x pos) (tC (.ty T)) := pe_bltn hg hm hv rfl hn hd
end

/-! ### starred arguments -/
def aStar (fa : DE) (fr : DA) : DA := fun Γ S => (fa Γ S).bind fun d S1 => match seqV S1 d with
  | some xs => (fr Γ S1).bind fun ys S2 => .ok (xs ++ ys) S2
  | none => .bad
section
variable {X : Cx} {C : Cfg} {W : XK} {fa : DE} {fr : DA} {e : Expr} {es : List Expr} {p pos : Pos}
theorem xastar (hK : X.K = C.K) (ha : PE X e (tE C W fa)) (hr : PA X es (tA C W fr)) (hs : starEach (.Starred e p :: es) X.env = (true, eval e X.env) :: starEach es X.env := by rfl) : PA X (.Starred e p :: es) (tA C W (aStar fa fr)) :=
  (StX.pa_star ha hr hs).by fun σ H Q ⟨M, Γ, S, g, s, h⟩ => run1A g s h fun M1 d S1 x H1 l1 s1 r1 h1 => by
    split at h1
    · rename_i xs ex
      obtain ⟨a, vs, rfl, hq, rl⟩ := seq_of s1 r1 ex
      refine ⟨a, vs, rfl, (by rw [hK]; exact hq.symm), runAA (g.mono l1) s1 h1 fun M2 ys S2 ws H2 l2 s2 r2 h2 => ?_⟩
      exact GoodA.ok h2 s2 ((rl.mono l2).append r2)
    · exact h1.elim
/-- C(e, .., *y), C a class of the module -/
theorem pe_makeS {CX : CXT} {k : Nat} {f cl : Addr} {fd : FuncData} {ps : List Str} {sp : Sp} {x : Str} {t : TA} {E : XK} (M : Mk X.K cl f) (F : FnOk X.prog X.w X.K X.mg X.base CX k f fd ps sp) (hr : Room (k + 1) X.A) (hg : Gl X x) (hm : X.mg x = some (.ref cl)) (hb : Binds X.K fd ps []) (hx : Passes CX X E) (ha : PA X (e :: es) t) (hd : (x == ("__debug__" : Str)) = false := by decide)
    (he : starEach (e :: es) X.env = (false, eval e X.env) :: starEach es X.env := by rfl) (hst : (backTo pos (starEach es X.env)).any (·.1) = true := by rfl) : PE X (.Call (.Name x p) (e :: es) [] pos) (tMake cl sp [] E t) := ⟨fun pn s0 σ0 H0 Q I q => by
  refine wpAny_Call_Name_kw (ld_glob I hg hm ?_ hd); exact PySem.W.callWith_S2 (h₀ := X.base) I.ok.mod.kin M.kp (thn (ha.run pos pn s0 σ0 H0 _ I q) fun us s1 ⟨vs, H1, I1, r, q1⟩ => ⟨I1.kIn, run_make M F hr hb .nil hx I1 r q1⟩) he hst⟩
theorem xmakeS {CX : CXT} {k n c : Nat} {fI : Addr} {fd : FuncData} {ps : List Str} {fn : List D → Sto → Res D} {x : Str} (Mk' : Mk X.K (C.ga c) fI) (F : FnOk X.prog X.w X.K X.mg X.base CX k fI fd ps (spD C n fn)) (hr : Room (k + 1) X.A) (hg : Gl X x) (hm : X.mg x = some (.ref (C.ga c))) (hb : Binds X.K fd ps []) (hx : Passes CX X W)
    (ha : PA X (e :: es) (tA C W fr)) (hd : (x == ("__debug__" : Str)) = false := by decide) (he : starEach (e :: es) X.env = (false, eval e X.env) :: starEach es X.env := by rfl) (hst : (backTo pos (starEach es X.env)).any (·.1) = true := by rfl) : PE X (.Call (.Name x p) (e :: es) [] pos) (tE C W (dMake c n fn fr)) :=
  (pe_makeS Mk' F hr hg hm hb hx ha hd he hst).by fun σ H Q ⟨M, Γ, S, g, s, h⟩ => runA g s h fun M1 ds S1 vs H1 l1 s1 r1 h1 => fun y dx hy hd ne => make_rd s1 r1 hy hd ne h1
end

/-! ### a local name that holds one of several defs -/
/-- the defs that may be called so: number, arity, denotation -/
abbrev Tab := List (Nat × Nat × (List D → Sto → Res D))
def lookTab : Tab → Nat → Option (Nat × (List D → Sto → Res D))
  | [], _ => none
  | (g, n, f) :: r, j => (match Nat.beq g j with
    | true => some (n, f)
    | false => lookTab r j)
def dCallT (tb : Tab) (i : Nat) (fr : DA) : DE := fun Γ S => match Γ[i]? with
  | some (some (.glo g)) => (match lookTab tb g with
    | some (n, f) => (fr Γ S).bind fun ds S1 => guard (lenIs n ds) (f ds S1)
    | none => .bad)
  | _ => .bad
/-- each of them keeps its promise -/
def TabOk (P : Program) (w : World) (K : PySem.W.Frag) (mg : Str → Option Value) (base : Heap) (C : Cfg) (k : Nat) (tb : Tab) : Prop := ∀ g n f, lookTab tb g = some (n, f) → Held P w K mg base k (C.ga g) (spD C n f)
section
variable {P : Program} {w : World} {K : PySem.W.Frag} {mg : Str → Option Value} {base : Heap} {C : Cfg} {k : Nat}
theorem tabnil : TabOk P w K mg base C k [] := fun _ _ _ h => by cases h
theorem tabcons {g n : Nat} {f : List D → Sto → Res D} {tb : Tab} (h : Held P w K mg base k (C.ga g) (spD C n f)) (r : TabOk P w K mg base C k tb) : TabOk P w K mg base C k ((g, n, f) :: tb) := fun j m f' e => by
  unfold lookTab at e
  split at e
  · rename_i q
    cases e
    have := Nat.eq_of_beq_eq_true q
    subst this
    exact h
  · exact r j m f' e
end
section
variable {X : Cx} {C : Cfg} {W : XK} {fr : DA} {e : Expr} {es : List Expr} {p pos : Pos}
theorem xcallT {k i : Nat} {x : Str} {tb : Tab} (T : TabOk X.prog X.w X.K X.mg X.base C k tb) (hr : Room k X.A) (hN : X.N[i]? = some x) (hv : Vis X.env.scope x) (ha : PA X (e :: es) (tA C W fr)) (hdb : (x == ("__debug__" : Str)) = false := by decide) (hcd : (x == ("__classdict__" : Str)) = false := by decide)
    (he : starEach (e :: es) X.env = (false, eval e X.env) :: starEach es X.env := by rfl) (hpl : (backTo pos (starEach es X.env)).any (·.1) = false := by rfl) : PE X (.Call (.Name x p) (e :: es) [] pos) (tE C W (dCallT tb i fr)) := ⟨fun pn s0 σ0 H0 Q I q => by
  obtain ⟨M, Γ, S, g, s, h⟩ := q
  unfold dCallT at h
  split at h
  · rename_i j ej
    split at h
    · rename_i n f ef
      obtain ⟨v, hv0, rv⟩ := g.2 i _ ej
      cases rv
      obtain ⟨fd, ps, F, hk, hb⟩ := (T j n f ef).ex
      refine (pe_callL (i := i) (f := C.ga j) (sp := spD C n f) (dvs := []) (E := W) F hr hN hv hk hb .nil (fun _ _ _ _ _ _ _ z => z.elim) ha hdb hcd he hpl).run pn s0 σ0 H0 Q I ⟨hv0, ?_⟩
      refine runA g s h fun M1 ds S1 vs H1 l1 s1 r1 h1 => ?_
      obtain ⟨g1, h1⟩ := guard_ok h1
      rw [List.append_nil]
      exact ⟨M1, S1, ds, lenIs_ok g1, s1, r1, h1⟩
    · exact h.elim
  · exact h.elim⟩
end
end Pd

namespace Pd
open L2 PySem PySem.Spec PyProof.Rows

/-! ### a def as a whole -/
/-- the slots at the start: the parameters, the others empty -/
def startG : Nat → List D → Ga
  | 0, ds => ds.map some
  | n + 1, [] => none :: startG n []
  | n + 1, d :: r => some d :: startG n r
def endD (r : SRes) : Res D := match r with
  | .nx _ S => .ok .non S
  | .rt d S => .ok d S
  | .exc c fs S => .exc c fs S
  | _ => .bad
/-- what a def gives: n slots, its body -/
def dFun (n : Nat) (body : DS) : List D → Sto → Res D := fun ds S => endD (body (startG n ds) S)
/-- a def that keeps its promise, and may be called plainly -/
def OkF (P : Program) (w : World) (K : PySem.W.Frag) (mg : Str → Option Value) (base : Heap) (C : Cfg) (k : Nat) (a : Addr) (n : Nat) (f : List D → Sto → Res D) : Prop :=
  ∃ (fd : FuncData) (ps : List Str), FnOk P w K mg base CX0 k a fd ps (spD C n f) ∧ PySem.W.keepIn K (.ref a) = true ∧ Binds K fd ps []
section
variable {C : Cfg} {M : Wd}
theorem startG_rep : ∀ {n : Nat} {ds : List D} {vs : List V}, ds.length ≤ n → RepL C M ds vs → SimG C M (startG n ds) (vs.map some ++ List.replicate (n - vs.length) none)
  | 0, ds, vs, h, r => by
    cases ds with
    | nil => rw [r.nil_inv]; exact ⟨rfl, fun i d e => by simp [startG] at e⟩
    | cons d r => simp at h
  | n + 1, [], vs, h, r => by
    have ih := startG_rep (n := n) (ds := []) (vs := []) (Nat.zero_le _) (RepL.nil (C := C) (M := M))
    rw [r.nil_inv]
    refine ⟨?_, fun i d e => ?_⟩
    · show (startG n []).length + 1 = _
      rw [ih.1]
      simp
    · cases i with
      | zero => cases e
      | succ i =>
        obtain ⟨v, hv, rv⟩ := ih.2 i d e
        refine ⟨v, ?_, rv⟩
        simp only [List.map_nil, List.nil_append, List.length_nil, Nat.sub_zero] at hv ⊢
        rw [List.replicate_succ, List.getElem?_cons_succ]
        exact hv
  | n + 1, d :: ds, vs, h, r => by
    obtain ⟨v, us, rfl, h1, h2⟩ := r.cons_inv
    have ih := startG_rep (n := n) (by simpa using h) h2
    refine ⟨?_, fun i e q => ?_⟩
    · show (startG n ds).length + 1 = _
      rw [ih.1]
      simp
    · cases i with
      | zero =>
        have q : some (some d) = some (some e) := q
        cases q
        exact ⟨v, rfl, h1⟩
      | succ i =>
        obtain ⟨u, hu, ru⟩ := ih.2 i e q
        refine ⟨u, ?_, ru⟩
        simp only [List.map_cons, List.cons_append, List.length_cons, List.getElem?_cons_succ, Nat.add_sub_add_right]
        exact hu
end
section
variable {P : Program} {w : World} {K : PySem.W.Frag} {mg : Str → Option Value} {base : Heap} {C : Cfg} {x qual : Str} {params : Arguments} {body : List Stmt} {scope : Scope} {f : Addr} {fd : FuncData}
theorem len_ok {n m : Nat} (h : Nat.ble n m = true) : n ≤ m := Nat.le_of_ble_eq_true h
theorem okf {N ps : List Str} {k : Nat} {fb : DS} (F : FunD K x qual params body scope [] [] f fd) (S : FnScope N ps scope) (hle : Nat.ble ps.length N.length = true) (hb : Binds K fd ps [])
    (hbody : ∀ (cdv : Value) (A : Around) (outer : List Env) (s : Shared) (H : Hp) (E : XK), Room k (A.deeper (envOfC qual scope s.heap.objs.size f cdv)) → PSs (cxOf CX0 P w K mg base N qual scope f cdv A outer s H E) body (tS C E fb)) :
    OkF P w K mg base C (k + 1) f ps.length (dFun N.length fb) := by
  refine ⟨fd, ps, F.ok S (fun vs H Q E h => ?_) (fun cdv A outer s H vs Q E hr h => ⟨tS C E fb, hbody cdv A outer s H E hr, ?_⟩), F.kp, hb⟩
  · obtain ⟨M, S0, ds, hl, _, r, _⟩ := h
    rw [← r.1, hl]
  · obtain ⟨M, S0, ds, hl, sm, r, g⟩ := h
    refine ⟨M, startG N.length ds, S0, startG_rep (by rw [hl]; exact len_ok hle) r, sm, ?_⟩
    have g : GoodE C M (endD (fb (startG N.length ds) S0)) Q E := g
    cases e : fb (startG N.length ds) S0 with
    | nx Γ S' => rw [e] at g; exact fun M' σ' H' l _ s => g M' .non H' l s .non
    | rt d S' => rw [e] at g; exact g
    | bk Γ S' => rw [e] at g; exact g.elim
    | ct Γ S' => rw [e] at g; exact g.elim
    | exc c fs S' => rw [e] at g; exact fun M' σ' c' d H' l s r => g M' c' d H' l s r
    | bad => rw [e] at g; exact g.elim
end
section
variable {X : Cx} {C : Cfg} {W : XK} {k n : Nat} {f : Addr} {fn : List D → Sto → Res D} {x m : Str} {p pos apos : Pos} {e o : Expr} {es : List Expr} {fr : DA} {fo : DE}
theorem zcall (F : OkF X.prog X.w X.K X.mg X.base C k f n fn) (hr : Room k X.A) (hg : Gl X x) (hm : X.mg x = some (.ref f)) (ha : PA X (e :: es) (tA C W fr)) (hdb : (x == ("__debug__" : Str)) = false := by decide) (he : starEach (e :: es) X.env = (false, eval e X.env) :: starEach es X.env := by rfl)
    (hpl : (backTo pos (starEach es X.env)).any (·.1) = false := by rfl) : PE X (.Call (.Name x p) (e :: es) [] pos) (tE C W (dCall n fn fr)) := by
  obtain ⟨fd, ps, F, hk, hb⟩ := F
  exact xcall F hr hg hm hk hb pass0 ha hdb he hpl
theorem zcall0 (F : OkF X.prog X.w X.K X.mg X.base C k f 0 fn) (hr : Room k X.A) (hg : Gl X x) (hm : X.mg x = some (.ref f)) (hdb : (x == ("__debug__" : Str)) = false := by decide) : PE X (.Call (.Name x p) [] [] pos) (tE C W (dCall 0 fn aNil)) := by
  obtain ⟨fd, ps, F, hk, hb⟩ := F
  exact xcall0 F hr hg hm hk hb pass0 hdb
theorem zmeth {c : Nat} {pl : Sem Bool} (hn : m ∉ C.an) (ho : PE X o (tE C W fo)) (cl : Cls X.K (C.ga c)) (hm : Meth X.K (C.ga c) m f) (F : OkF X.prog X.w X.K X.mg X.base C k f n fn) (hr : Room k X.A) (ha : PA X (e :: es) (tA C W fr)) (hst : starEach (e :: es) X.env = (false, eval e X.env) :: starEach es X.env := by rfl)
    (hpl : (backTo pos (starEach es X.env)).any (·.1) = false := by rfl)
    (ht : eval (.Call (.Attribute o m apos) (e :: es) [] pos) X.env = (do let ov ← eval o X.env; standAt apos.atName; let (f, first) ← holding [ov] (getMethod ov m pl); callWith pos f first (backTo pos (starEach (e :: es) X.env)) (backToKw pos (keywordEach [] X.env))) := by rfl) :
    PE X (.Call (.Attribute o m apos) (e :: es) [] pos) (tE C W (dMeth c n fn fo fr)) := by
  obtain ⟨fd, ps, F, hk, hb⟩ := F
  exact xmeth hn ho cl hm F hr hb pass0 ha hst hpl ht
theorem zmeth0 {c : Nat} {pl : Sem Bool} (hn : m ∉ C.an) (ho : PE X o (tE C W fo)) (cl : Cls X.K (C.ga c)) (hm : Meth X.K (C.ga c) m f) (F : OkF X.prog X.w X.K X.mg X.base C k f n fn) (hr : Room k X.A)
    (ht : eval (.Call (.Attribute o m apos) [] [] pos) X.env = (do let ov ← eval o X.env; standAt apos.atName; let (f, first) ← holding [ov] (getMethod ov m pl); callWith pos f first (backTo pos (starEach [] X.env)) (backToKw pos (keywordEach [] X.env))) := by rfl) :
    PE X (.Call (.Attribute o m apos) [] [] pos) (tE C W (dMeth c n fn fo aNil)) := by
  obtain ⟨fd, ps, F, hk, hb⟩ := F
  exact xmeth0 hn ho cl hm F hr hb pass0 ht
theorem zmake {c : Nat} (Mk' : Mk X.K (C.ga c) f) (F : OkF X.prog X.w X.K X.mg X.base C k f n fn) (hr : Room (k + 1) X.A) (hg : Gl X x) (hm : X.mg x = some (.ref (C.ga c))) (ha : PA X (e :: es) (tA C W fr)) (hdb : (x == ("__debug__" : Str)) = false := by decide) (he : starEach (e :: es) X.env = (false, eval e X.env) :: starEach es X.env := by rfl)
    (hpl : (backTo pos (starEach es X.env)).any (·.1) = false := by rfl) : PE X (.Call (.Name x p) (e :: es) [] pos) (tE C W (dMake c n fn fr)) := by
  obtain ⟨fd, ps, F, hk, hb⟩ := F
  exact xmake Mk' F hr hg hm hb pass0 ha hdb he hpl
theorem zmake0 {c : Nat} (Mk' : Mk X.K (C.ga c) f) (F : OkF X.prog X.w X.K X.mg X.base C k f n fn) (hr : Room (k + 1) X.A) (hg : Gl X x) (hm : X.mg x = some (.ref (C.ga c))) (hdb : (x == ("__debug__" : Str)) = false := by decide) : PE X (.Call (.Name x p) [] [] pos) (tE C W (dMake c n fn aNil)) := by
  obtain ⟨fd, ps, F, hk, hb⟩ := F
  exact xmake0 Mk' F hr hg hm hb pass0 hdb
theorem zmakeS {c : Nat} (Mk' : Mk X.K (C.ga c) f) (F : OkF X.prog X.w X.K X.mg X.base C k f n fn) (hr : Room (k + 1) X.A) (hg : Gl X x) (hm : X.mg x = some (.ref (C.ga c))) (ha : PA X (e :: es) (tA C W fr)) (hd : (x == ("__debug__" : Str)) = false := by decide) (he : starEach (e :: es) X.env = (false, eval e X.env) :: starEach es X.env := by rfl)
    (hst : (backTo pos (starEach es X.env)).any (·.1) = true := by rfl) : PE X (.Call (.Name x p) (e :: es) [] pos) (tE C W (dMake c n fn fr)) := by
  obtain ⟨fd, ps, F, hk, hb⟩ := F
  exact xmakeS Mk' F hr hg hm hb pass0 ha hd he hst
end
theorem OkF.held {P : Program} {w : World} {K : PySem.W.Frag} {mg : Str → Option Value} {base : Heap} {C : Cfg} {j k n : Nat} {a : Addr} {f : List D → Sto → Res D} (F : OkF P w K mg base C j a n f) (h : j ≤ k) : Held P w K mg base k a (spD C n f) := by
  obtain ⟨fd, ps, F, hk, hb⟩ := F
  exact ⟨fd, ps, F.mono h, hk, hb⟩
theorem _root_.L2.Room.units1 {k : Nat} {A : Around} (r : Room k A) : A.units + 1 < cLine := by have := r.units; omega
end Pd

namespace Pd
open PySem PySem.Spec L2

/-! ### whatever is walked by its value -/
section
variable {X : Cx} {tg e : Expr} {td : TE}
theorem _root_.L2.PI.or {wi wj : TI} (h : PI X tg e wi) (h' : PI X tg e wj) : PI X tg e (fun σ H R => wi σ H R ∨ wj σ H R) := ⟨fun pn s0 σ0 H0 R I q => q.elim (h.run pn s0 σ0 H0 R I) (h'.run pn s0 σ0 H0 R I)⟩
/-- a list of the store, locked for as long -/
def iListL (X : Cx) (td : TE) : TI := fun σ H R => td σ H fun x H1 => ∃ d vs, x = .ref d ∧ ((∃ od, H1 d = some (.frz od (.lst vs)) ∧ R (Itl X.K d) H1) ∨ H1 d = some (.lst vs) ∧ ∀ od, NoFrz X d → R (Itl X.K d) (upd H1 d (.frz od (.lst vs))))
theorem list_it {pn : List (Addr × Obj)} {σ : St} {H : Hp} {s : Shared} {d : Addr} {vs : List V} {R : It → Hp → Prop} {E : Value → Shared → Prop} (I : Inv X pn σ H s) (h : SqL X.K H d vs) (q : R (Itl X.K d) H) : wpAny (model X.prog X.w) X.A (pyIter (.ref d)) (PIE X pn σ tg R) E s := by
  obtain ⟨its, _, p, _⟩ := I.list h
  exact wpAny_pyIter_list p.isList (pi_one (tk := s.toks) I _ (turn_list d _) ⟨_, Heap.get?_push_size _ rfl, rfl, rfl⟩ q)
theorem pi_listL (he : PE X e td) : PI X tg e (iListL X td) := ⟨fun pn s0 σ0 H0 R I h => by
  refine thn (he.run pn s0 σ0 H0 _ I h) fun u s1 ⟨x, H1, I1, rx, d, vs, ex, q⟩ => ?_
  subst ex
  cases rx
  rcases q with ⟨od, hd, q⟩ | ⟨hd, q⟩
  · exact list_it I1 (.inl (.inr ⟨od, hd⟩)) q
  · obtain ⟨od, I2⟩ := I1.lock hd True.intro
    exact list_it I2 (.inl (.inr ⟨od, upd_same⟩)) (q od (I1.nofrz hd True.intro))⟩
end
def lockL (d : D) (S : Sto) : Res (List D × UK) := match d with
  | .ref n => (match S.at n with
    | some (.lst ds) => .ok (ds, .st n) (S.set n (.lck (.lst ds)))
    | some (.lck (.lst ds)) => .ok (ds, .no) S
    | _ => lockD d S)
  | _ => lockD d S
def fAny (d : D) (S : Sto) : Res (List D × UK) := match iFrz d with
  | some ds => .ok (ds, .no) S
  | none => (match tupV d with
    | some ds => .ok (ds, .no) S
    | none => (match d with
      | .str x => .ok (signs x.cps.toList, .no) S
      | d => lockL d S))
def iAny (fa : DE) : DI := fun Γ S => (fa Γ S).bind fAny
section
variable {X : Cx} {C : Cfg} {W : XK} {tg e : Expr} {fa : DE}
theorem gives_L {M : Wd} {d : Addr} {od : Obj} {ds : List D} {vs : List V} (h : M.lk d = some (od, .lst vs)) (r : RepL C M ds vs) : Gives C M (Itl C.K d) ds := by
  intro M' S H l s i
  have hd : SqL C.K H d vs := .inl (.inr ⟨od, s.lk _ _ _ (l.2.2 _ _ h)⟩)
  have rl := r.mono l
  refine ⟨fun hi => ⟨vs, hd, by rw [← rl.1]; exact hi⟩, fun x hx => ?_⟩
  obtain ⟨v, hv, rv⟩ := rl.get hx
  refine ⟨⟨vs, v, hd, hv⟩, fun y H' q => ?_⟩
  obtain ⟨rfl, q⟩ := q
  have same := q vs hd
  rw [hv] at same; cases same
  exact ⟨M', .refl M', s, rv⟩
theorem wlstS (hK : X.K = C.K) (he : PE X e (tE C W fa)) : ItU X C W tg e (fun Γ S => (fa Γ S).bind fun d S1 => match d with
    | .ref n => (match S1.at n with
      | some (.lst ds) => .ok (ds, .st n) (S1.set n (.lck (.lst ds)))
      | some (.lck (.lst ds)) => .ok (ds, .no) S1
      | _ => .bad)
    | _ => .bad) := by
  refine ⟨_, pi_listL he, fun M Γ S σ H R g s q => run1U g s q fun M1 d S1 x H1 l1 s1 r1 h1 => ?_⟩
  rw [hK]
  cases r1 with
  | ref hm =>
    rename_i n a
    dsimp only at h1
    split at h1
    · rename_i ds' k' S' e'
      split at e'
      · rename_i ds em
        cases e'
        obtain ⟨b, o, h2, h3, h4, vs, rfl, rr⟩ := s1.al n _ em
        rw [hm] at h2; cases h2
        have n0 := s1.nolk (a := a) (fun ob u w => by rw [h3] at w; cases w)
        refine ⟨a, vs, rfl, .inr ⟨h3, fun od nf => ?_⟩⟩
        have s2 := (s1.write (m' := .lck (.lst _)) (o := .frz od (.lst vs)) em hm ⟨od, _, rfl, vs, rfl, rr⟩).addlk (od := od) (u := .lst vs) upd_same
        exact h1 _ _ _ (Wd.lck_le n0) s2 (gives_L Wd.lck_at (rr.mono (Wd.lck_le n0))) (end_st (Wd.lck_le n0) n0 Wd.lck_at hm nf)
      · rename_i ds em
        cases e'
        obtain ⟨b, o, h2, h3, h4, ob, u, rfl, vs, rfl, rr⟩ := s1.al n _ em
        rw [hm] at h2; cases h2
        refine ⟨a, vs, rfl, .inl ⟨ob, h3, ?_⟩⟩
        have s2 := s1.addlk h3
        cases e0 : M1.lk a with
        | none => exact h1 _ _ _ (Wd.lck_le e0) s2 (gives_L Wd.lck_at (rr.mono (Wd.lck_le e0))) (end_no (Wd.lck_le e0))
        | some p =>
          obtain ⟨od, u⟩ := p
          have w := s1.lk _ _ _ e0
          rw [h3] at w; cases w
          exact h1 _ _ _ (.refl _) s1 (gives_L e0 rr) (end_no (.refl _))
      · cases e'
    · rename_i c fs S' e'
      split at e' <;> cases e'
    · exact h1.elim
  | _ => exact h1.elim
/-- what a walk is asked for, by its result -/
def ItG (X : Cx) (C : Cfg) (W : XK) (M : Wd) (R : It → Hp → Prop) (r : Res (List D × UK)) : Prop := match r with
  | .ok (ds, k) S1 => ∀ M1 H1 J, M.le M1 → Sim C M1 S1 H1 → Gives C M1 J ds → EndOk X C M M1 k → R J H1
  | .exc c fs S1 => ∀ M' cls dd H', M.le M' → Sim C M' S1 H' → RepX C M' H' cls dd c fs → W cls dd H'
  | .bad => False
theorem ItG.eq {M : Wd} {R : It → Hp → Prop} {r r' : Res (List D × UK)} (h : ItG X C W M R r) (e : r' = r) : ItG X C W M R r' := by rw [e]; exact h
theorem fAny_lst {d : D} {S : Sto} {ds : List D} (h : iFrz d = some ds) : fAny d S = .ok (ds, .no) S := by unfold fAny; rw [h]
theorem fAny_tup {d : D} {S : Sto} {ds : List D} (h0 : iFrz d = none) (h : tupV d = some ds) : fAny d S = .ok (ds, .no) S := by unfold fAny; rw [h0, h]
def stL (S : Sto) (d : D) : Res (List D × UK) := match d with
  | .ref n => (match S.at n with
    | some (.lst ds) => .ok (ds, .st n) (S.set n (.lck (.lst ds)))
    | some (.lck (.lst ds)) => .ok (ds, .no) S
    | _ => .bad)
  | _ => .bad
theorem fAny_else (d : D) (S : Sto) (h0 : iFrz d = none) (h : tupV d = none) : (∃ x, d = .str x ∧ fAny d S = .ok (signs x.cps.toList, .no) S) ∨ (∃ p S', stL S d = .ok p S' ∧ fAny d S = .ok p S') ∨ fAny d S = lockD d S := by
  unfold fAny
  rw [h0, h]
  cases d with
  | str x => exact .inl ⟨x, rfl, rfl⟩
  | ref n =>
    unfold lockL stL
    dsimp only
    cases e : S.at n with
    | none => exact .inr (.inr rfl)
    | some m =>
      cases m with
      | lst ds => exact .inr (.inl ⟨_, _, rfl, rfl⟩)
      | lck m =>
        cases m with
        | lst ds => exact .inr (.inl ⟨_, _, rfl, rfl⟩)
        | _ => exact .inr (.inr rfl)
      | _ => exact .inr (.inr rfl)
  | _ => exact .inr (.inr rfl)
theorem wany (hK : X.K = C.K) (he : PE X e (tE C W fa)) : ItU X C W tg e (iAny fa) := by
  obtain ⟨w1, p1, k1⟩ := ItD.u (wlst (tg := tg) hK he)
  obtain ⟨w2, p2, k2⟩ := ItD.u (wtup (tg := tg) hK he)
  obtain ⟨w3, p3, k3⟩ := ItD.u (wstr (tg := tg) he)
  obtain ⟨w4, p4, k4⟩ := wlstS (tg := tg) hK he
  obtain ⟨w5, p5, k5⟩ := wdct (tg := tg) he
  refine ⟨_, p1.or (p2.or (p3.or (p4.or p5))), fun M Γ S σ H R g s q => ?_⟩
  have q : ItG X C W M R (iAny fa Γ S) := q
  unfold iAny at q
  cases e0 : fa Γ S with
  | bad => rw [e0] at q; exact q.elim
  | exc c fs S1 =>
    rw [e0] at q
    exact .inl (k1 M Γ S σ H R g s (q.eq (by unfold iNo aLst; rw [e0]; rfl)))
  | ok d S1 =>
    rw [e0] at q
    have q : ItG X C W M R (fAny d S1) := q
    cases ei : iFrz d with
    | some ds =>
      rw [fAny_lst ei] at q
      exact .inl (k1 M Γ S σ H R g s (q.eq (by unfold iNo aLst; rw [e0]; unfold Res.bind; dsimp only; rw [ei])))
    | none =>
      cases et : tupV d with
      | some ds =>
        rw [fAny_tup ei et] at q
        exact .inr (.inl (k2 M Γ S σ H R g s (q.eq (by unfold iNo aTup; rw [e0]; unfold Res.bind; dsimp only; rw [et]))))
      | none =>
        rcases fAny_else d S1 ei et with ⟨x, rfl, e3⟩ | ⟨p, S2, e4, e3⟩ | e3
        · rw [e3] at q
          exact .inr (.inr (.inl (k3 M Γ S σ H R g s (q.eq (by unfold iNo aStr; rw [e0]; rfl)))))
        · rw [e3] at q
          exact .inr (.inr (.inr (.inl (k4 M Γ S σ H R g s (q.eq (by dsimp only; rw [e0]; exact e4))))))
        · rw [e3] at q
          exact .inr (.inr (.inr (.inr (k5 M Γ S σ H R g s (q.eq (by unfold iDct; rw [e0]; rfl))))))
end
/-! ### a comprehension's own names -/
def nmB (a b : Option NameKind) : Bool := decide (a = b)
def inB (x : Str) : List Str → Bool
  | [] => false
  | y :: r => (match decide (x = y) with
    | true => true
    | false => inB x r)
theorem inB_iff (x : Str) : ∀ l : List Str, inB x l = true ↔ x ∈ l
  | [] => ⟨fun h => (by cases h), fun h => (by cases h)⟩
  | y :: r => by
    unfold inB
    by_cases e : x = y
    · rw [decide_eq_true e]; exact ⟨fun _ => by rw [e]; exact List.mem_cons_self .., fun _ => rfl⟩
    · rw [decide_eq_false e]
      show inB x r = true ↔ _
      rw [inB_iff x r]
      exact ⟨fun h => List.mem_cons_of_mem _ h, fun h => (List.mem_cons.mp h).elim (fun z => absurd z e) id⟩
def blkB (N : List Str) (sc scope : Scope) (own : List (Str × Nat)) : Bool :=
  decide (scope.kind = .function) && (scope.names.all (fun y => nmB (scope.names.lookup y.1) (some y.2)) && (own.all (fun p => decide (N[p.2]? = some p.1)) &&
    (scope.names.all (fun y => match decide (y.2 = .free) with
      | true => nmB (sc.names.lookup y.1) (some .cell) || nmB (sc.names.lookup y.1) (some .free)
      | false => true) &&
    scope.names.all (fun y => match decide (y.2 = .local) || decide (y.2 = .cell) with
      | true => inB y.1 (own.map (·.1)) || !inB y.1 N
      | false => true))))
theorem blk_of {N : List Str} {sc scope : Scope} {own : List (Str × Nat)} (h : blkB N sc scope own = true) : BlkOk N sc scope own := by
  unfold blkB at h
  (simp only [Bool.and_eq_true] at h)
  obtain ⟨h1, h2, h3, h4, h5⟩ := h
  refine ⟨of_decide_eq_true h1, fun y hy => ?_, fun p hp => of_decide_eq_true (List.all_eq_true.mp h3 p hp), fun y hy e => ?_, fun y hy e => ?_⟩
  · exact of_decide_eq_true (List.all_eq_true.mp h2 y hy)
  · have q := List.all_eq_true.mp h4 y hy
    rw [decide_eq_true e] at q
    rcases Bool.or_eq_true_iff.mp q with z | z
    · exact .inl (of_decide_eq_true z)
    · exact .inr (of_decide_eq_true z)
  · have q := List.all_eq_true.mp h5 y hy
    have t : (decide (y.2 = .local) || decide (y.2 = .cell)) = true := by
      rcases e with e | e
      · rw [decide_eq_true e]; rfl
      · rw [decide_eq_true e, Bool.or_true]
    rw [t] at q
    rcases Bool.or_eq_true_iff.mp q with z | z
    · exact .inl ((inB_iff _ _).mp z)
    · refine .inr fun w => ?_
      rw [(inB_iff _ _).mpr w] at z
      cases z
section
variable {X : Cx} {C : Cfg} {W : XK} {x : Str} {pos : Pos}
theorem xgint {i : Int} (hg : Gl X x) (hm : ∃ t, X.mg x = some (.int i t)) (hd : (x == ("__debug__" : Str)) = false := by decide) : PE X (.Name x pos) (tE C W (dC (.int i))) := by
  obtain ⟨t, hm⟩ := hm
  exact cst (pe_glob (v := .int i) hg hm ⟨t, rfl⟩ hd) fun _ => .int i
theorem xgstr {z : Str} (hg : Gl X x) (hm : ∃ t, X.mg x = some (.str z t)) (hd : (x == ("__debug__" : Str)) = false := by decide) : PE X (.Name x pos) (tE C W (dC (.str z))) := by
  obtain ⟨t, hm⟩ := hm
  exact cst (pe_glob (v := .str z) hg hm ⟨t, rfl⟩ hd) fun _ => .str z
theorem xglr {a : Addr} {d : D} (hg : Gl X x) (hm : X.mg x = some (.ref a)) (r : KRep C d (.ref a)) (hd : (x == ("__debug__" : Str)) = false := by decide) : PE X (.Name x pos) (tE C W (dC d)) := xglo (v := .ref a) hg hm rfl r hd
end
end Pd

/-! a list made of what an iterator of its own hands out: reversed(tuple) -/
namespace Pd
open PySem PySem.Spec PyProof.Rows L2 RT

theorem rt_nolen : typeLookup (.type "reversed") "__len__" = pure none := by rw [typeLookup_type, builtinLookup_eq_fast]; kernel_rfl
theorem slot_rt_hint : Slot "reversed" "__length_hint__" "reversed.__length_hint__" :=
  .of (owner := "reversed") (n := "__length_hint__") (by rw [typeLookup_type, builtinLookup_eq_fast]; kernel_rfl) (by decide +kernel) (by decide +kernel) (by decide +kernel) (by first | exact .inl (by decide +kernel) | exact .inr (by decide +kernel)) (by rw [isSubtype_type]; kernel_rfl)
theorem entry_rt_hint : entryFor table "reversed.__length_hint__" = some Builtin.«reversed.__length_hint__» := entryFor_of_tree (by kernel_rfl)
theorem args_rt_hint (a : Value) : argsOk "reversed.__length_hint__" ⟨[a], []⟩ := by
  unfold argsOk; rw [signature?_of (id := "reversed.__length_hint__") (n := ['_', '_', 't', 'n', 'i', 'h', '_', 'h', 't', 'g', 'n', 'e', 'l', '_', '_']) (o := ['d', 'e', 's', 'r', 'e', 'v', 'e', 'r']) (by kernel_rfl) owner_rt]; kernel_rfl

section
variable {prog : Program} {w : World} {s : Shared} {A : Around} {E : Value → Shared → Prop}
theorem hint_rt {it t : Addr} {items : Array Value} {Q : Bool → Shared → Prop} (hit : IsRt s.heap it t ((items.size : Int) - 1)) (hn : items.size ≤ sizeLine) (hlen : ∀ (A : Around) (E : Value → Shared → Prop) (Q : Value → Shared → Prop), Q (.int items.size (s.toks + 1)) { s with toks := s.toks + 1 + 1 } → wpAny (model prog w) A (call (.builtin "len") [.ref t]) Q E s)
    (h : ∀ b tk, s.toks ≤ tk → Q b { s with toks := tk }) : wpAny (model prog w) A (Builtin.List.listLengthHint (.ref it)) Q E s := by
  obtain ⟨o, ho, hc, hd⟩ := id hit; have hT := hit.typeIs
  rw [sizeLine_eq] at hn
  (unfold Builtin.List.listLengthHint)
  refine wpAny_bind (wpAny_specialOf hT rt_nolen ?_)
  show wpAny _ _ (specialOf (Value.ref it) (Str.ofString "__length_hint__") >>= _) _ _ _
  refine wpAny_bind (wpAny_specialOf hT slot_rt_hint.lookup ?_)
  generalize hid : ("reversed.__length_hint__" : String) = id0
  wp_delta
  rw [show splitId id0 = some ("reversed", "__length_hint__") from by subst hid; decide +kernel]
  subst hid
  refine wpAny_bind (wpAny_isInstance (b := true) hT (by rw [isSubtype_type]; kernel_rfl) ?_); refine wpAny_ite_split (fun hab => absurd hab (by decide)) (fun _ => ?_)
  refine wpAny_ite_split (fun hab => absurd hab (by decide +kernel)) (fun _ => ?_); refine wpAny_bind (wpAny_rule ?_)
  refine wpAny_bind (wpAny_of_eq (slot_rt_hint.bind _) ?_)
  refine wpAny_bind (wpAny_attempt (wpAny_call_entry slot_rt_hint hT entry_rt_hint ?_ (args_rt_hint _)))
  unfold Builtin.«reversed.__length_hint__»
  refine wpAny_bind (wpAny_of_eq (a := Value.ref it) rfl ?_)
  refine wpAny_bind (wpAny_field ho hd (x := .ref t) rfl ?_); refine wpAny_ite_split (fun hab => absurd hab Bool.false_ne_true) (fun _ => ?_)
  refine wpAny_bind (hlen _ _ _ ?_); refine wpAny_bind (wpAny_of_eq (a := some ((items.size : Nat) : Int)) rfl ?_)
  refine wpAny_bind (wpAny_field (s := { s with toks := s.toks + 1 + 1 }) ho hd (x := rawInt ((items.size : Int) - 1)) rfl ?_)
  refine wpAny_ite_split (fun hab => absurd hab (by omega)) (fun _ => ?_)
  show wpAny _ _ (mkInt ((items.size : Int) - 1 + 1) >>= fun v => ret v) _ _ _
  refine wpAny_bind (wpAny_mkInt ?_); refine wpAny_pure ⟨_, rfl, ?_⟩
  show wpAny _ _ (asInt? (.int ((items.size : Int) - 1 + 1) _) >>= _) _ _ _
  refine wpAny_bind (wpAny_of_eq (a := some ((items.size : Int) - 1 + 1)) rfl ?_)
  refine (wpAny_ite_split (fun hab => ?_) (fun _ => ?_))
  · exfalso
    unfold Builtin.List.listFitsIndex at hab
    simp at hab
    omega
  refine wpAny_ite_split (fun hab => absurd hab (by omega)) (fun _ => ?_)
  refine (wpAny_ite_split (fun hab => ?_) (fun _ => ?_))
  · exfalso
    unfold Builtin.List.listTooLong at hab
    simp [sizeLine_eq] at hab
    omega
  exact wpAny_pure (h _ _ (by show s.toks ≤ s.toks + 1 + 1 + 1; omega))
/-- the list that an iterator's walk fills -/
theorem own_extend {R : Result → Shared → Prop} {T : String} {I : Addr} {fp : List Addr} {n : Nat} {Pv : Nat → Value → Prop} {St : Nat → Heap → Prop} (W : Walks prog w A.in1 I fp [I] n Pv St) (hn : n ≤ sizeLine)
    (hT : ∀ s1 : Shared, St 0 s1.heap → s1.TypeIs (.ref I) T) (n1 : (Value.type T == Value.type "list") = false) (n2 : (Value.type T == Value.type "tuple") = false)
    (hint : ∀ (s1 : Shared) (E : Value → Shared → Prop) (Q : Bool → Shared → Prop), St 0 s1.heap → (∀ b tk, s1.toks ≤ tk → Q b { s1 with toks := tk }) → wpAny (model prog w) A.in1 (Builtin.List.listLengthHint (.ref I)) Q E s1)
    (hst : St 0 s.heap) (S : Addr) (hSf : S ∉ fp) (hI : I ∈ fp) (res : Value) (c₀ : Nat) (hS : s.heap.get? S = some { cls := .type "list", data := .seq #[] c₀ })
    (hR : ∀ h' tk acc' c', (∀ b o, b ≠ S → b ≠ I → s.heap.get? b = some o → h'.get? b = some o) → h'.get? S = some { cls := .type "list", dict := none, data := .seq acc' c', slots := #[] } → ItemsOf Pv acc' n → R (.ok (.ret res)) { s with heap := h', toks := tk }) :
    wpAny (model prog w) A.in1 (Builtin.List.listExtendWith (.ref S) (.ref I) res) (fun fin s' => match fin with | .done f => R (.ok f) s' | .again c' => c'.quiet = true ∧ codeAny (model prog w) A c' R s') (fun e s' => R (.error e) s') s := by
  have hSI : S ≠ I := fun e => hSf (e ▸ hI); have key : ∀ (h : Heap) (c₁ tk : Nat), St 0 h → (∀ b o, b ≠ S → s.heap.get? b = some o → h.get? b = some o) → h.get? S = some { cls := .type "list", data := .seq #[] c₁ } →
      codeAny (model prog w) A (.builtin "list.extend.loop" ⟨[.ref S, .ref I, res], []⟩) R { s with heap := h, toks := tk } := fun h c₁ tk hs hk hS₁ => by
    refine codeAny_extend_loopS W.toS hn S hSf res n 0 _ #[] c₁ rfl (Nat.zero_le _) hs hS₁ (ItemsOf.nil _) fun s' acc' c' hm hS' hacc => ?_
    rw [Moved.eq_with hm]
    exact hR s'.heap s'.toks acc' c' (fun b o hb hb2 e => hm.heap b o (fun z => (List.mem_cons.mp z).elim hb fun z => hb2 (List.mem_singleton.mp z)) (hk b o hb e)) hS' hacc
  (unfold Builtin.List.listExtendWith)
  refine wpAny_bind (wpAny_typeOf (T := T) (hT s hst) ?_)
  have h1 : Builtin.List.listSameRef (.ref S) (.ref I) = false := (by simp [Builtin.List.listSameRef, hSI])
  simp only [h1, n1, n2, Bool.or_false, Bool.false_eq_true, if_false]
  refine wpAny_bind (W.self 0 _ _ _ hst ?_); refine wpAny_bind (wpAny_holding (hint _ _ _ hst fun bb tk htk => ?_))
  refine wpAny_ite_split (fun _ => ?_) (fun _ => wpAny_pure ⟨plainId_quiet F.plain_extend_loop _, key _ c₀ _ hst (fun b o _ e => e) hS⟩)
  refine wpAny_bind (wpAny_rule (wpAny_bind ?_)); show wpAny _ _ (updateSeq S (·.push .none) >>= fun _ => updateSeq S (·.pop)) _ _ _
  refine wpAny_bind (wpAny_updateSeq (s := { s with toks := tk }) hS rfl ?_)
  have hS₂ := Heap.get?_update_self (Obj.mapSeq (·.push Value.none)) hS rfl; refine wpAny_updateSeq (hz := by seq_fits) hS₂ rfl ?_
  have hS₃ := Heap.get?_update_self (Obj.mapSeq (·.pop)) hS₂ rfl; have oth : ∀ b o, b ≠ S → s.heap.get? b = some o → ((s.heap.update S (Obj.mapSeq (·.push Value.none))).update S (Obj.mapSeq (·.pop))).get? b = some o := fun b o hb e =>
    (Heap.get?_update_other _ _ (Ne.symm hb)).trans ((Heap.get?_update_other _ _ (Ne.symm hb)).trans e)
  exact wpAny_pure ⟨plainId_quiet F.plain_extend_loop _, key _ _ _ (W.frame 0 _ _ hst fun b hb o e => oth b o (fun z => hSf (z ▸ hb)) e) oth hS₃⟩
theorem own_call {T : String} {I : Addr} {fp : List Addr} {n : Nat} {Pv : Nat → Value → Prop} {St : Nat → Heap → Prop} {Q : Value → Shared → Prop} (W : Walks prog w A.in1.in1 I fp [I] n Pv St) (hn : n ≤ sizeLine)
    (hT : ∀ s1 : Shared, St 0 s1.heap → s1.TypeIs (.ref I) T) (n1 : (Value.type T == Value.type "list") = false) (n2 : (Value.type T == Value.type "tuple") = false)
    (hint : ∀ (A : Around) (s1 : Shared) (E : Value → Shared → Prop) (Q : Bool → Shared → Prop), St 0 s1.heap → (∀ b tk, s1.toks ≤ tk → Q b { s1 with toks := tk }) → wpAny (model prog w) A (Builtin.List.listLengthHint (.ref I)) Q E s1)
    (hst : St 0 s.heap) (hfp : ∀ b ∈ fp, b < s.heap.objs.size) (hI : I ∈ fp)
    (hQ : ∀ h' tk acc' c', (∀ b o, b ≠ I → s.heap.get? b = some o → h'.get? b = some o) → h'.get? s.heap.objs.size = some { cls := .type "list", dict := none, data := .seq acc' c', slots := #[] } → ItemsOf Pv acc' n → Q (.ref s.heap.objs.size) { s with heap := h', toks := tk }) : wpAny (model prog w) A (call (.type "list") [.ref I]) Q E s := by
  have hSf : s.heap.objs.size ∉ fp := fun hm => Nat.lt_irrefl _ (hfp _ hm); refine callType_codes (Q₁ := fun obj s₁ => obj = .ref s.heap.objs.size ∧ s₁ = { s with heap := s.heap.push { cls := .type "list", data := .seq #[] } }) F.called_list (F.typeCall_list_1 _) F.entry_list_init (code_list_new _ ⟨rfl, rfl⟩) fun obj s₁ h₁ => ?_
  obtain ⟨rfl, rfl⟩ := h₁
  have hS : (s.heap.push { cls := .type "list", data := .seq #[] }).get? s.heap.objs.size = some { cls := .type "list", data := .seq #[] } := Heap.get?_push_size _ rfl; refine ⟨⟨_, hS, rfl⟩, F.args_list_init_2 _ _, ?_⟩
  show wpAny _ _ (do let old ← Builtin.List.listItems (.ref s.heap.objs.size); Builtin.List.listUpdate (.ref s.heap.objs.size) (fun _ => #[]); letGo old.toList.reverse; Builtin.List.listExtendWith (.ref s.heap.objs.size) (.ref I) .none) _ _ _
  refine wpAny_bind ?_
  unfold Builtin.List.listItems
  refine wpAny_bind (wpAny_seqItems hS rfl (wpAny_pure ?_)); show wpAny _ _ (updateSeq s.heap.objs.size (fun _ => #[]) >>= fun _ => letGo (#[] : Array Value).toList.reverse >>= fun _ => Builtin.List.listExtendWith (.ref s.heap.objs.size) (.ref I) .none) _ _ _
  refine wpAny_bind (wpAny_updateSeq hS rfl ?_); have hS₂ := Heap.get?_update_self (Obj.mapSeq (fun _ => (#[] : Array Value))) hS rfl
  have oth : ∀ b o, b ≠ s.heap.objs.size → s.heap.get? b = some o → ((s.heap.push { cls := .type "list", data := .seq #[] }).update s.heap.objs.size (Obj.mapSeq (fun _ => (#[] : Array Value)))).get? b = some o :=
    fun b o hb e => (Heap.get?_update_other _ _ (Ne.symm hb)).trans (Heap.get?_push_of_some _ e)
  refine wpAny_bind (wpAny_letGo ?_); refine own_extend (A := A.in1) W hn hT n1 n2 (hint _) (W.frame 0 _ _ hst fun b hb o e => oth b o (fun z => hSf (z ▸ hb)) e) _ hSf hI .none _ hS₂ fun h' tk acc' c' hk hS' hacc => ?_
  exact ⟨rfl, hQ h' tk acc' c' (fun b o hb e => hk b o (Nat.ne_of_lt (Heap.lt_size e)) hb (oth b o (Nat.ne_of_lt (Heap.lt_size e)) e)) hS' hacc⟩
end

theorem walks_rt {prog : Program} {w : World} {A : Around} (hh : A.handled = none) (I t : Addr) (hne : t ≠ I) (items : Array Value) (hz : items.size ≤ sizeLine) :
    Walks prog w A I [I, t] [I] items.size (fun i v => items[items.size - 1 - i]? = some v) (fun i h => i ≤ items.size ∧ IsRt h I t ((items.size : Int) - 1 - (i : Int)) ∧ IsTup h t items) where
  sub := fun b hb => (by simp at hb; simp [hb])
  frame := fun _ _ _ x hk => ⟨x.1, x.2.1.at fun o e => hk I (by simp) o e, let ⟨o, ho, r⟩ := x.2.2; ⟨o, hk t (by simp) o ho, r⟩⟩
  item := fun i s (Q) E hi x hQ => by
    have e : (items.size : Int) - 1 - (i : Int) = ((items.size - 1 - i : Nat) : Int) := (by omega)
    obtain ⟨hle, hit, ht⟩ := x
    rw [e] at hit
    refine next_rt_item hit ht (x := items[items.size - 1 - i]'(by omega)) (Array.getElem?_eq_getElem (by omega)) hz fun h' hit' sb => ?_
    have e2 : ((items.size - 1 - i : Nat) : Int) - 1 = (items.size : Int) - 1 - ((i + 1 : Nat) : Int) := (by omega)
    rw [e2] at hit'
    exact hQ _ h' (s.toks + 1) (Array.getElem?_eq_getElem (by omega)) ⟨hi, hit', let ⟨o, ho, r⟩ := ht; ⟨o, (sb.2 t hne).trans ho, r⟩⟩ fun b o hb eo => (sb.2 b fun z => hb (by simp [z])).trans eo
  done := fun s Q E x hQ => by
    obtain ⟨hle, hit, ht⟩ := x
    have e : (items.size : Int) - 1 - (items.size : Int) = -1 := (by omega)
    rw [e] at hit
    exact next_rt_end hh hit fun h' he => hQ h' s.toks fun b o hb eo => he b o (fun z => hb (by simp [z])) eo
  self := fun _ _ _ _ x hQ => iter_rt x.2.1 hQ

/-- list(reversed(x)), x a tuple -/
def tLstRev (K : PySem.W.Frag) (te : TE) : TE := fun σ H Q => te σ H fun v H1 => ∃ (a : Addr) (xs : List V), v = .ref a ∧ SqT K H1 a xs ∧ ∀ q, H1 q = none → Q (.ref q) (upd H1 q (.lst xs.reverse))
theorem pe_lstRev {X : Cx} {e : Expr} {te : TE} {p p2 pos pos2 : Pos} (hc : X.calm = true) (hg : Gl X "list") (hm : X.mg "list" = none) (hg2 : Gl X "reversed") (hm2 : X.mg "reversed" = none) (he : PE X e te) (hs : starEach [e] X.env = (false, eval e X.env) :: starEach [] X.env := by rfl) (hs2 : starEach [.Call (.Name "reversed" p2) [e] [] pos2] X.env = (false, eval (.Call (.Name "reversed" p2) [e] [] pos2) X.env) :: starEach [] X.env := by rfl) :
    PE X (.Call (.Name "list" p) [.Call (.Name "reversed" p2) [e] [] pos2] [] pos) (tLstRev X.K te) := by
  refine ⟨fun pins s σ H Q I h => ?_⟩; refine Call_ (ld_blt I hg hm boot_list (PyProof.Rows.callWith_type1 (args_cons (Call_ (ld_blt I hg2 hm2 PyProof.Rows.boot_reversed (PyProof.Rows.callWith_type1 (args_cons (thn (he.run pins s σ H _ I h) fun u s1 ⟨v, H1, I1, r1, q1⟩ => args_nil ?_) hs) hs rfl))) hs2) hs2 rfl))
  obtain ⟨a, xs, ev, hq, q⟩ := q1; subst ev
  obtain rfl : u = Value.ref a := r1; obtain ⟨its, rv, p', hz⟩ := I1.tuple hq
  have hl := rv.length
  have hn := line63
  have hzz : its.toArray.size ≤ sizeLine := by rw [List.size_toArray, ← hl]; exact hz
  refine call_reversed_tup p' (fun A E Q k => len_tuple p' (by simp only [List.size_toArray] <;> omega) k) (args_nil ?_)
  have k0 : ∀ b o, s1.heap.get? b = some o → (s1.heap.push (rtObj a ((its.toArray.size : Int) - 1))).get? b = some o := fun b o e => Heap.get?_push_of_some _ e
  have I2 : Inv X pins σ H1 { s1 with heap := s1.heap.push (rtObj a ((its.toArray.size : Int) - 1)), toks := s1.toks + 1 + 1 } := I1.kept (t' := s1.toks + 1 + 1) k0
  obtain ⟨f0, f1, f2, f3, f4, f5⟩ := I1.fpOk (H' := H1) (b := s1.heap.objs.size) (Nat.le_refl _) (I1.hok.fresh (Nat.le_refl _)); obtain ⟨ot, hot, rt⟩ := id p'
  have hlt : a < s1.heap.objs.size := Heap.lt_size hot
  have hne : a ≠ s1.heap.objs.size := Nat.ne_of_lt hlt
  have hsz : (s1.heap.push (rtObj a ((its.toArray.size : Int) - 1))).objs.size = s1.heap.objs.size + 1 := Heap.size_push ..
  have hrt : IsRt (s1.heap.push (rtObj a ((its.toArray.size : Int) - 1))) s1.heap.objs.size a ((its.toArray.size : Int) - 1) := ⟨_, Heap.get?_push_size _ rfl, rfl, rfl⟩
  have ht2 : IsTup (s1.heap.push (rtObj a ((its.toArray.size : Int) - 1))) a its.toArray := ⟨ot, k0 _ _ hot, rt⟩
  refine own_call (T := "reversed") (I := s1.heap.objs.size) (s := { s1 with heap := s1.heap.push (rtObj a ((its.toArray.size : Int) - 1)), toks := s1.toks + 1 + 1 }) (walks_rt (A := X.A.in1.in1) (show X.A.in1.in1.handled = none from I1.ok.hd hc) s1.heap.objs.size a hne its.toArray hzz) hzz (fun s1 st => st.2.1.typeIs) (by decide) (by decide)
    (fun A' s2 E2 Q2 st hq2 => by
      obtain ⟨_, st1, st2⟩ := st
      have e0 : ((its.toArray.size : Nat) : Int) - 1 - ((0 : Nat) : Int) = (its.toArray.size : Int) - 1 := by omega
      rw [e0] at st1
      exact hint_rt st1 hzz (fun A E Q k => len_tuple st2 (by simp only [List.size_toArray] <;> omega) k) hq2)
    ⟨Nat.zero_le _, by rw [show ((its.toArray.size : Nat) : Int) - 1 - ((0 : Nat) : Int) = (its.toArray.size : Int) - 1 by omega]; exact hrt, ht2⟩ (fun b hb => ?_) (by simp) fun h' tk acc c hk hS hi => ?_
  · show b < (s1.heap.push (rtObj a ((its.toArray.size : Int) - 1))).objs.size
    rw [hsz]
    rcases (List.mem_cons.mp hb) with rfl | hb
    · exact Nat.lt_succ_self _
    · rw [List.mem_singleton.mp hb]; exact (Nat.lt_succ_of_lt hlt)
  have e1 : ((s1.heap.push (rtObj a ((its.toArray.size : Int) - 1))).objs.size) = s1.heap.objs.size + 1 := hsz
  have hS : h'.get? (s1.heap.push (rtObj a ((its.toArray.size : Int) - 1))).objs.size = some { cls := .type "list", dict := none, data := .seq acc c, slots := #[] } := hS
  have new : ObjOk X.prog X.w (upd H1 (s1.heap.push (rtObj a ((its.toArray.size : Int) - 1))).objs.size (.lst xs.reverse)) h' (s1.heap.push (rtObj a ((its.toArray.size : Int) - 1))).objs.size (.lst xs.reverse) :=
    ⟨by rw [List.length_reverse]; exact hz, acc.toList, c, vals_rev rv hi, by rw [Array.toArray_toList]; exact hS⟩
  have I3 := I2.turnedNew (t' := tk) (ch := [s1.heap.objs.size]) (T := (s1.heap.push (rtObj a ((its.toArray.size : Int) - 1))).objs.size) (fun b o hb e => hk b o (fun z => hb (by simp [z])) e) (fun b hb => by
    rw [List.mem_singleton.mp hb]
    exact ⟨f0, f1, f2, f3, f4, f5⟩) (Nat.le_refl _) new
  exact ⟨.ref (s1.heap.push (rtObj a ((its.toArray.size : Int) - 1))).objs.size, _, I3, rfl, q _ (I2.hok.fresh (Nat.le_refl _))⟩
def gLstRev (d : D) (S : Sto) : Res D := match tupV d with
  | some xs => .ok (.ref S.nx) (S.new (.lst xs.reverse))
  | none => .bad
def dLstRev (fa : DE) : DE := fun Γ S => (fa Γ S).bind gLstRev
theorem xlstRev {X : Cx} {C : Cfg} {W : XK} {e : Expr} {fa : DE} {p p2 pos pos2 : Pos} (hK : X.K = C.K) (hc : X.calm = true) (hg : Gl X "list") (hm : X.mg "list" = none) (hg2 : Gl X "reversed") (hm2 : X.mg "reversed" = none) (he : PE X e (tE C W fa)) (hs : starEach [e] X.env = (false, eval e X.env) :: starEach [] X.env := by rfl) (hs2 : starEach [.Call (.Name "reversed" p2) [e] [] pos2] X.env = (false, eval (.Call (.Name "reversed" p2) [e] [] pos2) X.env) :: starEach [] X.env := by rfl) :
    PE X (.Call (.Name "list" p) [.Call (.Name "reversed" p2) [e] [] pos2] [] pos) (tE C W (dLstRev fa)) :=
  (pe_lstRev hc hg hm hg2 hm2 he hs hs2).by fun σ H Q ⟨M, Γ, S, g, s, h⟩ => run1 g s h fun M1 d S1 x H1 l1 s1 r1 h1 => by
    unfold gLstRev at h1
    split at h1
    · rename_i xs e1
      obtain ⟨a, us, rfl, ha, rl⟩ := tup_of s1 r1 e1
      exact ⟨a, us, rfl, hK ▸ ha, fun p hp => newSto h1 s1 ⟨_, rfl, rl.reverse⟩ hp⟩
    · exact h1.elim
end Pd

/-! list(enumerate(x, start=k)), x a tuple -/
namespace Pd
open L2 PySem PySem.Spec PyProof.Rows

theorem at_alive {M : Model} {A : Around} {E : Value → Shared → Prop} {s : Shared} {a : Addr} {Q : Option Obj → Shared → Prop} (h : Q (s.heap.get? a) s) : wpAny M A (loadIfAlive a) Q E s := fun Γ p _ => by
  show Sem.wp M Γ (.loadIfAlive a .pure) _ _ p s
  rw [Sem.wp_loadIfAlive]
  exact h
theorem callWith_typeKw {M : Model} {A : Around} {E : Value → Shared → Prop} {s : Shared} {env : Env} {pos : Pos} {T : String} {e : Expr} {kws : List Keyword} {Q : Value → Shared → Prop}
    (h : wpAny M A (spliced (backTo pos (starEach [e] env))) (fun us s1 => wpAny M A (evalAll ((backToKw pos (keywordEach kws env)).map (·.2))) (fun ks s2 => wpAny M A (call (.type T) us (((backToKw pos (keywordEach kws env)).filterMap (·.1)).zip ks)) Q E s2) E s1) E s)
    (he : backTo pos (starEach [e] env) = (false, eval e env) :: backTo pos (starEach [] env) := by rfl) (hall : (backToKw pos (keywordEach kws env)).all (·.1.isSome) = true := by rfl) (hkw : (backToKw pos (keywordEach kws env)).any (·.1.isNone) = false := by rfl) :
    wpAny M A (callWith pos (.type T) [] (backTo pos (starEach [e] env)) (backToKw pos (keywordEach kws env))) Q E s := by
  have hp : (backTo pos (starEach [e] env)).any (·.1) = false := by rw [he]; rfl
  have h2 : wpAny M A (evalArgs (.type T) true (backTo pos (starEach [e] env)) (backToKw pos (keywordEach kws env))) (fun a s1 => wpAny M A (call (.type T) ([] ++ a.pos) a.kw) Q E s1) E s := by
    rw [he] at h ⊢
    exact evalArgs_kwB hall h
  unfold callWith
  refine wpAny_bind (wpAny_holding (wpAny_mono h2 (fun a s1 h1 => wpAny_bind (wpAny_standAt ?_)) fun _ _ x => x))
  simp only [hp, hkw, Bool.or_false]
  exact wpAny_bind (wpAny_pure (wpAny_bind (wpAny_mono h1 (fun r s2 hr => wpAny_bind (wpAny_holding (wpAny_point (wpAny_pure hr)))) fun _ _ x => x)))

/-- an enumerate object whose tuple is handed out -/
abbrev EnS (h : Heap) (e it : Addr) (c : Int) (T : Addr) (b : Bool) (x : Value) : Prop :=
  h.get? e = some { cls := .type "enumerate", dict := none, data := .fields #[rawInt T, .bool b, .ref it, rawInt c, .none, x], slots := #[] }
section
variable {prog : Program} {w : World} {s : Shared} {A : Around} {E : Value → Shared → Prop}
theorem en_again {e it T : Addr} {fp : List Addr} {n i : Nat} {c : Int} {Pv : Nat → Value → Prop} {St : Nat → Heap → Prop} {b : Bool} {x : Value} {Q : Value → Shared → Prop}
    (D : Draws prog w A it fp n Pv St) (he : EnS s.heap e it c T b x) (hal : ∃ o, s.heap.get? T = some o) (hst : St i s.heap) (hlt : i < n) (hne : e ≠ it) (hef : e ∉ fp) (hTe : T ≠ e) (hTi : T ≠ it)
    (hQ : ∀ y h' tk, Pv i y → EnS h' e it (c + 1) T true x → St (i + 1) h' → h'.get? s.heap.objs.size = some { cls := .type "tuple", data := .seq #[.int c tk, y] } →
      (∀ a o, a ≠ e → a ≠ it → s.heap.get? a = some o → h'.get? a = some o) → Q (.ref s.heap.objs.size) { s with heap := h', toks := tk + 1 }) : wpAny (model prog w) A (Builtin.«enumerate.__next__» ⟨[.ref e], []⟩) (fun fin s' => ∃ v, fin = .done (.ret v) ∧ Q v s') E s := by
  obtain ⟨hp, g, d, tk0, os⟩ := s; show wpAny _ _ (field (.ref e) 2 >>= _) _ _ _
  refine wpAny_bind (wpAny_field he rfl (x := .ref it) rfl ?_); refine wpAny_bind (D.item i _ _ _ hlt hst fun y h1 tk hPy hit1 hs1 => ?_)
  replace hs1 : Heap.SameBut it hp h1 := hs1
  have he1 : EnS h1 e it c T b x := (hs1.2 e hne).trans he
  show wpAny _ _ (field (.ref e) 3 >>= _) _ _ ⟨h1, g, d, tk, os⟩
  refine wpAny_bind (wpAny_field he1 rfl (x := rawInt c) rfl ?_)
  show wpAny _ _ (field (.ref e) 4 >>= _) _ _ ⟨h1, g, d, tk, os⟩
  refine wpAny_bind (wpAny_field he1 rfl (x := .none) rfl ?_)
  show wpAny _ _ (mkInt c >>= _) _ _ ⟨h1, g, d, tk, os⟩
  refine wpAny_bind (wpAny_mkInt ?_); show wpAny _ _ (setField (.ref e) 3 (rawInt (c + 1)) >>= _) _ _ ⟨h1, g, d, tk + 1, os⟩
  refine wpAny_bind (wpAny_setField_rec he1 (by simp) fun h2 he2 hs2 => ?_)
  replace hs2 : Heap.SameBut e h1 h2 := hs2
  replace he2 : EnS h2 e it (c + 1) T b x := he2
  show wpAny _ _ (setField (.ref e) 4 .none >>= _) _ _ ⟨h2, g, d, tk + 1, os⟩
  refine wpAny_bind (wpAny_setField_rec he2 (by simp) fun h3 he3 hs3 => ?_)
  replace hs3 : Heap.SameBut e h2 h3 := hs3
  replace he3 : EnS h3 e it (c + 1) T b x := he3
  show wpAny _ _ (newTuple [.int c tk, y] >>= _) _ _ ⟨h3, g, d, tk + 1, os⟩
  refine wpAny_bind (wpAny_newTuple ?_); have hsz : h3.objs.size = hp.objs.size := by rw [hs3.1, hs2.1, hs1.1]
  have k3 : ∀ a o, a ≠ e → a ≠ it → hp.get? a = some o → h3.get? a = some o := fun a o z1 z2 q => hs3.extBut a o z1 (hs2.extBut a o z1 (hs1.extBut a o z2 q))
  have st3 : St (i + 1) h3 := D.frame _ _ _ hit1 fun a ha o q => by
    have hae : a ≠ e := fun z => hef (z ▸ ha)
    exact hs3.extBut a o hae (hs2.extBut a o hae q)
  obtain ⟨oT, hoT⟩ := hal
  have hoT : hp.get? T = some oT := hoT
  have hT3 : h3.get? T = some oT := k3 T oT hTe hTi hoT
  generalize hh4 : h3.push { cls := .type "tuple", data := .seq #[.int c tk, y] } = h4
  have k4 : ∀ a o, h3.get? a = some o → h4.get? a = some o := fun a o q => by rw [← hh4]; exact Heap.get?_push_of_some _ q
  have he4 : EnS h4 e it (c + 1) T b x := k4 _ _ he3
  have hnew : h4.get? hp.objs.size = some { cls := .type "tuple", data := .seq #[.int c tk, y] } := by rw [← hh4, ← hsz]; exact Heap.get?_push_size _ rfl
  have hel : e < hp.objs.size := Heap.lt_size he; show wpAny _ _ (Builtin.SmallTypes.ownedTupleIsFree (.ref e) >>= _) _ _ ⟨h4, g, d, tk + 1, os⟩
  rw [hsz]
  have fin : ∀ h5 : Heap, EnS h5 e it (c + 1) T true x → (∀ a o, a ≠ e → h4.get? a = some o → h5.get? a = some o) → Q (.ref hp.objs.size) ⟨h5, g, d, tk + 1, os⟩ := fun h5 he5 k5 =>
    hQ y h5 tk hPy he5 (D.frame _ _ _ st3 fun a ha o q => k5 a o (fun z => hef (z ▸ ha)) (k4 a o q)) (k5 _ _ (Nat.ne_of_gt hel) hnew) fun a o z1 z2 q => k5 a o z1 (k4 a o (k3 a o z1 z2 q))
  (unfold Builtin.SmallTypes.ownedTupleIsFree)
  refine wpAny_bind (wpAny_bind (wpAny_field he4 rfl (x := rawInt T) rfl ?_))
  show wpAny _ _ (loadIfAlive (T : Int).toNat >>= _) _ _ _
  refine wpAny_bind (at_alive ?_)
  have e1 : h4.get? (T : Int).toNat = some oT := by
    rw [Int.toNat_natCast]
    exact k4 _ _ hT3
  show wpAny _ _ (if (h4.get? (T : Int).toNat).isNone = true then _ else _) _ _ _
  rw [e1, if_neg (show ¬ ((some oT).isNone = true) from Bool.false_ne_true)]
  refine wpAny_bind (wpAny_field he4 rfl (x := .bool b) rfl ?_)
  cases b with
  | true =>
    refine wpAny_ite_split (fun hab => absurd hab (by decide)) fun _ => wpAny_pure ?_
    exact wpAny_pure ⟨_, rfl, fin h4 he4 fun a o _ q => q⟩
  | false =>
    refine wpAny_ite_split (fun _ => ?_) fun hab => absurd (by decide) hab
    refine wpAny_bind (wpAny_setField_rec he4 (by simp) fun h5 he5 hs5 => ?_)
    replace hs5 : Heap.SameBut e h4 h5 := hs5
    refine wpAny_pure (wpAny_pure ⟨_, rfl, fin h5 he5 fun a o z q => hs5.extBut a o z q⟩)

/-- an enumerate object that can be asked -/
def EnAny (h : Heap) (e it : Addr) (c : Int) : Prop := (∃ old, IsEnum h e it c old) ∨ ∃ T b x, EnS h e it c T b x ∧ (∃ o, h.get? T = some o) ∧ T ≠ e ∧ T ≠ it
theorem EnAny.typeIs {e it : Addr} {c : Int} (x : EnAny s.heap e it c) : s.TypeIs (.ref e) "enumerate" := by
  rcases x with ⟨_, h⟩ | ⟨_, _, _, h, _⟩
  · exact ⟨_, h, rfl⟩
  · exact ⟨_, h, rfl⟩
theorem EnAny.lt {h : Heap} {e it : Addr} {c : Int} (x : EnAny h e it c) : e < h.objs.size := by
  rcases x with ⟨_, h⟩ | ⟨_, _, _, h, _⟩
  · exact Heap.lt_size h
  · exact Heap.lt_size h
theorem EnAny.keep {h h' : Heap} {e it : Addr} {c : Int} (x : EnAny h e it c) {S : Addr} (hS : S ≠ e) (hk : ∀ a o, a ≠ S → h.get? a = some o → h'.get? a = some o) (hs : ∀ o, h.get? S = some o → ∃ o', h'.get? S = some o') : EnAny h' e it c := by
  rcases x with ⟨old, h⟩ | ⟨T, b, x, h, ⟨o, ho⟩, z⟩
  · exact .inl ⟨old, hk _ _ hS.symm h⟩
  · refine .inr ⟨T, b, x, hk _ _ hS.symm h, ?_, z⟩
    by_cases q : T = S
    · subst q; exact hs o ho
    · exact ⟨o, hk _ _ q ho⟩
theorem en_next {e it : Addr} {fp : List Addr} {n i : Nat} {c : Int} {Pv : Nat → Value → Prop} {St : Nat → Heap → Prop} {Q : Option Value → Shared → Prop}
    (D : Draws prog w A.in1 it fp n Pv St) (he : EnAny s.heap e it c) (hst : St i s.heap) (hlt : i < n) (hne : e ≠ it) (hef : e ∉ fp)
    (hQ : ∀ y h' tk, Pv i y → EnAny h' e it (c + 1) → St (i + 1) h' → h'.get? s.heap.objs.size = some { cls := .type "tuple", data := .seq #[.int c tk, y] } →
      (∀ a o, a ≠ e → a ≠ it → s.heap.get? a = some o → h'.get? a = some o) → Q (some (.ref s.heap.objs.size)) { s with heap := h', toks := tk + 1 }) : wpAny (model prog w) A (pyNext (.ref e)) Q E s := by
  rcases id he with ⟨old, h0⟩ | ⟨T, b, x, h0, hal, z1, z2⟩
  · have hel : e < s.heap.objs.size := Heap.lt_size h0
    have hil : it < s.heap.objs.size := by obtain ⟨_, q⟩ := D.live _ _ hst; exact Heap.lt_size q
    exact wpAny_pyNext_enum_itemC D h0 hst hlt hne hef fun y h' tk hP ho hs' hT hsz hk => hQ y h' tk hP (.inr ⟨_, _, _, ho, ⟨_, hT⟩, Nat.ne_of_gt hel, Nat.ne_of_gt hil⟩) hs' hT hk
  · unfold pyNext
    exact wpAny_bind (wpAny_attempt (wpAny_callSpecial?_slot (name := Str.ofString "__next__") he.typeIs F.slot_enumerate_next (wpAny_call_entry F.slot_enumerate_next he.typeIs F.entry_enumerate_next
      (en_again D h0 hal hst hlt hne hef z1 z2 fun y h' tk hP ho hs' hT hk => wpAny_pure (hQ y h' tk hP (.inr ⟨T, true, x, ho, let ⟨o, q⟩ := hal; ⟨o, hk _ _ z1 z2 q⟩, z1, z2⟩) hs' hT hk)) (F.args_enumerate_next_1 _))))
theorem en_end {e it : Addr} {fp : List Addr} {n : Nat} {c : Int} {Pv : Nat → Value → Prop} {St : Nat → Heap → Prop} {Q : Option Value → Shared → Prop}
    (D : Draws prog w A.in1 it fp n Pv St) (he : EnAny s.heap e it c) (hst : St n s.heap) (hQ : ∀ h', Heap.ExtBut it s.heap h' → Q none { s with heap := h' }) : wpAny (model prog w) A (pyNext (.ref e)) Q E s := by
  have go : ∀ (o : Obj), s.heap.get? e = some o → (∃ xs, o.data = .fields xs ∧ xs[2]? = some (.ref it)) → wpAny (model prog w) A.in1 (Builtin.«enumerate.__next__» ⟨[.ref e], []⟩) (fun fin s' => ∃ v, fin = .done (.ret v) ∧ wpAny (model prog w) A (pure (some v)) Q E s') (fun x s' => wpAny (model prog w) A (isInstance x (.type "StopIteration") >>= fun b => if b then pure none else throw x) Q E s') s := fun o ho ⟨xs, hd, hx⟩ => by
    show wpAny _ _ (field (.ref e) 2 >>= _) _ _ _; refine wpAny_bind (wpAny_field ho hd hx ?_)
    refine wpAny_bind (D.done _ _ _ hst fun h' x he' hx' => ?_); obtain ⟨o, ho, hc⟩ := hx'
    refine wpAny_bind (wpAny_isInstance (T := "StopIteration") (b := true) ⟨o, ho, hc⟩ isSubtype_stop ?_); exact wpAny_pure (hQ _ he')
  have t := he.typeIs
  unfold pyNext
  refine wpAny_bind (wpAny_attempt (wpAny_callSpecial?_slot (name := Str.ofString "__next__") t F.slot_enumerate_next (wpAny_call_entry F.slot_enumerate_next t F.entry_enumerate_next ?_ (F.args_enumerate_next_1 _))))
  rcases he with ⟨old, h0⟩ | ⟨T, b, x, h0, _⟩
  · exact go _ h0 ⟨_, rfl, rfl⟩
  · exact go _ h0 ⟨_, rfl, rfl⟩
end

theorem upd_swap {H : Hp} {a b : Addr} {o u : HO} (h : a ≠ b) : upd (upd H a o) b u = upd (upd H b u) a o := by
  funext c
  by_cases ha : c = a
  · subst ha; rw [upd_ne h, upd_same, upd_same]
  · by_cases hb : c = b
    · subst hb; rw [upd_same, upd_ne ha, upd_same]
    · rw [upd_ne hb, upd_ne ha, upd_ne ha, upd_ne hb]
theorem upd_twice {H : Hp} {a : Addr} {o u : HO} : upd (upd H a o) a u = upd H a u := by
  funext c
  by_cases ha : c = a
  · subst ha; rw [upd_same, upd_same]
  · rw [upd_ne ha, upd_ne ha, upd_ne ha]
section
variable {X : Cx} {pins : List (Addr × Obj)} {σ : L2.St} {A : Around}
theorem en_loop {e it a S : Addr} {k0 : Int} {xs : List V} {its : List Value} {Pv : Nat → Hp → List V → Prop} {R : Result → Shared → Prop} {res : Value}
    (hA : A.handled = none) (rv : Vals xs its) (hz : xs.length ≤ sizeLine) (hei : e ≠ it) (hea : e ≠ a) (hai : a ≠ it) (hSe : S ≠ e) (hSi : S ≠ it) (hSa : S ≠ a)
    (step : ∀ (i : Nat) H vs x T, Pv i H vs → xs[i]? = some x → H T = none → Pv (i + 1) (upd H T (.tup [.int (k0 + (i : Int)), x])) (vs ++ [.ref T]))
    (fin : ∀ H vs s, L2.Inv X pins σ (upd H S (.lst vs)) s → H S = none → Pv its.toArray.size H vs → R (.ok (.ret res)) s) :
    ∀ (k i : Nat) (s : Shared) (H : Hp) (vs : List V), its.toArray.size - i = k → i ≤ its.toArray.size → L2.Inv X pins σ (upd H S (.lst vs)) s → H S = none → FpOk X pins (upd H S (.lst vs)) e → FpOk X pins (upd H S (.lst vs)) it → Pv i H vs → vs.length = i →
      EnAny s.heap e it (k0 + (i : Int)) → s.heap.IsTupleIter it a i → s.heap.IsTuple a its.toArray → codeAny (model X.prog X.w) A (.builtin "list.extend.loop" ⟨[.ref S, .ref e, res], []⟩) R s := by
  have D := Draws.tuple (prog := X.prog) (w := X.w) (A := A.in1.in1) (show A.in1.in1.handled = none from hA) it a hai its.toArray
  have hef : e ∉ [it, a] := by simp [hei, hea]
  intro k
  induction k with
  | zero =>
    intro i s H vs hk hi I hn fe fi hp hl he hit ht
    obtain rfl : i = its.toArray.size := by omega
    refine codeAny_builtin F.entry_extend_loop ?_; rw [Around.under_plainId F.plain_extend_loop _]
    show wpAny _ A.in1 (pyNext (.ref e) >>= _) _ _ s
    refine wpAny_bind (en_end D he ⟨hit, ht⟩ fun h' hx => ?_)
    obtain ⟨f0, f1, f2, f3, f4, f5⟩ := fi
    exact wpAny_pure (fin H vs _ (I.turned (t' := s.toks) (fun b o hb q => hx b o hb q) f0 f1 f3 f4 f5) hn hp)
  | succ k ih =>
    intro i s H vs hk hi I hn fe fi hp hl he hit ht
    have hlt : i < its.toArray.size := by omega
    have hlx : i < xs.length := by rw [rv.length, ← List.size_toArray]; exact hlt
    refine codeAny_builtin F.entry_extend_loop ?_; rw [Around.under_plainId F.plain_extend_loop _]
    show wpAny _ A.in1 (pyNext (.ref e) >>= _) _ _ s
    refine wpAny_bind (en_next D he ⟨hit, ht⟩ hlt hei hef fun y h' tk hy he' hst hT hk' => ?_)
    obtain ⟨hit', ht'⟩ := hst
    have hel : e < s.heap.objs.size := he.lt
    have hil : it < s.heap.objs.size := (by obtain ⟨_, q, _⟩ := hit; exact Heap.lt_size q)
    have hSl : S < s.heap.objs.size := by
      obtain ⟨_, _, _, _, q⟩ := (show ObjOk X.prog X.w _ s.heap S (.lst vs) from I.hok S _ upd_same)
      exact Heap.lt_size q
    have hTS : s.heap.objs.size ≠ S := Nat.ne_of_gt hSl
    have hy : its.toArray[i]? = some y := hy
    obtain ⟨u, hu, ru⟩ := rv.get (List.getElem?_eq_getElem hlx)
    have : y = u := by
      rw [List.getElem?_toArray] at hy
      rw [hu] at hy; cases hy; rfl
    subst this
    have new : ObjOk X.prog X.w (upd (upd H S (.lst vs)) s.heap.objs.size (.tup [.int (k0 + (i : Int)), xs[i]])) h' s.heap.objs.size (.tup [.int (k0 + (i : Int)), xs[i]]) :=
      ⟨by show 2 ≤ sizeLine; decide, [.int (k0 + (i : Int)) tk, y], .cons ⟨_, rfl⟩ (.cons ru .nil), ⟨_, hT, rfl, _, rfl⟩⟩
    have I1 : L2.Inv X pins σ (upd (upd H S (.lst vs)) s.heap.objs.size (.tup [.int (k0 + (i : Int)), xs[i]])) { s with heap := h', toks := tk + 1 } :=
      I.turnedNew (ch := [e, it]) (fun b ob hb q => hk' b ob (fun z => hb (by simp [z])) (fun z => hb (by simp [z])) q) (fun b hb => by
        rcases (List.mem_cons.mp hb) with rfl | hb
        · exact fe
        · rw [List.mem_singleton.mp hb]; exact fi) (Nat.le_refl _) new
    have hn1 : (upd H S (.lst vs)) s.heap.objs.size = none := I.hok.fresh (Nat.le_refl _)
    have hnT : H s.heap.objs.size = none := by rw [upd_ne hTS] at hn1; exact hn1
    rw [upd_swap hTS.symm] at I1
    obtain ⟨hzl, us, c, ru2, gS⟩ := (show ObjOk X.prog X.w _ h' S (.lst vs) from I1.hok S _ upd_same)
    have hul : us.length = i := by rw [← ru2.length]; exact hl
    refine wpAny_bind ?_
    refine wpAny_updateSeq (s := { s with heap := h', toks := tk + 1 }) gS rfl (wpAny_pure ⟨plainId_quiet F.plain_extend_loop _, ?_⟩) (by rw [List.size_toArray, hul]; omega) (by show (us.toArray.push _).size ≤ sizeLine + 1; rw [Array.size_push, List.size_toArray, hul]; omega)
    have hS2 := Heap.get?_update_self (Obj.mapSeq (·.push (Value.ref s.heap.objs.size))) gS rfl
    have oth : ∀ b o, b ≠ S → h'.get? b = some o → (h'.update S (Obj.mapSeq (·.push (Value.ref s.heap.objs.size)))).get? b = some o := fun b o hb q => (Heap.get?_update_other _ _ (Ne.symm hb)).trans q
    have I2 := I1.write (x := S) (e := S) (o := .lst (vs ++ [.ref s.heap.objs.size])) (t' := tk + 1) (h' := h'.update S (Obj.mapSeq (·.push (Value.ref s.heap.objs.size)))) (by rw [upd_same]; trivial) (.inl rfl) oth ⟨_, hS2⟩
      ⟨by rw [List.length_append, hl]; show i + 1 ≤ sizeLine; omega, us ++ [.ref s.heap.objs.size], _, ru2.append (.cons (show L2.RelV (.ref s.heap.objs.size) (.ref s.heap.objs.size) from rfl) .nil), by rw [← List.push_toArray]; exact hS2⟩
    rw [upd_twice] at I2
    refine ih (i + 1) _ _ _ (by omega) hlt I2 (by rw [upd_ne hTS.symm]; exact hn) ?_ ?_ (step i H vs _ _ hp (List.getElem?_eq_getElem hlx) hnT) (by rw [List.length_append, hl]; rfl) ?_ (hit'.at fun o q => oth _ _ hSi.symm q) (ht'.at fun o q => oth _ _ hSa.symm q)
    · obtain ⟨f0, f⟩ := fe
      refine ⟨?_, f⟩
      rw [upd_ne hSe.symm] at f0 ⊢
      rw [upd_ne (Nat.ne_of_lt hel)]; exact f0
    · obtain ⟨f0, f⟩ := fi
      refine ⟨?_, f⟩
      rw [upd_ne hSi.symm] at f0 ⊢
      rw [upd_ne (Nat.ne_of_lt hil)]; exact f0
    · rw [show k0 + ((i + 1 : Nat) : Int) = k0 + (i : Int) + 1 by omega]
      exact he'.keep hSe oth fun o q => ⟨_, hS2⟩
end

theorem en_nolen : typeLookup (.type "enumerate") "__len__" = pure none := by rw [typeLookup_type, builtinLookup_eq_fast]; kernel_rfl
theorem en_nohint : typeLookup (.type "enumerate") "__length_hint__" = pure none := by rw [typeLookup_type, builtinLookup_eq_fast]; kernel_rfl
section
variable {prog : Program} {w : World} {s : Shared} {A : Around} {E : Value → Shared → Prop}
/-- list(an iterator), as far as its loop -/
theorem own_begin {T : String} {I : Addr} {Q : Value → Shared → Prop} (hT : ∀ h', (∀ b o, s.heap.get? b = some o → h'.get? b = some o) → Shared.TypeIs { s with heap := h' } (.ref I) T) (n1 : (Value.type T == Value.type "list") = false) (n2 : (Value.type T == Value.type "tuple") = false)
    (self : ∀ (A : Around) (E Q : Value → Shared → Prop) h', (∀ b o, s.heap.get? b = some o → h'.get? b = some o) → Q (.ref I) { s with heap := h' } → wpAny (model prog w) A (pyIter (.ref I)) Q E { s with heap := h' })
    (hint : ∀ (A : Around) (E : Value → Shared → Prop) (Q : Bool → Shared → Prop) h', (∀ b o, s.heap.get? b = some o → h'.get? b = some o) → (∀ b tk, s.toks ≤ tk → Q b { s with heap := h', toks := tk }) → wpAny (model prog w) A (Builtin.List.listLengthHint (.ref I)) Q E { s with heap := h' })
    (hI : I < s.heap.objs.size)
    (loop : ∀ h' tk c, (∀ b o, s.heap.get? b = some o → h'.get? b = some o) → h'.get? s.heap.objs.size = some { cls := .type "list", data := .seq #[] c } →
      codeAny (model prog w) A.in1 (.builtin "list.extend.loop" ⟨[.ref s.heap.objs.size, .ref I, .none], []⟩) (wants (fun r s2 => r = .none ∧ Q (.ref s.heap.objs.size) s2) E) { s with heap := h', toks := tk }) : wpAny (model prog w) A (call (.type "list") [.ref I]) Q E s := by
  refine callType_codes (Q₁ := fun obj s1 => obj = .ref s.heap.objs.size ∧ s1 = { s with heap := s.heap.push { cls := .type "list", data := .seq #[] } }) F.called_list (F.typeCall_list_1 _) F.entry_list_init (code_list_new _ ⟨rfl, rfl⟩) fun obj s1 h1 => ?_
  obtain ⟨rfl, rfl⟩ := h1
  have hS : (s.heap.push { cls := .type "list", data := .seq #[] }).get? s.heap.objs.size = some { cls := .type "list", data := .seq #[] } := Heap.get?_push_size _ rfl; refine ⟨⟨_, hS, rfl⟩, F.args_list_init_2 _ _, ?_⟩
  show wpAny _ _ (do let old ← Builtin.List.listItems (.ref s.heap.objs.size); Builtin.List.listUpdate (.ref s.heap.objs.size) (fun _ => #[]); letGo old.toList.reverse; Builtin.List.listExtendWith (.ref s.heap.objs.size) (.ref I) .none) _ _ _
  refine wpAny_bind ?_
  unfold Builtin.List.listItems
  refine wpAny_bind (wpAny_seqItems hS rfl (wpAny_pure ?_)); show wpAny _ _ (updateSeq s.heap.objs.size (fun _ => #[]) >>= fun _ => letGo (#[] : Array Value).toList.reverse >>= fun _ => Builtin.List.listExtendWith (.ref s.heap.objs.size) (.ref I) .none) _ _ _
  refine wpAny_bind (wpAny_updateSeq hS rfl ?_); have hS2 := Heap.get?_update_self (Obj.mapSeq (fun _ => (#[] : Array Value))) hS rfl
  have oth : ∀ b o, s.heap.get? b = some o → ((s.heap.push { cls := .type "list", data := .seq #[] }).update s.heap.objs.size (Obj.mapSeq (fun _ => (#[] : Array Value)))).get? b = some o :=
    fun b o e => (Heap.get?_update_other _ _ (Nat.ne_of_gt (Heap.lt_size e))).trans (Heap.get?_push_of_some _ e)
  refine (wpAny_bind (wpAny_letGo ?_))
  generalize hh2 : (s.heap.push { cls := .type "list", data := .seq #[] }).update s.heap.objs.size (Obj.mapSeq (fun _ => (#[] : Array Value))) = h2 at hS2 oth
  (unfold Builtin.List.listExtendWith)
  refine wpAny_bind (wpAny_typeOf (T := T) (hT h2 oth) ?_)
  have hne : s.heap.objs.size ≠ I := Nat.ne_of_gt hI
  have h1 : Builtin.List.listSameRef (.ref s.heap.objs.size) (.ref I) = false := by simp [Builtin.List.listSameRef, hne]
  simp only [h1, n1, n2, Bool.or_false, Bool.false_eq_true, if_false]
  refine wpAny_bind (self _ _ _ _ oth ?_)
  refine wpAny_bind (wpAny_holding (hint _ _ _ _ oth fun bb tk htk => ?_))
  refine wpAny_ite_split (fun _ => ?_) (fun _ => wpAny_pure ⟨plainId_quiet F.plain_extend_loop _, loop h2 tk _ oth hS2⟩)
  refine wpAny_bind (wpAny_rule (wpAny_bind ?_)); show wpAny _ _ (updateSeq s.heap.objs.size (·.push .none) >>= fun _ => updateSeq s.heap.objs.size (·.pop)) _ _ _
  refine wpAny_bind (wpAny_updateSeq (s := { s with heap := h2, toks := tk }) hS2 rfl ?_)
  have hS3 := Heap.get?_update_self (Obj.mapSeq (·.push Value.none)) hS2 rfl; refine wpAny_updateSeq (hz := by seq_fits) hS3 rfl ?_
  have hS4 := Heap.get?_update_self (Obj.mapSeq (·.pop)) hS3 rfl; refine wpAny_pure ⟨plainId_quiet F.plain_extend_loop _, loop _ tk _ (fun b o e => ?_) hS4⟩
  have hb := Nat.ne_of_gt (Heap.lt_size e)
  exact (Heap.get?_update_other _ _ hb).trans ((Heap.get?_update_other _ _ hb).trans (oth b o e))
end

theorem hint_en {prog : Program} {w : World} {A : Around} {E : Value → Shared → Prop} {s : Shared} {e : Addr} {Q : Bool → Shared → Prop} (hT : s.TypeIs (.ref e) "enumerate") (h : Q true s) : wpAny (model prog w) A (Builtin.List.listLengthHint (.ref e)) Q E s := by
  (unfold Builtin.List.listLengthHint)
  refine wpAny_bind (wpAny_specialOf hT en_nolen ?_)
  show wpAny _ _ (specialOf (Value.ref e) (Str.ofString "__length_hint__") >>= _) _ _ _
  refine wpAny_bind (wpAny_specialOf hT en_nohint ?_)
  exact wpAny_pure h
/-- list(enumerate(x, start=k)), x a tuple -/
def tLstEn (K : PySem.W.Frag) (k0 : Int) (te : TE) : TE := fun σ H Q => te σ H fun v H1 => ∃ (a : Addr) (xs : List V) (Pv : Nat → Hp → List V → Prop), v = .ref a ∧ SqT K H1 a xs ∧ Pv 0 H1 [] ∧
  (∀ (i : Nat) H vs x T, Pv i H vs → xs[i]? = some x → H T = none → Pv (i + 1) (upd H T (.tup [.int (k0 + (i : Int)), x])) (vs ++ [.ref T])) ∧ ∀ H vs q, Pv xs.length H vs → H q = none → Q (.ref q) (upd H q (.lst vs))
theorem pe_lstEn {X : Cx} {e : Expr} {te : TE} {p p2 pos pos2 kp cp : Pos} {j} {k0 : Int} (hk0 : -(2 ^ 63) ≤ k0) (hk1 : k0 < 2 ^ 63) (hc : X.calm = true) (hg : Gl X "list") (hm : X.mg "list" = none) (hg2 : Gl X "enumerate") (hm2 : X.mg "enumerate" = none) (he : PE X e te) (hs : starEach [e] X.env = (false, eval e X.env) :: starEach [] X.env := by rfl)
    (hs2 : starEach [.Call (.Name "enumerate" p2) [e] [⟨some "start", .Constant (.int k0) j cp, kp⟩] pos2] X.env = (false, eval (.Call (.Name "enumerate" p2) [e] [⟨some "start", .Constant (.int k0) j cp, kp⟩] pos2) X.env) :: starEach [] X.env := by rfl) :
    PE X (.Call (.Name "list" p) [.Call (.Name "enumerate" p2) [e] [⟨some "start", .Constant (.int k0) j cp, kp⟩] pos2] [] pos) (tLstEn X.K k0 te) := by
  refine ⟨fun pins s σ H Q I h => ?_⟩; have hk : PK X [⟨some "start", .Constant (.int k0) j cp, kp⟩] (tCons (tC (.int k0)) tNil) := pk_cons pe_int pk_nil
  refine Call_ (ld_blt I hg hm boot_list (PyProof.Rows.callWith_type1 (args_cons (wpAny_Call_Name_kw (ld_blt I hg2 hm2 PyProof.Rows.boot_enumerate (callWith_typeKw (args_cons (thn (he.run pins s σ H _ I h) fun u s1 ⟨v, H1, I1, r1, q1⟩ => args_nil ?_) hs) (by rw [hs]; rfl)))) hs2) hs2 rfl))
  obtain ⟨a, xs, Pv, ev, hq, h0, step, fin⟩ := q1
  subst ev
  obtain rfl : u = Value.ref a := r1; refine thn (hk.run pos2 pins s1 σ H1 (fun zs H2 => zs = [.int k0] ∧ H2 = H1) I1 ⟨rfl, rfl⟩) fun ws s2 ⟨zs, H2, I2, r2, ez, eh⟩ => ?_
  subst ez eh
  obtain ⟨wk, rfl, tk0, rfl⟩ : ∃ wk, ws = [wk] ∧ ∃ t, wk = Value.int k0 t := by
    cases r2 with
    | cons r rr => cases rr; exact ⟨_, rfl, r⟩
  obtain ⟨its, rv, p', hz⟩ := I2.tuple hq
  have hlen := rv.length
  have htup : s2.heap.IsTuple a its.toArray := p'
  show wpAny _ _ (call (.type "enumerate") [.ref a] [(Str.ofString "start", .int k0 tk0)]) _ _ s2
  refine enum_begins_start (begins_tuple a its.toArray) htup hk0 hk1 fun h' hen hit hsz hk' => args_nil ?_
  have hsz1 : s2.heap.objs.size < h'.objs.size := by omega
  have hsz2 : s2.heap.objs.size + 1 < h'.objs.size := by omega
  have I3 : L2.Inv X pins σ H2 { s2 with heap := h' } := I2.kept (t' := s2.toks) hk'
  have hE : EnAny h' (s2.heap.objs.size + 1) s2.heap.objs.size k0 := .inl ⟨_, hen⟩
  have hal : a < s2.heap.objs.size := by obtain ⟨o, ho, _⟩ := id htup; exact Heap.lt_size ho
  have fe := I2.fpOk (H' := H2) (b := s2.heap.objs.size + 1) (Nat.le_succ _) (I2.hok.fresh (Nat.le_succ _))
  have fi := I2.fpOk (H' := H2) (b := s2.heap.objs.size) (Nat.le_refl _) (I2.hok.fresh (Nat.le_refl _))
  have hn : H2 h'.objs.size = none := I3.hok.fresh (Nat.le_refl _)
  refine own_begin (T := "enumerate") (s := { s2 with heap := h' }) (fun h2 k2 => ⟨_, k2 _ _ hen, rfl⟩) (by decide) (by decide) (fun A E Q h2 k2 q => wpAny_pyIter_enum (s := { s2 with heap := h2 }) (k2 _ _ hen) q)
    (fun A E Q h2 k2 q => hint_en (s := { s2 with heap := h2 }) ⟨_, k2 _ _ hen, rfl⟩ (q true s2.toks (Nat.le_refl _))) (by show s2.heap.objs.size + 1 < h'.objs.size; omega) fun h2 tk c k2 hS => ?_
  have hS : h2.get? h'.objs.size = some { cls := .type "list", data := .seq #[] c } := hS
  have I4 : L2.Inv X pins σ (upd H2 h'.objs.size (.lst [])) { s2 with heap := h2, toks := tk } := I3.laid (t' := tk) k2 (Nat.le_refl _) ⟨Nat.zero_le _, [], c, .nil, hS⟩
  refine en_loop (X := X) (pins := pins) (σ := σ) (e := s2.heap.objs.size + 1) (it := s2.heap.objs.size) (a := a) (S := h'.objs.size) (k0 := k0) (xs := xs) (its := its) (Pv := Pv) (show X.A.in1.handled = none from I2.ok.hd hc) rv hz (Nat.succ_ne_self _) (Nat.ne_of_gt (Nat.lt_succ_of_lt hal)) (Nat.ne_of_lt hal) (Nat.ne_of_gt hsz2) (Nat.ne_of_gt hsz1) (Nat.ne_of_gt (Nat.lt_trans hal hsz1)) step
    (fun H vs s3 I5 hn5 hp => ⟨rfl, .ref h'.objs.size, _, I5, rfl, fin H vs _ (by rw [hlen, ← List.size_toArray]; exact hp) hn5⟩) its.toArray.size 0 _ H2 [] (by omega) (Nat.zero_le _) I4 hn ⟨?_, fe.2⟩ ⟨?_, fi.2⟩ h0 rfl (by rw [show k0 + ((0 : Nat) : Int) = k0 by omega]; exact .inl ⟨_, k2 _ _ hen⟩) ⟨_, k2 _ _ hit, rfl, rfl⟩ ?_
  · rw [upd_ne (Nat.ne_of_lt hsz2)]; exact fe.1
  · rw [upd_ne (Nat.ne_of_lt hsz1)]; exact fi.1
  · obtain ⟨o, ho, r⟩ := htup
    exact ⟨o, k2 _ _ (hk' _ _ ho), r⟩

def gLstEn (k0 : Int) (d : D) (S : Sto) : Res D := match tupV d with
  | some xs => .ok (.ref S.nx) (S.new (.lst (numD k0 xs)))
  | none => .bad
def dLstEn (k0 : Int) (fa : DE) : DE := fun Γ S => (fa Γ S).bind (gLstEn k0)
theorem numD_take : ∀ (xs : List D) (k : Int) (i : Nat) (x : D), xs[i]? = some x → numD k (xs.take (i + 1)) = numD k (xs.take i) ++ [.tup [.int (k + (i : Int)), x]]
  | [], k, i, x, h => by simp at h
  | y :: r, k, 0, x, h => by
    have h : some y = some x := h
    cases h
    show [D.tup [.int k, y]] = [] ++ [D.tup [.int (k + ((0 : Nat) : Int)), y]]
    rw [show k + ((0 : Nat) : Int) = k by omega]; rfl
  | y :: r, k, i + 1, x, h => by
    show D.tup [.int k, y] :: numD (k + 1) (r.take (i + 1)) = (D.tup [.int k, y] :: numD (k + 1) (r.take i)) ++ _
    rw [numD_take r (k + 1) i x h, show k + 1 + (i : Int) = k + ((i + 1 : Nat) : Int) by omega]; rfl
theorem xlstEn {X : Cx} {C : Cfg} {W : XK} {e : Expr} {fa : DE} {p p2 pos pos2 kp cp : Pos} {j} {k0 : Int} (hk : (decide (-(2 ^ 63) ≤ k0) && decide (k0 < 2 ^ 63)) = true) (hK : X.K = C.K) (hc : X.calm = true) (hg : Gl X "list") (hm : X.mg "list" = none) (hg2 : Gl X "enumerate") (hm2 : X.mg "enumerate" = none) (he : PE X e (tE C W fa)) (hs : starEach [e] X.env = (false, eval e X.env) :: starEach [] X.env := by rfl)
    (hs2 : starEach [.Call (.Name "enumerate" p2) [e] [⟨some "start", .Constant (.int k0) j cp, kp⟩] pos2] X.env = (false, eval (.Call (.Name "enumerate" p2) [e] [⟨some "start", .Constant (.int k0) j cp, kp⟩] pos2) X.env) :: starEach [] X.env := by rfl) :
    PE X (.Call (.Name "list" p) [.Call (.Name "enumerate" p2) [e] [⟨some "start", .Constant (.int k0) j cp, kp⟩] pos2] [] pos) (tE C W (dLstEn k0 fa)) :=
  (pe_lstEn (of_decide_eq_true (Bool.and_eq_true_iff.mp hk).1) (of_decide_eq_true (Bool.and_eq_true_iff.mp hk).2) hc hg hm hg2 hm2 he hs hs2).by fun σ H Q ⟨M, Γ, S, g, s, h⟩ => run1 g s h fun M1 d S1 x H1 l1 s1 r1 h1 => by
    unfold gLstEn at h1
    split at h1
    · rename_i ys e1
      obtain ⟨a, us, rfl, ha, rl⟩ := tup_of s1 r1 e1
      refine ⟨a, us, fun i H2 vs => ∃ M', M1.le M' ∧ Sim C M' S1 H2 ∧ RepL C M' (numD k0 (ys.take i)) vs, rfl, hK ▸ ha, ⟨M1, .refl M1, s1, .nil⟩, fun i H2 vs x T ⟨M', l, s2, r⟩ hx hT => ?_, fun H2 vs q ⟨M', l, s2, r⟩ hq => ?_⟩
      · have hi : i < ys.length := by rw [rl.1]; exact (List.getElem?_eq_some_iff.mp hx).1
        have rx := rl.2 i _ _ (List.getElem?_eq_getElem hi) hx
        have lp : M'.le (M'.lay T (.tup [.int (k0 + (i : Int)), x])) := Wd.lay_le (s2.free hT)
        refine ⟨_, l.trans lp, s2.lay hT, ?_⟩
        rw [numD_take ys k0 i _ (List.getElem?_eq_getElem hi)]
        have rl2 : RepL C (M'.lay T (.tup [.int (k0 + (i : Int)), x])) [.int (k0 + (i : Int)), ys[i]] [.int (k0 + (i : Int)), x] := .cons (.int _) (.cons (rx.mono (l.trans lp)) .nil)
        exact (r.mono lp).append (.cons (.tup (show upd M'.fz T _ T = _ from upd_same) rl2.1 rl2.2) .nil)
      · have e2 : ys.take us.length = ys := by rw [← rl.1, List.take_length]
        rw [e2] at r
        exact newSto (h1.mono l) s2 ⟨_, rfl, r⟩ hq
    · exact h1.elim
end Pd

/-! tuple(sorted(set(x))), x a list of ints -/
namespace Pd
open L2 PySem PySem.Spec PyProof.Rows

abbrev frSet (w : World) : Obj := { cls := .type "set", dict := none, data := .set #[] 0 (.fresh 0 0 (!w.params.followText "set-order")) }
section
variable {P : Program} {w : World} {s : Shared} {A : Around} {E : Value → Shared → Prop}
/-- set(xs), xs a list of ints -/
theorem set_listI {l : Addr} {its : Array Value} (ns : List Int) {Q : Value → Shared → Prop} (hh : A.handled = none) (hl : s.heap.IsList l its) (hit : IntsAre its.toList ns) (hb : ns.length + 1 < scanBound) (h : ∀ (h' : Heap) (tk c : Nat), SetR w h' s.heap.objs.size (fun j => decide (j ∈ ns)) c → c ≤ ns.length → (∀ b o, s.heap.get? b = some o → h'.get? b = some o) → Q (.ref s.heap.objs.size) { s with heap := h', toks := tk }) : wpAny (model P w) A (call (.type "set") [.ref l]) Q E s := by
  have sz : its.size = ns.length := by rw [← Array.length_toList]; exact IntsAre.length hit
  obtain ⟨c, tl, hmro⟩ := F.called_set.mro; have hmade := F.called_set.made
  have hsub := F.called_set.sub
  refine wpAny_call (codeAny_of_tree ?_); show wpAny _ _ (callAny (.type "set") _) _ _ _
  refine wpAny_pure ⟨Code.quiet_builtin _ (by decide +kernel), codeAny_builtin F.entry_type_call ?_⟩; rw [Around.under_plain (weight_type_call_type "set" [.ref l] []) rfl]
  have h1 := F.called_set.notType; have h2 := F.called_set.canCreate
  have hct := (F.typeCall_set_1 (.ref l))
  repeat (any_goals (first | assumption | (wp_step)))
  refine codeAny_mono (code_set_led1 (.ref l) (E := E) (Q₁ := fun obj s1 => obj = .ref s.heap.objs.size ∧ s1 = { s with heap := s.heap.push (frSet w) }) ⟨rfl, rfl⟩) fun r s1 hr => ?_
  cases r with
  | error e => exact hr
  | ok fl =>
    cases fl with
    | ret obj =>
      obtain ⟨rfl, rfl⟩ := hr
      have hS : (s.heap.push (frSet w)).get? s.heap.objs.size = some (frSet w) := Heap.get?_push_size _ rfl
      have hT : Shared.TypeIs { s with heap := s.heap.push (frSet w) } (.ref s.heap.objs.size) "set" := ⟨_, hS, rfl⟩
      have hli := F.called_set.init.lookup; have hbi := F.called_set.init.bind (.ref s.heap.objs.size)
      repeat (any_goals (first | assumption | (wp_step)))
      refine codeAny_mono (codeAny_call_builtin (R := wants (fun r s2 => r = .none ∧ ∃ h' tk c, s2 = { s with heap := h', toks := tk } ∧ SetR w h' s.heap.objs.size (fun j => decide (j ∈ ns)) c ∧ c ≤ ns.length ∧
          ∀ b o, s.heap.get? b = some o → h'.get? b = some o) E) F.called_set.init.plain F.entry_set_init (check_set_init_1 hT ?_)) fun r2 s2 hr2 => ?_
      · obtain ⟨ol, hol, hcl, nl, hdl⟩ := (hl)
        obtain ⟨ocls, odict, odata, oslots⟩ := ol; simp only at hcl hdl
        subst hcl; subst hdl
        have hol' : (s.heap.push (frSet w)).get? l = some { cls := .type "list", dict := odict, data := .seq its nl, slots := oslots } := Heap.get?_push_of_some _ hol
        have hsls := F.sub_list_set
        have hslf := F.sub_list_frozenset; have hne : (Value.type "list" == Value.type "dict") = false := by decide
        have hl1 : (s.heap.push (frSet w)).IsList l its := ⟨_, hol', rfl, nl, rfl⟩
        (unfold Builtin.«set.__init__» noKeywords Builtin.Frozenset.updateFrom)
        generalize hPI : pyIter = PI
        wp_walk
        subst hPI
        refine wpAny_pyIter_list hl1 (wpAny_bind (wpAny_runValue ?_))
        have hlS : l < s.heap.objs.size := Heap.lt_size hol; have hh3 : A.in1.in1.in1.handled = none := by simp [hh]
        have hz : (s.heap.push (frSet w)).objs.size = s.heap.objs.size + 1 := Heap.size_push ..
        have hneI : l ≠ (s.heap.push (frSet w)).objs.size := by rw [hz]; exact Nat.ne_of_lt (Nat.lt_succ_of_lt hlS)
        have hSf : s.heap.objs.size ∉ [(s.heap.push (frSet w)).objs.size, l] := by
          rw [hz]; simp only [List.mem_cons, List.mem_singleton, List.not_mem_nil, or_false, not_or]
          exact (⟨Nat.ne_of_lt (Nat.lt_succ_self _), Nat.ne_of_gt hlS⟩)
        have hval : ∀ (i : Nat) (v : Value), its[i]? = some v → ∃ k t, ns[i]? = some k ∧ v = .int k t := fun i v hv => by
          have hi : i < ns.length := by rw [← sz]; exact (Array.getElem?_eq_some_iff.mp hv).1
          obtain ⟨t, e⟩ := PyProof.Rows.IntsAre.int_at hit i v (by rw [Array.getElem?_toList]; exact hv); exact ⟨ns[i], t, List.getElem?_eq_getElem hi, by rw [e, List.getD_eq_getElem?_getD, List.getElem?_eq_getElem hi] <;> rfl⟩
        have h0 : ((s.heap.push (frSet w)).push { cls := .type "list_iterator", data := .fields #[.ref l, .int 0 0] }).get? s.heap.objs.size = some (frSet w) := Heap.get?_push_of_some _ hS
        refine set_update_ints ((Walks.list hh3 _ l hneI its).toS) s.heap.objs.size hSf ns sz hb hval (its.size - 0) 0 _ (by omega) (Nat.zero_le _) ⟨⟨_, Heap.get?_push_size _ rfl, rfl, rfl⟩, (hl1.push _)⟩ ⟨0, Nat.le_refl 0, setR_new_at h0⟩ ?_
        intro s' c' hm hc' hS'
        obtain ⟨h', g2, d', tk', os'⟩ := s'; have eg : g2 = s.gens := hm.gens
        have ed : d' = s.drawn := hm.drawn; have eo : os' = s.os := hm.os
        subst eg; subst ed; subst eo
        show wpAny _ _ _ _ _ _
        refine wpAny_pure ?_
        show wpAny _ _ (ret Value.none) _ _ _; rw [sz] at hc'
        refine wpAny_pure ⟨rfl, h', tk', c', rfl, hS', hc', fun b o e => ?_⟩; have hb0 : b < s.heap.objs.size := Heap.lt_size e
        refine hm.heap b o ?_ (Heap.get?_push_of_some _ (Heap.get?_push_of_some _ e))
        simp only [List.mem_cons, List.mem_singleton, List.not_mem_nil, or_false, not_or]
        exact ⟨Nat.ne_of_lt hb0, by rw [hz]; exact Nat.ne_of_lt (Nat.lt_succ_of_lt hb0)⟩
      · cases r2 with
        | error e => exact hr2
        | ok fl2 =>
          cases fl2 with
          | ret r =>
            obtain ⟨rfl, h', tk, c', rfl, hS', hc', hk'⟩ := hr2
            repeat (any_goals (first | assumption | (wp_step)))
            exact h _ _ _ hS' hc' hk'
          | _ => exact hr2.elim
    | _ => exact hr.elim
end
end Pd

/-! tuple(sorted(set(x))), x a list of ints: the rule by data -/
namespace Pd
open L2 PySem PySem.Spec PyProof.Rows

section
variable {X : Cx} {C : Cfg} {W : XK}
def rSetL (K : PySem.W.Frag) (w : World) : List V → Hp → VK → Prop := fun xs H Q => ∃ (l : Addr) (ns : List Int), xs = [.ref l] ∧ SqL K H l (ns.map V.int) ∧ ns.length < 64 ∧ ∀ p c, H p = none → c ≤ ns.length → Q (.ref p) (upd H p (SetO w p (fun j => decide (j ∈ ns)) c))
theorem cr_setL (hc : X.calm = true) : CallR X (.type "set") (rSetL X.K X.w) := by
  intro pins s σ H vs us Q I r h; obtain ⟨l, ns, rfl, hs, h64, q⟩ := h
  rw [Vals.ref1 r]
  obtain ⟨its, rv, pl, hz⟩ := I.list hs; refine set_listI ns (I.ok.hd hc) pl.isList (by simpa using ints_of_vals rv) (by unfold scanBound; omega) fun h' tk c R hle hk => ?_
  exact ⟨.ref s.heap.objs.size, _, I.laid (t' := tk) hk (Nat.le_refl _) (setO_new R), rfl, q _ c (I.hok.fresh (Nat.le_refl _)) hle⟩
theorem Sim.beside {M : Wd} {S : Sto} {H : Hp} (s : Sim C M S H) {a : Addr} {o : HO} (h : H a = none) : Sim C M S (upd H a o) := by
  refine ⟨fun b u e => ?_, fun n m e => ?_, s.inj, s.nx, fun b ob u e => ?_⟩
  · have hb : ¬ b = a := fun z => by
      rw [z, s.free h] at e; cases e
    rcases s.fr b u e with q | ⟨d, ob, q⟩
    · exact .inl (by rw [upd_ne hb]; exact q)
    · exact .inr ⟨d, ob, by rw [upd_ne hb]; exact q⟩
  · obtain ⟨b, u, h1, h2, h3, h4⟩ := s.al n m e
    have hb : ¬ b = a := fun z => by
      rw [z, h] at h2; cases h2
    exact ⟨b, u, h1, by rw [upd_ne hb]; exact h2, h3, h4⟩
  · have q := s.lk b ob u e
    have hb : ¬ b = a := fun z => by
      rw [z, h] at q; cases q
    rw [upd_ne hb]; exact q
end
/-- put into an ascending list -/
def insI (k : Int) : List Int → List Int
  | [] => [k]
  | x :: r => (match ltB k x with
    | true => k :: x :: r
    | false => (match eqB k x with
      | true => x :: r
      | false => x :: insI k r))
def sortI : List Int → List Int
  | [] => []
  | k :: r => insI k (sortI r)
theorem insI_mem (k : Int) : ∀ (l : List Int) (j : Int), j ∈ insI k l ↔ j = k ∨ j ∈ l
  | [], j => by simp [insI]
  | x :: r, j => by
    unfold insI
    rw [ltB_eq, eqB_eq]
    by_cases h1 : k < x
    · simp [h1]
    · by_cases h2 : k = x
      · subst h2; simp [h1]
      · simp [h1, h2, insI_mem k r j]
        constructor
        · rintro (h | h | h) <;> simp [h]
        · rintro (h | h | h) <;> simp [h]
theorem insI_asc (k : Int) : ∀ (l : List Int), l.Pairwise (· < ·) → (insI k l).Pairwise (· < ·)
  | [], _ => by simp [insI]
  | x :: r, h => by
    obtain ⟨h1, h2⟩ := (List.pairwise_cons.mp h)
    unfold insI
    rw [ltB_eq, eqB_eq]
    by_cases h3 : k < x
    · simp only [h3, decide_true]
      refine List.pairwise_cons.mpr ⟨fun y hy => ?_, h⟩
      rcases (List.mem_cons.mp hy) with rfl | hy
      · exact h3
      · exact Int.lt_trans h3 (h1 y hy)
    · by_cases h4 : k = x
      · subst h4; simp only [h3, decide_false, decide_true]; exact h
      · simp only [h3, h4, decide_false]
        refine List.pairwise_cons.mpr ⟨fun y hy => ?_, insI_asc k r h2⟩
        rcases (insI_mem k r y).mp hy with rfl | hy
        · omega
        · exact h1 y hy
theorem sortI_mem : ∀ (l : List Int) (j : Int), j ∈ sortI l ↔ j ∈ l
  | [], j => by simp [sortI]
  | k :: r, j => by unfold sortI; rw [insI_mem, sortI_mem r j]; simp
theorem sortI_asc : ∀ (l : List Int), (sortI l).Pairwise (· < ·)
  | [] => .nil
  | k :: r => insI_asc k _ (sortI_asc r)
theorem asc_eq : ∀ (l m : List Int), l.Pairwise (· < ·) → m.Pairwise (· < ·) → (∀ k, k ∈ l ↔ k ∈ m) → l = m
  | [], [], _, _, _ => rfl
  | [], y :: m, _, _, h => absurd ((h y).mpr List.mem_cons_self) (by simp)
  | x :: l, [], _, _, h => absurd ((h x).mp List.mem_cons_self) (by simp)
  | (x :: l), (y :: m), hl, hm, h => by
    obtain ⟨a1, a2⟩ := List.pairwise_cons.mp hl
    obtain ⟨b1, b2⟩ := List.pairwise_cons.mp hm
    have e : x = y := by
      rcases List.mem_cons.mp ((h x).mp List.mem_cons_self) with q | q
      · exact q
      · rcases List.mem_cons.mp ((h y).mpr List.mem_cons_self) with z | z
        · exact z.symm
        · have := b1 x q
          have := a1 y z
          omega
    subst e
    rw [asc_eq l m a2 b2 fun k => ?_]
    constructor
    · intro hk
      rcases List.mem_cons.mp ((h k).mp (List.mem_cons_of_mem _ hk)) with z | z
      · have := a1 k hk; omega
      · exact z
    · intro hk
      rcases List.mem_cons.mp ((h k).mpr (List.mem_cons_of_mem _ hk)) with z | z
      · have := b1 k hk; omega
      · exact z
def intsD : List D → Option (List Int)
  | [] => some []
  | .int i :: r => (match intsD r with
    | some l => some (i :: l)
    | none => none)
  | _ => none
def tupI : List Int → List D
  | [] => []
  | i :: r => .int i :: tupI r
def gTSS (d : D) (S : Sto) : Res D := match lstV S d with
  | some xs => (match intsD xs with
    | some ns => (match Nat.blt ns.length 64 with
      | true => .ok (.tup (tupI (sortI ns))) S
      | false => .bad)
    | none => .bad)
  | none => .bad
def dTSS (fa : DE) : DE := fun Γ S => (fa Γ S).bind gTSS
section
variable {X : Cx} {C : Cfg} {W : XK}
theorem intsD_of {M : Wd} : ∀ {ds : List D} {vs : List V} {ns : List Int}, RepL C M ds vs → intsD ds = some ns → vs = ns.map V.int
  | [], _, _, r, h => by cases h; exact r.nil_inv
  | d :: ds, _, ns, r, h => by
    obtain ⟨v, us, rfl, h1, h2⟩ := r.cons_inv
    unfold intsD at h
    split at h
    · rename_i e; cases e
    · rename_i b r' e
      cases e
      split at h
      · rename_i ms e2
        cases h
        cases h1
        rw [intsD_of h2 e2]; rfl
      · cases h
    · cases h
theorem tupI_of {M : Wd} : ∀ ns : List Int, RepL C M (tupI ns) (ns.map V.int)
  | [] => .nil
  | i :: r => .cons (.int i) (tupI_of r)
theorem xTSS {e : Expr} {fa : DE} {p1 p2 p3 pos1 pos2 pos3 : Pos} (hK : X.K = C.K) (hc : X.calm = true) (hg1 : Gl X "tuple") (hm1 : X.mg "tuple" = none) (hg2 : Gl X "sorted") (hm2 : X.mg "sorted" = none) (hg3 : Gl X "set") (hm3 : X.mg "set" = none) (he : PE X e (tE C W fa)) (hs : starEach [e] X.env = (false, eval e X.env) :: starEach [] X.env := by rfl)
    (hs2 : starEach [.Call (.Name "set" p3) [e] [] pos3] X.env = (false, eval (.Call (.Name "set" p3) [e] [] pos3) X.env) :: starEach [] X.env := by rfl)
    (hs3 : starEach [.Call (.Name "sorted" p2) [.Call (.Name "set" p3) [e] [] pos3] [] pos2] X.env = (false, eval (.Call (.Name "sorted" p2) [.Call (.Name "set" p3) [e] [] pos3] [] pos2) X.env) :: starEach [] X.env := by rfl) :
    PE X (.Call (.Name "tuple" p1) [.Call (.Name "sorted" p2) [.Call (.Name "set" p3) [e] [] pos3] [] pos2] [] pos1) (tE C W (dTSS fa)) :=
  (pe_callTy call_tuple_of hg1 hm1 PyProof.Rows.boot_tuple (pa_cons (pe_callB (cr_sortedSet hc) hg2 hm2 PyProof.Rows.boot_sorted (pa_cons (pe_callTy (cr_setL hc) hg3 hm3 PyProof.Rows.boot_set (pa_cons he pa_nil hs) (he := hs) (hpl := rfl)) pa_nil hs2) (he := hs2) (hpl := rfl)) pa_nil hs3) (he := hs3) (hpl := rfl)).by fun σ H Q ⟨M, Γ, S, g, s, h⟩ => run1 g s h fun M1 d S1 x H1 l1 s1 r1 h1 => by
    unfold gTSS at h1
    split at h1
    · rename_i ys e1
      split at h1
      · rename_i ns e2
        split at h1
        · rename_i e3
          obtain ⟨a, us, rfl, ha, rl⟩ := lst_of s1 r1 e1
          have := intsD_of rl e2
          subst this
          have h64 : ns.length < 64 := Nat.le_of_ble_eq_true e3
          refine ⟨a, ns, rfl, hK ▸ ha, h64, fun p c hp hle => ⟨p, _, c, rfl, upd_same, by omega, fun ms q hs1 hs2 hlen hq => ⟨q, ms.map V.int, rfl, .inl ⟨?_, fun t ht => ?_⟩⟩⟩⟩
          · exact .inl (.inl upd_same)
          · have e4 : ms = sortI ns := asc_eq _ _ hs1 (sortI_asc ns) fun k => by rw [hs2 k, sortI_mem]; simp
            subst e4
            exact newTup h1 ((s1.beside hp).beside hq) (tupI_of _) ht
        · exact h1.elim
      · exact h1.elim
    · exact h1.elim
end
end Pd

/-! dict(zip(x, y)) of two lists, the keys ints and texts, each once -/
namespace Pd
open L2 PySem PySem.Spec PyProof.Rows

def keysO : List D → Option (List Key)
  | [] => some []
  | d :: r => (match keyOf d with
    | some k => (match keysO r with
      | some ks => some (k :: ks)
      | none => none)
    | none => none)
def newK (k : Key) : List Key → Bool
  | [] => true
  | j :: r => (match eqK k j with
    | true => false
    | false => newK k r)
def uniqK : List Key → Bool
  | [] => true
  | k :: r => (match newK k r with
    | true => uniqK r
    | false => false)
theorem newK_ok (k : Key) : ∀ l, newK k l = true → k ∉ l
  | [], _ => by simp
  | j :: r, h => by
    unfold newK at h
    split at h
    · cases h
    · rename_i e
      have hne : k ≠ j := fun z => by
        rw [(eqK_iff k j).mpr z] at e; cases e
      simp [hne, newK_ok k r h]
theorem uniqK_ok : ∀ l, uniqK l = true → l.Nodup
  | [], _ => .nil
  | k :: r, h => by
    unfold uniqK at h
    split at h
    · rename_i e
      exact List.nodup_cons.mpr ⟨newK_ok k r e, uniqK_ok r h⟩
    · cases h
def zipK {α : Type} : List Key → List α → List (Key × α)
  | k :: ks, x :: xs => (k, x) :: zipK ks xs
  | _, _ => []
theorem zipK_get {α : Type} : ∀ (ks : List Key) (xs : List α) (i : Nat) (k : Key) (x : α), ks[i]? = some k → xs[i]? = some x → (zipK ks xs)[i]? = some (k, x)
  | [], _, i, k, x, h, _ => by simp at h
  | _ :: _, [], i, k, x, _, h => by simp at h
  | a :: ks, b :: xs, 0, k, x, h, h2 => by
    have h : some a = some k := h
    have h2 : some b = some x := h2
    cases h; cases h2; rfl
  | a :: ks, b :: xs, i + 1, k, x, h, h2 => zipK_get ks xs i k x h h2
theorem zipK_inv {α : Type} : ∀ (ks : List Key) (xs : List α) (i : Nat) (k : Key) (x : α), (zipK ks xs)[i]? = some (k, x) → ks[i]? = some k ∧ xs[i]? = some x
  | [], _, i, k, x, h => by simp [zipK] at h
  | _ :: _, [], i, k, x, h => by simp [zipK] at h
  | a :: ks, b :: xs, 0, k, x, h => by
    have h : some (a, b) = some (k, x) := h
    cases h; exact ⟨rfl, rfl⟩
  | a :: ks, b :: xs, i + 1, k, x, h => zipK_inv ks xs i k x h
theorem zipK_len {α : Type} : ∀ (ks : List Key) (xs : List α), (zipK ks xs).length = min ks.length xs.length
  | [], _ => by simp [zipK]
  | _ :: _, [] => by simp [zipK]
  | a :: ks, b :: xs => by
    show (zipK ks xs).length + 1 = _
    rw [zipK_len ks xs]; simp only [List.length_cons]; omega
theorem zipK_keys {α β : Type} : ∀ (ks : List Key) (xs : List α) (ys : List β), xs.length = ys.length → (zipK ks xs).map (·.1) = (zipK ks ys).map (·.1)
  | [], _, _, _ => by simp [zipK]
  | _ :: _, [], [], _ => rfl
  | _ :: _, [], _ :: _, h => by simp at h
  | _ :: _, _ :: _, [], h => by simp at h
  | k :: ks, x :: xs, y :: ys, h => by
    show k :: (zipK ks xs).map (·.1) = k :: (zipK ks ys).map (·.1)
    rw [zipK_keys ks xs ys (by simpa using h)]
theorem zipK_sub {α : Type} : ∀ (ks : List Key) (xs : List α), ks.Nodup → ((zipK ks xs).map (·.1)).Nodup
  | [], _, _ => by simp [zipK]
  | _ :: _, [], _ => by simp [zipK]
  | k :: ks, x :: xs, h => by
    obtain ⟨h1, h2⟩ := List.nodup_cons.mp h; show (k :: (zipK ks xs).map (·.1)).Nodup
    refine List.nodup_cons.mpr ⟨fun hk => h1 ?_, zipK_sub ks xs h2⟩
    obtain ⟨⟨a, b⟩, hp, e⟩ := List.mem_map.mp hk
    obtain ⟨i, hi⟩ := List.getElem?_of_mem hp
    have := (zipK_inv ks xs i a b hi).1
    exact List.mem_of_getElem? (by rw [this, ← e])
section
variable {X : Cx}
def tDZ (K : PySem.W.Frag) (ta : TA) : TE := fun σ H Q => ta σ H fun vs H1 => ∃ (a b : Addr) (ks : List Key) (ys : List V), vs = [.ref a, .ref b] ∧ SqL K H1 a (ks.map kV) ∧ SqL K H1 b ys ∧ ks.Nodup ∧ ∀ q, H1 q = none → Q (.ref q) (upd H1 q (.dK (zipK ks ys)))
theorem pe_dictZip {e e2 : Expr} {ta : TA} {p p2 pos pos2 : Pos} (hc : X.calm = true) (hg : Gl X "dict") (hm : X.mg "dict" = none) (hg2 : Gl X "zip") (hm2 : X.mg "zip" = none) (ha : PA X [e, e2] ta)
    (hs : starEach [e, e2] X.env = (false, eval e X.env) :: starEach [e2] X.env := by rfl) (hpl : (backTo pos2 (starEach [e2] X.env)).any (·.1) = false := by rfl)
    (hs2 : starEach [.Call (.Name "zip" p2) [e, e2] [] pos2] X.env = (false, eval (.Call (.Name "zip" p2) [e, e2] [] pos2) X.env) :: starEach [] X.env := by rfl) :
    PE X (.Call (.Name "dict" p) [.Call (.Name "zip" p2) [e, e2] [] pos2] [] pos) (tDZ X.K ta) := by
  refine ⟨fun pins s σ H Q I h => ?_⟩; refine Call_ (ld_blt I hg hm boot_dict (PyProof.Rows.callWith_type1 (args_cons (Call_ (ld_blt I hg2 hm2 PyProof.Rows.boot_zip (PyProof.Rows.callWith_type1 (thn (ha.run pos2 pins s σ H _ I h) fun us s1 ⟨vs, H1, I1, r1, q1⟩ => ?_) hs hpl))) hs2) hs2 rfl))
  obtain ⟨a, b, ks, ys, rfl, hqx, hqy, nd, q⟩ := q1
  obtain ⟨u1, u2, rfl, w1, w2⟩ := Vals.two r1
  cases w1
  cases w2
  obtain ⟨its, rv, p1, hz1⟩ := I1.list hqx
  obtain ⟨its2, rv2, p2', hz2⟩ := I1.list hqy
  have la : a < s1.heap.objs.size := p1.lt; have lb : b < s1.heap.objs.size := p2'.lt
  refine call_zip_2 p1.isList p2'.isList fun h' hz hTI hTO h1 h2 hsz hk => args_nil ?_
  have I2 : L2.Inv X pins σ H1 { s1 with heap := h' } := I1.kept (t' := s1.toks) hk
  have l1 : its.length = ks.length := by rw [← rv.length, List.length_map]
  have l2 : its2.length = ys.length := rv2.length.symm
  have have_ : PairsHave (mixKind X.prog X.w) (min its.toArray.size its2.toArray.size) (fun i k v => its.toArray[i]? = some k ∧ its2.toArray[i]? = some v) (zipK ks its2) := by
    refine ⟨by rw [zipK_len, List.size_toArray, List.size_toArray, l1], fun i key v hh => ?_⟩
    obtain ⟨g1, g2⟩ := hh
    rw [List.getElem?_toArray] at g1 g2
    have hi : i < ks.length := by rw [← l1]; exact (List.getElem?_eq_some_iff.mp g1).1
    obtain ⟨u, hu, ru⟩ := rv.get (show (ks.map kV)[i]? = some (kV ks[i]) by rw [List.getElem?_map, List.getElem?_eq_getElem hi]; rfl)
    rw [g1] at hu; cases hu
    refine ⟨ks[i], zipK_get ks its2 i _ _ (List.getElem?_eq_getElem hi) g2, ?_⟩
    show keyIs ks[i] key = true
    cases hk : ks[i] with
    | inl n =>
      rw [hk] at ru
      obtain ⟨t, rfl⟩ := ru
      simp [keyIs, Value.isInt]
    | inr x =>
      rw [hk] at ru
      obtain ⟨t, rfl⟩ := ru
      simp [keyIs, Value.isStrOf]
  have few : min its.toArray.size its2.toArray.size ≤ sizeLine := by
    rw [List.size_toArray, List.size_toArray, l1]
    rw [List.length_map] at hz1
    omega
  refine PySem.call_dict_pairs (knd := mixKind X.prog X.w) (s := { s1 with heap := h' }) (PairArg.zip (s1.heap.objs.size + 4) (s1.heap.objs.size + 2) (s1.heap.objs.size + 3) s1.heap.objs.size (s1.heap.objs.size + 1) a b (PySem.W.ktu_apart s1.heap.objs.size a b la lb) its.toArray its2.toArray)
    (I1.ok.hd hc) ⟨hz, hTI, ⟨_, _, hTO⟩, h1, h2, p1.isList.at fun o e => hk _ o e, p2'.isList.at fun o e => hk _ o e⟩ have_ few fun h'' tk hd hk2 => ?_
  rw [merged_nil_of_nodup _ (zipK_sub ks its2 nd)] at hd
  have hT : s1.heap.objs.size ≤ h'.objs.size := by rw [hsz]; exact Nat.le_add_right _ _
  have low : (h'.objs.size == sysModules) = false := beq_eq_false_iff_ne.mpr (Nat.ne_of_gt (Nat.lt_of_lt_of_le I1.big hT))
  have kv : KV (zipK ks ys) (zipK ks its2) := by
    clear have_ hd hz1 hqx rv few l1 nd q r1 hqy
    clear hz2 p2' h2
    revert l2 rv2
    generalize its2 = us
    intro rv2 l2
    clear l2
    induction ks generalizing ys us with
    | nil => exact .nil
    | cons k ks ih =>
      cases rv2 with
      | nil => exact .nil
      | cons r rr => exact .cons ⟨rfl, r⟩ (ih _ _ rr)
  have new : ObjOk X.prog X.w (upd H1 h'.objs.size (.dK (zipK ks ys))) h'' h'.objs.size (.dK (zipK ks ys)) :=
    ⟨by rw [zipK_len]; rw [List.size_toArray, List.size_toArray, l1, l2] at few; exact few, low, _, kv, hd⟩
  have I3 := I2.turnedNew (t' := tk) (ch := [s1.heap.objs.size + 4, s1.heap.objs.size + 3, s1.heap.objs.size, s1.heap.objs.size + 1]) (T := h'.objs.size) (fun c o hc e => hk2 c o hc e) (fun c hcm => by
    have e' : c = s1.heap.objs.size + 4 ∨ c = s1.heap.objs.size + 3 ∨ c = s1.heap.objs.size ∨ c = s1.heap.objs.size + 1 := by simpa using hcm
    have hle : (s1.heap.objs.size ≤ c) := by
      rcases e' with z | z | z | z
      · rw [z]; exact (Nat.le_add_right _ _)
      · rw [z]; exact (Nat.le_add_right _ _)
      · rw [z]; exact Nat.le_refl _
      · rw [z]; exact (Nat.le_add_right _ _)
    exact I1.fpOk hle (I1.hok.fresh hle)) (Nat.le_refl _) new
  exact ⟨.ref h'.objs.size, _, I3, rfl, q _ (I2.hok.fresh (Nat.le_refl _))⟩
end
def gDZ : List D → Sto → Res D := fun ds S => match ds with
  | [a, b] => (match lstV S a with
    | some xs => (match lstV S b with
      | some ys => (match keysO xs with
        | some ks => (match uniqK ks with
          | true => .ok (.ref S.nx) (S.new (.dct (zipK ks ys)))
          | false => .bad)
        | none => .bad)
      | none => .bad)
    | none => .bad)
  | _ => .bad
def dDZ (fr : DA) : DE := fun Γ S => (fr Γ S).bind gDZ
section
variable {X : Cx} {C : Cfg} {W : XK}
theorem keysO_of {M : Wd} : ∀ {ds : List D} {vs : List V} {ks : List Key}, RepL C M ds vs → keysO ds = some ks → vs = ks.map kV
  | [], _, _, r, h => by cases h; exact r.nil_inv
  | d :: ds, _, ks, r, h => by
    obtain ⟨v, us, rfl, h1, h2⟩ := r.cons_inv
    unfold keysO at h
    split at h
    · rename_i k e
      split at h
      · rename_i ks' e2
        cases h
        rw [keysO_of h2 e2, keyOf_of h1 e]; rfl
      · cases h
    · cases h
theorem zipK_of {M : Wd} {ks : List Key} {ys : List D} {us : List V} (r : RepL C M ys us) : RepK C M (zipK ks ys) (zipK ks us) :=
  ⟨zipK_keys ks ys us r.1, fun i k d k' v a b => r.2 i d v (zipK_inv ks ys i k d a).2 (zipK_inv ks us i k' v b).2⟩
theorem xdictZip {e e2 : Expr} {fr : DA} {p p2 pos pos2 : Pos} (hK : X.K = C.K) (hc : X.calm = true) (hg : Gl X "dict") (hm : X.mg "dict" = none) (hg2 : Gl X "zip") (hm2 : X.mg "zip" = none) (ha : PA X [e, e2] (tA C W fr))
    (hs : starEach [e, e2] X.env = (false, eval e X.env) :: starEach [e2] X.env := by rfl) (hpl : (backTo pos2 (starEach [e2] X.env)).any (·.1) = false := by rfl)
    (hs2 : starEach [.Call (.Name "zip" p2) [e, e2] [] pos2] X.env = (false, eval (.Call (.Name "zip" p2) [e, e2] [] pos2) X.env) :: starEach [] X.env := by rfl) :
    PE X (.Call (.Name "dict" p) [.Call (.Name "zip" p2) [e, e2] [] pos2] [] pos) (tE C W (dDZ fr)) :=
  (pe_dictZip hc hg hm hg2 hm2 ha hs hpl hs2).by fun σ H Q ⟨M, Γ, S, g, s, h⟩ => runA g s h fun M1 ds S1 xs H1 l1 s1 r1 h1 => by
    unfold gDZ at h1
    split at h1
    · rename_i d1 d2
      obtain ⟨v1, us, rfl, rd1, rt⟩ := r1.cons_inv
      obtain ⟨v2, rfl, rd2⟩ := one_of rt
      split at h1
      · rename_i xs e1
        split at h1
        · rename_i ys e2
          split at h1
          · rename_i ks e3
            split at h1
            · rename_i e4
              obtain ⟨a, ws, rfl, ha', rl⟩ := lst_of s1 rd1 e1
              obtain ⟨b, zs, rfl, hb', rl2⟩ := lst_of s1 rd2 e2
              have := keysO_of rl e3
              subst this
              exact ⟨a, b, ks, zs, rfl, hK ▸ ha', hK ▸ hb', uniqK_ok ks e4, fun q hq => newSto h1 s1 ⟨_, rfl, zipK_of rl2⟩ hq⟩
            · exact h1.elim
          · exact h1.elim
        · exact h1.elim
      · exact h1.elim
    · exact h1.elim
end
end Pd

/-! is of bools; == of dicts whose values are data -/
namespace Pd
open L2 PySem PySem.Spec PyProof.Rows

theorem _root_.L2.Room.units65 {k : Nat} {A : Around} (r : Room k A) : A.units + 65 < cLine := by have := r.un; omega
theorem eqBl_eq (a b : Bool) : eqBl a b = decide (a = b) := by cases a <;> cases b <;> rfl
def isBls : D → D → Sto → Bool := fun a b _ => match a, b with
  | .bl _, .bl _ => true
  | _, _ => false
def fIsB : D → D → Sto → Res D := fun a b S => match a, b with
  | .bl x, .bl y => .ok (.bl (eqBl x y)) S
  | _, _ => .bad
def fIsntB : D → D → Sto → Res D := fun a b S => match a, b with
  | .bl x, .bl y => .ok (.bl (!eqBl x y)) S
  | _, _ => .bad
def fIsX : D → D → Sto → Res D := fun a b S => match isBls a b S with
  | true => fIsB a b S
  | false => fIs a b S
def fIsntX : D → D → Sto → Res D := fun a b S => match isBls a b S with
  | true => fIsntB a b S
  | false => fIsnt a b S
/-- the entries of one dict against another one -/
inductive KH (K : PySem.W.Frag) (H : Hp) (ls : List (Key × V)) : List (Key × V) → Bool → Prop
  | nil : KH K H ls [] true
  | miss {k : Key} {v : V} {r : List (Key × V)} (h : valV ls k = none) : KH K H ls ((k, v) :: r) false
  | hit {k : Key} {v u : V} {r : List (Key × V)} {d e : PyData} {b : Bool} (h : valV ls k = some u) (hd : Dp K H v d) (he : Dp K H u e) (sd : SeqAt.shaped d = true) (se : SeqAt.shaped e = true) (t : KH K H ls r b) : KH K H ls ((k, v) :: r) (PyData.eqv d e && b)
def rDk (K : PySem.W.Frag) (neg : Bool) : R2 := fun x y H Q => ∃ a b ks ls r, x = .ref a ∧ y = .ref b ∧ Rd H a (.dK ks) ∧ Rd H b (.dK ls) ∧ KH K H ls ks r ∧ Q (.bl (if neg then !(ks.length == ls.length && r) else ks.length == ls.length && r)) H
section
variable {X : Cx} {s : Shared} {pins : List (Addr × Obj)} {σ : L2.St} {H : Hp}
theorem KH.run {A : Around} (I : L2.Inv X pins σ H s) (hu : A.units + 64 < cLine) {ls : List (Key × V)} {vb : List (Key × Value)} (rb : KV ls vb) {ks : List (Key × V)} {r : Bool} (h : KH X.K H ls ks r) : ∀ {va : List (Key × Value)}, KV ks va → PySem.W.KeqHits A s vb va r := by
  induction h with
  | nil => intro va ra; cases ra; exact .nil
  | @miss k v r h =>
    intro va ra
    cases ra with
    | @cons p q ps qs h1 t =>
      obtain ⟨e1, e2⟩ := h1
      obtain ⟨k', v'⟩ := q
      have e1 : k = k' := e1
      subst e1
      have rr : RelO none (valueAt vb k) := by rw [← h]; exact rb.val k
      exact .miss rr.none_of
  | @hit k v u r d e b h hd he sd se t ih =>
    intro va ra
    cases ra with
    | @cons p q ps qs h1 t1 =>
      obtain ⟨e1, e2⟩ := h1
      obtain ⟨k', v'⟩ := q
      have e1 : k = k' := e1
      subst e1
      have rr : RelO (some u) (valueAt vb k) := by rw [← h]; exact rb.val k
      obtain ⟨y, hy, ry⟩ := rr.some_of; obtain ⟨as, q1⟩ := Dp.reads I d v v' hd e2
      obtain ⟨bs, q2⟩ := Dp.reads I e u y he ry
      exact .hit hy (SeqAt.eqAt_reads d e A s v' y as bs q1 q2 (SeqAt.canLay_of_shaped sd) (SeqAt.canLay_of_shaped se) (SeqAt.room_of_shaped sd hu)) (ih t1)
end
section
variable {X : Cx}
theorem op_dkEq (hu : X.A.units + 65 < cLine) : OpR X (compareOp .Eq) (rDk X.K false) := by
  intro pins s σ H x y v u Q I rx ry h; obtain ⟨a, b, ks, ls, r, rfl, rfl, ha, hb, t, q⟩ := h
  cases rx
  cases ry
  obtain ⟨_, ya, va, ra, da⟩ := dk_rd I.hok ha
  obtain ⟨_, yb, vb, rb, db⟩ := dk_rd I.hok hb
  refine PySem.W.keq_eq (knd := mixKind X.prog X.w) ya yb da db (by omega) (fun _ => t.run I (by show X.A.units + 1 + 64 < cLine; omega) rb ra) ⟨.bl _, H, I, rfl, ?_⟩
  rw [← ra.length, ← rb.length]
  exact q
theorem op_dkNe (hu : X.A.units + 65 < cLine) : OpR X (compareOp .NotEq) (rDk X.K true) := by
  intro pins s σ H x y v u Q I rx ry h; obtain ⟨a, b, ks, ls, r, rfl, rfl, ha, hb, t, q⟩ := h
  cases rx
  cases ry
  obtain ⟨_, ya, va, ra, da⟩ := dk_rd I.hok ha
  obtain ⟨_, yb, vb, rb, db⟩ := dk_rd I.hok hb
  refine PySem.W.keq_ne (knd := mixKind X.prog X.w) ya yb da db (by omega) (fun _ => t.run I (by show X.A.units + 1 + 64 < cLine; omega) rb ra) ⟨.bl _, H, I, rfl, ?_⟩
  rw [← ra.length, ← rb.length]
  exact q
end
def andO (b : Bool) : Option Bool → Option Bool
  | some c => some (match b with
    | true => c
    | false => false)
  | none => none
def eqDk (S : Sto) (lds : List (Key × D)) : List (Key × D) → Option Bool
  | [] => some true
  | (k, d) :: r => (match lookK lds k with
    | none => some false
    | some e => (match eqD S d e with
      | some b => andO b (eqDk S lds r)
      | none => none))
def eqLen {α β : Type} : List α → List β → Bool
  | [], [] => true
  | _ :: x, _ :: y => eqLen x y
  | _, _ => false
theorem eqLen_eq {α β : Type} : ∀ (x : List α) (y : List β), eqLen x y = (x.length == y.length)
  | [], [] => rfl
  | [], _ :: _ => by simp [eqLen]
  | _ :: _, [] => by simp [eqLen]
  | _ :: x, _ :: y => by
    show eqLen x y = _
    rw [eqLen_eq x y]; simp
def dkEq (S : Sto) (a b : D) : Option Bool := match dctV S a, dctV S b with
  | some ks, some ls => (match eqDk S ls ks with
    | some r => some (match eqLen ks ls with
      | true => r
      | false => false)
    | none => none)
  | _, _ => none
def isDks (a b : D) (S : Sto) : Bool := match dctV S a with
  | some _ => (match dctV S b with
    | some _ => true
    | none => false)
  | none => false
def fEqK : D → D → Sto → Res D := fun a b S => match dkEq S a b with
  | some e => .ok (.bl e) S
  | none => .bad
def fNeK : D → D → Sto → Res D := fun a b S => match dkEq S a b with
  | some e => .ok (.bl (!e)) S
  | none => .bad
def fEqX : D → D → Sto → Res D := fun a b S => match isDks a b S with
  | true => fEqK a b S
  | false => fEq a b S
def fNeX : D → D → Sto → Res D := fun a b S => match isDks a b S with
  | true => fNeK a b S
  | false => fNe a b S
section
variable {X : Cx} {C : Cfg} {W : XK}
theorem oIsB : OpD X C W (compareOp .Is) fIsB := by
  refine ⟨_, op_isBl, fun M S H a b x y Q s ra rb q => ?_⟩
  unfold fIsB at q
  split at q
  · cases ra; cases rb
    rw [eqBl_eq] at q
    exact ⟨_, _, rfl, rfl, q.ok s (.bl _)⟩
  · exact q.elim
theorem oIsntB : OpD X C W (compareOp .IsNot) fIsntB := by
  refine ⟨_, op_notBl, fun M S H a b x y Q s ra rb q => ?_⟩
  unfold fIsntB at q
  split at q
  · cases ra; cases rb
    rw [eqBl_eq] at q
    exact ⟨_, _, rfl, rfl, q.ok s (.bl _)⟩
  · exact q.elim
theorem oIsX : OpD X C W (compareOp .Is) fIsX := OpD.or oIsB oIs isBls
theorem oIsntX : OpD X C W (compareOp .IsNot) fIsntX := OpD.or oIsntB oIsnt isBls
theorem eqDk_of {M : Wd} {S : Sto} {H : Hp} (s : Sim C M S H) {lds : List (Key × D)} {ls : List (Key × V)} (rl : RepK C M lds ls) : ∀ {kds : List (Key × D)} {ks : List (Key × V)} {r : Bool}, RepG C M kds ks → eqDk S lds kds = some r → KH C.K H ls ks r
  | [], _, r, rk, h => by cases h; rw [rk.nil_inv]; exact .nil
  | (k, d) :: rs, _, r, rk, h => by
    obtain ⟨v, ps, rfl, h1, h2⟩ := rk.cons_inv
    have lk := lookK_of k rl
    unfold eqDk at h
    split at h
    · rename_i e
      cases h
      rw [e] at lk
      exact .miss lk
    · rename_i e1 e
      rw [e] at lk
      obtain ⟨u, hu, ru⟩ := lk
      split at h
      · rename_i b e2
        obtain ⟨p, q, d1, d2, s1, s2, ev⟩ := eqD_of s h1 ru e2
        cases e3 : eqDk S lds rs with
        | none => rw [e3] at h; cases h
        | some c =>
          rw [e3] at h
          have hr : (PyData.eqv p q && c) = r := by
            rw [ev]
            cases b <;> · cases h; rfl
          rw [← hr]
          exact .hit hu d1 d2 s1 s2 (eqDk_of s rl h2 e3)
      · cases h
theorem dkEq_of {M : Wd} {S : Sto} {H : Hp} {a b : D} {x y : V} {e : Bool} (s : Sim C M S H) (ra : Rep C M a x) (rb : Rep C M b y) (h : dkEq S a b = some e) :
    ∃ p q ks ls r, x = .ref p ∧ y = .ref q ∧ Rd H p (.dK ks) ∧ Rd H q (.dK ls) ∧ KH C.K H ls ks r ∧ (ks.length == ls.length && r) = e := by
  unfold dkEq at h
  split at h
  · rename_i kds lds e1 e2
    split at h
    · rename_i r e3
      obtain ⟨p, ks, rfl, h1, g1⟩ := dct_of s ra e1
      obtain ⟨q, ls, rfl, h2, g2⟩ := dct_of s rb e2
      have g1' : RepG C M kds ks := g1
      have g2' : RepG C M lds ls := g2
      refine ⟨p, q, ks, ls, r, rfl, rfl, h1, h2, eqDk_of s g2 g1' e3, ?_⟩
      rw [← g1'.length, ← g2'.length, ← eqLen_eq]
      cases e4 : eqLen kds lds with
      | true => rw [e4] at h; cases h; rfl
      | false => rw [e4] at h; cases h; rfl
    · cases h
  · cases h
theorem oEqK (hK : X.K = C.K) (hu : X.A.units + 65 < cLine) : OpD X C W (compareOp .Eq) fEqK := by
  refine ⟨_, op_dkEq hu, fun M S H a b x y Q s ra rb q => ?_⟩
  unfold fEqK at q
  split at q
  · rename_i e he
    obtain ⟨p, r, ks, ls, rr, h1, h2, h3, h4, h5, h6⟩ := dkEq_of s ra rb he
    exact ⟨p, r, ks, ls, rr, h1, h2, h3, h4, hK ▸ h5, by rw [if_neg (by decide), h6]; exact q.ok s (.bl _)⟩
  · exact q.elim
theorem oNeK (hK : X.K = C.K) (hu : X.A.units + 65 < cLine) : OpD X C W (compareOp .NotEq) fNeK := by
  refine ⟨_, op_dkNe hu, fun M S H a b x y Q s ra rb q => ?_⟩
  unfold fNeK at q
  split at q
  · rename_i e he
    obtain ⟨p, r, ks, ls, rr, h1, h2, h3, h4, h5, h6⟩ := dkEq_of s ra rb he
    exact ⟨p, r, ks, ls, rr, h1, h2, h3, h4, hK ▸ h5, by rw [if_pos rfl, h6]; exact q.ok s (.bl _)⟩
  · exact q.elim
theorem oEqX (hK : X.K = C.K) (hu : X.A.units + 65 < cLine) : OpD X C W (compareOp .Eq) fEqX := OpD.or (oEqK hK hu) (oEq hK (by omega)) isDks
theorem oNeX (hK : X.K = C.K) (hu : X.A.units + 65 < cLine) : OpD X C W (compareOp .NotEq) fNeX := OpD.or (oNeK hK hu) (oNe hK (by omega)) isDks
end
/-- xs * n as a list that may change -/
def fMulM : D → D → Sto → Res D := fun a b S => match a, b with
  | a, .int (.ofNat k) => (match lstX S a with
    | some xs => guard (lineOk (xs.length * k) && lineOk k) (.ok (.ref S.nx) (S.new (.lst (repD xs k))))
    | none => .bad)
  | _, _ => .bad
theorem oMulM {X : Cx} {C : Cfg} {W : XK} : OpD X C W (binaryOp .Mult) fMulM := by
  refine ⟨_, op_rep, fun M S H a b x y Q s ra rb q => ?_⟩
  unfold fMulM at q
  split at q
  · split at q
    · rename_i a k _ xs e
      obtain ⟨g, q⟩ := guard_ok q
      obtain ⟨g1, g2⟩ := Bool.and_eq_true_iff.mp g
      obtain ⟨l, vs, rfl, h1, r1⟩ := lstX_of s ra e
      cases rb
      have gk : k ≤ 1000000 := Nat.le_of_ble_eq_true (show Nat.ble k 1000000 = true from g2)
      refine ⟨l, _, vs, rfl, rfl, h1, by show -(2 ^ 63) ≤ ((k : Nat) : Int); omega, by show ((k : Nat) : Int) < 2 ^ 63; omega, ?_, fun p hp => newSto q s ⟨_, rfl, repD_ok r1 k⟩ hp⟩
      show vs.length * k ≤ sizeLine
      rw [← r1.1]; exact lineOk_ok g1
    · exact q.elim
  · exact q.elim
end Pd

/-! constants of the module told by checks; a Hook over a list of addresses -/
namespace Pd
open L2 PySem PySem.Spec PyProof.Rows

theorem tupO_ok {K : PySem.W.Frag} {a : Addr} {us : List Value} (h : tupO (K.lookup a) = some us) : ∃ o its n, K.lookup a = some o ∧ o.cls = .type "tuple" ∧ o.dict = none ∧ o.data = .seq its n ∧ its.size ≤ sizeLine ∧ its.toList = us := by
  cases q : K.lookup a with
  | none => rw [q] at h; cases h
  | some o =>
    rw [q] at h
    obtain ⟨oc, od, dt, sl⟩ := o
    unfold tupO at h
    split at h
    · rename_i c its n sl' e
      cases e
      split at h
      · rename_i e2
        cases h
        obtain ⟨h1, h2⟩ := Bool.and_eq_true_iff.mp e2
        exact ⟨_, its, n, rfl, congrArg Value.type (of_decide_eq_true h1), rfl, rfl, lineOk_ok h2, rfl⟩
      · cases h
    · cases h
section
variable {C : Cfg}
def GoodC (C : Cfg) (d : D) (u : Value) : Prop := ∃ v, RelV v u ∧ KRep C d v
theorem repL_ok {f : D → Value → Bool} (ih : ∀ d u, f d u = true → GoodC C d u) : ∀ {ds : List D} {us : List Value}, repL f ds us = true → ∃ vs, Vals vs us ∧ ∀ M, RepL C M ds vs
  | [], [], _ => ⟨[], .nil, fun _ => .nil⟩
  | [], _ :: _, h => by cases h
  | _ :: _, [], h => by cases h
  | d :: ds, u :: us, h => by
    unfold repL at h
    split at h
    · rename_i e
      obtain ⟨v, r1, k1⟩ := ih d u e
      obtain ⟨vs, r2, k2⟩ := repL_ok ih h
      exact ⟨v :: vs, .cons r1 r2, fun M => .cons (k1 M) (k2 M)⟩
    · cases h
theorem repB_ok : ∀ (n : Nat) (d : D) (u : Value), repB C.K C.ga n d u = true → GoodC C d u
  | 0, _, _, h => by cases h
  | n + 1, d, u, h => by
    unfold repB at h
    split at h
    · exact ⟨.non, rfl, fun _ => .non⟩
    · rename_i b c
      rw [eqBl_eq] at h
      have := of_decide_eq_true h
      subst this
      exact ⟨.bl b, rfl, fun _ => .bl b⟩
    · rename_i i j t
      rw [eqB_eq] at h
      have := of_decide_eq_true h
      subst this
      exact ⟨.int i, ⟨t, rfl⟩, fun _ => .int i⟩
    · rename_i x y t
      have := (eqS_iff x y).mp h
      subst this
      exact ⟨.str x, ⟨t, rfl⟩, fun _ => .str x⟩
    · rename_i k a
      have e := Nat.eq_of_beq_eq_true h
      exact ⟨.ref a, rfl, fun M => e ▸ .glo k⟩
    · rename_i ds a
      split at h
      · rename_i us e
        obtain ⟨o, its, m, q, hc, hn, hd, hz, rfl⟩ := tupO_ok e
        obtain ⟨vs, r, k⟩ := repL_ok (repB_ok n) h
        exact ⟨.ref a, rfl, fun M => .ctp (.inr ⟨o, its, m, q, hc, hn, hd, hz, r⟩) (k M).1 (k M).2⟩
      · cases h
    · cases h
theorem ctp_ok {d : D} {a : Addr} (h : repB C.K C.ga 20 d (.ref a) = true) : KRep C d (.ref a) := by
  obtain ⟨v, r, k⟩ := repB_ok 20 d _ h
  cases v with
  | ref b => cases r; exact k
  | non => cases r
  | bl b => cases r
  | int i => obtain ⟨t, r⟩ := r; cases r
  | str x => obtain ⟨t, r⟩ := r; cases r
  | byt x => obtain ⟨t, r⟩ := r; cases r
  | flt x => obtain ⟨t, r⟩ := r; cases r
  | ty x => cases r
theorem kdcB_ok {a : Addr} : ∀ {kds : List (Str × D)}, kdcB C.K C.ga a kds = true → ∃ vs : List V, kds.length = vs.length ∧ (∀ (i : Nat) x d v, kds[i]? = some (x, d) → vs[i]? = some v → ∃ u, PySem.W.nsIn C.K a x = some (some u) ∧ RelV v u) ∧ ∀ M (i : Nat) x d v, kds[i]? = some (x, d) → vs[i]? = some v → Rep C M d v
  | [], _ => ⟨[], rfl, fun i x d v h _ => by simp at h, fun M i x d v h _ => by simp at h⟩
  | (x, d) :: r, h => by
    unfold kdcB at h
    split at h
    · rename_i u e
      split at h
      · rename_i e2
        obtain ⟨v, r1, k1⟩ := repB_ok 20 d u e2
        obtain ⟨vs, l, h1, h2⟩ := kdcB_ok h
        refine ⟨v :: vs, by simp [l], fun i y d' v' a b => ?_, fun M i y d' v' a b => ?_⟩
        · cases i with
          | zero => simp at a b; obtain ⟨rfl, rfl⟩ := a; subst b; exact ⟨u, e, r1⟩
          | succ i => exact h1 i y d' v' (by simpa using a) (by simpa using b)
        · cases i with
          | zero => simp at a b; obtain ⟨rfl, rfl⟩ := a; subst b; exact k1 M
          | succ i => exact h2 M i y d' v' (by simpa using a) (by simpa using b)
      · cases h
    · cases h
theorem keys_none {P : Params} {z : Str} : ∀ {l : List DictEntry} {ks : List Str}, l.map He.keyOf = He.keysIn P ks → z ∉ ks → l.find? (·.key.isStr z) = none ∧ l.any (·.refKey) = false
  | [], _, _, _ => ⟨rfl, rfl⟩
  | e :: r, [], h, _ => by cases h
  | e :: r, k :: ks, h, hz => by
    have h1 : He.keyOf e :: r.map He.keyOf = some (k, PyData.keyHash P k) :: He.keysIn P ks := h
    injection h1 with h2 h3
    obtain ⟨i1, i2⟩ := keys_none h3 fun q => hz (List.mem_cons_of_mem _ q)
    unfold He.keyOf at h2
    split at h2
    · rename_i x t q
      obtain ⟨rfl, _⟩ := Prod.mk.inj (Option.some.inj h2)
      have hne : x ≠ z := fun w => hz (w ▸ List.mem_cons_self)
      have self : e.key.isStr x = true := by rw [q]; simp [Value.isStr]
      have e1 : e.key.isStr z = false := isStr_other hne.symm e self
      have e2 : e.refKey = false := isStr_notRef e self
      exact ⟨by rw [List.find?_cons, e1]; exact i1, by rw [List.any_cons, e2, i2]; rfl⟩
    · cases h2
theorem kdc_ok {kds : List (Str × D)} {a : Addr} (h1 : He.dicW C.K a = some (He.keysIn C.w.params (kds.map (·.1)))) (h2 : kdcB C.K C.ga a kds = true) : KRep C (.kdc kds) (.ref a) := by
  obtain ⟨vs, l, k1, k2⟩ := kdcB_ok h2
  refine fun M => .kdc (He.dicW_ok h1) l k1 (fun z hz => ?_) (k2 M)
  have hz' : z ∉ kds.map (·.1) := fun q => by
    obtain ⟨p, hp, e⟩ := List.mem_map.mp q; exact hz p hp e
  unfold He.dicW at h1
  unfold PySem.W.nsIn
  cases q : C.K.lookup a with
  | none => rw [q] at h1; cases h1
  | some o =>
    obtain ⟨oc, od, dt, osl⟩ := o
    rw [q] at h1
    cases oc with
    | type c =>
      cases od with
      | none =>
        cases dt with
        | dict es n =>
          have h3 : (match decide (c = "dict") && (osl.isEmpty && !(a == sysModules)) with
            | true => some (es.toList.map He.keyOf)
            | false => none) = some (He.keysIn C.w.params (kds.map (·.1))) := h1
          split at h3
          · obtain ⟨i1, i2⟩ := keys_none (Option.some.inj h3) hz'
            show (match es.toList.find? (·.key.isStr z) with
              | some e => some (some e.val)
              | none => if es.toList.any (·.refKey) then none else some none) = some none
            rw [i1, i2]
            rfl
          · cases h3
        | _ => cases h1
      | some b => cases dt <;> cases h1
    | _ => cases od <;> cases dt <;> cases h1
end

/-! ### the Hook: what stands at a list of addresses -/
theorem obsAG_eq {as : List Addr} {fa : List He.Fa} {fn : List He.DefD} {ts : List He.Tab} {bs : PySem.W.Frag → Bool} {g : Addr → Option Obj} {s : Shared} (h : ∀ a, g a = s.heap.get? a) : obsAG as fa fn ts bs g = (hookA as fa fn ts bs).obs s := by
  have e : g = s.heap.get? := funext h; rw [e] <;> rfl
section
variable {fa : List He.Fa} {fn : List He.DefD} {ts : List He.Tab} {bs : PySem.W.Frag → Bool} {w : World} {K : PySem.W.Frag}
theorem SaysA.t (c : SaysA fa fn ts bs w K) : He.SaysT fa fn ts w K := congrArg (fun z : AlA => z.1) c
theorem SaysA.d (c : SaysA fa fn ts bs w K) : He.SaysD fa fn K := c.t.d
theorem SaysA.b (c : SaysA fa fn ts bs w K) : bs K = true := congrArg (fun z : AlA => z.2) c
theorem SaysA.tab (c : SaysA fa fn ts bs w K) (i : Nat) {t : He.Tab} (h : ts[i]? = some t := by rfl) : He.dicW K (t.1 K) = some (He.keysIn w.params t.2) := by
  have e : ts.map (fun t => He.dicW K (t.1 K)) = ts.map fun t => some (He.keysIn w.params t.2) := congrArg (fun z : He.AlT => z.2) c.t
  have e2 : (ts.map fun t => He.dicW K (t.1 K))[i]? = (ts.map fun t => some (He.keysIn w.params t.2))[i]? := by rw [e]
  rw [List.getElem?_map, List.getElem?_map, h] at e2; exact Option.some.inj e2
end
end Pd

/-! tuples known as objects: t + u, t.index(x) -/
namespace Pd
open L2 PySem PySem.Spec PyProof.Rows

def rCatP (K : PySem.W.Frag) : R2 := fun x y H Q => ∃ a b xs ys, x = .ref a ∧ y = .ref b ∧ SqT K H a xs ∧ SqT K H b ys ∧ xs ≠ [] ∧ ys ≠ [] ∧ xs.length + ys.length ≤ sizeLine ∧ ∀ q ob, H q = none → ob.dict = none → Q (.ref q) (upd H q (.frz ob (.tup (xs ++ ys))))
section
variable {X : Cx} {C : Cfg} {W : XK}
theorem op_catP : OpR X (binaryOp .Add) (rCatP X.K) := by
  intro pins s σ H x y v u Q I rx ry h; obtain ⟨a, b, xs, ys, rfl, rfl, ha, hb, hx, hy, hz, q⟩ := h
  cases rx
  cases ry
  obtain ⟨us, r1, p1, _⟩ := I.tuple ha
  obtain ⟨ws, r2, p2, _⟩ := I.tuple hb
  refine HT.cat_tup p1 p2 (fun z => hx (r1.nil_iff.mp z)) (fun z => absurd (r2.nil_iff.mp z) hy) (fun _ => ?_) (by rw [← r1.length, ← r2.length]; exact hz)
  have at_ : (s.heap.push { cls := .type "tuple", data := .seq (us ++ ws).toArray }).get? s.heap.objs.size = some { cls := .type "tuple", data := .seq (us ++ ws).toArray } := Heap.get?_push_size _ rfl
  exact ⟨.ref s.heap.objs.size, _, I.laid (t' := s.toks) (o := .frz { cls := .type "tuple", data := .seq (us ++ ws).toArray } (.tup (xs ++ ys))) (fun b ob q => Heap.get?_push_of_some _ q) (Nat.le_refl _)
    ⟨at_, by rw [List.length_append]; exact hz, _, r1.append r2, IsTup.new _ _⟩, rfl, q _ _ (I.hok.fresh (Nat.le_refl _)) rfl⟩
def fCatP : D → D → Sto → Res D := fun a b S => match tupV a, tupV b with
  | some (x :: xs), some (y :: ys) => guard (lineOk ((x :: xs).length + (y :: ys).length)) (.ok (.ctp (x :: xs ++ y :: ys)) S)
  | _, _ => .bad
theorem oCatP (hK : X.K = C.K) : OpD X C W (binaryOp .Add) fCatP := by
  refine ⟨_, op_catP, fun M S H a b x y Q s ra rb q => ?_⟩
  unfold fCatP at q
  split at q
  · rename_i d ds e es e1 e2
    obtain ⟨g, q⟩ := guard_ok q
    obtain ⟨l, vs, rfl, h1, r1⟩ := tup_of s ra e1
    obtain ⟨m, ws, rfl, h2, r2⟩ := tup_of s rb e2
    refine ⟨l, m, vs, ws, rfl, rfl, hK ▸ h1, hK ▸ h2, fun z => ?_, fun z => ?_, by rw [← r1.1, ← r2.1]; exact lineOk_ok g, fun p ob hp hd => ?_⟩
    · subst z; exact absurd r1.1 (by simp)
    · subst z; exact absurd r2.1 (by simp)
    · have lp : M.le (M.lay p (.frz ob (.tup (vs ++ ws)))) := Wd.lay_le (s.free hp)
      have rr := (r1.append r2).mono lp
      exact q _ _ _ lp (s.lay hp) (.ctp (.inl ⟨ob, upd_same, hd⟩) rr.1 rr.2)
  · exact q.elim
theorem Sim.tupP {M : Wd} {S : Sto} {H : Hp} (s : Sim C M S H) {a : Addr} {vs : List V} (h : SqP C.K M.fz a vs) : SqP C.K H a vs := by
  rcases h with ⟨ob, h, hd⟩ | h
  · rcases s.fr a _ h with q | ⟨q, _⟩
    · exact .inl ⟨ob, q, hd⟩
    · exact q.elim
  · exact .inr h
def tBMP (K : PySem.W.Frag) (r : V → List V → Hp → VK → Prop) (to : TE) (t : TA) : TE := fun σ H Q => to σ H fun x H1 => (∃ a vs, x = .ref a ∧ SqP K H1 a vs) ∧ t σ H1 fun xs H2 => r x xs H2 Q
theorem pe_bmP {id : String} {name : Str} {r : V → List V → Hp → VK → Prop} {o e : Expr} {es : List Expr} {to : TE} {t : TA} {apos cpos : Pos} (slot : Slot "tuple" name id) (hty : typeOf (.builtin id) = pure (.type "method_descriptor")) (hm : MtR X id r) (ho : PE X o to) (ha : PA X (e :: es) t) (hbase : attributeBase o name X.env (eval o X.env) = eval o X.env := by rfl)
    (hfew : ((backTo cpos (starEach (e :: es) X.env)).all (fun x => !x.1) && (backToKw cpos (keywordEach [] X.env)).all (fun x => x.1.isSome) && decide ((e :: es).length + ([] : List Keyword).length + (if ([] : List Keyword).isEmpty then 0 else 1) < 30)) = true := by rfl) (hline : (apos.endLine == cpos.line) = true := by rfl) (hs : starEach (e :: es) X.env = (false, eval e X.env) :: starEach es X.env := by rfl) (hplain : (backTo cpos (starEach es X.env)).any (·.1) = false := by rfl) :
    PE X (.Call (.Attribute o name apos) (e :: es) [] cpos) (tBMP X.K r to t) := by
  refine ⟨fun pins s σ H Q I h => ?_⟩; refine wpAny_Call_method_late hbase hfew hline rfl (thn (ho.run pins s σ H _ I h) fun v s1 ⟨x, H1, I1, r1, ty, q1⟩ => ?_)
  obtain ⟨a, vs, rfl, hq⟩ := ty
  obtain rfl : v = Value.ref a := r1; obtain ⟨its, rv, ⟨ob, hob, hcl, hdt⟩, _⟩ := I1.tuple hq.sq
  have hdn : ob.dict = none := by
    rcases hq with ⟨o2, h, hd⟩ | ⟨o2, _, _, h, _, hd, _⟩
    · have := (show ObjOk X.prog X.w H1 s1.heap a (.frz o2 (.tup vs)) from I1.hok a _ h).1
      rw [hob] at this; cases this; exact hd
    · have := I1.kIn a o2 h
      rw [hob] at this; cases this; exact hd
  refine ⟨"tuple", id, PySem.F.plainAttrs_tuple, slot, hty, ⟨ob, hob, hcl⟩, fun b e => ?_, ?_⟩
  · cases e; exact ⟨ob, hob, hdn⟩
  have hA := ha.run cpos pins s1 σ H1 _ I1 q1; rw [hs] at hA ⊢
  refine Calls.callWith_builtin (by show (false || (backTo cpos (starEach es X.env)).any (·.1)) = false; rw [hplain] <;> rfl) (Calls.evalArgs_plain ?_); exact thn hA fun us s2 ⟨vs, H2, I2, r2, q2⟩ => hm pins s2 σ H2 (.ref a) vs _ us Q I2 (show L2.RelV (.ref a) (.ref a) from rfl) r2 q2
def isP (d : D) : Bool := match d with
  | .ctp _ => true
  | _ => false
def dBMP (g : D → List D → Sto → Res D) (fo : DE) (fr : DA) : DE := fun Γ S => (fo Γ S).bind fun d S1 => guard (isP d) ((fr Γ S1).bind fun ds S2 => g d ds S2)
theorem xbmP {id : String} {name : Str} {g : D → List D → Sto → Res D} {o e : Expr} {es : List Expr} {fo : DE} {fr : DA} {apos cpos : Pos} (hK : X.K = C.K) (slot : Slot "tuple" name id) (hty : typeOf (.builtin id) = pure (.type "method_descriptor")) (hm : MtD X C W id g) (ho : PE X o (tE C W fo)) (ha : PA X (e :: es) (tA C W fr)) (hbase : attributeBase o name X.env (eval o X.env) = eval o X.env := by rfl)
    (hfew : ((backTo cpos (starEach (e :: es) X.env)).all (fun x => !x.1) && (backToKw cpos (keywordEach [] X.env)).all (fun x => x.1.isSome) && decide ((e :: es).length + ([] : List Keyword).length + (if ([] : List Keyword).isEmpty then 0 else 1) < 30)) = true := by rfl) (hline : (apos.endLine == cpos.line) = true := by rfl) (hs : starEach (e :: es) X.env = (false, eval e X.env) :: starEach es X.env := by rfl) (hplain : (backTo cpos (starEach es X.env)).any (·.1) = false := by rfl) :
    PE X (.Call (.Attribute o name apos) (e :: es) [] cpos) (tE C W (dBMP g fo fr)) := by
  obtain ⟨r, hr, k⟩ := hm
  exact (pe_bmP slot hty hr ho ha hbase hfew hline hs hplain).by fun σ H Q ⟨M, Γ, S, g, s, h⟩ => run1 g s h fun M1 d S1 x H1 l1 s1 r1 h1 => by
    obtain ⟨g1, h1⟩ := guard_ok h1
    refine ⟨?_, runA (g.mono l1) s1 h1 fun M2 ds S2 vs H2 l2 s2 r2 h2 => k M2 S2 H2 d ds x vs Q s2 (r1.mono l2) r2 h2⟩
    unfold isP at g1
    split at g1
    · cases r1 with
      | ctp h hl hr => exact ⟨_, _, rfl, hK ▸ s1.tupP h⟩
    · cases g1
def strsD : List D → Option (List Str)
  | [] => some []
  | .str x :: r => (match strsD r with
    | some l => some (x :: l)
    | none => none)
  | _ => none
def findS (z : Str) : List Str → Nat → Option Nat
  | [], _ => none
  | x :: r, j => (match eqS x z with
    | true => some j
    | false => findS z r (j + 1))
theorem findS_ok (z : Str) : ∀ (l : List Str) (i j : Nat), findS z l i = some j → ∃ k, j = i + k ∧ l[k]? = some z ∧ ∀ m, m < k → l[m]? ≠ some z
  | [], _, _, h => by cases h
  | x :: r, i, j, h => by
    unfold findS at h
    split at h
    · rename_i e
      cases h
      exact ⟨0, rfl, by rw [(eqS_iff x z).mp e]; rfl, fun m hm => absurd hm (Nat.not_lt_zero m)⟩
    · rename_i e
      obtain ⟨k, h1, h2, h3⟩ := findS_ok z r (i + 1) j h
      refine ⟨k + 1, by omega, h2, fun m hm q => ?_⟩
      cases m with
      | zero =>
        have q : some x = some z := q
        cases q
        rw [(eqS_iff _ _).mpr rfl] at e; cases e
      | succ m => exact h3 m (by omega) q
theorem strsD_of {M : Wd} : ∀ {ds : List D} {vs : List V} {ns : List Str}, RepL C M ds vs → strsD ds = some ns → vs = ns.map V.str
  | [], _, _, r, h => by cases h; exact r.nil_inv
  | d :: ds, _, ns, r, h => by
    obtain ⟨v, us, rfl, h1, h2⟩ := r.cons_inv
    unfold strsD at h
    split at h
    · rename_i e; cases e
    · rename_i b r' e
      cases e
      split at h
      · rename_i ms e2
        cases h
        cases h1
        rw [strsD_of h2 e2]; rfl
      · cases h
    · cases h
def gIndexP : D → List D → Sto → Res D := fun d ds S => match tupV d, ds with
  | some xs, [.str z] => (match strsD xs with
    | some ns => (match findS z ns 0 with
      | some j => .ok (.int j) S
      | none => .bad)
    | none => .bad)
  | _, _ => .bad
theorem mIndexP (hK : X.K = C.K) : MtD X C W "tuple.index" gIndexP := by
  refine ⟨_, mt_tup_index, fun M S H d ds x vs Q s r rl q => ?_⟩
  unfold gIndexP at q
  split at q
  · rename_i xs z e
    split at q
    · rename_i ns e2
      split at q
      · rename_i j ej
        obtain ⟨a, us, rfl, h1, rx⟩ := tup_of s r e
        obtain ⟨v, ws, rfl, ry, rn⟩ := rl.cons_inv
        rw [rn.nil_inv]
        cases ry
        obtain ⟨k, e1, h3, h4⟩ := findS_ok z ns 0 j ej
        obtain rfl : j = k := by omega
        have := strsD_of rx e2
        subst this
        exact ⟨a, ns, z, j, rfl, rfl, hK ▸ h1, h3, h4, q.ok s (.int _)⟩
      · exact q.elim
    · exact q.elim
  · exact q.elim
end
end Pd

/-! a law as a whole -/
namespace Pd
open L2 PySem PySem.Spec PyProof.Rows

section
variable {P : Program} {w : World} {K : PySem.W.Frag} {mg : Str → Option Value} {base : Heap} {C : Cfg} {x qual : Str} {params : Arguments} {body : List Stmt} {scope : Scope} {f : Addr} {fd : FuncData}
theorem okfn {N ps : List Str} {k : Nat} {fb : DS} (F : FunD K x qual params body scope [] [] f fd) (S : FnScope N ps scope) (hle : Nat.ble ps.length N.length = true)
    (hbody : ∀ (cdv : Value) (A : Around) (outer : List Env) (s : Shared) (H : Hp) (E : XK), Room k (A.deeper (envOfC qual scope s.heap.objs.size f cdv)) → PSs (cxOf CX0 P w K mg base N qual scope f cdv A outer s H E) body (tS C E fb)) :
    FnOk P w K mg base CX0 (k + 1) f fd ps (spD C ps.length (dFun N.length fb)) := by
  refine F.ok S (fun vs H Q E h => ?_) (fun cdv A outer s H vs Q E hr h => ⟨tS C E fb, hbody cdv A outer s H E hr, ?_⟩)
  · obtain ⟨M, S0, ds, hl, _, r, _⟩ := h
    rw [← r.1, hl]
  · obtain ⟨M, S0, ds, hl, sm, r, g⟩ := h
    refine ⟨M, startG N.length ds, S0, startG_rep (by rw [hl]; exact len_ok hle) r, sm, ?_⟩
    have g : GoodE C M (endD (fb (startG N.length ds) S0)) Q E := g
    cases e : fb (startG N.length ds) S0 with
    | nx Γ S' => rw [e] at g; exact fun M' σ' H' l _ s => g M' .non H' l s .non
    | rt d S' => rw [e] at g; exact g
    | bk Γ S' => rw [e] at g; exact g.elim
    | ct Γ S' => rw [e] at g; exact g.elim
    | exc c fs S' => rw [e] at g; exact fun M' σ' c' d H' l s r => g M' c' d H' l s r
    | bad => rw [e] at g; exact g.elim
end
def S0 : Sto := ⟨0, []⟩
def isT : Res D → Bool
  | .ok (.bl true) _ => true
  | _ => false
theorem isT_ok {r : Res D} (h : isT r = true) : ∃ S, r = .ok (.bl true) S := by
  unfold isT at h
  split at h
  · exact ⟨_, rfl⟩
  · cases h
/-- a law that gives True whatever the script is -/
theorem sp_of {C : Cfg} {f : List D → Sto → Res D} {H : Hp} {a : Addr} {ns : List Int} (hs : SqL C.K H a (ns.map V.int)) (h : ∀ d, isT (f [d] S0) = true) : spD C 1 f [.ref a] H (fun v _ => v = .bl true) fun _ _ _ => False := by
  have rl : RepL C ⟨H, fun _ => none, fun _ => none⟩ (ns.map D.int) (ns.map V.int) := by
    induction ns with
    | nil => exact .nil
    | cons n ns ih =>
      clear hs ih
      induction (n :: ns) with
      | nil => exact .nil
      | cons i r ih => exact .cons (.int i) ih
  refine ⟨⟨H, fun _ => none, fun _ => none⟩, S0, [.frl (ns.map D.int)], rfl, ⟨fun b o e => .inl e, fun n m e => (nomatch e), fun n n' b e => (nomatch e), fun n b e => (nomatch e), fun b od u e => (nomatch e)⟩, .cons (.frl hs rl.1 rl.2) .nil, ?_⟩
  obtain ⟨S', e⟩ := isT_ok (h (.frl (ns.map D.int)))
  rw [e]
  intro M' v H' _ _ r
  cases r
  rfl
end Pd

/-! texts: split, join, find, str(int); sorted(list of ints) -/
namespace Pd
open L2 PySem PySem.Spec PyProof.Rows

def strsL : List Str → List D
  | [] => []
  | x :: r => .str x :: strsL r
section
variable {X : Cx} {C : Cfg} {W : XK}
theorem strsL_of {M : Wd} : ∀ ns : List Str, RepL C M (strsL ns) (ns.map V.str)
  | [] => .nil
  | x :: r => .cons (.str x) (strsL_of r)
def gSplit : D → List D → Sto → Res D := fun d ds S => match d, ds with
  | .str a, [.str b] => (match b.length == 0 with
    | true => .bad
    | false => guard (lineOk (a.length + 2)) (.ok (.ref S.nx) (S.new (.lst (strsL (Txt.split a b))))))
  | _, _ => .bad
theorem mSplit : MtD X C W "str.split" gSplit := by
  refine ⟨_, mt_split, fun M S H d ds x vs Q s r rl q => ?_⟩
  unfold gSplit at q
  split at q
  · rename_i a b
    split at q
    · exact q.elim
    · rename_i e
      obtain ⟨g, q⟩ := guard_ok q
      cases r
      obtain ⟨v, ws, rfl, ry, rn⟩ := rl.cons_inv
      rw [rn.nil_inv]
      cases ry
      exact ⟨a, b, rfl, rfl, e, lineOk_ok g, fun p hp => newSto q s ⟨_, rfl, strsL_of _⟩ hp⟩
  · exact q.elim
def sumLen : List Str → Nat
  | [] => 0
  | x :: r => x.length + sumLen r
theorem sumLen_eq : ∀ l : List Str, sumLen l = (l.map (·.length)).sum
  | [] => rfl
  | x :: r => by
    show x.length + sumLen r = _
    rw [sumLen_eq r]; simp
def gJoin : D → List D → Sto → Res D := fun d ds S => match d, ds with
  | .str a, [e] => (match seqV S e with
    | some xs => (match strsD xs with
      | some ns => guard (Nat.ble (sumLen ns + ns.length * a.length) 16777216) (.ok (.str (Txt.join a ns)) S)
      | none => .bad)
    | none => .bad)
  | _, _ => .bad
theorem mJoin (hK : X.K = C.K) : MtD X C W "str.join" gJoin := by
  refine ⟨_, mt_join, fun M S H d ds x vs Q s r rl q => ?_⟩
  unfold gJoin at q
  split at q
  · rename_i a e
    split at q
    · rename_i xs e1
      split at q
      · rename_i ns e2
        obtain ⟨g, q⟩ := guard_ok q
        cases r
        obtain ⟨v, ws, rfl, ry, rn⟩ := rl.cons_inv
        rw [rn.nil_inv]
        obtain ⟨p, us, rfl, h1, rx⟩ := seq_of s ry e1
        have := strsD_of rx e2
        subst this
        exact ⟨a, p, ns, rfl, rfl, hK ▸ h1, by rw [← sumLen_eq]; exact Nat.le_of_ble_eq_true g, q.ok s (.str _)⟩
      · exact q.elim
    · exact q.elim
  · exact q.elim
def gFind : D → List D → Sto → Res D := fun d ds S => match d, ds with
  | .str a, [.str b] => .ok (.int (Txt.find a b)) S
  | _, _ => .bad
theorem mFind : MtD X C W "str.find" gFind := by
  refine ⟨_, mt_find, fun M S H d ds x vs Q s r rl q => ?_⟩
  unfold gFind at q
  split at q
  · rename_i a b
    cases r
    obtain ⟨v, ws, rfl, ry, rn⟩ := rl.cons_inv
    rw [rn.nil_inv]
    cases ry
    exact ⟨a, b, rfl, rfl, q.ok s (.int _)⟩
  · exact q.elim
def gStr : List D → Sto → Res D := fun ds S => match ds with
  | [.int i] => guard (Nat.blt i.natAbs 1000000000000) (.ok (.str (toString i)) S)
  | _ => .bad
theorem cStrI : CaD X C W (.type "str") gStr := by
  refine ⟨_, call_str_int, fun M S H ds vs Q s r q => ?_⟩
  unfold gStr at q
  split at q
  · rename_i i
    obtain ⟨g, q⟩ := guard_ok q
    obtain ⟨v, rfl, rd⟩ := one_of r
    cases rd
    have h1 : i.natAbs < 1000000000000 := Nat.le_of_ble_eq_true g
    refine ⟨i, rfl, ?_, q.ok s (.str _)⟩
    by_cases z : i.natAbs = 0
    · rw [z]; decide
    · exact Nat.lt_of_lt_of_le ((Nat.log2_lt z).mpr (show i.natAbs < 2 ^ 40 by omega)) (by decide)
  · exact q.elim
/-- put behind those that are not greater -/
def insS (k : Int) : List Int → List Int
  | [] => [k]
  | x :: r => (match ltB k x with
    | true => k :: x :: r
    | false => x :: insS k r)
def sortS : List Int → List Int
  | [] => []
  | k :: r => insS k (sortS r)
theorem insS_perm (k : Int) : ∀ l : List Int, (insS k l).Perm (k :: l)
  | [] => .refl _
  | x :: r => by
    unfold insS
    cases ltB k x with
    | true => exact .refl _
    | false => exact ((insS_perm k r).cons x).trans (List.Perm.swap k x r)
theorem sortS_perm : ∀ l : List Int, (sortS l).Perm l
  | [] => .refl _
  | k :: r => (insS_perm k (sortS r)).trans ((sortS_perm r).cons k)
theorem insS_asc (k : Int) : ∀ (l : List Int), l.Pairwise (· ≤ ·) → (insS k l).Pairwise (· ≤ ·)
  | [], _ => by simp [insS]
  | x :: r, h => by
    obtain ⟨h1, h2⟩ := (List.pairwise_cons.mp h)
    unfold insS
    rw [ltB_eq]
    by_cases h3 : k < x
    · simp only [h3, decide_true]
      refine List.pairwise_cons.mpr ⟨fun y hy => ?_, h⟩
      rcases (List.mem_cons.mp hy) with rfl | hy
      · omega
      · have := h1 y hy; omega
    · simp only [h3, decide_false]
      refine List.pairwise_cons.mpr ⟨fun y hy => ?_, insS_asc k r h2⟩
      rcases List.mem_cons.mp ((insS_perm k r).mem_iff.mp hy) with rfl | hy
      · omega
      · exact h1 y hy
theorem sortS_asc : ∀ (l : List Int), (sortS l).Pairwise (· ≤ ·)
  | [] => .nil
  | k :: r => insS_asc k _ (sortS_asc r)
def gSorted : List D → Sto → Res D := fun ds S => match ds with
  | [d] => (match lstV S d with
    | some xs => (match intsD xs with
      | some ns => (match Nat.blt ns.length 64 with
        | true => .ok (.ref S.nx) (S.new (.lst (tupI (sortS ns))))
        | false => .bad)
      | none => .bad)
    | none => .bad)
  | _ => .bad
theorem cSorted (hK : X.K = C.K) : CaD X C W (.builtin "sorted") gSorted := by
  refine ⟨_, cr_sorted, fun M S H ds vs Q s r q => ?_⟩
  unfold gSorted at q
  split at q
  · rename_i d
    split at q
    · rename_i xs e1
      split at q
      · rename_i ns e2
        split at q
        · rename_i e3
          obtain ⟨v, rfl, rd⟩ := one_of r
          obtain ⟨a, us, rfl, ha, rl⟩ := lst_of s rd e1
          have := intsD_of rl e2
          subst this
          refine ⟨a, ns, rfl, hK ▸ ha, Nat.le_of_ble_eq_true e3, fun ms p h1 h2 hp => ?_⟩
          have e4 : ms = sortS ns := (h1.trans (sortS_perm ns).symm).eq_of_pairwise (le := fun a b => a ≤ b) (fun a b _ _ h1 h2 => Int.le_antisymm h1 h2) h2 (sortS_asc ns)
          subst e4
          exact newSto q s ⟨_, rfl, tupI_of _⟩ hp
        · exact q.elim
      · exact q.elim
    · exact q.elim
  · exact q.elim
/-- o.f += e, of ints -/
def sAugA (c j : Nat) (fo fv : DE) : DS := fun Γ S => (fo Γ S).then fun o S1 => match insV S1 o with
  | some (c', fs) => (match Nat.beq c' c with
    | true => (match lookF fs j with
      | some (.int i) => (fv Γ S1).then fun v S2 => (match v with
        | .int k => (match fSetA c j o (.int (i + k)) S2 with
          | some S3 => .nx Γ S3
          | none => .bad)
        | _ => .bad)
      | _ => .bad)
    | false => .bad)
  | none => .bad
theorem yaugA {c j : Nat} {o e : Expr} {m : Str} {fv fo : DE} {pos tpos : Pos} (hK : X.K = C.K) (nd : C.an.Nodup) (hj : C.an[j]? = some m) (cl : Cls X.K (C.ga c)) (na : NoAttr X.K (C.ga c) m) (ho : PE X o (tE C W fo)) (he : PE X e (tE C W fv)) :
    PS X (.AugAssign (.Attribute o m tpos) .Add e pos) (tS C W (sAugA c j fo fv)) :=
  (ps_fldaug ho he in_add).by fun D σ H ⟨M, Γ, S, g, s, h⟩ => run1S g s h fun M1 o S1 x H1 l1 s1 r1 h1 => by
    split at h1
    · rename_i c' fs e1
      split at h1
      · rename_i ec
        have := Nat.eq_of_beq_eq_true ec
        subst this
        split at h1
        · rename_i i ev
          obtain ⟨a, dx, fv', rfl, ha, rf⟩ := ins_of s1 r1 e1
          obtain ⟨u, hu, ru⟩ := lookF_of nd hj rf ev
          cases ru
          refine ⟨a, C.ga c', dx, fv', .int i, rfl, ha, cl, na, hu, run1S (g.mono l1) s1 h1 fun M2 v S2 y H2 l2 s2 r2 h2 => ?_⟩
          split at h2
          · rename_i k
            cases r2
            refine ⟨i, k, rfl, rfl, ?_⟩
            split at h2
            · rename_i S3 e3
              unfold fSetA onS at e3
              split at e3
              · rename_i n
                have r1' := r1.mono l2
                cases r1'
                rename_i hm
                split at e3
                · rename_i mo em
                  obtain ⟨b, w, q1, q2, q3, q4⟩ := s2.al n mo em
                  rw [hm] at q1; cases q1
                  dsimp only at e3
                  split at e3
                  · rename_i c2 fs2
                    obtain ⟨dx2, fv2, rfl, rf2⟩ := q4
                    split at e3
                    · rename_i ec2
                      have := Nat.eq_of_beq_eq_true ec2
                      subst this
                      unfold ifS at e3
                      split at e3
                      · rename_i gl
                        cases e3
                        have hl : fs2.length < 100 := Nat.le_of_ble_eq_true gl
                        rw [rf2.length] at hl
                        refine ⟨dx2, fv2, q2, by omega, ?_⟩
                        exact h2.nxt (g.mono (l1.trans l2)) (s2.write em hm ⟨dx2, _, rfl, putA_of nd hj (.int _) rf2⟩)
                      · cases e3
                    · cases e3
                  · cases e3
                · cases e3
              · cases e3
            · exact h2.elim
          · exact h2.elim
        · exact h1.elim
      · exact h1.elim
    · exact h1.elim
end
end Pd

/-! list(zip(text, tuple)) -/
namespace Pd
open L2 PySem PySem.Spec PyProof.Rows

/-- a zip object whose tuple is handed out -/
abbrev ZipS (h : Heap) (z TI TO T : Addr) (b : Bool) : Prop :=
  h.get? z = some { cls := .type "zip", dict := none, data := .fields #[rawInt T, .bool b, .bool false, .ref TI, .ref TO], slots := #[] }
section
variable {prog : Program} {w : World} {s : Shared} {A : Around} {E : Value → Shared → Prop} {z TI TO i1 i2 T : Addr} {fp1 fp2 : List Addr} {n1 n2 i : Nat} {P1 P2 : Nat → Value → Prop} {St1 St2 : Nat → Heap → Prop} {b : Bool}
theorem zip_busy {Q : Bool → Shared → Prop} (hz : ZipS s.heap z TI TO T b) (hal : ∃ o, s.heap.get? T = some o) (hQ : ∀ h', ZipS h' z TI TO T true → Heap.SameBut z s.heap h' → Q false { s with heap := h' }) :
    wpAny (model prog w) A (Builtin.SmallTypes.ownedTupleIsFree (.ref z)) Q E s := by
  obtain ⟨hp, g, d, tk0, os⟩ := s; obtain ⟨oT, hoT⟩ := hal
  (unfold Builtin.SmallTypes.ownedTupleIsFree)
  refine wpAny_bind (wpAny_field hz rfl (x := rawInt T) rfl ?_); show wpAny _ _ (loadIfAlive (T : Int).toNat >>= _) _ _ _
  refine wpAny_bind (at_alive ?_)
  have e1 : hp.get? (T : Int).toNat = some oT := by
    rw [Int.toNat_natCast]; exact hoT
  show wpAny _ _ (if (hp.get? (T : Int).toNat).isNone = true then _ else _) _ _ _
  rw [e1, if_neg (show ¬ ((some oT).isNone = true) from Bool.false_ne_true)]
  refine wpAny_bind (wpAny_field hz rfl (x := .bool b) rfl ?_)
  cases b with
  | true =>
    refine wpAny_ite_split (fun hab => absurd hab (by decide)) fun _ => wpAny_pure ?_
    exact hQ hp hz ⟨rfl, fun _ _ => rfl⟩
  | false =>
    refine wpAny_ite_split (fun _ => ?_) fun hab => absurd (by decide) hab
    refine wpAny_bind (wpAny_setField_rec hz (by simp) fun h5 he5 hs5 => ?_)
    exact wpAny_pure (hQ h5 he5 hs5)
theorem zip_again {Q : Value → Shared → Prop} (S : ZipSep2 z TI TO i1 i2 fp1 fp2) (D1 : Draws prog w A i1 fp1 n1 P1 St1) (D2 : Draws prog w A i2 fp2 n2 P2 St2)
    (hz : ZipS s.heap z TI TO T b) (hal : ∃ o, s.heap.get? T = some o) (hTI : IsTupOf2 s.heap TI (.ref i1) (.ref i2)) (hTz : TI ≠ z) (st1 : St1 i s.heap) (st2 : St2 i s.heap) (hlt1 : i < n1) (hlt2 : i < n2)
    (hQ : ∀ x1 x2 h' tk, P1 i x1 → P2 i x2 → ZipS h' z TI TO T true → St1 (i + 1) h' → St2 (i + 1) h' → IsTupOf2 h' s.heap.objs.size x1 x2 →
      (∀ c o, c ≠ z → c ≠ i1 → c ≠ i2 → s.heap.get? c = some o → h'.get? c = some o) → Q (.ref s.heap.objs.size) { s with heap := h', toks := tk }) : wpAny (model prog w) A (Builtin.«zip.__next__» ⟨[.ref z], []⟩) (fun fin s' => ∃ v, fin = .done (.ret v) ∧ Q v s') E s := by
  obtain ⟨hp, g, d, tk0, os⟩ := s; show wpAny _ _ (field (.ref z) 2 >>= _) _ _ _
  refine wpAny_bind (wpAny_field hz rfl (x := .bool false) rfl ?_); show wpAny _ _ (field (.ref z) 3 >>= _) _ _ _
  refine wpAny_bind (wpAny_field hz rfl (x := .ref TI) rfl ?_); refine wpAny_bind (wpAny_seqItems hTI rfl ?_)
  show wpAny _ _ (Builtin.SmallTypes.ownedTupleIsFree (.ref z) >>= _) _ _ _; refine wpAny_bind (zip_busy hz hal fun h1 hz1 hs1 => ?_)
  replace hs1 : Heap.SameBut z hp h1 := hs1
  have hTI1 : IsTupOf2 h1 TI (.ref i1) (.ref i2) := hs1.extBut _ _ hTz hTI
  simp only [Bool.false_eq_true, if_false, List.forIn_toArray, List.forIn_cons, List.forIn_nil]
  refine wpAny_bind (wpAny_bind (wpAny_bind (wpAny_holding ?_)))
  show wpAny _ _ (Builtin.SmallTypes.nextOf (.ref i1) >>= _) _ _ ⟨h1, g, d, tk0, os⟩
  refine wpAny_bind (D1.item i _ _ _ hlt1 (D1.over st1 hs1 S.zf1) fun x1 p1 tk1 hx1 sn1 hp1 => wpAny_pure ?_)
  replace hp1 : Heap.SameBut i1 h1 p1 := hp1
  refine wpAny_pure ?_
  refine wpAny_bind (wpAny_bind (wpAny_holding ?_)); show wpAny _ _ (Builtin.SmallTypes.nextOf (.ref i2) >>= _) _ _ ⟨p1, g, d, tk1, os⟩
  refine wpAny_bind (D2.item i _ _ _ hlt2 (D2.over (D2.over st2 hs1 S.zf2) hp1 S.sep1_2) fun x2 p2 tk2 hx2 sn2 hp2 => wpAny_pure ?_)
  replace hp2 : Heap.SameBut i2 p1 p2 := hp2
  refine wpAny_pure ?_
  refine wpAny_pure ?_
  refine wpAny_bind (wpAny_newTuple ?_ (by show 2 ≤ sizeLine; decide)); have hsz : p2.objs.size = hp.objs.size := by rw [hp2.1, hp1.1, hs1.1]
  have k2 : ∀ c o, c ≠ z → c ≠ i1 → c ≠ i2 → hp.get? c = some o → p2.get? c = some o := fun c o z0 z1 z2 q => hp2.extBut c o z2 (hp1.extBut c o z1 (hs1.extBut c o z0 q))
  generalize hh4 : p2.push { cls := .type "tuple", data := .seq #[x1, x2] } = h4
  have k4 : ∀ a o, p2.get? a = some o → h4.get? a = some o := fun a o q => by rw [← hh4]; exact Heap.get?_push_of_some _ q
  have hnew : h4.get? hp.objs.size = some { cls := .type "tuple", data := .seq #[x1, x2] } := by rw [← hh4, ← hsz]; exact Heap.get?_push_size _ rfl
  refine wpAny_pure ⟨_, rfl, ?_⟩; show Q (.ref p2.objs.size) ⟨p2.push { cls := .type "tuple", data := .seq #[x1, x2] }, g, d, tk2, os⟩
  rw [hsz, hh4]
  exact hQ x1 x2 h4 tk2 hx1 hx2 (k4 _ _ (hp2.extBut _ _ S.zi2 (hp1.extBut _ _ S.zi1 hz1))) (D1.frame _ _ _ (D1.over sn1 hp2 S.sep2_1) fun a _ o q => k4 a o q) (D2.frame _ _ _ sn2 fun a _ o q => k4 a o q) hnew fun c o z0 z1 z2 q => k4 c o (k2 c o z0 z1 z2 q)

/-- a zip object that can be asked -/
def ZAny (h : Heap) (z TI TO i1 i2 : Addr) : Prop := IsTupOf2 h TI (.ref i1) (.ref i2) ∧ ((IsZip h z TI TO .none ∧ ∃ a1 a2, IsTupOf2 h TO a1 a2) ∨ ∃ T b, ZipS h z TI TO T b ∧ (∃ o, h.get? T = some o) ∧ T ≠ z ∧ T ≠ i1 ∧ T ≠ i2 ∧ T ≠ TO)
theorem ZAny.typeIs (x : ZAny s.heap z TI TO i1 i2) : s.TypeIs (.ref z) "zip" := by
  obtain ⟨_, ⟨h, _⟩ | ⟨_, _, h, _⟩⟩ := x
  · exact ⟨_, h, rfl⟩
  · exact ⟨_, h, rfl⟩
theorem ZAny.lt {h : Heap} (x : ZAny h z TI TO i1 i2) : z < h.objs.size := by
  obtain ⟨_, ⟨h, _⟩ | ⟨_, _, h, _⟩⟩ := x
  · exact Heap.lt_size h
  · exact Heap.lt_size h
theorem ZAny.keep {h h' : Heap} (x : ZAny h z TI TO i1 i2) {S : Addr} (hz : S ≠ z) (hI : S ≠ TI) (hO : S ≠ TO) (hk : ∀ a o, a ≠ S → h.get? a = some o → h'.get? a = some o) (hs : ∀ o, h.get? S = some o → ∃ o', h'.get? S = some o') : ZAny h' z TI TO i1 i2 := by
  obtain ⟨t, ⟨h, a1, a2, h2⟩ | ⟨T, b, h, ⟨o, ho⟩, q⟩⟩ := x
  · exact ⟨hk _ _ hI.symm t, .inl ⟨hk _ _ hz.symm h, a1, a2, hk _ _ hO.symm h2⟩⟩
  · refine ⟨hk _ _ hI.symm t, .inr ⟨T, b, hk _ _ hz.symm h, ?_, q⟩⟩
    by_cases z : T = S
    · subst z; exact hs o ho
    · exact ⟨o, hk _ _ z ho⟩
theorem zip_next {Q : Option Value → Shared → Prop} (S : ZipSep2 z TI TO i1 i2 fp1 fp2) (D1 : Draws prog w A.in1 i1 fp1 n1 P1 St1) (D2 : Draws prog w A.in1 i2 fp2 n2 P2 St2)
    (hz : ZAny s.heap z TI TO i1 i2) (hTz : TI ≠ z) (st1 : St1 i s.heap) (st2 : St2 i s.heap) (hlt1 : i < n1) (hlt2 : i < n2)
    (hTO : TO < s.heap.objs.size)
    (hQ : ∀ x1 x2 h' tk, P1 i x1 → P2 i x2 → ZAny h' z TI TO i1 i2 → St1 (i + 1) h' → St2 (i + 1) h' → IsTupOf2 h' s.heap.objs.size x1 x2 →
      (∀ c o, c ≠ z → c ≠ TO → c ≠ i1 → c ≠ i2 → s.heap.get? c = some o → h'.get? c = some o) → Q (some (.ref s.heap.objs.size)) { s with heap := h', toks := tk }) : wpAny (model prog w) A (pyNext (.ref z)) Q E s := by
  have hzl := hz.lt
  have hil1 : i1 < s.heap.objs.size := by obtain ⟨_, q⟩ := D1.live _ _ st1; exact Heap.lt_size q
  have hil2 : i2 < s.heap.objs.size := by obtain ⟨_, q⟩ := D2.live _ _ st2; exact Heap.lt_size q
  rcases id hz with ⟨hTI, ⟨h0, a1, a2, hO⟩ | ⟨T, b, h0, hal, z1, z2, z3, z4⟩⟩
  · exact wpAny_pyNext_zipD2_item S D1 D2 h0 hTI hO st1 st2 hlt1 hlt2 fun x1 x2 h' tk p1 p2 hz' hO' s1 s2 hT hsz hk =>
      hQ x1 x2 h' tk p1 p2 ⟨hk _ _ hTz S.TITO S.TIi1 S.TIi2 hTI, .inr ⟨_, false, hz', ⟨_, hT⟩, Nat.ne_of_gt hzl, Nat.ne_of_gt hil1, Nat.ne_of_gt hil2, Nat.ne_of_gt hTO⟩⟩ s1 s2 hT hk
  · unfold pyNext
    exact wpAny_bind (wpAny_attempt (wpAny_callSpecial?_slot (name := Str.ofString "__next__") hz.typeIs F.slot_zip_next (wpAny_call_entry F.slot_zip_next hz.typeIs F.entry_zip_next
      (zip_again S D1 D2 h0 hal hTI hTz st1 st2 hlt1 hlt2 fun x1 x2 h' tk p1 p2 hz' s1 s2 hT hk => wpAny_pure (hQ x1 x2 h' tk p1 p2 ⟨hk _ _ hTz S.TIi1 S.TIi2 hTI, .inr ⟨T, true, hz', let ⟨o, q⟩ := hal; ⟨o, hk _ _ z1 z2 z3 q⟩, z1, z2, z3, z4⟩⟩ s1 s2 hT fun c o c0 _ c1 c2 q => hk c o c0 c1 c2 q)) (F.args_zip_next_1 _))))
theorem zip_stop {Q : Option Value → Shared → Prop} (S : ZipSep2 z TI TO i1 i2 fp1 fp2) (D1 : Draws prog w A.in1 i1 fp1 n1 P1 St1) (D2 : Draws prog w A.in1 i2 fp2 n1 P2 St2)
    (hz : ZAny s.heap z TI TO i1 i2) (st1 : St1 n1 s.heap) (st2 : St2 n1 s.heap) (hQ : ∀ h' tk, (∀ c o, c ≠ z → c ≠ TO → c ≠ i1 → c ≠ i2 → s.heap.get? c = some o → h'.get? c = some o) → Q none { s with heap := h', toks := tk }) : wpAny (model prog w) A (pyNext (.ref z)) Q E s := by
  rcases id hz with ⟨hTI, ⟨h0, a1, a2, hO⟩ | ⟨T, b, h0, hal, z1, z2, z3, z4⟩⟩
  · exact wpAny_pyNext_zipD2_end S D1 D2 h0 hTI hO st1 st2 (Nat.le_refl _) (Nat.le_refl _) (.inl rfl) hQ
  · unfold pyNext
    refine wpAny_bind (wpAny_attempt (wpAny_callSpecial?_slot (name := Str.ofString "__next__") hz.typeIs F.slot_zip_next (wpAny_call_entry F.slot_zip_next hz.typeIs F.entry_zip_next ?_ (F.args_zip_next_1 _))))
    obtain ⟨hp, g, d, tk0, os⟩ := s; show wpAny _ _ (field (.ref z) 2 >>= _) _ _ _
    refine wpAny_bind (wpAny_field h0 rfl (x := .bool false) rfl ?_)
    show wpAny _ _ (field (.ref z) 3 >>= _) _ _ _; refine wpAny_bind (wpAny_field h0 rfl (x := .ref TI) rfl ?_)
    refine wpAny_bind (wpAny_seqItems hTI rfl ?_); show wpAny _ _ (Builtin.SmallTypes.ownedTupleIsFree (.ref z) >>= _) _ _ _
    refine wpAny_bind (zip_busy h0 hal fun h1 hz1 hs1 => ?_)
    replace hs1 : Heap.SameBut z hp h1 := hs1
    simp only [Bool.false_eq_true, if_false, List.forIn_toArray, List.forIn_cons, List.forIn_nil]
    refine wpAny_bind (wpAny_bind (wpAny_bind (wpAny_holding ?_)))
    show wpAny _ _ (Builtin.SmallTypes.nextOf (.ref i1) >>= _) _ _ ⟨h1, g, d, tk0, os⟩
    refine wpAny_bind (D1.done _ _ _ (D1.over st1 hs1 S.zf1) fun q e hq he => ?_)
    replace hq : Heap.ExtBut i1 h1 q := hq
    obtain ⟨o, ho, hc⟩ := he
    refine wpAny_bind (wpAny_isInstance (T := "StopIteration") (b := true) ⟨o, ho, hc⟩ isSubtype_stop ?_); exact wpAny_pure (hQ _ _ fun c o c0 _ c1 _ r => hq _ _ c1 (hs1.extBut _ _ c0 r))
end
section
variable {X : Cx} {pins : List (Addr × Obj)} {σ : L2.St} {A : Around}
theorem zip_loop {z TI TO i1 i2 a S : Addr} {x : Str} {t : Tok} {xs : List V} {its : List Value} {Pv : Nat → Hp → List V → Prop} {R : Result → Shared → Prop} {res : Value}
    (hA : A.handled = none) (rv : Vals xs its) (hzl : xs.length ≤ sizeLine) (hnx : x.cps.size = its.toArray.size) (Z : ZipSep2 z TI TO i1 i2 [i1] [i2, a]) (hSz : S ≠ z) (hSI : S ≠ TI) (hSO : S ≠ TO) (hS1 : S ≠ i1) (hS2 : S ≠ i2) (hSa : S ≠ a) (hTz : TI ≠ z) (ha2 : a ≠ i2) (haz : a ≠ z) (haO : a ≠ TO) (ha1 : a ≠ i1)
    (step : ∀ (i : Nat) H vs c y T, Pv i H vs → x.cps[i]? = some c → xs[i]? = some y → H T = none → Pv (i + 1) (upd H T (.tup [.str ⟨#[c]⟩, y])) (vs ++ [.ref T]))
    (fin : ∀ H vs s, L2.Inv X pins σ (upd H S (.lst vs)) s → H S = none → Pv its.toArray.size H vs → R (.ok (.ret res)) s) :
    ∀ (k i : Nat) (s : Shared) (H : Hp) (vs : List V), its.toArray.size - i = k → i ≤ its.toArray.size → L2.Inv X pins σ (upd H S (.lst vs)) s → H S = none → FpOk X pins (upd H S (.lst vs)) z → FpOk X pins (upd H S (.lst vs)) TO → FpOk X pins (upd H S (.lst vs)) i1 → FpOk X pins (upd H S (.lst vs)) i2 → Pv i H vs → vs.length = i →
      ZAny s.heap z TI TO i1 i2 → TO < s.heap.objs.size → s.heap.IsStrIter i1 (strIterType x) x t i → s.heap.IsTupleIter i2 a i → s.heap.IsTuple a its.toArray → codeAny (model X.prog X.w) A (.builtin "list.extend.loop" ⟨[.ref S, .ref z, res], []⟩) R s := by
  have D1 := Draws.text (prog := X.prog) (w := X.w) (A := A.in1.in1) (show A.in1.in1.handled = none from hA) i1 x t
  have D2 := Draws.tuple (prog := X.prog) (w := X.w) (A := A.in1.in1) (show A.in1.in1.handled = none from hA) i2 a ha2 its.toArray
  intro k
  induction k with
  | zero =>
    intro i s H vs hk hi I hn fz fO f1 f2 hp hl hz hO hs1 hit ht
    obtain rfl : i = its.toArray.size := by omega
    refine codeAny_builtin F.entry_extend_loop ?_; rw [Around.under_plainId F.plain_extend_loop _]
    show wpAny _ A.in1 (pyNext (.ref z) >>= _) _ _ s
    rw [← hnx] at hs1
    have D2' := D2; rw [← hnx] at D2'
    refine wpAny_bind (zip_stop Z D1 D2' hz hs1 ⟨by rw [hnx]; exact hit, ht⟩ fun h' tk hx => ?_)
    refine wpAny_pure (fin H vs _ (I.turnedL (t' := tk) (ch := [z, TO, i1, i2]) (fun b o hb q => hx b o (fun z => hb (by simp [z])) (fun z => hb (by simp [z])) (fun z => hb (by simp [z])) (fun z => hb (by simp [z])) q) ?_) hn hp)
    intro b hb
    rcases (List.mem_cons.mp hb) with rfl | hb
    · exact fz
    rcases (List.mem_cons.mp hb) with rfl | hb
    · exact fO
    rcases (List.mem_cons.mp hb) with rfl | hb
    · exact f1
    · rw [List.mem_singleton.mp hb]; exact f2
  | succ k ih =>
    intro i s H vs hk hi I hn fz fO f1 f2 hp hl hz hO hs1 hit ht
    have hlt : i < its.toArray.size := by omega
    have hlx : i < xs.length := by rw [rv.length, ← List.size_toArray]; exact hlt
    refine codeAny_builtin F.entry_extend_loop ?_; rw [Around.under_plainId F.plain_extend_loop _]
    show wpAny _ A.in1 (pyNext (.ref z) >>= _) _ _ s
    refine wpAny_bind (zip_next Z D1 D2 hz hTz hs1 ⟨hit, ht⟩ (by rw [hnx]; exact hlt) hlt hO fun x1 y h' tk hy1 hy hz' hs1' hst hT hk' => ?_)
    obtain ⟨hit', ht'⟩ := hst
    obtain ⟨c, u1, hc, rfl⟩ := hy1
    have hzl' : z < s.heap.objs.size := hz.lt
    have hl1 : i1 < s.heap.objs.size := (by obtain ⟨_, q, _⟩ := hs1; exact Heap.lt_size q)
    have hl2 : i2 < s.heap.objs.size := (by obtain ⟨_, q, _⟩ := hit; exact Heap.lt_size q)
    have hSl : S < s.heap.objs.size := by
      obtain ⟨_, _, _, _, q⟩ := (show ObjOk X.prog X.w _ s.heap S (.lst vs) from I.hok S _ upd_same)
      exact Heap.lt_size q
    have hTS : s.heap.objs.size ≠ S := Nat.ne_of_gt hSl
    have hy : its.toArray[i]? = some y := hy
    obtain ⟨u, hu, ru⟩ := rv.get (List.getElem?_eq_getElem hlx)
    have : y = u := by
      rw [List.getElem?_toArray] at hy
      rw [hu] at hy; cases hy; rfl
    subst this
    have new : ObjOk X.prog X.w (upd (upd H S (.lst vs)) s.heap.objs.size (.tup [.str ⟨#[c]⟩, xs[i]])) h' s.heap.objs.size (.tup [.str ⟨#[c]⟩, xs[i]]) :=
      ⟨by show 2 ≤ sizeLine; decide, [.str ⟨#[c]⟩ u1, y], .cons ⟨_, rfl⟩ (.cons ru .nil), ⟨_, hT, rfl, _, rfl⟩⟩
    have I1 : L2.Inv X pins σ (upd (upd H S (.lst vs)) s.heap.objs.size (.tup [.str ⟨#[c]⟩, xs[i]])) { s with heap := h', toks := tk } :=
      I.turnedNew (ch := [z, TO, i1, i2]) (fun b ob hb q => hk' b ob (fun z => hb (by simp [z])) (fun z => hb (by simp [z])) (fun z => hb (by simp [z])) (fun z => hb (by simp [z])) q) (fun b hb => by
        rcases (List.mem_cons.mp hb) with rfl | hb
        · exact fz
        rcases (List.mem_cons.mp hb) with rfl | hb
        · exact fO
        rcases (List.mem_cons.mp hb) with rfl | hb
        · exact f1
        · rw [List.mem_singleton.mp hb]; exact f2) (Nat.le_refl _) new
    have hn1 : (upd H S (.lst vs)) s.heap.objs.size = none := I.hok.fresh (Nat.le_refl _)
    have hnT : H s.heap.objs.size = none := by rw [upd_ne hTS] at hn1; exact hn1
    rw [upd_swap hTS.symm] at I1
    obtain ⟨hzl2, us, cc, ru2, gS⟩ := (show ObjOk X.prog X.w _ h' S (.lst vs) from I1.hok S _ upd_same)
    have hul : us.length = i := by rw [← ru2.length]; exact hl
    refine wpAny_bind ?_
    refine wpAny_updateSeq (s := { s with heap := h', toks := tk }) gS rfl (wpAny_pure ⟨plainId_quiet F.plain_extend_loop _, ?_⟩) (by rw [List.size_toArray, hul]; omega) (by show (us.toArray.push _).size ≤ sizeLine + 1; rw [Array.size_push, List.size_toArray, hul]; omega)
    have hS2' := Heap.get?_update_self (Obj.mapSeq (·.push (Value.ref s.heap.objs.size))) gS rfl
    have oth : ∀ b o, b ≠ S → h'.get? b = some o → (h'.update S (Obj.mapSeq (·.push (Value.ref s.heap.objs.size)))).get? b = some o := fun b o hb q => (Heap.get?_update_other _ _ (Ne.symm hb)).trans q
    have I2 := I1.write (x := S) (e := S) (o := .lst (vs ++ [.ref s.heap.objs.size])) (t' := tk) (h' := h'.update S (Obj.mapSeq (·.push (Value.ref s.heap.objs.size)))) (by rw [upd_same]; trivial) (.inl rfl) oth ⟨_, hS2'⟩
      ⟨by rw [List.length_append, hl]; show i + 1 ≤ sizeLine; omega, us ++ [.ref s.heap.objs.size], _, ru2.append (.cons (show L2.RelV (.ref s.heap.objs.size) (.ref s.heap.objs.size) from rfl) .nil), by rw [← List.push_toArray]; exact hS2'⟩
    rw [upd_twice] at I2
    have fp : ∀ {b : Addr}, S ≠ b → b < s.heap.objs.size → FpOk X pins (upd H S (.lst vs)) b → FpOk X pins (upd (upd H s.heap.objs.size (.tup [.str ⟨#[c]⟩, xs[i]])) S (.lst (vs ++ [.ref s.heap.objs.size]))) b := fun hb hlt' f => by
      obtain ⟨f0, f⟩ := f
      refine ⟨?_, f⟩
      rw [upd_ne hb.symm] at f0 ⊢
      rw [upd_ne (Nat.ne_of_lt hlt')]; exact f0
    have hsz' : s.heap.objs.size < h'.objs.size := Heap.lt_size hT
    have hTOl : TO < (h'.update S (Obj.mapSeq (·.push (Value.ref s.heap.objs.size)))).objs.size := by rw [Heap.size_update]; exact Nat.lt_trans hO hsz'
    refine ih (i + 1) _ _ _ (by omega) hlt I2 (by rw [upd_ne hTS.symm]; exact hn) (fp hSz hzl' fz) (fp hSO hO fO) (fp hS1 hl1 f1) (fp hS2 hl2 f2) (step i H vs c _ _ hp hc (List.getElem?_eq_getElem hlx) hnT) (by rw [List.length_append, hl]; rfl) (hz'.keep hSz hSI hSO oth fun o q => ⟨_, hS2'⟩) hTOl ?_ (hit'.at fun o q => oth _ _ hS2.symm q) (ht'.at fun o q => oth _ _ hSa.symm q)
    obtain ⟨o, q, r⟩ := hs1'
    exact ⟨o, oth _ _ hS1.symm q, r⟩
end
theorem zip_nolen : typeLookup (.type "zip") "__len__" = pure none := by rw [typeLookup_type, builtinLookup_eq_fast]; kernel_rfl
theorem zip_nohint : typeLookup (.type "zip") "__length_hint__" = pure none := by rw [typeLookup_type, builtinLookup_eq_fast]; kernel_rfl
theorem hint_zip {prog : Program} {w : World} {A : Around} {E : Value → Shared → Prop} {s : Shared} {e : Addr} {Q : Bool → Shared → Prop} (hT : s.TypeIs (.ref e) "zip") (h : Q true s) : wpAny (model prog w) A (Builtin.List.listLengthHint (.ref e)) Q E s := by
  (unfold Builtin.List.listLengthHint)
  refine wpAny_bind (wpAny_specialOf hT zip_nolen ?_)
  show wpAny _ _ (specialOf (Value.ref e) (Str.ofString "__length_hint__") >>= _) _ _ _
  refine wpAny_bind (wpAny_specialOf hT zip_nohint ?_)
  exact wpAny_pure h
/-- list(zip(a text, a tuple)) -/
def tLstZip (K : PySem.W.Frag) (ta : TA) : TE := fun σ H Q => ta σ H fun vs H1 => ∃ (x : Str) (a : Addr) (xs : List V) (Pv : Nat → Hp → List V → Prop), vs = [.str x, .ref a] ∧ SqT K H1 a xs ∧ x.cps.size = xs.length ∧ Pv 0 H1 [] ∧
  (∀ (i : Nat) H vs c y T, Pv i H vs → x.cps[i]? = some c → xs[i]? = some y → H T = none → Pv (i + 1) (upd H T (.tup [.str ⟨#[c]⟩, y])) (vs ++ [.ref T])) ∧ ∀ H vs q, Pv xs.length H vs → H q = none → Q (.ref q) (upd H q (.lst vs))
theorem pe_lstZip {X : Cx} {e e2 : Expr} {ta : TA} {p p2 pos pos2 : Pos} (hc : X.calm = true) (hg : Gl X "list") (hm : X.mg "list" = none) (hg2 : Gl X "zip") (hm2 : X.mg "zip" = none) (ha : PA X [e, e2] ta)
    (hs : starEach [e, e2] X.env = (false, eval e X.env) :: starEach [e2] X.env := by rfl) (hpl : (backTo pos2 (starEach [e2] X.env)).any (·.1) = false := by rfl)
    (hs2 : starEach [.Call (.Name "zip" p2) [e, e2] [] pos2] X.env = (false, eval (.Call (.Name "zip" p2) [e, e2] [] pos2) X.env) :: starEach [] X.env := by rfl) :
    PE X (.Call (.Name "list" p) [.Call (.Name "zip" p2) [e, e2] [] pos2] [] pos) (tLstZip X.K ta) := by
  refine ⟨fun pins s σ H Q I h => ?_⟩; refine Call_ (ld_blt I hg hm boot_list (PyProof.Rows.callWith_type1 (args_cons (Call_ (ld_blt I hg2 hm2 PyProof.Rows.boot_zip (PyProof.Rows.callWith_type1 (thn (ha.run pos2 pins s σ H _ I h) fun us s1 ⟨vs, H1, I1, r1, q1⟩ => ?_) hs hpl))) hs2) hs2 rfl))
  obtain ⟨x, a, xs, Pv, rfl, hq, hnx, h0, step, fin⟩ := q1
  obtain ⟨u1, u2, rfl, w1, w2⟩ := Vals.two r1
  obtain ⟨t, rfl⟩ : ∃ t, u1 = Value.str x t := w1
  obtain rfl : u2 = Value.ref a := w2
  obtain ⟨its, rv, p', hz0⟩ := I1.tuple hq
  have hlen := rv.length
  have htup : s1.heap.IsTuple a its.toArray := p'
  have hal : a < s1.heap.objs.size := by obtain ⟨o, ho, _⟩ := id htup; exact Heap.lt_size ho
  refine zip_begins2 (begins_text x t) (begins_tuple a its.toArray) trivial htup fun h' hz hTI hTO h1 h2 hsz hk => args_nil ?_
  have I3 : L2.Inv X pins σ H1 { s1 with heap := h' } := I1.kept (t' := s1.toks) hk
  have f : ∀ {b : Addr}, s1.heap.objs.size ≤ b → FpOk X pins H1 b := fun hb => I1.fpOk hb (I1.hok.fresh hb)
  have hn : H1 h'.objs.size = none := I3.hok.fresh (Nat.le_refl _)
  refine own_begin (T := "zip") (s := { s1 with heap := h' }) (fun h2 k2 => ⟨_, k2 _ _ hz, rfl⟩) (by decide) (by decide) (fun A E Q h2 k2 q => wpAny_pyIter_zip (s := { s1 with heap := h2 }) (k2 _ _ hz) q)
    (fun A E Q h2 k2 q => hint_zip (s := { s1 with heap := h2 }) ⟨_, k2 _ _ hz, rfl⟩ (q true s1.toks (Nat.le_refl _))) (by show s1.heap.objs.size + 4 < h'.objs.size; omega) fun h3 tk c k2 hS => ?_
  have hS : h3.get? h'.objs.size = some { cls := .type "list", data := .seq #[] c } := hS
  have I4 : L2.Inv X pins σ (upd H1 h'.objs.size (.lst [])) { s1 with heap := h3, toks := tk } := I3.laid (t' := tk) k2 (Nat.le_refl _) ⟨Nat.zero_le _, [], c, .nil, hS⟩
  have Z : ZipSep2 (s1.heap.objs.size + 4) (s1.heap.objs.size + 2) (s1.heap.objs.size + 3) s1.heap.objs.size (s1.heap.objs.size + 1) [s1.heap.objs.size] [s1.heap.objs.size + 1, a] := zip_sep2 (fp1 := []) (fp2 := [a]) (fun b hb => nomatch hb) (fun b hb => by rw [List.mem_singleton.mp hb]; exact hal)
  have ff : ∀ {b : Addr}, s1.heap.objs.size ≤ b → b ≠ h'.objs.size → FpOk X pins (upd H1 h'.objs.size (.lst [])) b := fun hb hn => by
    obtain ⟨f0, f⟩ := f hb
    exact ⟨by rw [upd_ne hn]; exact f0, f⟩
  have hsl : h'.objs.size < h3.objs.size := Heap.lt_size hS
  refine zip_loop (X := X) (pins := pins) (σ := σ) (z := s1.heap.objs.size + 4) (TI := s1.heap.objs.size + 2) (TO := s1.heap.objs.size + 3) (i1 := s1.heap.objs.size) (i2 := s1.heap.objs.size + 1) (a := a) (S := h'.objs.size) (x := x) (t := t) (xs := xs) (its := its) (Pv := Pv) (show X.A.in1.handled = none from I1.ok.hd hc) rv hz0 (by rw [hnx, List.size_toArray, hlen]) Z
    (Nat.ne_of_gt (show s1.heap.objs.size + 4 < h'.objs.size by omega)) (Nat.ne_of_gt (show s1.heap.objs.size + 2 < h'.objs.size by omega)) (Nat.ne_of_gt (show s1.heap.objs.size + 3 < h'.objs.size by omega)) (Nat.ne_of_gt (show s1.heap.objs.size < h'.objs.size by omega)) (Nat.ne_of_gt (show s1.heap.objs.size + 1 < h'.objs.size by omega)) (Nat.ne_of_gt (Nat.lt_of_lt_of_le hal (show s1.heap.objs.size ≤ h'.objs.size by omega))) (Nat.ne_of_lt (show s1.heap.objs.size + 2 < s1.heap.objs.size + 4 by omega)) (Nat.ne_of_lt (Nat.lt_of_lt_of_le hal (Nat.le_add_right _ 1))) (Nat.ne_of_lt (Nat.lt_of_lt_of_le hal (Nat.le_add_right _ 4))) (Nat.ne_of_lt (Nat.lt_of_lt_of_le hal (Nat.le_add_right _ 3))) (Nat.ne_of_lt hal) step
    (fun H vs s3 I5 hn5 hp => ⟨rfl, .ref h'.objs.size, _, I5, rfl, fin H vs _ (by rw [hlen, ← List.size_toArray]; exact hp) hn5⟩) its.toArray.size 0 _ H1 [] (by omega) (Nat.zero_le _) I4 hn (ff (show s1.heap.objs.size ≤ s1.heap.objs.size + 4 by omega) (Nat.ne_of_lt (show s1.heap.objs.size + 4 < h'.objs.size by omega))) (ff (show s1.heap.objs.size ≤ s1.heap.objs.size + 3 by omega) (Nat.ne_of_lt (show s1.heap.objs.size + 3 < h'.objs.size by omega))) (ff (show s1.heap.objs.size ≤ s1.heap.objs.size by omega) (Nat.ne_of_lt (show s1.heap.objs.size < h'.objs.size by omega))) (ff (show s1.heap.objs.size ≤ s1.heap.objs.size + 1 by omega) (Nat.ne_of_lt (show s1.heap.objs.size + 1 < h'.objs.size by omega))) h0 rfl
    ⟨k2 _ _ hTI, .inl ⟨k2 _ _ hz, _, _, k2 _ _ hTO⟩⟩ (by show s1.heap.objs.size + 3 < h3.objs.size; omega) ⟨_, k2 _ _ h1, rfl, rfl⟩ ⟨_, k2 _ _ h2, rfl, rfl⟩ ?_
  obtain ⟨o, ho, r⟩ := htup
  exact ⟨o, k2 _ _ (hk _ _ ho), r⟩
/-- signs and items in pairs -/
def pairD : List Nat → List D → List D
  | c :: r, d :: ds => .tup [.str ⟨#[c]⟩, d] :: pairD r ds
  | _, _ => []
def gLstZip : List D → Sto → Res D := fun ds S => match ds with
  | [.str x, d] => (match tupV d with
    | some xs => guard (Nat.beq x.cps.toList.length xs.length) (.ok (.ref S.nx) (S.new (.lst (pairD x.cps.toList xs))))
    | none => .bad)
  | _ => .bad
def dLstZip (fr : DA) : DE := fun Γ S => (fr Γ S).bind gLstZip
theorem pairD_take : ∀ (cs : List Nat) (xs : List D) (i : Nat) (c : Nat) (x : D), cs[i]? = some c → xs[i]? = some x → pairD (cs.take (i + 1)) (xs.take (i + 1)) = pairD (cs.take i) (xs.take i) ++ [.tup [.str ⟨#[c]⟩, x]]
  | [], _, i, c, x, h, _ => by simp at h
  | _ :: _, [], i, c, x, _, h => by simp at h
  | c0 :: cs, y :: r, 0, c, x, h, h' => by
    have h : some c0 = some c := h
    have h' : some y = some x := h'
    cases h; cases h'; rfl
  | c0 :: cs, y :: r, i + 1, c, x, h, h' => by
    show D.tup [.str ⟨#[c0]⟩, y] :: pairD (cs.take (i + 1)) (r.take (i + 1)) = (D.tup [.str ⟨#[c0]⟩, y] :: pairD (cs.take i) (r.take i)) ++ _
    rw [pairD_take cs r i c x h h']; rfl
theorem xlstZip {X : Cx} {C : Cfg} {W : XK} {e e2 : Expr} {fr : DA} {p p2 pos pos2 : Pos} (hK : X.K = C.K) (hc : X.calm = true) (hg : Gl X "list") (hm : X.mg "list" = none) (hg2 : Gl X "zip") (hm2 : X.mg "zip" = none) (ha : PA X [e, e2] (tA C W fr))
    (hs : starEach [e, e2] X.env = (false, eval e X.env) :: starEach [e2] X.env := by rfl) (hpl : (backTo pos2 (starEach [e2] X.env)).any (·.1) = false := by rfl)
    (hs2 : starEach [.Call (.Name "zip" p2) [e, e2] [] pos2] X.env = (false, eval (.Call (.Name "zip" p2) [e, e2] [] pos2) X.env) :: starEach [] X.env := by rfl) :
    PE X (.Call (.Name "list" p) [.Call (.Name "zip" p2) [e, e2] [] pos2] [] pos) (tE C W (dLstZip fr)) :=
  (pe_lstZip hc hg hm hg2 hm2 ha hs hpl hs2).by fun σ H Q ⟨M, Γ, S, g, s, h⟩ => runA g s h fun M1 ds S1 xs H1 l1 s1 r1 h1 => by
    unfold gLstZip at h1
    split at h1
    · rename_i x d
      obtain ⟨v1, us, rfl, rd1, rt⟩ := r1.cons_inv
      obtain ⟨v2, rfl, rd2⟩ := one_of rt
      cases rd1
      split at h1
      · rename_i ys e1
        obtain ⟨gl, h1⟩ := guard_ok h1
        have gl := Nat.eq_of_beq_eq_true gl
        obtain ⟨a, us, rfl, ha', rl⟩ := tup_of s1 rd2 e1
        refine ⟨x, a, us, fun i H2 vs => ∃ M', M1.le M' ∧ Sim C M' S1 H2 ∧ RepL C M' (pairD (x.cps.toList.take i) (ys.take i)) vs, rfl, hK ▸ ha', by rw [← rl.1, ← gl, Array.length_toList], ⟨M1, .refl M1, s1, .nil⟩, fun i H2 vs c y T ⟨M', l, s2, r⟩ hc' hx hT => ?_, fun H2 vs q ⟨M', l, s2, r⟩ hq => ?_⟩
        · have hi : i < ys.length := by rw [rl.1]; exact (List.getElem?_eq_some_iff.mp hx).1
          have rx := rl.2 i _ _ (List.getElem?_eq_getElem hi) hx
          have lp : M'.le (M'.lay T (.tup [.str ⟨#[c]⟩, y])) := Wd.lay_le (s2.free hT)
          refine ⟨_, l.trans lp, s2.lay hT, ?_⟩
          rw [pairD_take _ ys i c _ (by rw [Array.getElem?_toList]; exact hc') (List.getElem?_eq_getElem hi)]
          have rl2 : RepL C (M'.lay T (.tup [.str ⟨#[c]⟩, y])) [.str ⟨#[c]⟩, ys[i]] [.str ⟨#[c]⟩, y] := .cons (.str _) (.cons (rx.mono (l.trans lp)) .nil)
          exact (r.mono lp).append (.cons (.tup (show upd M'.fz T _ T = _ from upd_same) rl2.1 rl2.2) .nil)
        · have e2 : ys.take us.length = ys := by rw [← rl.1, List.take_length]
          have e3 : x.cps.toList.take us.length = x.cps.toList := by rw [← rl.1, ← gl, List.take_length]
          rw [e2, e3] at r
          exact newSto (h1.mono l) s2 ⟨_, rfl, r⟩ hq
      · exact h1.elim
    · exact h1.elim
end Pd

/-! int(n), abs(n), powers; tuples with empty ones; repr -/
namespace Pd
open L2 PySem PySem.Spec PyProof.Rows

section
variable {X : Cx} {C : Cfg} {W : XK}
def gInt : List D → Sto → Res D := fun ds S => match ds with
  | [.int i] => .ok (.int i) S
  | _ => .bad
theorem cInt : CaD X C W (.type "int") gInt := by
  refine ⟨_, call_int1, fun M S H ds vs Q s r q => ?_⟩
  unfold gInt at q
  split at q
  · obtain ⟨v, rfl, rd⟩ := one_of r
    cases rd
    exact .inl ⟨_, rfl, q.ok s (.int _)⟩
  · exact q.elim
def absI : Int → Int
  | .ofNat n => .ofNat n
  | .negSucc n => .ofNat (n + 1)
theorem absI_eq : ∀ i : Int, absI i = if i < 0 then -i else i
  | .ofNat n => by rw [if_neg (by have := Int.natCast_nonneg n; show ¬ ((n : Int) < 0); omega)]; rfl
  | .negSucc n => by rw [if_pos (Int.negSucc_lt_zero n)]; rfl
def gAbs : List D → Sto → Res D := fun ds S => match ds with
  | [.int i] => .ok (.int (absI i)) S
  | _ => .bad
theorem cAbs : CaD X C W (.builtin "abs") gAbs := by
  refine ⟨_, call_abs, fun M S H ds vs Q s r q => ?_⟩
  unfold gAbs at q
  split at q
  · rename_i i
    obtain ⟨v, rfl, rd⟩ := one_of r
    cases rd
    exact ⟨i, rfl, by rw [← absI_eq]; exact q.ok s (.int _)⟩
  · exact q.elim
def fPow : D → D → Sto → Res D := fun a b S => match a, b with
  | .int i, .int (.ofNat k) => guard (Nat.ble k 1000 && small i) (.ok (.int (i ^ k)) S)
  | _, _ => .bad
theorem oPow : OpD X C W (binaryOp .Pow) fPow := by
  refine ⟨_, op_pow, fun M S H a b x y Q s ra rb q => ?_⟩
  unfold fPow at q
  split at q
  · rename_i i k
    obtain ⟨g, q⟩ := guard_ok q
    obtain ⟨g1, g2⟩ := Bool.and_eq_true_iff.mp g
    cases ra; cases rb
    have h1 : k ≤ 1000 := Nat.le_of_ble_eq_true g1
    have h2 : i.natAbs < 18446744073709551616 := Nat.le_of_ble_eq_true g2
    exact ⟨i, _, rfl, rfl, ⟨Int.natCast_nonneg k, by show (k : Int) ≤ 1000000; omega, by omega⟩, q.ok s (.int _)⟩
  · exact q.elim

/-! ### t + u, whichever is empty -/
def isTu (d : D) : Bool := match tupV d with
  | some _ => true
  | none => false
def catA (a b : D) (xs ys : List D) (S : Sto) : Res D := match xs with
  | [] => .ok b S
  | x :: xs => (match ys with
    | [] => .ok a S
    | y :: ys => .ok (.tup (x :: xs ++ y :: ys)) S)
def fCatA : D → D → Sto → Res D := fun a b S => match tupV a, tupV b with
  | some xs, some ys => guard (lineOk (xs.length + ys.length)) (catA a b xs ys S)
  | _, _ => .bad
theorem oCatA (hK : X.K = C.K) : OpD X C W (binaryOp .Add) fCatA := by
  refine ⟨_, op_catA, fun M S H a b x y Q s ra rb q => ?_⟩
  unfold fCatA at q
  split at q
  · rename_i xs ys e1 e2
    obtain ⟨g, q⟩ := guard_ok q
    obtain ⟨l, vs, rfl, h1, r1⟩ := tup_of s ra e1
    obtain ⟨m, ws, rfl, h2, r2⟩ := tup_of s rb e2
    unfold catA at q
    refine ⟨l, m, vs, ws, rfl, rfl, hK ▸ h1, hK ▸ h2, by rw [← r1.1, ← r2.1]; exact lineOk_ok g, fun z => ?_, fun z z' => ?_, fun z z' p hp => ?_⟩
    · subst z
      cases xs with
      | nil => exact q.ok s rb
      | cons _ _ => exact absurd r1.1 (by simp)
    · subst z'
      cases xs with
      | nil => exact absurd (r1.nil_inv) z
      | cons _ _ =>
        cases ys with
        | nil => exact q.ok s ra
        | cons _ _ => exact absurd r2.1 (by simp)
    · cases xs with
      | nil => exact absurd (r1.nil_inv) z
      | cons _ _ =>
        cases ys with
        | nil => exact absurd (r2.nil_inv) z'
        | cons _ _ => exact newTup q s (r1.append r2) hp
  · exact q.elim
def fAddA : D → D → Sto → Res D := fun a b S => match isTu a with
  | true => fCatA a b S
  | false => fAdd a b S
theorem oAddA (hK : X.K = C.K) : OpD X C W (binaryOp .Add) fAddA := (oCatA hK).or (oAdd hK) fun a _ _ => isTu a

/-! ### t[lo:hi], the whole of it too -/
def fSlA (a : D) (lo hi : Option Int) (S : Sto) : Res D := match tupV a with
  | some ds => (match partD ds.length lo hi with
    | true => .ok (.tup (cutD ds lo hi)) S
    | false => .ok a S)
  | none => .bad
def dSlA (fa : DE) (fl fh : DO) : DE := fun Γ S => (fa Γ S).bind fun a S1 => (fl Γ S1).bind fun lo S2 => (fh Γ S2).bind fun hi S3 => fSlA a lo hi S3
theorem xslA {e : Expr} {lo hi : Option Expr} {p2 pos : Pos} {fa : DE} {fl fh : DO} (hK : X.K = C.K) (he : PE X e (tE C W fa)) (hl : PtD X C W lo fl) (hh : PtD X C W hi fh) : PE X (.Subscript e (.Slice lo hi none p2) pos) (tE C W (dSlA fa fl fh)) := by
  obtain ⟨tl, h1, k1⟩ := hl
  obtain ⟨th, h2, k2⟩ := hh
  refine (pe_slice sl_tupA he h1 h2).by fun σ H Q ⟨M, Γ, S, g, s, h⟩ => run1 g s h fun M1 a S1 x H1 l1 s1 r1 h1 => ?_
  refine runO (lo := lo) k1 (g.mono l1) s1 h1 fun M2 lo S2 H2 l2 s2 h2 => runO (lo := hi) k2 (g.mono (l1.trans l2)) s2 h2 fun M3 hi S3 H3 l3 s3 h3 => ?_
  have r3 := r1.mono (l2.trans l3)
  rw [hK]
  unfold fSlA at h3
  split at h3
  · rename_i ds e
    obtain ⟨p, vs, rfl, hs, rl⟩ := tup_of s3 r3 e
    refine ⟨p, vs, rfl, hs, fun z => ?_, fun z q hq => ?_⟩
    · have gd : partD ds.length lo hi = false := by
        unfold partD
        rw [sixD_eq, sixD_eq, rl.1, z.1, z.2, Nat.beq_refl, Nat.beq_refl]; rfl
      rw [gd] at h3
      exact h3.ok s3 r3
    · have gd : partD ds.length lo hi = true := by
        unfold partD
        rw [sixD_eq, sixD_eq, rl.1]
        cases e1 : Nat.beq (HT.sIx vs.length 0 lo) 0 with
        | false => rfl
        | true =>
          cases e2 : Nat.beq (HT.sIx vs.length vs.length hi) vs.length with
          | false => rfl
          | true => exact absurd ⟨Nat.eq_of_beq_eq_true e1, Nat.eq_of_beq_eq_true e2⟩ z
      rw [gd] at h3
      exact newTup h3 s3 (rl.cut lo hi) hq
  · exact h3.elim

/-! ### != of texts, of a tuple and () -/
def isSS (a b : D) (_ : Sto) : Bool := match a, b with
  | .str _, .str _ => true
  | _, _ => false
def fNeS : D → D → Sto → Res D := fun a b S => match a, b with
  | .str x, .str y => .ok (.bl (!eqS x y)) S
  | _, _ => .bad
theorem oNeS : OpD X C W (compareOp .NotEq) fNeS := by
  refine ⟨_, op_ne, fun M S H a b x y Q s ra rb q => ?_⟩
  unfold fNeS at q
  split at q
  · rename_i u v
    cases ra; cases rb
    refine ⟨rfl, ?_⟩
    have e : decide (V.str u = V.str v) = eqS u v := by
      rw [eqS_eq]
      exact decide_eq_decide.mpr ⟨fun z => V.str.inj z, fun z => by rw [z]⟩
    rw [e]
    exact q.ok s (.bl _)
  · exact q.elim
def rNe0 (K : PySem.W.Frag) : R2 := fun x y H Q => ∃ a b xs, x = .ref a ∧ y = .ref b ∧ SqT K H a xs ∧ SqT K H b [] ∧ Q (.bl (!emptyL xs)) H
theorem op_ne0 (hu : X.A.units + 64 < cLine) : OpR X (compareOp .NotEq) (rNe0 X.K) := by
  intro pins s σ H x y v u Q I rx ry h; obtain ⟨a, b, xs, rfl, rfl, ha, hb, q⟩ := h
  cases rx
  cases ry
  obtain ⟨its, r1, p1, _⟩ := I.tuple ha; obtain ⟨its2, r2, p2, _⟩ := I.tuple hb
  cases r2
  refine PySem.SeqAt.RcNeAt.tuples (e := fun _ => true) p1 p2 (by omega) (fun j h1 h2 => absurd h2 (by simp)) X.prog X.w _ _ ⟨.bl (!emptyL xs), H, I, ?_, q⟩
  show Value.bool _ = Value.bool _
  cases r1 <;> simp [emptyL]
def isE0 (a b : D) (_ : Sto) : Bool := match tupV a, tupV b with
  | some _, some [] => true
  | _, _ => false
def fNe0 : D → D → Sto → Res D := fun a b S => match tupV a, tupV b with
  | some xs, some [] => .ok (.bl (!emptyL xs)) S
  | _, _ => .bad
theorem oNe0 (hK : X.K = C.K) (hu : X.A.units + 64 < cLine) : OpD X C W (compareOp .NotEq) fNe0 := by
  refine ⟨_, op_ne0 hu, fun M S H a b x y Q s ra rb q => ?_⟩
  unfold fNe0 at q
  split at q
  · rename_i xs e1 e2
    obtain ⟨l, vs, rfl, h1, r1⟩ := tup_of s ra e1
    obtain ⟨m, ws, rfl, h2, r2⟩ := tup_of s rb e2
    rw [r2.nil_inv] at h2
    refine ⟨l, m, vs, rfl, rfl, hK ▸ h1, hK ▸ h2, ?_⟩
    have e : emptyL vs = emptyL xs := by
      cases xs with
      | nil => rw [r1.nil_inv] <;> rfl
      | cons x xs => obtain ⟨v, us, rfl, _⟩ := r1.cons_inv; rfl
    rw [e]
    exact q.ok s (.bl _)
  · exact q.elim
def fNeY : D → D → Sto → Res D := fun a b S => match isSS a b S with
  | true => fNeS a b S
  | false => (match isE0 a b S with
    | true => fNe0 a b S
    | false => fNeX a b S)
theorem oNeY (hK : X.K = C.K) (hu : X.A.units + 65 < cLine) : OpD X C W (compareOp .NotEq) fNeY := oNeS.or ((oNe0 hK (by omega)).or (oNeX hK hu) isE0) isSS
end
end Pd

/-! repr of data -/
namespace Pd
open L2 PySem PySem.Spec PyProof.Rows

def keyPy : Key → PyData
  | .inl i => .int i
  | .inr x => .str x
def AllN {α β : Type} (R : α → β → Prop) : List α → List β → Prop
  | [], [] => True
  | a :: r, b :: q => R a b ∧ AllN R r q
  | _, _ => False
def KvN (R : V → PyData → Prop) : List (Key × V) → List (PyData × PyData) → Prop
  | [], [] => True
  | (k, v) :: r, (p, d) :: q => (p = keyPy k ∧ R v d) ∧ KvN R r q
  | _, _ => False
/-- v is the data p, at most n deep -/
def DrN (K : PySem.W.Frag) (H : Hp) : Nat → V → PyData → Prop
  | 0, _, _ => False
  | n + 1, v, p => match p with
    | .none => v = .non
    | .bool b => v = .bl b
    | .int i => v = .int i
    | .str x => v = .str x
    | .list ds => ∃ a xs, v = .ref a ∧ SqL K H a xs ∧ AllN (DrN K H n) xs ds
    | .tuple ds => ∃ a xs, v = .ref a ∧ SqT K H a xs ∧ AllN (DrN K H n) xs ds
    | .dict es => ∃ a kvs, v = .ref a ∧ Rd H a (.dK kvs) ∧ KvN (DrN K H n) kvs es
/-- the written part knows the dict of modules -/
def SysD (K : PySem.W.Frag) : Prop := ∃ o, K.lookup sysModules = some o ∧ o.cls ≠ .type "list"
section
variable {X : Cx} {s : Shared} {pins : List (Addr × Obj)} {σ : L2.St} {H : Hp}
theorem all_reads {R : V → PyData → Prop} (ih : ∀ v p u, R v p → RelV v u → ∃ as, Reads s.heap u p as ∧ sysModules ∉ as) : ∀ {xs : List V} {ds : List PyData} {us : List Value}, AllN R xs ds → Vals xs us → ∃ as, ReadsAll s.heap us ds as ∧ sysModules ∉ as
  | [], [], us, _, r => by cases r; exact ⟨_, .nil, fun h => nomatch h⟩
  | x :: xs, d :: ds, us, h, r => by
    cases r with
    | cons r1 r2 =>
      obtain ⟨as, q1, n1⟩ := ih _ _ _ h.1 r1
      obtain ⟨bs, q2, n2⟩ := all_reads ih h.2 r2
      exact ⟨_, .cons q1 q2, fun z => (List.mem_append.mp z).elim n1 n2⟩
  | [], _ :: _, _, h, _ => h.elim
  | _ :: _, [], _, h, _ => h.elim
theorem kv_reads {R : V → PyData → Prop} (ih : ∀ v p u, R v p → RelV v u → ∃ as, Reads s.heap u p as ∧ sysModules ∉ as) : ∀ {kvs : List (Key × V)} {es : List (PyData × PyData)} {ws : List (Key × Value)} {ds : List DictEntry}, KvN R kvs es → KV kvs ws → Pairs (mixKind X.prog X.w) ds ws →
    (∃ as, ReadsAll s.heap (ds.map (·.key)) (es.map (·.1)) as ∧ sysModules ∉ as) ∧ ∃ bs, ReadsAll s.heap (ds.map (·.val)) (es.map (·.2)) bs ∧ sysModules ∉ bs
  | [], [], ws, ds, _, r, p => by
    cases r; cases p
    exact ⟨⟨_, .nil, fun h => nomatch h⟩, _, .nil, fun h => nomatch h⟩
  | (k, v) :: kvs, (p, d) :: es, ws, ds, h, r, q => by
    obtain ⟨⟨e1, h1⟩, h2⟩ := h
    cases r with
    | cons r1 r2 =>
      cases q with
      | cons q1 q2 q3 =>
        rename_i b0 l0 e0 es0
        obtain ⟨⟨as, x1, n1⟩, bs, x2, n2⟩ := kv_reads ih h2 r2 q3
        obtain ⟨cs, y1, m1⟩ := ih v d _ h1 (q2 ▸ r1.2)
        have e2 := r1.1
        dsimp only at e2
        rw [← e2] at q1
        have ky : ∃ zs, Reads s.heap e0.key p zs ∧ sysModules ∉ zs := by
          subst e1
          rcases keyIs_shape q1 with ⟨i, t, ek, ev⟩ | ⟨x, t, ek, ev⟩
          · rw [ev, ek]; exact ⟨_, .int i t, fun h => nomatch h⟩
          · rw [ev, ek]; exact ⟨_, .str x t, fun h => nomatch h⟩
        obtain ⟨zs, y2, m2⟩ := ky
        exact ⟨⟨_, .cons y2 x1, fun z => (List.mem_append.mp z).elim m2 n1⟩, _, .cons y1 x2, fun z => (List.mem_append.mp z).elim m1 n2⟩
  | [], _ :: _, _, _, h, _, _ => h.elim
  | _ :: _, [], _, _, h, _, _ => h.elim
theorem dr_reads (T : SysD X.K) (I : Inv X pins σ H s) : ∀ (n : Nat) (v : V) (p : PyData) (u : Value), DrN X.K H n v p → RelV v u → ∃ as, Reads s.heap u p as ∧ sysModules ∉ as
  | 0, _, _, _, h, _ => h.elim
  | n + 1, v, p, u, h, r => by
    have ih := dr_reads T I n
    cases p with
    | none => obtain rfl : v = .non := h; cases r; exact ⟨_, .none, fun h => nomatch h⟩
    | bool b => obtain rfl : v = .bl b := h; cases r; exact ⟨_, .bool b, fun h => nomatch h⟩
    | int i => obtain rfl : v = .int i := h; obtain ⟨t, rfl⟩ := r; exact ⟨_, .int i t, fun h => nomatch h⟩
    | str x => obtain rfl : v = .str x := h; obtain ⟨t, rfl⟩ := r; exact ⟨_, .str x t, fun h => nomatch h⟩
    | list ds =>
      obtain ⟨a, xs, rfl, hs, ha⟩ := h
      cases r
      obtain ⟨its, rv, ⟨o, n', ho, hc, _, hd⟩, _⟩ := I.list hs
      obtain ⟨as, q, nm⟩ := all_reads ih ha rv
      refine ⟨a :: as, .list ho hc hd q, fun z => ?_⟩
      rcases (List.mem_cons.mp z) with z | z
      · obtain ⟨o', e', nc⟩ := T
        have := I.kIn _ _ e'
        rw [z, ho] at this
        cases this
        exact nc hc
      · exact nm z
    | tuple ds =>
      obtain ⟨a, xs, rfl, hs, ha⟩ := h
      cases r
      obtain ⟨its, rv, ⟨o, ho, hc, n', hd⟩, _⟩ := I.tuple hs
      obtain ⟨as, q, nm⟩ := all_reads ih ha rv
      exact ⟨_, .tuple ho hc hd q, nm⟩
    | dict es =>
      obtain ⟨a, kvs, rfl, hr, hk⟩ := h
      cases r
      obtain ⟨z, hd, ws, rel, o, ds, ep, ho, ⟨hc, _, _⟩, hdat, _, pr, _⟩ := dk_rd I.hok hr
      obtain ⟨⟨as, q1, n1⟩, bs, q2, n2⟩ := kv_reads (X := X) (s := s) ih hk rel pr
      refine ⟨a :: as ++ bs, .dict ho hc hdat q1 q2, fun z => ?_⟩
      rcases List.mem_cons.mp (show sysModules ∈ a :: (as ++ bs) from z) with z | z
      · rw [← z] at hd; exact absurd hd (by simp)
      · exact (List.mem_append.mp z).elim n1 n2
end
def kvR (f : D → Option PyData) : List (Key × D) → Option (List (PyData × PyData))
  | [] => some []
  | (k, d) :: r => (match f d with
    | some p => (match kvR f r with
      | some es => some ((keyPy k, p) :: es)
      | none => none)
    | none => none)
def toR : Nat → D → Option PyData
  | 0, _ => none
  | n + 1, d => match d with
    | .non => some .none
    | .bl b => some (.bool b)
    | .int i => some (.int i)
    | .str x => some (.str x)
    | .tup ds => (match mapO (toR n) ds with
      | some ps => some (.tuple ps)
      | none => none)
    | .ctp ds => (match mapO (toR n) ds with
      | some ps => some (.tuple ps)
      | none => none)
    | .lst ds => (match mapO (toR n) ds with
      | some ps => some (.list ps)
      | none => none)
    | .dct kvs => (match kvR (toR n) kvs with
      | some es => some (.dict es)
      | none => none)
    | _ => none
theorem mapOR_depth {n : Nat} {f : D → Option PyData} (ih : ∀ d p, f d = some p → p.depth ≤ n) : ∀ {ds : List D} {ps : List PyData}, mapO f ds = some ps → PyData.depthAll ps ≤ n
  | [], ps, h => by cases h; simp [PyData.depthAll]
  | d :: ds, ps, h => by
    unfold mapO at h
    split at h
    · rename_i b e
      split at h
      · rename_i q e2
        cases h
        have h1 := ih _ _ e
        have h2 := mapOR_depth ih e2
        simp only [PyData.depthAll]; omega
      · cases h
    · cases h
theorem kvR_depth {n : Nat} {f : D → Option PyData} (ih : ∀ d p, f d = some p → p.depth ≤ n) : ∀ {ds : List (Key × D)} {ps : List (PyData × PyData)}, kvR f ds = some ps → PyData.depthKv ps ≤ n
  | [], ps, h => by cases h; simp [PyData.depthKv]
  | (k, d) :: ds, ps, h => by
    unfold kvR at h
    split at h
    · rename_i b e
      split at h
      · rename_i q e2
        cases h
        have h1 := ih _ _ e
        have h2 := kvR_depth ih e2
        have h3 : (keyPy k).depth = 0 := by cases k <;> simp [keyPy, PyData.depth]
        simp only [PyData.depthKv]; omega
      · cases h
    · cases h
theorem toR_depth : ∀ (n : Nat) (d : D) (p : PyData), toR n d = some p → p.depth ≤ n
  | 0, _, _, h => by cases h
  | n + 1, d, p, h => by
    unfold toR at h
    split at h
    all_goals first
      | (cases h; simp [PyData.depth]; done)
      | (split at h
         · rename_i e
           cases h
           simp only [PyData.depth]
           first
             | (have := mapOR_depth (toR_depth n) e; omega)
             | (have := kvR_depth (toR_depth n) e; omega)
         · cases h)
      | cases h
section
variable {C : Cfg} {M : Wd} {S : Sto} {H : Hp}
theorem mapO_dr {K : PySem.W.Frag} {n : Nat} {f : D → Option PyData} (ih : ∀ d v p, f d = some p → Rep C M d v → DrN K H n v p) : ∀ {ds : List D} {vs : List V} {ps : List PyData}, mapO f ds = some ps → RepL C M ds vs → AllN (DrN K H n) vs ps
  | [], vs, ps, h, r => by cases h; rw [r.nil_inv]; exact True.intro
  | d :: ds, vs, ps, h, r => by
    obtain ⟨v, us, rfl, h1, r1⟩ := r.cons_inv
    unfold mapO at h
    split at h
    · rename_i b e
      split at h
      · rename_i q e2
        cases h
        exact ⟨ih d v b e h1, mapO_dr ih e2 r1⟩
      · cases h
    · cases h
theorem RepK.cons_inv {k : Key} {d : D} {ds : List (Key × D)} {vs : List (Key × V)} (r : RepK C M ((k, d) :: ds) vs) : ∃ v us, vs = (k, v) :: us ∧ Rep C M d v ∧ RepK C M ds us := by
  cases vs with
  | nil => exact absurd r.1 (by simp)
  | cons w us =>
    obtain ⟨j, v⟩ := w
    have e : k :: ds.map (·.1) = j :: us.map (·.1) := r.1
    obtain ⟨e1, e2⟩ := List.cons.inj e
    subst e1
    exact ⟨v, us, rfl, r.2 0 _ _ _ _ rfl rfl, e2, fun i a b c e h1 h2 => r.2 (i + 1) a b c e (by simpa using h1) (by simpa using h2)⟩
theorem kvR_dr {K : PySem.W.Frag} {n : Nat} {f : D → Option PyData} (ih : ∀ d v p, f d = some p → Rep C M d v → DrN K H n v p) : ∀ {ds : List (Key × D)} {vs : List (Key × V)} {ps : List (PyData × PyData)}, kvR f ds = some ps → RepK C M ds vs → KvN (DrN K H n) vs ps
  | [], vs, ps, h, r => by
    cases h
    cases vs with
    | nil => exact True.intro
    | cons _ _ => exact absurd r.1 (by simp)
  | (k, d) :: ds, vs, ps, h, r => by
    obtain ⟨v, us, rfl, h1, r1⟩ := r.cons_inv
    unfold kvR at h
    split at h
    · rename_i b e
      split at h
      · rename_i q e2
        cases h
        exact ⟨⟨rfl, ih d v b e h1⟩, kvR_dr ih e2 r1⟩
      · cases h
    · cases h
theorem toR_dr (s : Sim C M S H) : ∀ (n : Nat) (d : D) (v : V) (p : PyData), toR n d = some p → Rep C M d v → DrN C.K H n v p
  | 0, _, _, _, h, _ => by cases h
  | n + 1, d, v, p, h, r => by
    have ih := toR_dr s n
    unfold toR at h
    split at h
    · cases h; cases r; exact rfl
    · cases h; cases r; exact rfl
    · cases h; cases r; exact rfl
    · cases h; cases r; exact rfl
    · split at h
      · rename_i e
        cases h
        obtain ⟨a, xs, rfl, hs, rl⟩ := tup_of s r rfl
        exact ⟨a, xs, rfl, hs, mapO_dr ih e rl⟩
      · cases h
    · split at h
      · rename_i e
        cases h
        obtain ⟨a, xs, rfl, hs, rl⟩ := tup_of s r rfl
        exact ⟨a, xs, rfl, hs, mapO_dr ih e rl⟩
      · cases h
    · split at h
      · rename_i e
        cases h
        obtain ⟨a, xs, rfl, hs, rl⟩ := lst_of s r rfl
        exact ⟨a, xs, rfl, hs, mapO_dr ih e rl⟩
      · cases h
    · split at h
      · rename_i e
        cases h
        obtain ⟨a, xs, rfl, hs, rl⟩ := dct_of s r rfl
        exact ⟨a, xs, rfl, hs, kvR_dr ih e rl⟩
      · cases h
    · cases h
end
section
variable {X : Cx} {C : Cfg} {W : XK}
theorem call_reprD (T : SysD X.K) (hg : X.A.guards = some []) (hu : X.A.units + 64 < cLine) : CallR X (.builtin "repr") (fun xs H Q => ∃ v p, xs = [v] ∧ DrN X.K H 20 v p ∧ p.showable = true ∧ p.shown.length ≤ sizeLine ∧ p.depth ≤ 20 ∧ Q (.str p.shown) H) := by
  intro pins s σ H xs us Q I r h; obtain ⟨v, p, rfl, hd, hs, hz, hp, q⟩ := h
  have leaf : ∀ {x : Str} {t : Nat}, p.shown = x → EP X pins σ Q (.str x s.toks) { s with toks := t } := fun e => by
    subst e; exact ⟨.str _, H, I.tok _, ⟨_, rfl⟩, q⟩
  obtain ⟨u, rfl, ru⟩ := vals1 r; have rd := dr_reads T I 20 v p u hd ru
  cases p with
  | none => obtain rfl : v = .non := hd; cases ru; exact PySem.P.repr_of_none (leaf (by simp only [PyData.shown]))
  | bool b => obtain rfl : v = .bl b := hd; cases ru; exact PySem.P.repr_of_bool (leaf (by simp only [PyData.shown]))
  | int i =>
    obtain rfl : v = .int i := hd
    obtain ⟨t, rfl⟩ := ru
    exact PySem.P.repr_of_int (by simpa [PyData.showable] using hs) (leaf (by simp only [PyData.shown]))
  | str x =>
    obtain rfl : v = .str x := hd
    obtain ⟨t, rfl⟩ := ru
    exact PySem.P.repr_of_str (leaf (by simp only [PyData.shown])) (by simpa only [PyData.shown] using hz)
  | list ds =>
    obtain ⟨a, _, rfl, _⟩ := hd
    cases ru
    obtain ⟨as, rr, nm⟩ := rd
    exact repr_of_reads' rr hs (fun _ => nm) hg (by omega) (fun _ _ e => e) (fun h' t tk k => ⟨.str _, H, I.kept (t' := tk) k, ⟨t, rfl⟩, q⟩) hz
  | tuple ds =>
    obtain ⟨a, _, rfl, _⟩ := hd
    cases ru
    obtain ⟨as, rr, nm⟩ := rd
    exact repr_of_reads' rr hs (fun _ => nm) hg (by omega) (fun _ _ e => e) (fun h' t tk k => ⟨.str _, H, I.kept (t' := tk) k, ⟨t, rfl⟩, q⟩) hz
  | dict es =>
    obtain ⟨a, _, rfl, _⟩ := hd
    cases ru
    obtain ⟨as, rr, nm⟩ := rd
    exact repr_of_reads' rr hs (fun _ => nm) hg (by omega) (fun _ _ e => e) (fun h' t tk k => ⟨.str _, H, I.kept (t' := tk) k, ⟨t, rfl⟩, q⟩) hz
def fitsR (p : PyData) : Bool := p.showable && Nat.ble p.shown.length 1000000
def gRepr : List D → Sto → Res D := fun ds S => match ds with
  | [d] => (match toR 20 d with
    | some p => guard (fitsR p) (.ok (.str p.shown) S)
    | none => .bad)
  | _ => .bad
theorem cRepr (hK : X.K = C.K) (T : SysD X.K) (hg : X.A.guards = some []) (hu : X.A.units + 64 < cLine) : CaD X C W (.builtin "repr") gRepr := by
  refine ⟨_, call_reprD T hg hu, fun M S H ds vs Q s r q => ?_⟩
  unfold gRepr at q
  split at q
  · rename_i d
    split at q
    · rename_i p e
      obtain ⟨g, q⟩ := guard_ok q
      obtain ⟨g1, g2⟩ := Bool.and_eq_true_iff.mp g
      obtain ⟨v, rfl, rd⟩ := one_of r
      have hl : p.shown.length ≤ 1000000 := Nat.le_of_ble_eq_true g2
      exact ⟨v, p, rfl, hK ▸ toR_dr s 20 d v p e rd, g1, by rw [sizeLine_eq]; omega, toR_depth 20 d p e, q.ok s (.str _)⟩
    · exact q.elim
  · exact q.elim
end
end Pd

/-! a law whose own def looks at what is under way (repr): its run where nothing is -/
namespace Pd
open L2 PySem PySem.Spec PyProof.Rows

section
variable {P : Program} {w : World} {K : PySem.W.Frag} {mg mb : Str → Option Value} {base : Heap} {x qual : Str} {params : Arguments} {body : List Stmt} {scope : Scope} {f : Addr} {fd : FuncData}
/-- one call of a def, from what its body does there -/
theorem call_at {N ps : List Str} {k : Nat} {A : Around} {outer : List Env} {s : Shared} {H : Hp} {us : List Value} {vs : List V} {Q : VK} {E : XK} (F : FunD K x qual params body scope [] [] f fd) (S : FnScope N ps scope) (hl : vs.length = ps.length) (hr : Room (k + 1) A)
    (e0 : Env0 P w K mg base A outer s H) (hb : BindsTo s fd ⟨us, []⟩ (ps.zip us)) (r : Vals vs us)
    (hbody : ∀ cdv : Value, Room k (A.deeper (envOfC qual scope s.heap.objs.size f cdv)) → ∃ t, PSs (cxOf CX0 P w K mg base N qual scope f cdv A outer s H E) body t ∧ t { nx := fun _ H' => Q .non H', rt := Q } (start N vs) H) :
    codeAny (model P w) A (.call (.ref f) ⟨us, []⟩) (CR CX0 outer P w H s Q E) s := by
  obtain ⟨oc, od, dV, kV, doc, pm, an, cdv, ct, osl, e, lk, hcd, _, _⟩ := F.ex
  subst e
  have old : ∀ b o, base.get? b = some o → s.heap.get? b = some o := fun b o q => (e0.bs b o q).1
  have KS := e0.mod.kin.keeps old
  have hk : ∀ y ∈ ps.zip us, scope.names.lookup y.1 = some .local ∨ (scope.names.lookup y.1 = some .cell ∧ ((cellsFrom (s.heap.objs.size + 1) scope.names []).lookup y.1).isSome = true) := by
    intro y hy
    obtain ⟨z, v⟩ := y
    have hz := (List.of_mem_zip hy).1
    exact (S.par z hz).imp id fun q => ⟨q, PySem.W.cellsFrom_some _ _ _ (.inl q)⟩
  refine codeAny_call_function hr.depth (KS _ _ lk) rfl S.co S.gen rfl (PySem.W.codeRec_of KS hcd) (hb _ _ _ _ (wpAny_newFunctionEnv_cells S.kind hk fun env he s1 q => ?_))
  subst he
  have lim := (e0.mod.nolimit.keeps old).keeps q.toInCall.keep
  obtain ⟨t, ht, hq⟩ := hbody cdv (hr.deeper _)
  have I := inv_start (CX := CX0) (P := P) (w := w) (K := K) (mg := mg) (base := base) (qual := qual) (f := f) (cd := cdv) (E := E) S hr.hd e0 hl r q
  refine ⟨lim, codeAny_func (wpAny_mono (ht.run [] s1 (start N vs) H _ I hq) (fun fl s' hs => ?_) fun _ _ z => z)⟩
  rcases fl with _ | u | _ | _
  · obtain ⟨σ', H', J, q'⟩ := hs
    exact (⟨V.non, H', J.os, J.bare, J.base, J.hok, rfl, q'⟩ : CE outer P w H s Q Value.none s')
  · first
      | (obtain ⟨v, σ', H', J, rv, q'⟩ := hs; exact (⟨v, H', J.os, J.bare, J.base, J.hok, rv, q'⟩ : CE outer P w H s Q u s'))
      | (obtain ⟨_, _, _, q'⟩ := hs; exact q'.elim)
  all_goals first
    | (obtain ⟨_, _, _, q'⟩ := hs; exact q'.elim)
    | (obtain ⟨v, σ', H', J, rv, q'⟩ := hs; exact (⟨v, H', J.os, J.bare, J.base, J.hok, rv, q'⟩ : CE outer P w H s Q _ s'))
end
section
variable {P : Program} {w : World} {K : PySem.W.Frag} {mg mb : Str → Option Value} {fa a : Addr} {s₁ : Shared} {vs : List Value} {ns : List Int} {H : Hp}
/-- the law's call behind the top: nothing is tracked but, perhaps, the script -/
theorem law_at (KX : K.In s₁.heap) (hns : s₁.heap.Ns mainGlobals mg) (hb : s₁.heap.Ns builtinsNs mb) (hbb : ∀ x : Str, x ≠ "__name__" → mb x = bootBuiltins x) (hlim : s₁.heap.NoLimit) (hg : s₁.gens = #[])
    (ha : s₁.heap.get? a = some { cls := .type "list", data := .seq vs.toArray }) (hO : Only H) (hok : HOk P w H s₁.heap) (hA : ∀ b, (∃ o, H b = some o) → b = a) (hK : (∃ o, H a = some o) → K.lookup a = none)
    (run : ∀ base : Heap, K.In base → base.Ns mainGlobals mg → Env0 P w K mg base callerA [] s₁ H → codeAny (model P w) callerA (.call (.ref fa) ⟨[.ref a], []⟩) (CR CX0 [] P w H s₁ (fun v _ => v = .bl true) fun _ _ _ => False) s₁) :
    (codeAny (model P w) callerA (.call (.ref fa) ⟨[.ref a], []⟩) (fun r s' => r = .ok (.ret (.bool true)) ∧ OldK s₁.heap s'.heap ∧ s'.os = s₁.os ∧ AllBare s'.gens) s₁) := by
  have free : ∀ {b : Addr} {o : Obj}, s₁.heap.get? b = some o → (b = a → (∃ u, H a = some u) → False) → H b = none := fun {b o} e n => by
    cases q : H b with
    | none => rfl
    | some u => obtain rfl := hA b ⟨u, q⟩; exact (n rfl ⟨u, q⟩).elim
  have dict : ∀ {b : Addr} {m : Str → Option Value}, s₁.heap.Ns b m → (hidT s₁.heap H).Ns b m := fun {b m} ⟨o, es, ep, e, d, r⟩ => by
    refine ⟨o, es, ep, hidT_get e (free e fun z _ => ?_), d, r⟩
    subst z
    rw [ha] at e
    cases e
    cases d
  have KB : K.In (hidT s₁.heap H) := fun b o e => hidT_get (KX b o e) (free (KX b o e) fun z q => by
    subst z
    rw [hK q] at e
    cases e)
  have md : Mod K mg (hidT s₁.heap H) := ⟨KB, dict hns, ⟨mb, dict hb, hbb⟩, hlim.imp fun mc q => ⟨dict q.1, q.2⟩⟩
  have e0 : Env0 P w K mg (hidT s₁.heap H) callerA [] s₁ H := ⟨rfl, md, fun b o e => of_hidT e, Nat.le_of_eq (hidT_size _ _), True.intro, fun b z => (nomatch z), hok, .of_eq hg⟩
  refine codeAny_mono (run _ KB (dict hns) e0) fun r s' h => ?_
  rcases r with e | fl
  · exact (show False from h).elim
  rcases fl with _ | _ | _ | u
  · exact (show False from h).elim
  · exact (show False from h).elim
  · exact (show False from h).elim
  obtain ⟨v, H', os, bare, un, hok', r', q⟩ := h; subst q
  obtain rfl : u = Value.bool true := r'; refine ⟨rfl, OldK.of_keep fun b o e => ?_, os, bare⟩
  rcases (hO b) with z | ⟨ob, xs, z⟩
  · exact un.keep b o e z (fun q => nomatch q) (fun q => nomatch q)
  · have e1 := (hok b _ z).1
    have e2 := (hok' b _ (un.frzs b ob _ z)).1
    rw [e] at e1
    cases e1
    exact e2
end
theorem walk_G {l : PySem.W.OpenLaw} {n : Nat} {q : Program} {loose : List Str} {XP : (Str → Option Value) → Heap → Prop} {YP : World → Heap → Prop} {d : DefRec} (hn : l.most = some n) (hn2 : n ≤ sizeLine) (hdf : d.params.defaults = []) (F : ∀ (w : World) (mg : Str → Option Value) (fa : Addr) (h : Heap), YP w h → h.Ns mainGlobals mg → mg d.name = some (.ref fa) →
      ∃ K : PySem.W.Frag, K.In h ∧ ∀ (s : Shared) (H : Hp) (a : Addr) (ns : List Int), ns.length ≤ n → SqL K H a (ns.map V.int) → ∀ base : Heap, K.In base → base.Ns mainGlobals mg → Env0 l.prog w K mg base callerA [] s H →
        codeAny (model l.prog w) callerA (.call (.ref fa) ⟨[.ref a], []⟩) (CR CX0 [] l.prog w H s (fun v _ => v = .bl true) fun _ _ _ => False) s) :
    (PySem.W.WalkO q loose XP YP l.row.toRowW d [] (fun f vs => PySem.call f vs)) := by
  refine Att.attach_call hn hdf fun w s₀ s₁ mg mb fa o pm cd doc a vs ns G Y ho hd hcd hmg hobj hints hlen hg => ?_; obtain ⟨K, KX, R⟩ := F w mg fa _ Y G.T.g hmg
  have lv := hints.length
  have hsz : ns.length ≤ sizeLine := Nat.le_trans hlen hn2
  cases hk : K.lookup a with
  | some u =>
    have e := KX a u hk
    rw [hobj] at e
    cases e
    exact law_at (H := fun _ => none) KX G.T.g G.T.b G.T.builtins G.T.nolimit hg hobj (fun _ => .inl rfl) (fun _ _ z => nomatch z) (fun _ z => nomatch z) (fun z => nomatch z) fun base hb hbn e0 =>
      R s₁ _ a ns hlen (.inr ⟨_, vs.toArray, _, hk, rfl, rfl, rfl, by rw [List.size_toArray, lv]; exact hsz, vals_ints hints⟩) base hb hbn e0
  | none =>
    have at_ : (fun b => if b = a then some (HO.frz { cls := .type "list", data := .seq vs.toArray } (.lst (ns.map V.int))) else none : Hp) a = some (.frz { cls := .type "list", data := .seq vs.toArray } (.lst (ns.map V.int))) := if_pos rfl
    refine law_at (H := fun b => if b = a then some (HO.frz { cls := .type "list", data := .seq vs.toArray } (.lst (ns.map V.int))) else none) KX G.T.g G.T.b G.T.builtins G.T.nolimit hg hobj (fun b => ?_) (fun b u z => ?_) (fun b z => ?_) (fun _ => hk) fun base hb hbn e0 =>
      R s₁ _ a ns hlen (.inl (.inr ⟨_, at_⟩)) base hb hbn e0
    · by_cases hba : b = a
      · exact .inr ⟨_, _, if_pos hba⟩
      · exact .inl (if_neg hba)
    · by_cases hba : b = a
      · subst hba
        rw [at_] at z
        cases z
        exact ⟨hobj, by rw [List.length_map]; exact hsz, vs, _, vals_ints hints, hobj⟩
      · have z' := (if_neg hba).symm.trans z
        cases z'
    · obtain ⟨u, z⟩ := z
      by_cases hba : b = a
      · exact hba
      · have z' := (if_neg hba).symm.trans z
        cases z'
section
variable {X : Cx} {C : Cfg} {W : XK}
theorem xneg {i : Int} {j} {pos pos2 : Pos} : PE X (.UnaryOp .USub (.Constant (.int i) j pos) pos2) (tE C W (dC (.int (-i)))) :=
  (pe_un un_neg pe_int).by fun σ H Q ⟨M, Γ, S, g, s, q⟩ => ⟨i, rfl, GoodE.ok (C := C) q s (.int (-i))⟩
theorem iFrz_lstV {S : Sto} : ∀ {d : D} {ds : List D}, iFrz d = some ds → lstV S d = some ds
  | .lst _, _, h => h
  | .frl _, _, h => h
/-- a if t else b, as a test -/
def dIfT (ft fa fb : DT) : DT := fun Γ S => (ft Γ S).bind fun c S1 => match c with
  | true => fa Γ S1
  | false => fb Γ S1
def tIfT (t ta tb : TT) : TT := fun σ H Q => t σ H fun c H1 => (c = true → ta σ H1 Q) ∧ (c = false → tb σ H1 Q)
theorem pt_ifT {c a b : Expr} {t ta tb : TT} {pos : Pos} (hc : PT X c t) (ha : PT X a ta) (hb : PT X b tb) : PT X (.IfExp c a b pos) (tIfT t ta tb) := by
  refine ⟨fun pins s σ H Q I h => ?_⟩; have h : t σ H fun c H1 => (c = true → ta σ H1 Q) ∧ (c = false → tb σ H1 Q) := h
  refine isTrue_IfExp (thn (hc.run pins s σ H _ I h) fun d s1 hh => ?_)
  obtain ⟨H1, I1, q1, q2⟩ := hh
  cases d with
  | true => exact ha.run pins s1 σ H1 Q I1 (q1 rfl)
  | false => exact hb.run pins s1 σ H1 Q I1 (q2 rfl)
theorem xifT {c a b : Expr} {ft fa fb : DT} {pos : Pos} (hc : PT X c (tT C W ft)) (ha : PT X a (tT C W fa)) (hb : PT X b (tT C W fb)) : PT X (.IfExp c a b pos) (tT C W (dIfT ft fa fb)) :=
  (pt_ifT hc ha hb).by fun σ H Q ⟨M, Γ, S, g, s, h⟩ => runTB g s h fun M' a S' H' l s' q => by
    cases a with
    | true => exact ⟨fun _ => ⟨M', Γ, S', g.mono l, s', q⟩, fun z => by cases z⟩
    | false => exact ⟨fun z => (nomatch z), fun _ => ⟨M', Γ, S', g.mono l, s', q⟩⟩
/-- a, b, .. = a list that stands still -/
def gUp (n : Nat) (fr : List D → Ga → Sto → Option Ga) : D → Ga → Sto → Option Ga := fun d Γ S => match iFrz d with
  | some ds => (match lenIs n ds with
    | true => fr ds Γ S
    | false => none)
  | none => none
theorem zunl {vs : List Nat} {es : List Expr} {k n : Nat} {pos : Pos} {fr : List D → Ga → Sto → Option Ga} (hK : X.K = C.K) (hc : X.calm = true) (h : TgDs X C es vs fr) (hn : (assignEach es X.env).length = n := by rfl) (hst : (assignEach es X.env).findIdx? (·.1) = none := by rfl) : TgD X C (.Tuple es k pos) vs (gUp n fr) := by
  obtain ⟨t, ht, k1⟩ := h
  refine ⟨gUnl X.K n t, pg_unl hc ht hn hst, fun M S Γ Γ' σ H d v Q g s r e q => ?_⟩
  unfold gUp at e
  split at e
  · rename_i ds e1
    split at e
    · rename_i el
      obtain ⟨a, xs, rfl, ha, rl⟩ := lst_of s r (iFrz_lstV e1)
      exact ⟨a, xs, rfl, hK ▸ ha, by rw [← rl.1]; exact lenIs_ok el, k1 M S Γ Γ' σ H ds xs Q g s rl e q⟩
    · cases e
  · cases e
end
end Pd

/-! max, min of two ints -/
namespace Pd
open L2 PySem PySem.Spec PyProof.Rows

section
variable {X : Cx} {C : Cfg} {W : XK}
theorem two_of {M : Wd} {d e : D} {vs : List V} (r : RepL C M [d, e] vs) : ∃ v u, vs = [v, u] ∧ Rep C M d v ∧ Rep C M e u := by
  obtain ⟨v, us, rfl, h1, h2⟩ := r.cons_inv
  obtain ⟨u, ws, rfl, h3, h4⟩ := h2.cons_inv
  exact ⟨v, u, by rw [h4.nil_inv], h1, h3⟩
def gMax2 : List D → Sto → Res D := fun ds S => match ds with
  | [.int i, .int j] => (match ltB i j with
    | true => .ok (.int j) S
    | false => .ok (.int i) S)
  | _ => .bad
def gMin2 : List D → Sto → Res D := fun ds S => match ds with
  | [.int i, .int j] => (match ltB j i with
    | true => .ok (.int j) S
    | false => .ok (.int i) S)
  | _ => .bad
theorem cMax2 (hc : X.calm = true) : CaD X C W (.builtin "max") gMax2 := by
  refine ⟨_, call_max2 hc, fun M S H ds vs Q s r q => ?_⟩
  unfold gMax2 at q
  split at q
  · rename_i i j
    obtain ⟨v, u, rfl, rd, rv⟩ := two_of r
    cases rd; cases rv
    refine ⟨i, j, rfl, ?_⟩
    rw [ltB_eq] at q
    by_cases h : j > i
    · rw [if_pos h]
      rw [decide_eq_true (show i < j from h)] at q
      exact q.ok s (.int _)
    · rw [if_neg h]
      rw [decide_eq_false (show ¬ i < j from h)] at q
      exact q.ok s (.int _)
  · exact q.elim
theorem cMin2 (hc : X.calm = true) : CaD X C W (.builtin "min") gMin2 := by
  refine ⟨_, call_min2 hc, fun M S H ds vs Q s r q => ?_⟩
  unfold gMin2 at q
  split at q
  · rename_i i j
    obtain ⟨v, u, rfl, rd, rv⟩ := two_of r
    cases rd; cases rv
    refine ⟨i, j, rfl, ?_⟩
    rw [ltB_eq] at q
    by_cases h : j < i
    · rw [if_pos h]
      rw [decide_eq_true h] at q
      exact q.ok s (.int _)
    · rw [if_neg h]
      rw [decide_eq_false h] at q
      exact q.ok s (.int _)
  · exact q.elim
end
end Pd

/-! dict(list of pairs), d.update(list of pairs) -/
namespace Pd
open L2 PySem PySem.Spec PyProof.Rows

def mergeG (eq : Key → Key → Bool) : List (Key × D) → List (Key × D) → List (Key × D)
  | acc, [] => acc
  | acc, (k, d) :: r => mergeG eq (putG eq acc k d) r
def pairsD : List D → Option (List (Key × D))
  | [] => some []
  | .tup [k, v] :: r => (match keyOf k with
    | some key => (match pairsD r with
      | some kds => some ((key, v) :: kds)
      | none => none)
    | none => none)
  | _ => none
def gDictP : List D → Sto → Res D := fun ds S => match ds with
  | [d] => (match lstV S d with
    | some xs => (match pairsD xs with
      | some kds => .ok (.ref S.nx) (S.new (.dct (mergeG eqK [] kds)))
      | none => .bad)
    | none => .bad)
  | _ => .bad
section
variable {X : Cx} {C : Cfg} {W : XK} {M : Wd} {S : Sto} {H : Hp}
theorem mergeG_of : ∀ {kds : List (Key × D)} {kvs : List (Key × V)} {acc : List (Key × D)} {avs : List (Key × V)}, RepG C M acc avs → RepG C M kds kvs → RepG C M (mergeG eqK acc kds) (mergeK avs kvs)
  | [], _, acc, avs, ra, r => by
    rw [r.nil_inv]; exact ra
  | (k, d) :: kds, _, acc, avs, ra, r => by
    obtain ⟨v, rs, rfl, h1, h2⟩ := r.cons_inv
    show RepG C M (mergeG eqK (putG eqK acc k d) kds) (mergeK (putK avs k v) rs)
    exact mergeG_of (putG_of eqK_iff h1 k ra) h2
/-- a list of pairs, in the heap -/
theorem pairsD_of (s : Sim C M S H) : ∀ {ds : List D} {vs : List V} {kds : List (Key × D)}, RepL C M ds vs → pairsD ds = some kds → ∃ (ps : List Addr) (kvs : List (Key × V)), vs = ps.map V.ref ∧ Paired (fun p kv => SqT C.K H p [kV kv.1, kv.2]) ps kvs ∧ RepG C M kds kvs
  | [], vs, kds, r, h => by
    cases h
    exact ⟨[], [], r.nil_inv, .nil, .nil⟩
  | d :: ds, vs, kds, r, h => by
    unfold pairsD at h
    split at h
    · cases ‹_ :: _ = []›
    · rename_i k v rest e
      cases e
      split at h
      · rename_i key ek
        split at h
        · rename_i kds' e2
          cases h
          obtain ⟨x, us, rfl, h1, h2⟩ := r.cons_inv
          obtain ⟨a, ws, rfl, q1, q2⟩ := tup_of s h1 rfl
          obtain ⟨x1, ws1, rfl, p1, p2⟩ := q2.cons_inv
          obtain ⟨x2, ws2, rfl, p3, p4⟩ := p2.cons_inv
          cases p4.nil_inv
          obtain ⟨ps, kvs, e3, e4, e5⟩ := pairsD_of s h2 e2
          have := keyOf_of p1 ek
          subst this
          exact ⟨a :: ps, (key, x2) :: kvs, by rw [e3]; rfl, .cons q1 e4, .cons p3 e5⟩
        · cases h
      · cases h
    · cases h
theorem cDictP (hK : X.K = C.K) (hc : X.calm = true) : CaD X C W (.type "dict") gDictP := by
  refine ⟨_, call_dictP hc, fun M S H ds vs Q s r q => ?_⟩
  rw [hK]
  unfold gDictP at q
  split at q
  · rename_i d
    obtain ⟨v, rfl, rd⟩ := one_of r
    split at q
    · rename_i xs e1
      split at q
      · rename_i kds e2
        obtain ⟨a, us, rfl, h1, h2⟩ := lst_of s rd e1
        obtain ⟨ps, kvs, rfl, h3, h4⟩ := pairsD_of s h2 e2
        exact ⟨a, ps, kvs, rfl, h1, h3, fun p hp => newSto q s ⟨_, rfl, mergeG_of .nil h4⟩ hp⟩
      · exact q.elim
    · exact q.elim
  · exact q.elim
def rUpdP (K : PySem.W.Frag) : V → List V → Hp → VK → Prop := fun x vs H Q => ∃ (d a : Addr) (ps : List Addr) (acc kvs : List (Key × V)), x = .ref d ∧ vs = [.ref a] ∧ H d = some (.dK acc) ∧ SqL K H a (ps.map V.ref) ∧ Paired (fun p kv => SqT K H p [kV kv.1, kv.2]) ps kvs ∧
  acc.length + kvs.length ≤ sizeLine ∧ Q .non (upd H d (.dK (mergeK acc kvs)))
/-- the pairs of a list, as they lie -/
theorem pairs_lie {pins : List (Addr × Obj)} {σ : L2.St} {H : Hp} {s : Shared} (I : Inv X pins σ H s) : ∀ {ps : List Addr} {kvs : List (Key × V)}, Paired (fun p kv => SqT X.K H p [kV kv.1, kv.2]) ps kvs →
    ∃ qs : List (Value × Key × Value), KV kvs (qs.map fun q => (q.2.1, q.2.2)) ∧ qs.length = ps.length ∧ ∀ (j : Nat) (q : Value × Key × Value), qs[j]? = some q → ∃ b : Addr, ps[j]? = some b ∧ s.heap.IsTuple b #[q.1, q.2.2] ∧ keyIs q.2.1 q.1 = true
  | _, (_), .nil => ⟨[], .nil, rfl, fun j q e => by simp at e⟩
  | _, (_), .cons (a := p) (b := kv) h t => by
    obtain ⟨qs, r, hl, hp⟩ := pairs_lie I t
    obtain ⟨its, rv, ht, _⟩ := I.tuple h; obtain ⟨u, y, ei, ru, ry⟩ := vals2 rv
    subst ei
    refine ⟨(u, kv.1, y) :: qs, .cons ⟨rfl, ry⟩ r, by rw [List.length_cons, List.length_cons, hl], fun j q e => ?_⟩
    cases j with
    | zero =>
      cases Option.some.inj e
      exact ⟨p, rfl, ht, kV_is (P := X.prog) (w := X.w) ru⟩
    | succ j => exact hp j q e
theorem dict_ne_list : ¬ Value.type "dict" = Value.type "list" := fun h => by injection h with e; exact absurd e (by decide +kernel)
theorem dict_ne_tuple : ¬ Value.type "dict" = Value.type "tuple" := fun h => by injection h with e; exact absurd e (by decide +kernel)
theorem mt_updP (hc : X.calm = true) : MtR X "dict.update" (rUpdP X.K) := by
  intro pins s σ H x vs v us Q I rx rv h; obtain ⟨d, a, ps, acc, kvs, rfl, rfl, hd, hq, hp, hz, q⟩ := h
  cases rx
  obtain ⟨u, rfl, ru⟩ := rv.one
  cases ru
  obtain ⟨its, rvs, pl, hsz⟩ := I.list hq
  have ei := refs_at rvs
  subst ei
  obtain ⟨qs, rel, hl, hpr⟩ := pairs_lie I hp
  obtain ⟨z, hm, dvs, drel, dd⟩ := dk_of I.hok hd
  have hql : qs.length = kvs.length := by have e := rel.length; rw [List.length_map] at e; exact e.symm
  have PA := PairArg.list (prog := X.prog) (w := X.w) a (ps.map Value.ref).toArray (fun j => ps.getD j 0) (qs.map fun q => (q.1, q.2.2))
  have hps : ∀ j b, ps[j]? = some b → ps.getD j 0 = b := fun j b e => by rw [List.getD_eq_getElem?_getD, e]; rfl
  obtain ⟨od, edct, ep, hod, hex, _⟩ := id dd
  have dcls : od.cls = .type "dict" := hex.1
  obtain ⟨oa, na, hoa, hca, hda, hdat⟩ := pl
  have nea : d ≠ a := fun e => by
    subst e
    rw [hod] at hoa
    cases hoa
    exact dict_ne_list (dcls.symm.trans hca)
  refine call_update_pairs (knd := mixKind X.prog X.w) (acc := dvs) (kvs := qs.map fun q => (q.2.1, q.2.2)) PA (I.ok.hd hc) ⟨⟨oa, na, hoa, hca, hda, hdat⟩, by simp [hl], fun j k v hj => ?_⟩ ?_ ⟨by simp, fun i key v hr => ?_⟩ dd (by rw [List.length_map, hql, ← drel.length]; exact hz) fun h' tk hd' k => ?_
  · obtain ⟨q, hq1, hq2⟩ := Option.map_eq_some_iff.mp ((List.getElem?_map ..).symm.trans hj)
    cases hq2
    obtain ⟨b, e1, e2, e3⟩ := hpr j q hq1
    dsimp only
    rw [hps j b e1]
    exact ⟨by simp [e1], .inl e2⟩
  · intro hmem
    rcases List.mem_cons.mp hmem with e | hmem
    · exact nea e
    · obtain ⟨j, hj, e⟩ := List.mem_map.mp hmem
      have hj : j < qs.length := by have := List.mem_range.mp hj; rw [List.length_map] at this; exact this
      obtain ⟨b, e1, e2, _⟩ := hpr j _ (List.getElem?_eq_getElem hj)
      rw [hps j b e1] at e
      subst e
      obtain ⟨ob, hob, hcb, _⟩ := e2
      rw [hod] at hob
      cases hob
      exact dict_ne_tuple (dcls.symm.trans hcb)
  · obtain ⟨q, hq1, hq2⟩ := Option.map_eq_some_iff.mp ((List.getElem?_map ..).symm.trans hr)
    cases hq2
    obtain ⟨b, e1, e2, e3⟩ := hpr i q hq1
    exact ⟨q.2.1, by rw [List.getElem?_map, hq1]; rfl, e3⟩
  · have hz' : (mergeK acc kvs).length ≤ sizeLine := Nat.le_trans (length_mergeK kvs acc) hz
    have he : ∃ o, h'.get? d = some o := let ⟨o, _, _, h1, _⟩ := hd'; ⟨o, h1⟩
    exact ⟨.non, _, I.write (x := d) (e := d) (by rw [hd]; exact True.intro) (.inl rfl) (fun b o hb e => k b o hb (fun z => nomatch z) e) he (dk_new hz' hm (KV.merge rel drel) hd'), rfl, q⟩
/-- d.update(list of pairs), d a dict of the store -/
def gUpdP : D → List D → Sto → Res D := fun d ds S => match d with
  | .ref n => (match S.at n with
    | some (.dct acc) => (match ds with
      | [x] => (match lstV S x with
        | some xs => (match pairsD xs with
          | some kds => guard (lineOk (acc.length + kds.length)) (.ok .non (S.set n (.dct (mergeG eqK acc kds))))
          | none => .bad)
        | none => .bad)
      | _ => .bad)
    | _ => .bad)
  | _ => .bad
def isDs (S : Sto) (d : D) : Bool := match d with
  | .ref n => (match S.at n with
    | some (.dct _) => true
    | _ => false)
  | _ => false
theorem dsto_of {n : Nat} {acc : List (Key × D)} {x : V} (s : Sim C M S H) (r : Rep C M (.ref n) x) (h : S.at n = some (.dct acc)) : ∃ a avs, M.mu n = some a ∧ x = .ref a ∧ H a = some (.dK avs) ∧ RepG C M acc avs := by
  cases r
  rename_i a hm
  obtain ⟨b, o, h1, h2, _, h3⟩ := s.al n _ h
  rw [hm] at h1
  cases h1
  obtain ⟨avs, rfl, q⟩ := h3
  exact ⟨a, avs, hm, rfl, h2, q⟩
theorem ty_ds : TyD C "dict" isDs := fun M S H d x s r h => by
  unfold isDs at h
  split at h
  · rename_i n
    split at h
    · rename_i acc e
      obtain ⟨a, avs, _, rfl, h2, _⟩ := dsto_of s r e
      exact .inr (.inr (.inl ⟨rfl, .inl ⟨avs, h2⟩⟩))
    · cases h
  · cases h
theorem mUpdP (hK : X.K = C.K) (hc : X.calm = true) : MtD X C W "dict.update" gUpdP := by
  refine ⟨_, mt_updP hc, fun M S H d ds x vs Q s r rl q => ?_⟩
  rw [hK]
  unfold gUpdP at q
  split at q
  · rename_i n
    split at q
    · rename_i acc e
      obtain ⟨a, avs, hm, rfl, h2, ra⟩ := dsto_of s r e
      split at q
      · rename_i y
        obtain ⟨v, rfl, ry⟩ := one_of rl
        split at q
        · rename_i xs e1
          split at q
          · rename_i kds e2
            obtain ⟨g, q⟩ := guard_ok q
            obtain ⟨b, us, rfl, h3, h4⟩ := lst_of s ry e1
            obtain ⟨ps, kvs, rfl, h5, h6⟩ := pairsD_of s h4 e2
            refine ⟨a, b, ps, avs, kvs, rfl, rfl, h2, h3, h5, ?_, q.wrote s e hm ⟨_, rfl, mergeG_of ra h6⟩ .non⟩
            have l1 := ra.length
            have l2 := h6.length
            rw [← l1, ← l2]
            exact lineOk_ok g
          · exact q.elim
        · exact q.elim
      · exact q.elim
    · exact q.elim
  · exact q.elim
end
end Pd

/-! a, b, c = x, y, z -/
namespace Pd
open L2 PySem PySem.Spec PyProof.Rows
section
variable {X : Cx} {C : Cfg} {W : XK}
def sParB (fr : DA) (i j l : Nat) : DS := fun Γ S => (fr Γ S).then fun ds S1 => match ds with
  | [d, e, f] => .nx (((Γ.set i (some d)).set j (some e)).set l (some f)) S1
  | _ => .bad
theorem ypar3 {i j l : Nat} {x y z : Str} {a b c : Expr} {fr : DA} {px py pz pt pos : Pos} {kt k2 pt2} (hc : X.calm = true) (hN : X.N.Nodup) (hi : X.N[i]? = some x) (hj : X.N[j]? = some y) (hl : X.N[l]? = some z) (hij : i ≠ j) (hil : i ≠ l) (hjl : j ≠ l)
    (hx : X.env.scope.names.lookup x = some .local) (hy : X.env.scope.names.lookup y = some .local) (hz : X.env.scope.names.lookup z = some .local) (ha : PA X [a, b, c] (tA C W fr))
    (hw : swappedStores [.Tuple [.Name x px, .Name y py, .Name z pz] kt pt] (.Tuple [a, b, c] k2 pt2) X.env = pure (some [x, y, z])) (hs : swapsWithSole [.Tuple [.Name x px, .Name y py, .Name z pz] kt pt] (.Tuple [a, b, c] k2 pt2) pos.line X.env = pure false := by rfl) :
    PS X (.Assign [.Tuple [.Name x px, .Name y py, .Name z pz] kt pt] (.Tuple [a, b, c] k2 pt2) pos) (tS C W (sParB fr i j l)) :=
  (ps_par3 hc hN hi hj hl hij hil hjl hx hy hz ha hw hs).by fun D σ H ⟨M, Γ, S, g, s, h⟩ => runAS g s h fun M1 ds S1 xs H1 l1 s1 r1 h1 => by
    split at h1
    · rename_i d e f
      obtain ⟨v, us, rfl, q1, r2⟩ := r1.cons_inv
      obtain ⟨u, us', rfl, q2, r3⟩ := r2.cons_inv
      obtain ⟨t, us'', rfl, q3, r4⟩ := r3.cons_inv
      rw [r4.nil_inv]
      exact ⟨v, u, t, rfl, h1.nxt ((((g.mono l1).set q1 i).set q2 j).set q3 l) s1⟩
    · exact h1.elim
end
end Pd

/-! dict(d), sorted(d), del d[k], d.pop(k); own classes: isinstance, own __eq__, own __len__ -/
namespace Pd
open L2 PySem PySem.Spec PyProof.Rows

/-! ### dicts -/
def gDictC : List D → Sto → Res D := fun ds S => match ds with
  | [d] => (match dctV S d with
    | some kds => .ok (.ref S.nx) (S.new (.dct kds))
    | none => .bad)
  | _ => .bad
def intK : List (Key × D) → Option (List Int)
  | [] => some []
  | (.inl i, _) :: r => (match intK r with
    | some is => some (i :: is)
    | none => none)
  | (.inr _, _) :: _ => none
def gSortedD : List D → Sto → Res D := fun ds S => match ds with
  | [d] => (match dctV S d with
    | some kds => (match intK kds with
      | some ns => (match Nat.blt ns.length 64 with
        | true => .ok (.ref S.nx) (S.new (.lst (tupI (sortS ns))))
        | false => .bad)
      | none => .bad)
    | none => .bad)
  | _ => .bad
def dropG : List (Key × D) → Key → List (Key × D)
  | [], _ => []
  | (k0, d) :: r, k => (match eqK k0 k with
    | true => dropG r k
    | false => (k0, d) :: dropG r k)
def fDel (o i : D) (S : Sto) : Option Sto := match o with
  | .ref n => (match S.at n with
    | some (.dct kds) => (match keyOf i with
      | some k => (match lookK kds k with
        | some _ => some (S.set n (.dct (dropG kds k)))
        | none => none)
      | none => none)
    | _ => none)
  | _ => none
def sDel (fo fi : DE) : DS := fun Γ S => (fo Γ S).then fun o S1 => (fi Γ S1).then fun i S2 => match fDel o i S2 with
  | some S3 => .nx Γ S3
  | none => .bad
def isDct (S : Sto) (d : D) : Bool := match d with
  | .ref n => (match S.at n with
    | some (.dct _) => true
    | _ => false)
  | _ => false
def fDPop (o i : D) (S : Sto) : Res D := match o with
  | .ref n => (match S.at n with
    | some (.dct kds) => (match keyOf i with
      | some k => (match lookK kds k with
        | some d => .ok d (S.set n (.dct (dropG kds k)))
        | none => .bad)
      | none => .bad)
    | _ => .bad)
  | _ => .bad
def dDPop (fo fi : DE) : DE := fun Γ S => (fo Γ S).bind fun o S1 => guard (isDct S1 o) ((fi Γ S1).bind fun i S2 => fDPop o i S2)
section
variable {X : Cx} {C : Cfg} {W : XK}
theorem intK_of : ∀ {kds : List (Key × D)} {ns : List Int}, intK kds = some ns → kds.map (·.1) = ns.map Sum.inl
  | [], ns, h => by cases h; rfl
  | (.inl i, d) :: r, ns, h => by
    unfold intK at h
    split at h
    · rename_i is e
      cases h
      simp [intK_of e]
    · cases h
  | (.inr _, _) :: _, _, h => by cases h
theorem call_dictC : CallR X (.type "dict") (fun xs H Q => ∃ (a : Addr) (kvs : List (Key × V)), xs = [.ref a] ∧ Rd H a (.dK kvs) ∧ ∀ p, H p = none → Q (.ref p) (upd H p (.dK kvs))) := by
  intro pins s σ H xs us Q I r q; obtain ⟨a, kvs, ex, hd, q⟩ := q
  subst ex
  obtain ⟨u, eu, rx⟩ := vals1 r
  subst eu
  cases rx
  exact d_copyOf I hd fun p s' hp I' => ⟨.ref p, _, I', rfl, q p hp⟩
theorem cDictC (hK : X.K = C.K) : CaD X C W (.type "dict") gDictC := by
  refine ⟨_, call_dictC, fun M S H ds vs Q s r q => ?_⟩
  unfold gDictC at q
  split at q
  · rename_i d
    split at q
    · rename_i kds e1
      obtain ⟨v, rfl, rd⟩ := one_of r
      obtain ⟨a, us, rfl, ha, rl⟩ := dct_of s rd e1
      exact ⟨a, us, rfl, ha, fun p hp => newSto q s ⟨_, rfl, rl⟩ hp⟩
    · exact q.elim
  · exact q.elim
theorem cSortedD (hK : X.K = C.K) (hc : X.calm = true) : CaD X C W (.builtin "sorted") gSortedD := by
  refine ⟨_, call_sortedDI hc, fun M S H ds vs Q s r q => ?_⟩
  unfold gSortedD at q
  split at q
  · rename_i d
    split at q
    · rename_i xs e1
      split at q
      · rename_i ns e2
        split at q
        · rename_i e3
          obtain ⟨v, rfl, rd⟩ := one_of r
          obtain ⟨a, us, rfl, ha, rl⟩ := dct_of s rd e1
          refine ⟨a, us, ns, rfl, ha, rl.1.symm.trans (intK_of e2), Nat.le_of_ble_eq_true e3, fun ms p h1 h2 hp => ?_⟩
          have e4 : ms = sortS ns := (h1.trans (sortS_perm ns).symm).eq_of_pairwise (le := fun a b => a ≤ b) (fun a b _ _ h1 h2 => Int.le_antisymm h1 h2) h2 (sortS_asc ns)
          subst e4
          exact newSto q s ⟨_, rfl, tupI_of _⟩ hp
        · exact q.elim
      · exact q.elim
    · exact q.elim
  · exact q.elim
theorem dropG_of {M : Wd} (k : Key) : ∀ {kds : List (Key × D)} {kvs : List (Key × V)}, RepG C M kds kvs → RepG C M (dropG kds k) (dropK kvs k)
  | [], _, r => by rw [r.nil_inv]; exact .nil
  | (k0, d) :: rs, _, r => by
    obtain ⟨v, ps, rfl, h1, h2⟩ := r.cons_inv
    have ih := dropG_of k h2
    unfold dropG
    cases e : eqK k0 k with
    | true =>
      have e' : k0 = k := (eqK_iff k0 k).mp e
      subst e'
      have : dropK ((k0, v) :: ps) k0 = dropK ps k0 := by unfold dropK; rw [List.filter_cons_of_neg (by simp)]
      rw [this]; exact ih
    | false =>
      have e' : k0 ≠ k := fun z => by rw [(eqK_iff k0 k).mpr z] at e; cases e
      have : dropK ((k0, v) :: ps) k = (k0, v) :: dropK ps k := by unfold dropK; rw [List.filter_cons_of_pos (by simpa using e')]
      rw [this]; exact .cons h1 ih
theorem ydel {o i : Expr} {fo fi : DE} {pos tpos : Pos} (ho : PE X o (tE C W fo)) (hi : PE X i (tE C W fi)) : PS X (.Delete [.Subscript o i tpos] pos) (tS C W (sDel fo fi)) :=
  (ps_ddel ho hi).by fun D σ H ⟨M, Γ, S, g, s, h⟩ => run1S g s h fun M1 o S1 x H1 l1 s1 r1 h1 =>
    run1S (g.mono l1) s1 h1 fun M2 i S2 y H2 l2 s2 r2 h2 => by
      split at h2
      · rename_i S3 e3
        unfold fDel at e3
        split at e3
        · rename_i n
          split at e3
          · rename_i kds e4
            split at e3
            · rename_i k ek
              split at e3
              · rename_i d el
                cases e3
                obtain ⟨a, avs, hm, rfl, h3, ra⟩ := dsto_of s2 (r1.mono l2) e4
                have h5 := lookK_of k ra
                rw [el] at h5
                obtain ⟨v, hv, rv⟩ := h5
                exact ⟨a, avs, k, rfl, h3, keyOf_of r2 ek, by rw [hv]; rfl, h2.nxt (g.mono (l1.trans l2)) (s2.write e4 hm ⟨_, rfl, dropG_of k ra⟩)⟩
              · cases e3
            · cases e3
          · cases e3
        · cases e3
      · exact h2.elim
theorem xdpop {o e : Expr} {fo fi : DE} {apos cpos : Pos} (ho : PE X o (tE C W fo)) (hi : PE X e (tE C W fi)) (m : L2.M1 X o "pop" apos e cpos) : PE X (.Call (.Attribute o "pop" apos) [e] [] cpos) (tE C W (dDPop fo fi)) :=
  (pe_dpop1 ho hi m).by fun σ H Q ⟨M, Γ, S, g, s, h⟩ => run1 g s h fun M1 o S1 x H1 l1 s1 r1 h1 => by
    obtain ⟨gd, h1⟩ := guard_ok h1
    have hp : ∃ a, x = .ref a ∧ IsD H1 a := by
      unfold isDct at gd
      split at gd
      · rename_i n
        split at gd
        · rename_i kds e
          obtain ⟨a, avs, _, rfl, h2, _⟩ := dsto_of s1 r1 e
          exact ⟨a, rfl, .inl ⟨avs, .inl h2⟩⟩
        · cases gd
      · cases gd
    obtain ⟨a, rfl, ha⟩ := hp
    refine ⟨a, rfl, ha, run1 (g.mono l1) s1 h1 fun M2 b S2 y H2 l2 s2 r2 h2 => ?_⟩
    unfold fDPop at h2
    split at h2
    · rename_i n
      split at h2
      · rename_i kds e4
        split at h2
        · rename_i k ek
          split at h2
          · rename_i d el
            obtain ⟨a', avs, hm, e5, h3, ra⟩ := dsto_of s2 (r1.mono l2) e4
            cases e5
            have h5 := lookK_of k ra
            rw [el] at h5
            obtain ⟨v, hv, rv⟩ := h5
            exact ⟨avs, k, v, h3, keyOf_of r2 ek, hv, h2.wrote s2 e4 hm ⟨_, rfl, dropG_of k ra⟩ rv⟩
          · exact h2.elim
        · exact h2.elim
      · exact h2.elim
    · exact h2.elim
end

/-! ### l.pop(i) -/
def gPopAt : D → List D → Sto → Res D := fun d ds S => onL d S fun n xs => match ds with
  | [.int (.ofNat k)] => guard (Nat.blt k 1000000) (match nthD xs k with
      | some z => .ok z (S.set n (.lst (xs.eraseIdx k)))
      | none => .bad)
  | _ => .bad
section
variable {X : Cx} {C : Cfg} {W : XK}
theorem RepL.erase {M : Wd} {ds : List D} {vs : List V} (r : RepL C M ds vs) : ∀ k : Nat, RepL C M (ds.eraseIdx k) (vs.eraseIdx k) := by
  induction ds generalizing vs with
  | nil => intro k; rw [r.nil_inv]; exact .nil
  | cons d ds ih =>
    intro k
    obtain ⟨v, us, rfl, h1, h2⟩ := r.cons_inv
    cases k with
    | zero => exact h2
    | succ k => exact .cons h1 (ih h2 k)
theorem seqIx {k n : Nat} (h : k < n) : seqIndex? (Int.ofNat k) n = some k := by
  unfold seqIndex?
  have h0 : ¬ (Int.ofNat k < 0) := by show ¬ ((k : Nat) : Int) < 0; omega
  dsimp only
  rw [if_neg h0]
  have h1 : (0 : Int) ≤ Int.ofNat k := by show (0 : Int) ≤ ((k : Nat) : Int); omega
  have h2 : Int.ofNat k < (n : Int) := by show ((k : Nat) : Int) < n; omega
  simp [h]
theorem mPopAt : MtD X C W "list.pop" gPopAt := by
  refine ⟨_, mt_popAt, fun M S H d ds x vs Q s r rl q => ?_⟩
  obtain ⟨n, xs, a, us, e, hm, rfl, h2, rx, q⟩ := onL_of s r q
  split at q
  · rename_i k q0
    obtain ⟨g, q⟩ := guard_ok q
    split at q
    · rename_i z ez
      obtain ⟨v, rfl, rv⟩ := one_of rl
      cases rv
      have hz : xs[k]? = some z := (nthD_eq xs k).symm.trans ez
      obtain ⟨y, hy, ry⟩ := rx.get hz
      have hb : k < 1000000 := Nat.le_of_ble_eq_true g
      have hk : k < us.length := by
        rcases Nat.lt_or_ge k us.length with h | h
        · exact h
        · rw [List.getElem?_eq_none h] at hy; cases hy
      refine ⟨a, us, Int.ofNat k, k, y, rfl, rfl, h2, ?_, ?_, seqIx hk, hy, q.wrote s e hm ⟨_, rfl, rx.erase k⟩ ry⟩
      · show -(2 ^ 63) ≤ ((k : Nat) : Int); omega
      · show ((k : Nat) : Int) < 2 ^ 63; omega
    · exact q.elim
  · exact q.elim
end

/-! ### list(text) -/
def gListT : List D → Sto → Res D := fun ds S => match ds with
  | [.str x] => guard (lineOk x.cps.size) (.ok (.ref S.nx) (S.new (.lst (signs x.cps.toList))))
  | _ => .bad
section
variable {X : Cx} {C : Cfg} {W : XK}
def sgV (x : Str) : List V := x.cps.toList.map fun c => V.str ⟨#[c]⟩
theorem call_listTx (hc : X.calm = true) : CallR X (.type "list") (fun xs H Q => ∃ x : Str, xs = [.str x] ∧ x.cps.size ≤ sizeLine ∧ ∀ q, H q = none → Q (.ref q) (upd H q (.lst (sgV x)))) := by
  intro pins s σ H xs us Q I r q; obtain ⟨x, rfl, hz, q⟩ := q
  obtain ⟨u, eu, rx⟩ := vals1 r
  subst eu
  obtain ⟨t, rfl⟩ := (show ∃ t, u = Value.str x t from rx)
  have hl : (sgV x).length = x.cps.size := by unfold sgV; simp
  refine call_list_str (I.ok.hd hc) x t (hn := hz) fun h' tk acc c' hk e hi => ?_
  refine ⟨.ref s.heap.objs.size, upd H s.heap.objs.size (.lst (sgV x)), I.laid hk (Nat.le_refl _) ⟨by rw [hl]; exact hz, acc.toList, c', ?_, by rw [Array.toArray_toList]; exact e⟩, rfl, q _ (I.hok.fresh (Nat.le_refl _))⟩
  refine vals_of_idx _ _ (by rw [hl, Array.length_toList]; exact hi.1) fun j u hj => ?_
  obtain ⟨c, t', hc, rfl⟩ := hi.2 j u (by rw [← Array.getElem?_toList]; exact hj); exact ⟨.str ⟨#[c]⟩, by unfold sgV; simp [hc], ⟨_, rfl⟩⟩
theorem signs_rep {M : Wd} : ∀ l : List Nat, RepL C M (signs l) (l.map fun c => V.str ⟨#[c]⟩)
  | [] => .nil
  | c :: r => .cons (.str _) (signs_rep r)
theorem cListT (hc : X.calm = true) : CaD X C W (.type "list") gListT := by
  refine ⟨_, call_listTx hc, fun M S H ds vs Q s r q => ?_⟩
  unfold gListT at q
  split at q
  · rename_i x
    obtain ⟨g, q⟩ := guard_ok q
    obtain ⟨v, rfl, rd⟩ := one_of r
    cases rd
    exact ⟨x, rfl, lineOk_ok g, fun p hp => newSto q s ⟨_, rfl, signs_rep _⟩ hp⟩
  · exact q.elim
end

/-! ### own classes -/
abbrev bCls : Value := .builtin "object.__class__"
def obt (a : Option Bool) (b : Bool) : Bool := match a with
  | some c => eqBl c b
  | none => false
theorem obt_ok {a : Option Bool} {b : Bool} (h : obt a b = true) : a = some b := by
  unfold obt at h
  split at h
  · rename_i c
    cases c <;> cases b <;> first | rfl | cases h
  · cases h
def TK.all : List TK := [.non, .bl, .int, .str, .tup, .lst, .dct]
theorem TK.mem (k : TK) : k ∈ TK.all := by cases k <;> simp [TK.all]
structure OwnC (K : PySem.W.Frag) (c : Addr) : Prop where
  cl : Cls K c
  ha : PySem.W.findIn K (.ref c) "__class__" = some (some bCls)
  hn : PySem.W.specialIn K bCls "__get__" = some (some (.builtin "getset_descriptor.__get__"))
  htk : PySem.W.takesIn K bCls = some true
  hm : PySem.W.mroIn K c (.type "object") = some true
  ot : ∀ k : TK, PySem.W.kitCls K (.type k.nm) (.ref c) = some false
def ownB (K : PySem.W.Frag) (c : Addr) : Bool := PySem.W.plainGet K c Str.empty && (PySem.W.hasDictIn K c && (PySem.W.plainOver K c && (He.eqO (PySem.W.findIn K (.ref c) "__setattr__") (some (some (.builtin "object.__setattr__"))) &&
  (He.eqO (PySem.W.findIn K (.ref c) "__class__") (some (some bCls)) && (He.eqO (PySem.W.specialIn K bCls "__get__") (some (some (.builtin "getset_descriptor.__get__"))) && (obt (PySem.W.takesIn K bCls) true && (obt (PySem.W.mroIn K c (.type "object")) true &&
  TK.all.all fun k => obt (PySem.W.kitCls K (.type k.nm) (.ref c)) false)))))))
theorem ownB_ok {K : PySem.W.Frag} {c : Addr} (h : ownB K c = true) : OwnC K c := by
  obtain ⟨h1, h⟩ := Bool.and_eq_true_iff.mp h; obtain ⟨h2, h⟩ := Bool.and_eq_true_iff.mp h
  obtain ⟨h3, h⟩ := Bool.and_eq_true_iff.mp h
  obtain ⟨h4, h⟩ := Bool.and_eq_true_iff.mp h
  obtain ⟨h5, h⟩ := Bool.and_eq_true_iff.mp h
  obtain ⟨h6, h⟩ := Bool.and_eq_true_iff.mp h
  obtain ⟨h7, h⟩ := Bool.and_eq_true_iff.mp h
  obtain ⟨h8, h⟩ := Bool.and_eq_true_iff.mp h
  exact ⟨⟨h1, h2, h3, He.eqO_ok h4⟩, He.eqO_ok h5, He.eqO_ok h6, obt_ok h7, obt_ok h8, fun k => obt_ok (List.all_eq_true.mp h k k.mem)⟩
/-- whether it is an instance of the class c -/
def ownIs (c : Nat) (S : Sto) (d : D) : Option Bool := match insV S d with
  | some (c', _) => (match Nat.beq c' c with
    | true => some true
    | false => none)
  | none => (match tkOf S d with
    | some _ => some false
    | none => none)
section
variable {X : Cx} {C : Cfg} {W : XK} {M : Wd} {S : Sto} {H : Hp}
theorem kit_self {K : PySem.W.Frag} {c : Addr} : PySem.W.kitOne K (.ref c) (.ref c) = some true := by
  unfold PySem.W.kitOne
  rw [if_pos (by simp)]
theorem kit_other {K : PySem.W.Frag} {c : Addr} (o : OwnC K c) (k : TK) : PySem.W.kitOne K (.type k.nm) (.ref c) = some false := by
  unfold PySem.W.kitOne
  rw [if_neg (by simp), o.ot k]
theorem sub_other {K : PySem.W.Frag} {c : Addr} (o : OwnC K c) (k : TK) : PySem.W.subIn K (.type k.nm) (.ref c) = some false := by
  have h := o.ot k
  unfold PySem.W.kitCls at h
  dsimp only at h
  split at h
  · exact h
  · cases h
theorem ownIs_of {c : Nat} {d : D} {x : V} {b : Bool} (o : OwnC C.K (C.ga c)) (s : Sim C M S H) (r : Rep C M d x) (h : ownIs c S d = some b) :
    ∃ t, TyZ C.K H x t ∧ PySem.W.kitOne C.K t (.ref (C.ga c)) = some b ∧ PySem.W.notFirst C.K (C.ga c) t = true := by
  unfold ownIs at h
  split at h
  · rename_i c' fs e
    split at h
    · rename_i e2
      cases h
      have := Nat.eq_of_beq_eq_true e2
      subst this
      obtain ⟨a, dx, fv, rfl, ha, rf⟩ := ins_of s r e
      exact ⟨_, .x (.base (.ins ha o.cl o.ha o.hn o.htk o.hm)), kit_self, by unfold PySem.W.notFirst; simp⟩
    · cases h
  · split at h
    · rename_i k e
      cases h
      refine ⟨_, tkOf_of s r e, kit_other o k, ?_⟩
      unfold PySem.W.notFirst
      rw [sub_other o k]
      simp
    · cases h
def dIsO (c : Nat) (fa : DE) : DE := fun Γ S => (fa Γ S).bind fun d S1 => match ownIs c S1 d with
  | some b => .ok (.bl b) S1
  | none => .bad
theorem xisO {e ce : Expr} {fa : DE} {p pos : Pos} {c : Nat} (hK : X.K = C.K) (o : OwnC C.K (C.ga c)) (hg : Gl X "isinstance") (hm : X.mg "isinstance" = none) (ha : PE X e (tE C W fa)) (hc : PE X ce (tC (.ref (C.ga c))))
    (he : starEach [e, ce] X.env = (false, eval e X.env) :: starEach [ce] X.env := by rfl) (he2 : starEach [ce] X.env = (false, eval ce X.env) :: starEach [] X.env := by rfl) (hpl : (backTo pos (starEach [ce] X.env)).any (·.1) = false := by rfl) :
    PE X (.Call (.Name "isinstance" p) [e, ce] [] pos) (tE C W (dIsO c fa)) :=
  (pe_callB call_isZ hg hm (by rfl) (pa_cons ha (pa_cons hc pa_nil he2) he) (by decide) (by decide) he hpl).by fun σ H Q ⟨M, Γ, S, g, s, h⟩ => run1 g s h fun M1 d S1 x H1 l1 s1 r1 h1 => by
    split at h1
    · rename_i b e
      obtain ⟨t, h2, h3, _⟩ := ownIs_of o s1 r1 e
      exact ⟨x, _, t, _, b, rfl, .own _, hK ▸ h2, hK ▸ h3, h1.ok s1 (.bl _)⟩
    · exact h1.elim
/-- a class of the module as a value -/
theorem xclsv {x : Str} {a : Addr} {pos : Pos} (hg : Gl X x) (hm : X.mg x = some (.ref a)) (hd : (x == ("__debug__" : Str)) = false := by decide) : PE X (.Name x pos) (tC (.ref a)) := pe_glob (v := .ref a) hg hm rfl hd
theorem looks_ty {pins : List (Addr × Obj)} {s : Shared} {σ : L2.St} {H : Hp} {y : V} {u t : Value} (I : Inv X pins σ H s) (r : RelV y u) (ty : TyZ X.K H y t) : PySem.W.Looks (model X.prog X.w) s.heap (typeOf u) t := by
  cases ty with
  | x ty =>
    obtain ⟨P, Z, p, _⟩ := kit_of I r ty
    exact Z.ty _ _ I.kIn p
  | @f a ob kvs ha =>
    cases (show u = Value.ref a from r)
    obtain ⟨_, _, _, xs, _, o, es, ep, g1, g2, _⟩ := (show ObjOk X.prog X.w H s.heap a (.frz ob (.dT kvs)) from I.hok a _ ha)
    exact PySem.W.kitx_dict.ty _ _ I.kIn ⟨o, g1, g2.1⟩
/-- x == y by the own __eq__ of x's class -/
def rOEq (C : Cfg) (c : Nat) (sp : Sp) (W : XK) : R2 := fun x y H Q => ∃ a dx fs t, x = .ref a ∧ H a = some (.ins (C.ga c) dx fs) ∧ TyZ C.K H y t ∧ PySem.W.notFirst C.K (C.ga c) t = true ∧ sp [x, y] H (fun v H' => (∃ b, v = .bl b) ∧ Q v H') W
def blOnly (r : Res D) : Res D := r.bind fun d S => match d with
  | .bl b => .ok (.bl b) S
  | _ => .bad
def fOEq (c : Nat) (fe : List D → Sto → Res D) : D → D → Sto → Res D := fun a b S => match insV S a with
  | some (c', _) => guard (Nat.beq c' c) (match ownIs c S b with
    | some _ => blOnly (fe [a, b] S)
    | none => .bad)
  | none => .bad
theorem GoodE.blOnly {r : Res D} {Q : VK} (h : GoodE C M (blOnly r) Q W) : GoodE C M r (fun v H => (∃ b, v = .bl b) ∧ Q v H) W := by
  unfold Pd.blOnly at h
  cases r with
  | bad => exact h
  | exc c fs S => exact h
  | ok d S =>
    cases d with
    | bl b =>
      intro M' v H' l s r
      cases r
      exact ⟨⟨b, rfl⟩, h M' _ H' l s (.bl b)⟩
    | _ => exact False.elim h
theorem op_oeq {k : Nat} {f : Addr} {c : Nat} {fe : List D → Sto → Res D} (hK : X.K = C.K) (F : OkF X.prog X.w X.K X.mg X.base C k f 2 fe) (hr : Room k X.A) (hm : Meth X.K (C.ga c) "__eq__" f) : OpR X (compareOp .Eq) (rOEq C c (spD C 2 fe) W) := by
  intro pins s σ H x y v u Q I rx ry h; obtain ⟨a, dx, fs, t, rfl, ha, ty, hn, sp⟩ := h
  cases rx
  obtain ⟨fd, ps, F, hk, hb⟩ := F
  obtain ⟨mA, J, _⟩ := ins_get I.hok ha; obtain ⟨od, J, _⟩ := J.look
  obtain ⟨m, hF⟩ := I.fr
  show wpAny (model X.prog X.w) X.A (richCompare .Eq (.ref a) u) (EP X pins σ Q) X.xe s
  refine PySem.W.cmp_K (op := .Eq) (tb := t) hr.units0 hF I.ok.mod.kin J (looks_ty I ry (hK ▸ ty)) (hK ▸ hn) hm.at_ hm.fn ?_
  have hl := F.len _ _ _ _ sp
  have r2 : Vals [V.ref a, y] [Value.ref a, u] := .cons rfl (.cons ry .nil)
  refine wpAny_call (codeAny_mono (F.run X.A X.stack s H ⟨[.ref a, u], []⟩ [.ref a, u] [.ref a, y] _ W hr I.env0 (by
    have := hb s [.ref a, u] I.kIn (by simpa using hl)
    simpa using this) r2 sp) fun r s' hq => ?_)
  cases r with
  | error e => exact pass0 pins σ H s e s' I hq
  | ok fl =>
    cases fl with
    | ret w =>
      obtain ⟨z, H', I', rz, ⟨b, ez⟩, q⟩ := I.after hq
      subst ez
      cases rz
      exact ⟨.bl b, H', I', rfl, q⟩
    | next => exact False.elim hq
    | brk => exact False.elim hq
    | cont => exact False.elim hq
theorem oOEq {k : Nat} {f : Addr} {c : Nat} {fe : List D → Sto → Res D} (hK : X.K = C.K) (o : OwnC C.K (C.ga c)) (F : OkF X.prog X.w X.K X.mg X.base C k f 2 fe) (hr : Room k X.A) (hm : Meth X.K (C.ga c) "__eq__" f) : OpD X C W (compareOp .Eq) (fOEq c fe) := by
  refine ⟨_, op_oeq (W := W) hK F hr hm, fun M S H a b x y Q s ra rb q => ?_⟩
  unfold fOEq at q
  split at q
  · rename_i c' fs e
    obtain ⟨g1, q⟩ := guard_ok q
    have := Nat.eq_of_beq_eq_true g1
    subst this
    obtain ⟨p, dx, fv, rfl, ha, rf⟩ := ins_of s ra e
    split at q
    · rename_i bb e2
      obtain ⟨t, h2, _, h3⟩ := ownIs_of o s rb e2
      exact ⟨p, dx, fv, t, rfl, ha, h2, h3, M, S, [a, b], rfl, s, .cons ra (.cons rb .nil), q.blOnly⟩
    · exact q.elim
  · exact q.elim
/-- len(x) by the own __len__ -/
def smallN (r : Res D) : Res D := r.bind fun d S => match d with
  | .int (.ofNat n) => guard (lineOk n) (.ok (.int n) S)
  | _ => .bad
def gOLen (c : Nat) (fe : List D → Sto → Res D) : List D → Sto → Res D := fun ds S => match ds with
  | [d] => (match insV S d with
    | some (c', _) => guard (Nat.beq c' c) (smallN (fe [d] S))
    | none => .bad)
  | _ => .bad
theorem GoodE.smallN {r : Res D} {Q : VK} (h : GoodE C M (smallN r) Q W) : GoodE C M r (fun v H => (∃ n : Nat, v = .int n ∧ n ≤ 1000000) ∧ Q v H) W := by
  unfold Pd.smallN at h
  cases r with
  | bad => exact h
  | exc c fs S => exact h
  | ok d S =>
    cases d with
    | int i => cases i with
      | ofNat n =>
        obtain ⟨g1, h⟩ := guard_ok (show GoodE C M (guard (lineOk n) (.ok (.int n) S)) Q W from h)
        intro M' v H' l s r
        cases r
        exact ⟨⟨n, rfl, Nat.le_of_ble_eq_true g1⟩, h M' _ H' l s (.int _)⟩
      | negSucc n => exact False.elim h
    | _ => exact False.elim h
theorem call_olen {k : Nat} {f : Addr} {c : Nat} {fe : List D → Sto → Res D} (hK : X.K = C.K) (F : OkF X.prog X.w X.K X.mg X.base C k f 1 fe) (hr : Room (k + 1) X.A) (hm : Meth X.K (C.ga c) "__len__" f) :
    CallR X (.builtin "len") (fun xs H Q => ∃ a dx fs, xs = [.ref a] ∧ H a = some (.ins (C.ga c) dx fs) ∧ spD C 1 fe xs H (fun v H' => (∃ n : Nat, v = .int n ∧ n ≤ 1000000) ∧ Q v H') W) := by
  intro pins s σ H xs us Q I r q; obtain ⟨a, dx, fs, rfl, ha, sp⟩ := q
  obtain ⟨u, eu, rx⟩ := vals1 r
  subst eu
  cases rx
  obtain ⟨fd, ps, F, hk, hb⟩ := F
  obtain ⟨mA, J, _⟩ := ins_get I.hok ha; obtain ⟨od, J, _⟩ := J.look
  obtain ⟨m, hF⟩ := I.fr
  refine PySem.W.len_K hF I.ok.mod.kin J hm.at_ hm.fn ?_
  have e0 : Env0 X.prog X.w X.K X.mg X.base X.A.in1 X.stack s H := by
    have e := I.env0
    exact ⟨e.frames, e.mod, e.bs, e.bsz, e.funs, e.frf, e.hok, e.bare⟩
  have hl := F.len _ _ _ _ sp
  have r2 : Vals [V.ref a] [Value.ref a] := .cons rfl .nil; refine wpAny_call (codeAny_mono (F.run X.A.in1 X.stack s H ⟨[.ref a], []⟩ [.ref a] [.ref a] _ W hr.in1 e0 (by
    have := hb s [.ref a] I.kIn (by simpa using hl)
    simpa using this) r2 sp) fun r s' hq => ?_)
  cases r with
  | error e => exact pass0 pins σ H s e s' I hq
  | ok fl =>
    cases fl with
    | ret w =>
      obtain ⟨z, H', I', rz, ⟨n, ez, hn⟩, q⟩ := I.after hq
      subst ez
      obtain ⟨tk, rfl⟩ := (show ∃ t, w = Value.int n t from rz)
      exact ⟨⟨by omega, by omega⟩, .int n, H', I'.tok _, ⟨_, rfl⟩, q⟩
    | next => exact False.elim hq
    | brk => exact False.elim hq
    | cont => exact False.elim hq
theorem cOLen {k : Nat} {f : Addr} {c : Nat} {fe : List D → Sto → Res D} (hK : X.K = C.K) (F : OkF X.prog X.w X.K X.mg X.base C k f 1 fe) (hr : Room (k + 1) X.A) (hm : Meth X.K (C.ga c) "__len__" f) : CaD X C W (.builtin "len") (gOLen c fe) := by
  refine ⟨_, call_olen (W := W) hK F hr hm, fun M S H ds vs Q s r q => ?_⟩
  unfold gOLen at q
  split at q
  · rename_i d
    split at q
    · rename_i c' fs e
      obtain ⟨g1, q3⟩ := guard_ok q
      have := Nat.eq_of_beq_eq_true g1
      subst this
      obtain ⟨v, rfl, rd⟩ := one_of r
      obtain ⟨p, dx, fv, rfl, ha, rf⟩ := ins_of s rd e
      exact ⟨p, dx, fv, rfl, ha, M, S, [d], rfl, s, .cons rd .nil, q3.smallN⟩
    · exact q.elim
  · exact q.elim
end
end Pd

namespace Lw
open L2 PySem PySem.Spec PyProof.Rows Pd
def top (i : Nat) : Stmt := PySem.Challenge.pw_worldsalone_k26_mappings.main.body.getD i (.Pass ⟨0, 0, 0, 0⟩)
abbrev s14 : Stmt := top 7
def dd14 : He.DefD := ⟨("_law_source", none), "_law_source", "_law_source", defArgs s14, defBody s14, defScope s14, [], []⟩
abbrev s2 : Stmt := inClass (top 5) 0
def dd2 : He.DefD := ⟨("Mapping", some "__init__"), "__init__", "Mapping.__init__", defArgs s2, defBody s2, defScope s2, [], []⟩
abbrev s6 : Stmt := inClass (top 5) 4
def dd6 : He.DefD := ⟨("Mapping", some "widen"), "widen", "Mapping.widen", defArgs s6, defBody s6, defScope s6, [], []⟩
abbrev s12 : Stmt := inClass (top 5) 10
def dd12 : He.DefD := ⟨("Mapping", some "twin"), "twin", "Mapping.twin", defArgs s12, defBody s12, defScope s12, [], []⟩
abbrev s13 : Stmt := inClass (top 5) 11
def dd13 : He.DefD := ⟨("Mapping", some "__eq__"), "__eq__", "Mapping.__eq__", defArgs s13, defBody s13, defScope s13, [], []⟩
abbrev s15 : Stmt := top 8
def dd15 : He.DefD := ⟨("_law_pick", none), "_law_pick", "_law_pick", defArgs s15, defBody s15, defScope s15, [], []⟩
abbrev s11 : Stmt := inClass (top 5) 9
def dd11 : He.DefD := ⟨("Mapping", some "_fall"), "_fall", "Mapping._fall", defArgs s11, defBody s11, defScope s11, [], []⟩
abbrev s7 : Stmt := inClass (top 5) 5
def dd7 : He.DefD := ⟨("Mapping", some "fall_by_cell"), "fall_by_cell", "Mapping.fall_by_cell", defArgs s7, defBody s7, defScope s7, [], []⟩
abbrev s8 : Stmt := inClass (top 5) 6
def dd8 : He.DefD := ⟨("Mapping", some "fall_by_box_frame"), "fall_by_box_frame", "Mapping.fall_by_box_frame", defArgs s8, defBody s8, defScope s8, [], []⟩
abbrev s9 : Stmt := inClass (top 5) 7
def dd9 : He.DefD := ⟨("Mapping", some "fall_writing"), "fall_writing", "Mapping.fall_writing", defArgs s9, defBody s9, defScope s9, [], []⟩
abbrev s10 : Stmt := inClass (top 5) 8
def dd10 : He.DefD := ⟨("Mapping", some "fall_all"), "fall_all", "Mapping.fall_all", defArgs s10, defBody s10, defScope s10, [], []⟩
abbrev s17 : Stmt := top 10
def dd17 : He.DefD := ⟨("_law_fall", none), "_law_fall", "_law_fall", defArgs s17, defBody s17, defScope s17, [], []⟩
abbrev s18 : Stmt := top 11
def dd18 : He.DefD := ⟨("_law_turn", none), "_law_turn", "_law_turn", defArgs s18, defBody s18, defScope s18, [], []⟩
abbrev s5 : Stmt := inClass (top 5) 3
def dd5 : He.DefD := ⟨("Mapping", some "as_dict"), "as_dict", "Mapping.as_dict", defArgs s5, defBody s5, defScope s5, [], []⟩
abbrev s3 : Stmt := inClass (top 5) 1
def dd3 : He.DefD := ⟨("Mapping", some "__len__"), "__len__", "Mapping.__len__", defArgs s3, defBody s3, defScope s3, [], []⟩
abbrev s0 : Stmt := top 1
def dd0 : He.DefD := ⟨("is_number", none), "is_number", "is_number", defArgs s0, defBody s0, defScope s0, [], []⟩
abbrev s1 : Stmt := top 2
def dd1 : He.DefD := ⟨("is_count", none), "is_count", "is_count", defArgs s1, defBody s1, defScope s1, [], []⟩
abbrev s4 : Stmt := inClass (top 5) 2
def dd4 : He.DefD := ⟨("Mapping", some "entry"), "entry", "Mapping.entry", defArgs s4, defBody s4, defScope s4, [], []⟩
abbrev s16 : Stmt := top 9
def dd16 : He.DefD := ⟨("_law_is", none), "_law_is", "_law_is", defArgs s16, defBody s16, defScope s16, [], []⟩
abbrev s19 : Stmt := top 12
def dd19 : He.DefD := ⟨("_law_filled", none), "_law_filled", "_law_filled", defArgs s19, defBody s19, defScope s19, [], []⟩
abbrev s20 : Stmt := top 13
def dd20 : He.DefD := ⟨("law", none), "law", "law", defArgs s20, defBody s20, defScope s20, [], []⟩
def fn : List He.DefD := [dd14, dd2, dd6, dd12, dd13, dd15, dd11, dd7, dd8, dd9, dd10, dd17, dd18, dd5, dd3, dd0, dd1, dd4, dd16, dd19, dd20]
def fa : List He.Fa := [.free "int", .free "abs", .glo "_law_source", .cls "Mapping", .noat "Mapping" "_entries", .mkr "Mapping", .glo "Mapping", .free "range", .free "dict", .free "list", .free "tuple", .str "RIGHTS" (⟨#[114, 119, 120]⟩ : Str), .meth "Mapping" "widen", .meth "Mapping" "twin", .free "isinstance", .meth "Mapping" "__eq__", .free "len", .free "max", .glo "_law_pick", .free "sorted", .meth "Mapping" "_fall", .meth "Mapping" "fall_by_cell", .meth "Mapping" "fall_by_box_frame", .meth "Mapping" "fall_writing", .meth "Mapping" "fall_all", .glo "_law_fall", .glo "_law_turn", .meth "Mapping" "as_dict", .meth "Mapping" "__len__", .free "bool", .glo "is_number", .glo "is_count", .meth "Mapping" "entry", .glo "_law_is", .glo "_law_filled", .glo "law"]
def GN : List Str := (["is_number", "is_count", "_law_source", "_law_pick", "_law_is", "_law_fall", "_law_turn", "_law_filled", "law", "Mapping"] : List Str)
end Lw

namespace Lw
open PySem.W PySem PySem.Calls PyProof.Rows Pd
abbrev R : OpenRow := PySem.W.OpenLaw.row PySem.Challenge.rw_worldsalone_k26_mappings
abbrev qv : Program := view R.prog [13]
def loose : List PySem.Str := (["is_number", "is_count", "RIGHTS", "Mapping", "_law_source", "_law_pick", "_law_is", "_law_fall", "_law_turn", "_law_filled"] : List PySem.Str)
def as : List Addr := ([3, 20, 21, 27, 28, 41, 42, 48, 49, 55, 56, 60, 61, 65, 66, 70, 71, 75, 76, 80, 81, 87, 88, 94, 95, 101, 102, 108, 109, 110, 111, 112, 113, 114, 120, 121, 127, 128, 132, 133, 139, 140, 144, 145, 151, 152, 158, 159] : List Addr)
def kK : D → List (PySem.Str × D)
  | .kdc l => l
  | _ => []
def ts : List He.Tab := []
def gaN (K : PySem.W.Frag) (i : Nat) : Addr := He.ga K (GN.getD i "")
def bs (K : PySem.W.Frag) : Bool := ownB K (He.ga K "Mapping")
noncomputable abbrev ends (w : World) (os : OsState) : Option SharedT := HandSHeadRun.endF (HandSHeadRun.stepQ (HandSHeadRun.denQ HandSHeadRun.tabQ) R.prog w) 20000 R.prog w os
def o1 (s : SharedT) : AlA := obsAG as fa [] ts bs (HandSHeadRun.getT s)
def o2 (s : SharedT) : He.AlD := He.obsD [] (fn.take 10) (He.frG (HandSHeadRun.getT s) as)
def o3 (s : SharedT) : He.AlD := He.obsD [] (fn.drop 10) (He.frG (HandSHeadRun.getT s) as)
theorem run1_false (w : World) : HandSHeadRun.RunEq R qv (hookA as fa [] ts bs) o1 20000 loose (w.withFollow "special-get-raises" false) := by
  intro os
  kernel_rfl
theorem run2_false (w : World) (os : OsState) : (ends (w.withFollow "special-get-raises" false) os).map o2 = some (He.valD (fn.take 10)) := by kernel_rfl
theorem run3_false (w : World) (os : OsState) : (ends (w.withFollow "special-get-raises" false) os).map o3 = some (He.valD (fn.drop 10)) := by kernel_rfl
theorem run1_true (w : World) : HandSHeadRun.RunEq R qv (hookA as fa [] ts bs) o1 20000 loose (w.withFollow "special-get-raises" true) := by
  intro os
  kernel_rfl
theorem run2_true (w : World) (os : OsState) : (ends (w.withFollow "special-get-raises" true) os).map o2 = some (He.valD (fn.take 10)) := by kernel_rfl
theorem run3_true (w : World) (os : OsState) : (ends (w.withFollow "special-get-raises" true) os).map o3 = some (He.valD (fn.drop 10)) := by kernel_rfl
abbrev hk : Hook := hookS as fa fn 10 ts bs
def ob (s : SharedT) : AlS := obsSG as fa fn 10 ts bs (HandSHeadRun.getT s)
theorem ob_eq (s : SharedT) : ob s = hk.obs s.abs := obsSG_eq (HandSHeadRun.getT_eq s)
theorem run_false (w : World) : HandSHeadRun.RunEq R qv hk ob 20000 loose (w.withFollow "special-get-raises" false) := fun os => map_parts (run1_false w os) (run2_false w os) (run3_false w os)
theorem run_true (w : World) : HandSHeadRun.RunEq R qv hk ob 20000 loose (w.withFollow "special-get-raises" true) := fun os => map_parts (run1_true w os) (run2_true w os) (run3_true w os)
theorem run (w : World) : HandSHeadRun.RunEq R qv hk ob 20000 loose w := PySem.W.byRow2 "special-get-raises" (P := fun w => HandSHeadRun.RunEq R qv hk ob 20000 loose w) run_false run_true w
end Lw

namespace Lw
open L2 PySem PySem.Spec PyProof.Rows Pd
def AN : List Str := (["_entries"] : List Str)
def CC (K : PySem.W.Frag) (w : World) : Cfg := ⟨K, w, fun i => He.ga K (GN.getD i ""), AN⟩
structure Ck (K : PySem.W.Frag) (w : World) : Prop where
  tt : True
  own_Mapping : OwnC K (He.ga K "Mapping")
theorem an_nd : AN.Nodup := by decide +kernel
def den14 : DS := (sSeq (sSet (dC (.int 11)) 1) (sSeq (sFor (iAny (dVar 0)) (gN 2) (sSet (d2 fMod (dCB gInt (aCons (d2 fAdd (d2 fAdd (d2 fMul (dVar 1) (dC (.int 69069))) (d2 fMul (dVar 2) (dC (.int 31)))) (dC (.int 5))) aNil)) (dC (.int 2147483629))) 1)) (sRet (dDisp false (pCons (dC (.str (⟨#[99, 101, 108, 108, 115]⟩ : Str))) (dLc keep (iAny (dVar 0)) (gN 2) dYes (dCB gAbs (aCons (dVar 2) aNil)) [2]) (pCons (dC (.str (⟨#[108, 101, 102, 116]⟩ : Str))) (dC (.int 1)) (pCons (dC (.str (⟨#[109, 105, 120, 101, 100]⟩ : Str))) (dVar 1) (pCons (dC (.str (⟨#[116, 117, 114, 110]⟩ : Str))) (dC (.int 0)) pNil))))))))
def f14 : List D → Sto → Res D := dFun 3 den14
def den2 : DS := (sSetA 9 0 (dNewD false) (dVar 0))
def f2 : List D → Sto → Res D := dFun 1 den2
def den6 : DS := (sSeq (sSet (dCB gTuple (aCons (dVar 4) aNil)) 5) (sSeq (sSet (dVar 3) 6) (sSeq (sIf (dAnd (t2 (fInK false) (dVar 1) (dFld 9 0 (dVar 0))) (dAnd (t2 fEqX (d2 fIx (d2 fIx (dFld 9 0 (dVar 0)) (dVar 1)) (dC (.int 0))) (dVar 2)) (t2 fEqX (d2 fIx (d2 fIx (dFld 9 0 (dVar 0)) (dVar 1)) (dC (.int 2))) (dVar 5)))) (sSet (d2 fAdd (d2 fIx (d2 fIx (dFld 9 0 (dVar 0)) (dVar 1)) (dC (.int 1))) (dVar 3)) 6) sNil) (sSeq (sSet (dBM isS gJoin (dC (.str (⟨#[]⟩ : Str))) (aCons (dLc frz (iAny (dC (.str (⟨#[114, 119, 120]⟩ : Str)))) (gN 8) (t2 (fInK false) (dVar 8) (dVar 6)) (dVar 8) [8]) aNil)) 7) (sPut (dTup (aCons (dVar 2) (aCons (dVar 7) (aCons (dVar 5) aNil)))) (dFld 9 0 (dVar 0)) (dVar 1))))))
def f6 : List D → Sto → Res D := dFun 9 den6
def den12 : DS := (sSeq (sSet (dMake 9 1 f2 aNil) 1) (sSeq (sSet (dFrz (dCB gList (aCons (dFld 9 0 (dVar 0)) aNil))) 2) (sSeq (sFor (iAny (dVar 2)) (gN 3) (sSeq (sAsg (d2 fIx (dFld 9 0 (dVar 0)) (dVar 3)) (gTp 3 (gCons (gN 5) (gCons (gN 6) (gCons (gN 7) gNil))))) (sFor (iAny (dVar 6)) (gN 4) (sDrop (dMeth 9 5 f6 (dVar 1) (aCons (dVar 3) (aCons (dVar 5) (aCons (dVar 4) (aCons (dVar 7) aNil))))))))) (sRet (dVar 1)))))
def f12 : List D → Sto → Res D := dFun 8 den12
def den13 : DS := (sRet (dAndV (dIsO 9 (dVar 1)) (d2 fEqX (dFld 9 0 (dVar 0)) (dFld 9 0 (dVar 1)))))
def f13 : List D → Sto → Res D := dFun 2 den13
def den15 : DS := (sSeq (loopW (dAnd (t2 fGt (dVar 1) (dC (.int 1))) (dAnd (t2 fLt (d2 fIx (dVar 0) (dC (.str (⟨#[108, 101, 102, 116]⟩ : Str)))) (dC (.int 2))) (t2 fGt (dCB gLen (aCons (d2 fIx (dVar 0) (dC (.str (⟨#[99, 101, 108, 108, 115]⟩ : Str)))) aNil)) (dC (.int 0))))) (sPut (dBM isL gPop (d2 fIx (dVar 0) (dC (.str (⟨#[99, 101, 108, 108, 115]⟩ : Str)))) aNil) (dVar 0) (dC (.str (⟨#[108, 101, 102, 116]⟩ : Str)))) 100000) (sSeq (sSet (d2 fIx (dVar 0) (dC (.str (⟨#[108, 101, 102, 116]⟩ : Str)))) 2) (sSeq (sIf (dOr (t2 fLt (dVar 1) (dC (.int 2))) (t2 fGt (dVar 2) (dC (.int 1)))) (sSeq (sPut (d2 fDiv (dVar 2) (dCB gMax2 (aCons (dC (.int 1)) (aCons (dVar 1) aNil)))) (dVar 0) (dC (.str (⟨#[108, 101, 102, 116]⟩ : Str)))) (sRet (d2 fMod (dCB gInt (aCons (dVar 2) aNil)) (dCB gMax2 (aCons (dC (.int 1)) (aCons (dVar 1) aNil)))))) sNil) (sSeq (sPut (d2 fAdd (d2 fIx (dVar 0) (dC (.str (⟨#[116, 117, 114, 110]⟩ : Str)))) (dC (.int 1))) (dVar 0) (dC (.str (⟨#[116, 117, 114, 110]⟩ : Str)))) (sSeq (sSet (d2 fMod (dCB gInt (aCons (d2 fAdd (d2 fIx (dVar 0) (dC (.str (⟨#[109, 105, 120, 101, 100]⟩ : Str)))) (d2 fMul (d2 fIx (dVar 0) (dC (.str (⟨#[116, 117, 114, 110]⟩ : Str)))) (dC (.int 104729)))) aNil)) (dC (.int 998244353))) 3) (sSeq (sSet (d2 fMod (dCB gInt (aCons (d2 fAdd (d2 fMul (dVar 3) (dVar 3)) (d2 fMul (d2 fIx (dVar 0) (dC (.str (⟨#[116, 117, 114, 110]⟩ : Str)))) (dC (.int 17)))) aNil)) (dC (.int 2147483647))) 3) (sRet (d2 fMod (dCB gInt (aCons (d2 fDiv (dVar 3) (dC (.int 16))) aNil)) (dVar 1)))))))))
def f15 : List D → Sto → Res D := dFun 4 den15
def den11 : DS := (sSeq (sFor (iAny (dVar 1)) (gN 2) (sDel (dFld 9 0 (dVar 0)) (dVar 2))) (sRet (dCB gSorted (aCons (dVar 1) aNil))))
def f11 : List D → Sto → Res D := dFun 3 den11
def den7 : DS := (sSeq (sSet (dCB gTuple (aCons (dVar 1) aNil)) 2) (sRet (dMeth 9 2 f11 (dVar 0) (aCons (dLc frz (iAny (dFld 9 0 (dVar 0))) (gN 3) (t2 fEqX (d2 fIx (d2 fIx (dFld 9 0 (dVar 0)) (dVar 3)) (dC (.int 2))) (dVar 2)) (dVar 3) [3]) aNil))))
def f7 : List D → Sto → Res D := dFun 4 den7
def den8 : DS := (sRet (dMeth 9 2 f11 (dVar 0) (aCons (dLc frz (iAny (dFld 9 0 (dVar 0))) (gN 2) (t2 fEqX (d2 fIx (d2 fIx (dFld 9 0 (dVar 0)) (dVar 2)) (dC (.int 0))) (dVar 1)) (dVar 2) [2]) aNil)))
def f8 : List D → Sto → Res D := dFun 3 den8
def den9 : DS := (sSeq (sSet (dLc frz (iAny (dFld 9 0 (dVar 0))) (gN 3) (t2 fEqX (d2 fIx (d2 fIx (dFld 9 0 (dVar 0)) (dVar 3)) (dC (.int 0))) (dVar 1)) (dVar 3) [3]) 2) (sRet (dMeth 9 2 f11 (dVar 0) (aCons (dLc frz (iAny (dVar 2)) (gN 3) (t2 (fInK false) (dC (.str (⟨#[119]⟩ : Str))) (d2 fIx (d2 fIx (dFld 9 0 (dVar 0)) (dVar 3)) (dC (.int 1)))) (dVar 3) [3]) aNil))))
def f9 : List D → Sto → Res D := dFun 4 den9
def den10 : DS := (sRet (dMeth 9 2 f11 (dVar 0) (aCons (dFrz (dCB gList (aCons (dFld 9 0 (dVar 0)) aNil))) aNil)))
def f10 : List D → Sto → Res D := dFun 1 den10
def den17 : DS := (sSeq (sSet (dLstM aNil) 4) (sSeq (sFor (iNo (aBind (aCons (dC (.int 8)) aNil) rng1)) (gN 5) (sIf (t2 (fInK false) (dVar 5) (dVar 1)) (sSeq (sAsg (d2 fIx (dVar 1) (dVar 5)) (gTp 3 (gCons (gN 8) (gCons (gN 9) (gCons (gN 10) gNil))))) (sSeq (sSet (dLst (aCons (d2 fEqX (dVar 10) (dVar 3)) (aCons (d2 fEqX (dVar 8) (dVar 3)) (aCons (dAndV (d2 fEqX (dVar 8) (dVar 3)) (d2 (fInK false) (dC (.str (⟨#[119]⟩ : Str))) (dVar 9))) (aCons (dC (.bl true)) aNil))))) 7) (sIf (dTr (d2 fIx (dVar 7) (dVar 2))) (sDrop (dBM isL gAppend (dVar 4) (aCons (dVar 5) aNil))) sNil))) sNil)) (sSeq (sFor (iAny (dVar 4)) (gN 5) (sDrop (dDPop (dVar 1) (dVar 5)))) (sSeq (sSet (dLstM aNil) 6) (sSeq (sIf (t2 fEqX (dVar 2) (dC (.int 0))) (sSet (dMeth 9 2 f7 (dVar 0) (aCons (dVar 3) aNil)) 6) (sIf (t2 fEqX (dVar 2) (dC (.int 1))) (sSet (dMeth 9 2 f8 (dVar 0) (aCons (dVar 3) aNil)) 6) (sIf (t2 fEqX (dVar 2) (dC (.int 2))) (sSet (dMeth 9 2 f9 (dVar 0) (aCons (dVar 3) aNil)) 6) (sSet (dMeth 9 1 f10 (dVar 0) aNil) 6)))) (sSeq (sIf (t2 fNeX (dVar 6) (dVar 4)) (sRet (dC (.bl false))) sNil) (sSeq (sDrop (dBM isL gAppend (dVar 6) (aCons (dC .non) aNil))) (sRet (dC (.bl true))))))))))
def f17 : List D → Sto → Res D := dFun 11 den17
def den18 : DS := (sSeq (sSet (dCall 2 f15 (aCons (dVar 0) (aCons (dC (.int 8)) aNil))) 3) (sSeq (sParA (aCons (dCall 2 f15 (aCons (dVar 0) (aCons (dC (.int 3)) aNil))) (aCons (dCall 2 f15 (aCons (dVar 0) (aCons (dC (.int 5)) aNil))) aNil)) 5 6) (sSeq (sSet (dTup (aCons (dCall 2 f15 (aCons (dVar 0) (aCons (dC (.int 2)) aNil))) (aCons (dVar 6) aNil))) 4) (sSeq (sIf (t2 fGt (dVar 3) (dC (.int 3))) (sSeq (sSet (d2 fIx (dC (.str (⟨#[114, 119, 120]⟩ : Str))) (dCall 2 f15 (aCons (dVar 0) (aCons (dC (.int 3)) aNil)))) 7) (sSeq (sSet (dGet1 (dVar 2) (dVar 6)) 8) (sSeq (sSet (dVar 7) 9) (sSeq (sIf (dAnd (t2 fIsntX (dVar 8) (dC .non)) (dAnd (t2 fEqX (d2 fIx (dVar 8) (dC (.int 0))) (dVar 5)) (t2 fEqX (d2 fIx (dVar 8) (dC (.int 2))) (dVar 4)))) (sSet (dBM isS gJoin (dC (.str (⟨#[]⟩ : Str))) (aCons (dLc frz (iAny (dC (.str (⟨#[114, 119, 120]⟩ : Str)))) (gN 10) (t2 (fInK false) (dVar 10) (d2 fAdd (d2 fIx (dVar 8) (dC (.int 1))) (dVar 7))) (dVar 10) [10]) aNil)) 9) sNil) (sSeq (sPut (dTup (aCons (dVar 5) (aCons (dVar 9) (aCons (dVar 4) aNil)))) (dVar 2) (dVar 6)) (sRet (d2 fIsX (dMeth 9 5 f6 (dVar 1) (aCons (dVar 6) (aCons (dVar 5) (aCons (dVar 7) (aCons (dVar 4) aNil))))) (dC .non)))))))) sNil) (sSeq (sIf (dAnd (t2 fEqX (dVar 3) (dC (.int 3))) (t2 fGt (dCall 2 f15 (aCons (dVar 0) (aCons (dC (.int 3)) aNil))) (dC (.int 0)))) (sRet (dC (.bl true))) sNil) (sRet (dCall 4 f17 (aCons (dVar 1) (aCons (dVar 2) (aCons (dVar 3) (aCons (dIf (t2 fEqX (dVar 3) (dC (.int 0))) (dVar 4) (dVar 5)) aNil)))))))))))
def f18 : List D → Sto → Res D := dFun 11 den18
def den5 : DS := (sRet (dDc false keep (iAny (dCB gSortedD (aCons (dFld 9 0 (dVar 0)) aNil))) (gN 1) dYes (dVar 1) (dSl (d2 fIx (dFld 9 0 (dVar 0)) (dVar 1)) oNone (oSome (dC (.int 2)))) [1]))
def f5 : List D → Sto → Res D := dFun 2 den5
def den3 : DS := (sRet (dCB gLen (aCons (dFld 9 0 (dVar 0)) aNil)))
def f3 : List D → Sto → Res D := dFun 1 den3
def den0 : DS := (sRet (dAndV (dIsi .int (dVar 0)) (dNotV (dIsi .bl (dVar 0)))))
def f0 : List D → Sto → Res D := dFun 1 den0
def den1 : DS := (sRet (dAndV (dCall 1 f0 (aCons (dVar 0) aNil)) (d2 fGe (dVar 0) (dC (.int 0)))))
def f1 : List D → Sto → Res D := dFun 1 den1
def den4 : DS := (sRet (dIf (dTr (dCall 1 f1 (aCons (dVar 1) aNil))) (dGet2 (dFld 9 0 (dVar 0)) (dVar 1) (dC .non)) (dC .non)))
def f4 : List D → Sto → Res D := dFun 2 den4
def den16 : DS := (sSeq (sFor (iNo (aBind (aCons (dC (.int 2)) aNil) rng1)) (gN 2) (sSeq (sSet (dMeth 9 1 f5 (dVar 0) aNil) 5) (sSeq (sIf (t2 fNeX (dVar 5) (dFrz (dCB gDictP (aCons (dLc frz (iAny (dVar 1)) (gN 3) dYes (dTup (aCons (dVar 3) (aCons (dFrz (dSl (d2 fIx (dVar 1) (dVar 3)) oNone (oSome (dC (.int 2))))) aNil))) [3]) aNil)))) (sRet (dC (.bl false))) sNil) (sSeq (sIf (t2 fNeX (dCB (gOLen 9 f3) (aCons (dVar 0) aNil)) (dCB gLen (aCons (dVar 1) aNil))) (sRet (dC (.bl false))) sNil) (sSeq (sIf (t2 fNeX (dFrz (dCB gList (aCons (dVar 5) aNil))) (dLc frz (iNo (aBind (aCons (dC (.int 8)) aNil) rng1)) (gN 3) (t2 (fInK false) (dVar 3) (dVar 1)) (dVar 3) [3])) (sRet (dC (.bl false))) sNil) (sPut (dC .non) (dVar 5) (dC (.int 9)))))))) (sSeq (sFor (iNo (aBind (aCons (dC (.int 9)) aNil) rng1)) (gN 3) (sIf (t2 fNeX (dMeth 9 2 f4 (dVar 0) (aCons (dVar 3) aNil)) (dGet1 (dVar 1) (dVar 3))) (sRet (dC (.bl false))) sNil)) (sSeq (sFor (iAny (dLst (aCons (dC .non) (aCons (dC (.str (⟨#[48]⟩ : Str))) (aCons (dC (.bl true)) (aCons (dC (.bl false)) (aCons (dC (.int (-1))) (aCons (dLst (aCons (dC (.int 0)) aNil)) (aCons (dFrz (dNewD false)) (aCons (dTup (aCons (dC (.int 0)) aNil)) aNil)))))))))) (gN 4) (sIf (t2 fIsntX (dMeth 9 2 f4 (dVar 0) (aCons (dVar 4) aNil)) (dC .non)) (sRet (dC (.bl false))) sNil)) (sRet (dC (.bl true))))))
def f16 : List D → Sto → Res D := dFun 6 den16
def den19 : DS := (sSeq (sParA (aCons (dMake 9 1 f2 aNil) (aCons (dCB gList (aCons (dVar 1) aNil)) aNil)) 3 4) (sSeq (sFor (iNo (aBind (aCons (dCB gLen (aCons (dVar 1) aNil)) aNil) rng1)) (gN 2) (sSeq (sSet (dBM isL gPopAt (dVar 4) (aCons (dCall 2 f15 (aCons (dVar 0) (aCons (dCB gLen (aCons (dVar 4) aNil)) aNil))) aNil)) 5) (sSeq (sSet (dCB gListT (aCons (d2 fIx (d2 fIx (dVar 1) (dVar 5)) (dC (.int 1))) aNil)) 6) (sFor (iNo (aBind (aCons (dCB gLen (aCons (dVar 6) aNil)) aNil) rng1)) (gN 7) (sSeq (sSet (dBM isL gPopAt (dVar 6) (aCons (dCall 2 f15 (aCons (dVar 0) (aCons (dCB gLen (aCons (dVar 6) aNil)) aNil))) aNil)) 8) (sDrop (dMeth 9 5 f6 (dVar 3) (aCons (dVar 5) (aCons (d2 fIx (d2 fIx (dVar 1) (dVar 5)) (dC (.int 0))) (aCons (dVar 8) (aCons (d2 fIx (d2 fIx (dVar 1) (dVar 5)) (dC (.int 2))) aNil))))))))))) (sRet (dVar 3))))
def f19 : List D → Sto → Res D := dFun 9 den19
def den20 : DS := (sSeq (sSet (dCall 1 f14 (aCons (dVar 0) aNil)) 1) (sSeq (sParA (aCons (dMake 9 1 f2 aNil) (aCons (dNewD false) aNil)) 5 6) (sSeq (sFor (iNo (aBind (aCons (dC (.int 20)) aNil) rng1)) (gN 2) (sSeq (sParA (aCons (dMeth 9 1 f12 (dVar 5) aNil) (aCons (dCB gDictC (aCons (dVar 6) aNil)) aNil)) 7 8) (sSeq (sIf (dOr (dNot (t2 (fOEq 9 f13) (dVar 7) (dVar 5))) (dNot (dTr (dCall 3 f18 (aCons (dVar 1) (aCons (dVar 5) (aCons (dVar 6) aNil))))))) (sRet (dC (.bl false))) sNil) (sSeq (sIf (dOr (dNot (dTr (dCall 2 f16 (aCons (dVar 5) (aCons (dVar 6) aNil))))) (dNot (dTr (dCall 2 f16 (aCons (dVar 7) (aCons (dVar 8) aNil)))))) (sRet (dC (.bl false))) sNil) (sSeq (sIf (t2 fNeX (d2 (fOEq 9 f13) (dVar 7) (dVar 5)) (d2 fEqX (dVar 8) (dVar 6))) (sRet (dC (.bl false))) sNil) (sSeq (sSet (dMeth 9 1 f12 (dVar 7) aNil) 3) (sSeq (sDrop (dMeth 9 5 f6 (dVar 7) (aCons (dC (.int 7)) (aCons (dC (.int 2)) (aCons (dC (.str (⟨#[120]⟩ : Str))) (aCons (dTup (aCons (dC (.int 0)) (aCons (dC (.int 0)) aNil))) aNil)))))) (sSeq (sParA (aCons (dCall 2 f15 (aCons (dVar 1) (aCons (dC (.int 4)) aNil))) (aCons (dCall 2 f15 (aCons (dVar 1) (aCons (dC (.int 3)) aNil))) aNil)) 9 10) (sSeq (sDrop (dCall 4 f17 (aCons (dVar 3) (aCons (dCB gDictC (aCons (dVar 8) aNil)) (aCons (dVar 9) (aCons (dIf (t2 fEqX (dVar 9) (dC (.int 0))) (dTup (aCons (dC (.int 0)) (aCons (dVar 10) aNil))) (dVar 10)) aNil)))))) (sSeq (sDrop (dMeth 9 1 f10 (dVar 3) aNil)) (sIf (dNot (dTr (dCall 2 f16 (aCons (dVar 5) (aCons (dVar 6) aNil))))) (sRet (dC (.bl false))) sNil))))))))))) (sSeq (sSet (dCall 2 f19 (aCons (dVar 1) (aCons (dVar 6) aNil))) 3) (sSeq (sIf (dOr (dNot (t2 (fOEq 9 f13) (dVar 3) (dVar 5))) (dNot (t2 (fOEq 9 f13) (dVar 5) (dVar 3)))) (sRet (dC (.bl false))) sNil) (sSeq (sDrop (dMeth 9 5 f6 (dVar 3) (aCons (dC (.int 6)) (aCons (dC (.int 0)) (aCons (dC (.str (⟨#[114]⟩ : Str))) (aCons (dTup (aCons (dC (.int 0)) (aCons (dC (.int 6)) aNil))) aNil)))))) (sSeq (sIf (t2 (fOEq 9 f13) (dVar 3) (dVar 5)) (sRet (dC (.bl false))) sNil) (sSeq (sFor (iAny (dLst (aCons (dC .non) (aCons (dFrz (dNewD false)) (aCons (dVar 6) (aCons (dC (.int 0)) aNil)))))) (gN 4) (sIf (t2 (fOEq 9 f13) (dVar 5) (dVar 4)) (sRet (dC (.bl false))) sNil)) (sRet (d2 (fOEq 9 f13) (dMake 9 1 f2 aNil) (dMake 9 1 f2 aNil)))))))))))
def f20 : List D → Sto → Res D := dFun 11 den20
section
variable {P : Program} {w : World} {K : PySem.W.Frag} {mg : Str → Option Value} {base h0 : Heap}
theorem sc14 : FnScope ["_law_script", "_law_mixed", "_law_cell"] ["_law_script"] (defScope s14) := ⟨rfl, rfl, rfl, by decide +kernel, rfl, by decide +kernel, by decide +kernel⟩
theorem ok14 (KX : K.In h0) (G : h0.Ns mainGlobals mg) (c : He.SaysD fa fn K) (ck : Ck K w) : OkF P w K mg base (CC K w) 1 (He.ga K "_law_source") 1 f14 := by
  obtain ⟨fd, F⟩ := c.def_ 0 (d := dd14) rfl
  have sc := sc14
  refine okf (N := ["_law_script", "_law_mixed", "_law_cell"]) (ps := ["_law_script"]) (k := 0) (fb := den14) F sc rfl (FunD.bindsN F fun _ _ _ _ _ _ us hl => match us, hl with | [_], _ => rfl) fun cdv A outer s H E hr => ?_
  exact PSs.nox (ycons (yset sc.nd (i := 1) rfl (.inl rfl) xint) (ycons (yfor PassesOwn.never rfl (wany rfl (xv 0)) (vs := [2]) (zname (i := 2) sc.nd rfl (.inl rfl) (by decide)) (yone (yset sc.nd (i := 1) rfl (.inl rfl) (xbin oMod (xct cInt rfl (He.free_ok KX G (c.fact 0 rfl)) rfl (xacons (xbin (oAdd rfl) (xbin (oAdd rfl) (xbin oMul (xv 1) xint) (xbin oMul (xv 2) xint)) xint) xanil)) xint)))) (yone (yret (xdisp false hr.units0 (ppcons (xstr rfl) (xlc fin_keep rfl sc.nd (wany rfl (xv 0)) (own := [("_law_cell", 2)]) (blk_of (by kernel_rfl)) (uname (i := 2) (fun _ _ _ _ _ => pg_name sc.nd rfl (.inl rfl)) (by decide)) (fun _ _ _ _ _ => xtnil) (fun _ _ _ _ _ => (xcb cAbs rfl (He.free_ok KX G (c.fact 1 rfl)) rfl (xacons (xv 2) xanil)))) (ppcons (xstr rfl) xint (ppcons (xstr rfl) (xv 1) (ppcons (xstr rfl) xint ppnil)))))))))
theorem sc2 : FnScope ["self"] ["self"] (defScope s2) := ⟨rfl, rfl, rfl, by decide +kernel, rfl, by decide +kernel, by decide +kernel⟩
theorem ok2 (KX : K.In h0) (G : h0.Ns mainGlobals mg) (c : He.SaysD fa fn K) (ck : Ck K w) : OkF P w K mg base (CC K w) 1 (He.ma K (He.ga K "Mapping") "__init__") 1 f2 := by
  obtain ⟨fd, F⟩ := c.def_ 1 (d := dd2) rfl
  have sc := sc2
  refine okf (N := ["self"]) (ps := ["self"]) (k := 0) (fb := den2) F sc rfl (FunD.bindsN F fun _ _ _ _ _ _ us hl => match us, hl with | [_], _ => rfl) fun cdv A outer s H E hr => ?_
  exact PSs.nox (yone (yseta (c := 9) (j := 0) rfl an_nd rfl (He.cls_ok (c.fact 3 rfl)) (He.noat_ok (c.fact 4 rfl)) (xnewd false) (xv 0)))
theorem sc6 : FnScope ["self", "page", "box_frame", "right", "cell", "rests_on", "rights", "in_order", "letter"] ["self", "page", "box_frame", "right", "cell"] (defScope s6) := ⟨rfl, rfl, rfl, by decide +kernel, rfl, by decide +kernel, by decide +kernel⟩
theorem ok6 (KX : K.In h0) (G : h0.Ns mainGlobals mg) (c : He.SaysD fa fn K) (ck : Ck K w) : OkF P w K mg base (CC K w) 1 (He.ma K (He.ga K "Mapping") "widen") 5 f6 := by
  obtain ⟨fd, F⟩ := c.def_ 2 (d := dd6) rfl
  have sc := sc6
  refine okf (N := ["self", "page", "box_frame", "right", "cell", "rests_on", "rights", "in_order", "letter"]) (ps := ["self", "page", "box_frame", "right", "cell"]) (k := 0) (fb := den6) F sc rfl (FunD.bindsN F fun _ _ _ _ _ _ us hl => match us, hl with | [_, _, _, _, _], _ => rfl) fun cdv A outer s H E hr => ?_
  exact PSs.nox (ycons (yset sc.nd (i := 5) rfl (.inl rfl) (xct (cTuple rfl) rfl (He.free_ok KX G (c.fact 10 rfl)) rfl (xacons (xv 4) xanil))) (ycons (yset sc.nd (i := 6) rfl (.inr rfl) (xv 3)) (ycons (yif (PW.pt (xand (xtcmp (oIn rfl rfl hr.units1) (xv 1) (xfld (c := 9) (j := 0) rfl an_nd rfl (He.cls_ok (c.fact 3 rfl)) (He.noat_ok (c.fact 4 rfl)) (xv 0)) (by rfl)) (xand (xtcmp (oEqX rfl hr.units65) (xix rfl rfl hr.units1 (xix rfl rfl hr.units1 (xfld (c := 9) (j := 0) rfl an_nd rfl (He.cls_ok (c.fact 3 rfl)) (He.noat_ok (c.fact 4 rfl)) (xv 0)) (xv 1) (by intro _ _; rfl)) xint (by intro _ _; rfl)) (xv 2) (by rfl)) (pw_and1 (xtcmp (oEqX rfl hr.units65) (xix rfl rfl hr.units1 (xix rfl rfl hr.units1 (xfld (c := 9) (j := 0) rfl an_nd rfl (He.cls_ok (c.fact 3 rfl)) (He.noat_ok (c.fact 4 rfl)) (xv 0)) (xv 1) (by intro _ _; rfl)) xint (by intro _ _; rfl)) (xv 5) (by rfl)))))) (yone (yset sc.nd (i := 6) rfl (.inr rfl) (xbin (oAdd rfl) (xix rfl rfl hr.units1 (xix rfl rfl hr.units1 (xfld (c := 9) (j := 0) rfl an_nd rfl (He.cls_ok (c.fact 3 rfl)) (He.noat_ok (c.fact 4 rfl)) (xv 0)) (xv 1) (by intro _ _; rfl)) xint (by intro _ _; rfl)) (xv 3)))) ynil) (ycons (yset sc.nd (i := 7) rfl (.inl rfl) (xbm rfl PySem.F.plainAttrs_str PySem.F.slot_str_join PySem.F.type_str_join (mJoin rfl) ty_str (xstr rfl) (xacons (xlc fin_frz rfl sc.nd (wany rfl (xgstr rfl (He.str_ok KX G (c.fact 11 rfl)))) (own := [("letter", 8)]) (blk_of (by kernel_rfl)) (uname (i := 8) (fun _ _ _ _ _ => pg_name sc.nd rfl (.inl rfl)) (by decide)) (fun _ _ _ _ _ => (xtone (xtcmp (oIn rfl rfl hr.units1) (xv 8) (xv 6) (by rfl)))) (fun _ _ _ _ _ => (xv 8))) xanil))) (yone (yput hr.units1 (xtup (xacons (xv 2) (xacons (xv 7) (xacons (xv 5) xanil)))) (xfld (c := 9) (j := 0) rfl an_nd rfl (He.cls_ok (c.fact 3 rfl)) (He.noat_ok (c.fact 4 rfl)) (xv 0)) (xv 1)))))))
theorem sc12 : FnScope ["self", "other", "pages", "page", "right", "box_frame", "rights", "cell"] ["self"] (defScope s12) := ⟨rfl, rfl, rfl, by decide +kernel, rfl, by decide +kernel, by decide +kernel⟩
theorem ok12 (KX : K.In h0) (G : h0.Ns mainGlobals mg) (c : He.SaysD fa fn K) (ck : Ck K w) : OkF P w K mg base (CC K w) 3 (He.ma K (He.ga K "Mapping") "twin") 1 f12 := by
  obtain ⟨fd, F⟩ := c.def_ 3 (d := dd12) rfl
  have sc := sc12
  refine okf (N := ["self", "other", "pages", "page", "right", "box_frame", "rights", "cell"]) (ps := ["self"]) (k := 2) (fb := den12) F sc rfl (FunD.bindsN F fun _ _ _ _ _ _ us hl => match us, hl with | [_], _ => rfl) fun cdv A outer s H E hr => ?_
  exact PSs.nox (ycons (yset sc.nd (i := 1) rfl (.inl rfl) (zmake0 (c := 9) (He.mkr_ok (c.fact 5 rfl)) (ok2 KX G c ck) (hr.mono (by decide)) rfl (He.glo_ok KX G (c.fact 6 rfl)))) (ycons (yset sc.nd (i := 2) rfl (.inl rfl) (xfrz (xct (cList rfl rfl) rfl (He.free_ok KX G (c.fact 9 rfl)) rfl (xacons (xfld (c := 9) (j := 0) rfl an_nd rfl (He.cls_ok (c.fact 3 rfl)) (He.noat_ok (c.fact 4 rfl)) (xv 0)) xanil)))) (ycons (yfor PassesOwn.never rfl (wany rfl (xv 2)) (vs := [3]) (zname (i := 3) sc.nd rfl (.inl rfl) (by decide)) (ycons (yasg (xix rfl rfl hr.units1 (xfld (c := 9) (j := 0) rfl an_nd rfl (He.cls_ok (c.fact 3 rfl)) (He.noat_ok (c.fact 4 rfl)) (xv 0)) (xv 3) (by intro _ _; rfl)) (vs := [5, 6, 7]) (ztup rfl rfl (zscons (zname (i := 5) sc.nd rfl (.inl rfl) (by decide)) (zscons (zname (i := 6) sc.nd rfl (.inl rfl) (by decide)) (zscons (zname (i := 7) sc.nd rfl (.inl rfl) (by decide)) zsnil))))) (yone (yfor PassesOwn.never rfl (wany rfl (xv 6)) (vs := [4]) (zname (i := 4) sc.nd rfl (.inl rfl) (by decide)) (yone (ydrop (zmeth (c := 9) (show ("widen" : Str) ∉ AN from by decide +kernel) (xv 1) (He.cls_ok (c.fact 3 rfl)) (He.meth_ok (c.fact 12 rfl)) (ok6 KX G c ck) (hr.mono (by decide)) (xacons (xv 3) (xacons (xv 5) (xacons (xv 4) (xacons (xv 7) xanil))))))))))) (yone (yret (xv 1))))))
theorem sc13 : FnScope ["self", "other"] ["self", "other"] (defScope s13) := ⟨rfl, rfl, rfl, by decide +kernel, rfl, by decide +kernel, by decide +kernel⟩
theorem ok13 (KX : K.In h0) (G : h0.Ns mainGlobals mg) (c : He.SaysD fa fn K) (ck : Ck K w) : OkF P w K mg base (CC K w) 1 (He.ma K (He.ga K "Mapping") "__eq__") 2 f13 := by
  obtain ⟨fd, F⟩ := c.def_ 4 (d := dd13) rfl
  have sc := sc13
  refine okf (N := ["self", "other"]) (ps := ["self", "other"]) (k := 0) (fb := den13) F sc rfl (FunD.bindsN F fun _ _ _ _ _ _ us hl => match us, hl with | [_, _], _ => rfl) fun cdv A outer s H E hr => ?_
  exact PSs.nox (yone (yret (xandV rfl (xisO (c := 9) rfl ck.own_Mapping rfl (He.free_ok KX G (c.fact 14 rfl)) (xv 1) (xclsv rfl (He.glo_ok KX G (c.fact 6 rfl)))) (pe_one (xcmp (oEqX rfl hr.units65) (xfld (c := 9) (j := 0) rfl an_nd rfl (He.cls_ok (c.fact 3 rfl)) (He.noat_ok (c.fact 4 rfl)) (xv 0)) (xfld (c := 9) (j := 0) rfl an_nd rfl (He.cls_ok (c.fact 3 rfl)) (He.noat_ok (c.fact 4 rfl)) (xv 1)) (by rfl))))))
theorem sc15 : FnScope ["_law_source_here", "_law_many", "_law_left", "_law_mixed"] ["_law_source_here", "_law_many"] (defScope s15) := ⟨rfl, rfl, rfl, by decide +kernel, rfl, by decide +kernel, by decide +kernel⟩
theorem ok15 (KX : K.In h0) (G : h0.Ns mainGlobals mg) (c : He.SaysD fa fn K) (ck : Ck K w) : OkF P w K mg base (CC K w) 1 (He.ga K "_law_pick") 2 f15 := by
  obtain ⟨fd, F⟩ := c.def_ 5 (d := dd15) rfl
  have sc := sc15
  refine okf (N := ["_law_source_here", "_law_many", "_law_left", "_law_mixed"]) (ps := ["_law_source_here", "_law_many"]) (k := 0) (fb := den15) F sc rfl (FunD.bindsN F fun _ _ _ _ _ _ us hl => match us, hl with | [_, _], _ => rfl) fun cdv A outer s H E hr => ?_
  exact PSs.nox (ycons (ywhile 100000 PassesOwn.never (PW.pt (xand (xtcmp oGt (xv 1) xint (by rfl)) (xand (xtcmp oLt (xix rfl rfl hr.units1 (xv 0) (xstr rfl) (by intro _ _; rfl)) xint (by rfl)) (pw_and1 (xtcmp oGt (xcb (cLen rfl) rfl (He.free_ok KX G (c.fact 16 rfl)) rfl (xacons (xix rfl rfl hr.units1 (xv 0) (xstr rfl) (by intro _ _; rfl)) xanil)) xint (by rfl)))))) (yone (yput hr.units1 (xbm0 rfl PySem.F.plainAttrs_list PySem.F.slot_list_pop PySem.F.type_list_pop mPop ty_lst (xix rfl rfl hr.units1 (xv 0) (xstr rfl) (by intro _ _; rfl))) (xv 0) (xstr rfl)))) (ycons (yset sc.nd (i := 2) rfl (.inl rfl) (xix rfl rfl hr.units1 (xv 0) (xstr rfl) (by intro _ _; rfl))) (ycons (yif (PW.pt (xor (xtcmp oLt (xv 1) xint (by rfl)) (pw_or1 (xtcmp oGt (xv 2) xint (by rfl))))) (ycons (yput hr.units1 (xbin oDiv (xv 2) (xcb (cMax2 rfl) rfl (He.free_ok KX G (c.fact 17 rfl)) rfl (xacons xint (xacons (xv 1) xanil)))) (xv 0) (xstr rfl)) (yone (yret (xbin oMod (xct cInt rfl (He.free_ok KX G (c.fact 0 rfl)) rfl (xacons (xv 2) xanil)) (xcb (cMax2 rfl) rfl (He.free_ok KX G (c.fact 17 rfl)) rfl (xacons xint (xacons (xv 1) xanil))))))) ynil) (ycons (yput hr.units1 (xbin (oAdd rfl) (xix rfl rfl hr.units1 (xv 0) (xstr rfl) (by intro _ _; rfl)) xint) (xv 0) (xstr rfl)) (ycons (yset sc.nd (i := 3) rfl (.inl rfl) (xbin oMod (xct cInt rfl (He.free_ok KX G (c.fact 0 rfl)) rfl (xacons (xbin (oAdd rfl) (xix rfl rfl hr.units1 (xv 0) (xstr rfl) (by intro _ _; rfl)) (xbin oMul (xix rfl rfl hr.units1 (xv 0) (xstr rfl) (by intro _ _; rfl)) xint)) xanil)) xint)) (ycons (yset sc.nd (i := 3) rfl (.inl rfl) (xbin oMod (xct cInt rfl (He.free_ok KX G (c.fact 0 rfl)) rfl (xacons (xbin (oAdd rfl) (xbin oMul (xv 3) (xv 3)) (xbin oMul (xix rfl rfl hr.units1 (xv 0) (xstr rfl) (by intro _ _; rfl)) xint)) xanil)) xint)) (yone (yret (xbin oMod (xct cInt rfl (He.free_ok KX G (c.fact 0 rfl)) rfl (xacons (xbin oDiv (xv 3) xint) xanil)) (xv 1))))))))))
theorem sc11 : FnScope ["self", "pages", "page"] ["self", "pages"] (defScope s11) := ⟨rfl, rfl, rfl, by decide +kernel, rfl, by decide +kernel, by decide +kernel⟩
theorem ok11 (KX : K.In h0) (G : h0.Ns mainGlobals mg) (c : He.SaysD fa fn K) (ck : Ck K w) : OkF P w K mg base (CC K w) 1 (He.ma K (He.ga K "Mapping") "_fall") 2 f11 := by
  obtain ⟨fd, F⟩ := c.def_ 6 (d := dd11) rfl
  have sc := sc11
  refine okf (N := ["self", "pages", "page"]) (ps := ["self", "pages"]) (k := 0) (fb := den11) F sc rfl (FunD.bindsN F fun _ _ _ _ _ _ us hl => match us, hl with | [_, _], _ => rfl) fun cdv A outer s H E hr => ?_
  exact PSs.nox (ycons (yfor PassesOwn.never rfl (wany rfl (xv 1)) (vs := [2]) (zname (i := 2) sc.nd rfl (.inl rfl) (by decide)) (yone (ydel (xfld (c := 9) (j := 0) rfl an_nd rfl (He.cls_ok (c.fact 3 rfl)) (He.noat_ok (c.fact 4 rfl)) (xv 0)) (xv 2)))) (yone (yret (xcb (cSorted rfl) rfl (He.free_ok KX G (c.fact 19 rfl)) rfl (xacons (xv 1) xanil)))))
theorem sc7 : FnScope ["self", "cell", "rests_on", "page"] ["self", "cell"] (defScope s7) := ⟨rfl, rfl, rfl, by decide +kernel, rfl, by decide +kernel, by decide +kernel⟩
theorem ok7 (KX : K.In h0) (G : h0.Ns mainGlobals mg) (c : He.SaysD fa fn K) (ck : Ck K w) : OkF P w K mg base (CC K w) 2 (He.ma K (He.ga K "Mapping") "fall_by_cell") 2 f7 := by
  obtain ⟨fd, F⟩ := c.def_ 7 (d := dd7) rfl
  have sc := sc7
  refine okf (N := ["self", "cell", "rests_on", "page"]) (ps := ["self", "cell"]) (k := 1) (fb := den7) F sc rfl (FunD.bindsN F fun _ _ _ _ _ _ us hl => match us, hl with | [_, _], _ => rfl) fun cdv A outer s H E hr => ?_
  exact PSs.nox (ycons (yset sc.nd (i := 2) rfl (.inr rfl) (xct (cTuple rfl) rfl (He.free_ok KX G (c.fact 10 rfl)) rfl (xacons (xv 1) xanil))) (yone (yret (zmeth (c := 9) (show ("_fall" : Str) ∉ AN from by decide +kernel) (xv 0) (He.cls_ok (c.fact 3 rfl)) (He.meth_ok (c.fact 20 rfl)) (ok11 KX G c ck) (hr.mono (by decide)) (xacons (xlc fin_frz rfl sc.nd (wany rfl (xfld (c := 9) (j := 0) rfl an_nd rfl (He.cls_ok (c.fact 3 rfl)) (He.noat_ok (c.fact 4 rfl)) (xv 0))) (own := [("page", 3)]) (blk_of (by kernel_rfl)) (uname (i := 3) (fun _ _ _ _ _ => pg_name sc.nd rfl (.inl rfl)) (by decide)) (fun _ _ _ _ _ => (xtone (xtcmp (oEqX rfl hr.units65) (xix rfl rfl hr.units1 (xix rfl rfl hr.units1 (xfld (c := 9) (j := 0) rfl an_nd rfl (He.cls_ok (c.fact 3 rfl)) (He.noat_ok (c.fact 4 rfl)) (xv 0)) (xv 3) (by intro _ _; rfl)) xint (by intro _ _; rfl)) (xv 2) (by rfl)))) (fun _ _ _ _ _ => (xv 3))) xanil)))))
theorem sc8 : FnScope ["self", "box_frame", "page"] ["self", "box_frame"] (defScope s8) := ⟨rfl, rfl, rfl, by decide +kernel, rfl, by decide +kernel, by decide +kernel⟩
theorem ok8 (KX : K.In h0) (G : h0.Ns mainGlobals mg) (c : He.SaysD fa fn K) (ck : Ck K w) : OkF P w K mg base (CC K w) 2 (He.ma K (He.ga K "Mapping") "fall_by_box_frame") 2 f8 := by
  obtain ⟨fd, F⟩ := c.def_ 8 (d := dd8) rfl
  have sc := sc8
  refine okf (N := ["self", "box_frame", "page"]) (ps := ["self", "box_frame"]) (k := 1) (fb := den8) F sc rfl (FunD.bindsN F fun _ _ _ _ _ _ us hl => match us, hl with | [_, _], _ => rfl) fun cdv A outer s H E hr => ?_
  exact PSs.nox (yone (yret (zmeth (c := 9) (show ("_fall" : Str) ∉ AN from by decide +kernel) (xv 0) (He.cls_ok (c.fact 3 rfl)) (He.meth_ok (c.fact 20 rfl)) (ok11 KX G c ck) (hr.mono (by decide)) (xacons (xlc fin_frz rfl sc.nd (wany rfl (xfld (c := 9) (j := 0) rfl an_nd rfl (He.cls_ok (c.fact 3 rfl)) (He.noat_ok (c.fact 4 rfl)) (xv 0))) (own := [("page", 2)]) (blk_of (by kernel_rfl)) (uname (i := 2) (fun _ _ _ _ _ => pg_name sc.nd rfl (.inl rfl)) (by decide)) (fun _ _ _ _ _ => (xtone (xtcmp (oEqX rfl hr.units65) (xix rfl rfl hr.units1 (xix rfl rfl hr.units1 (xfld (c := 9) (j := 0) rfl an_nd rfl (He.cls_ok (c.fact 3 rfl)) (He.noat_ok (c.fact 4 rfl)) (xv 0)) (xv 2) (by intro _ _; rfl)) xint (by intro _ _; rfl)) (xv 1) (by rfl)))) (fun _ _ _ _ _ => (xv 2))) xanil))))
theorem sc9 : FnScope ["self", "box_frame", "leading", "page"] ["self", "box_frame"] (defScope s9) := ⟨rfl, rfl, rfl, by decide +kernel, rfl, by decide +kernel, by decide +kernel⟩
theorem ok9 (KX : K.In h0) (G : h0.Ns mainGlobals mg) (c : He.SaysD fa fn K) (ck : Ck K w) : OkF P w K mg base (CC K w) 2 (He.ma K (He.ga K "Mapping") "fall_writing") 2 f9 := by
  obtain ⟨fd, F⟩ := c.def_ 9 (d := dd9) rfl
  have sc := sc9
  refine okf (N := ["self", "box_frame", "leading", "page"]) (ps := ["self", "box_frame"]) (k := 1) (fb := den9) F sc rfl (FunD.bindsN F fun _ _ _ _ _ _ us hl => match us, hl with | [_, _], _ => rfl) fun cdv A outer s H E hr => ?_
  exact PSs.nox (ycons (ysetLc (i := 2) fin_frz rfl sc.nd rfl rfl (sw_true rfl rfl rfl rfl) (wany rfl (xfld (c := 9) (j := 0) rfl an_nd rfl (He.cls_ok (c.fact 3 rfl)) (He.noat_ok (c.fact 4 rfl)) (xv 0))) (own := [("page", 3)]) (blk_of (by kernel_rfl)) (uname (i := 3) (fun _ _ _ _ _ => pg_name sc.nd rfl (.inl rfl)) (by decide)) (fun _ _ _ _ _ => (xtone (xtcmp (oEqX rfl hr.units65) (xix rfl rfl hr.units1 (xix rfl rfl hr.units1 (xfld (c := 9) (j := 0) rfl an_nd rfl (He.cls_ok (c.fact 3 rfl)) (He.noat_ok (c.fact 4 rfl)) (xv 0)) (xv 3) (by intro _ _; rfl)) xint (by intro _ _; rfl)) (xv 1) (by rfl)))) (fun _ _ _ _ _ => (xv 3))) (yone (yret (zmeth (c := 9) (show ("_fall" : Str) ∉ AN from by decide +kernel) (xv 0) (He.cls_ok (c.fact 3 rfl)) (He.meth_ok (c.fact 20 rfl)) (ok11 KX G c ck) (hr.mono (by decide)) (xacons (xlc fin_frz rfl sc.nd (wany rfl (xv 2)) (own := [("page", 3)]) (blk_of (by kernel_rfl)) (uname (i := 3) (fun _ _ _ _ _ => pg_name sc.nd rfl (.inl rfl)) (by decide)) (fun _ _ _ _ _ => (xtone (xtcmp (oIn rfl rfl hr.units1) (xstr rfl) (xix rfl rfl hr.units1 (xix rfl rfl hr.units1 (xfld (c := 9) (j := 0) rfl an_nd rfl (He.cls_ok (c.fact 3 rfl)) (He.noat_ok (c.fact 4 rfl)) (xv 0)) (xv 3) (by intro _ _; rfl)) xint (by intro _ _; rfl)) (by rfl)))) (fun _ _ _ _ _ => (xv 3))) xanil)))))
theorem sc10 : FnScope ["self"] ["self"] (defScope s10) := ⟨rfl, rfl, rfl, by decide +kernel, rfl, by decide +kernel, by decide +kernel⟩
theorem ok10 (KX : K.In h0) (G : h0.Ns mainGlobals mg) (c : He.SaysD fa fn K) (ck : Ck K w) : OkF P w K mg base (CC K w) 2 (He.ma K (He.ga K "Mapping") "fall_all") 1 f10 := by
  obtain ⟨fd, F⟩ := c.def_ 10 (d := dd10) rfl
  have sc := sc10
  refine okf (N := ["self"]) (ps := ["self"]) (k := 1) (fb := den10) F sc rfl (FunD.bindsN F fun _ _ _ _ _ _ us hl => match us, hl with | [_], _ => rfl) fun cdv A outer s H E hr => ?_
  exact PSs.nox (yone (yret (zmeth (c := 9) (show ("_fall" : Str) ∉ AN from by decide +kernel) (xv 0) (He.cls_ok (c.fact 3 rfl)) (He.meth_ok (c.fact 20 rfl)) (ok11 KX G c ck) (hr.mono (by decide)) (xacons (xfrz (xct (cList rfl rfl) rfl (He.free_ok KX G (c.fact 9 rfl)) rfl (xacons (xfld (c := 9) (j := 0) rfl an_nd rfl (He.cls_ok (c.fact 3 rfl)) (He.noat_ok (c.fact 4 rfl)) (xv 0)) xanil))) xanil))))
theorem sc17 : FnScope ["_law_mapping", "_law_mine", "_law_way", "_law_one", "_law_owed", "_law_page", "_law_told", "_law_here", "_law_box_frame", "_law_rights", "_law_cell"] ["_law_mapping", "_law_mine", "_law_way", "_law_one"] (defScope s17) := ⟨rfl, rfl, rfl, by decide +kernel, rfl, by decide +kernel, by decide +kernel⟩
theorem ok17 (KX : K.In h0) (G : h0.Ns mainGlobals mg) (c : He.SaysD fa fn K) (ck : Ck K w) : OkF P w K mg base (CC K w) 3 (He.ga K "_law_fall") 4 f17 := by
  obtain ⟨fd, F⟩ := c.def_ 11 (d := dd17) rfl
  have sc := sc17
  refine okf (N := ["_law_mapping", "_law_mine", "_law_way", "_law_one", "_law_owed", "_law_page", "_law_told", "_law_here", "_law_box_frame", "_law_rights", "_law_cell"]) (ps := ["_law_mapping", "_law_mine", "_law_way", "_law_one"]) (k := 2) (fb := den17) F sc rfl (FunD.bindsN F fun _ _ _ _ _ _ us hl => match us, hl with | [_, _, _, _], _ => rfl) fun cdv A outer s H E hr => ?_
  exact PSs.nox (ycons (yset sc.nd (i := 4) rfl (.inl rfl) (xlstM xanil)) (ycons (yfor PassesOwn.never rfl (ItD.u (wrng1 rfl (He.free_ok KX G (c.fact 7 rfl)) (xacons xint xanil))) (vs := [5]) (zname (i := 5) sc.nd rfl (.inl rfl) (by decide)) (yone (yif (xtcmp (oIn rfl rfl hr.units1) (xv 5) (xv 1) (by rfl)) (ycons (yasg (xix rfl rfl hr.units1 (xv 1) (xv 5) (by intro _ _; rfl)) (vs := [8, 9, 10]) (ztup rfl rfl (zscons (zname (i := 8) sc.nd rfl (.inl rfl) (by decide)) (zscons (zname (i := 9) sc.nd rfl (.inl rfl) (by decide)) (zscons (zname (i := 10) sc.nd rfl (.inl rfl) (by decide)) zsnil))))) (ycons (yset sc.nd (i := 7) rfl (.inl rfl) (xlst (xacons (xcmp (oEqX rfl hr.units65) (xv 10) (xv 3) (by rfl)) (xacons (xcmp (oEqX rfl hr.units65) (xv 8) (xv 3) (by rfl)) (xacons (xandV rfl (xcmp (oEqX rfl hr.units65) (xv 8) (xv 3) (by rfl)) (pe_one (xcmp (oIn rfl rfl hr.units1) (xstr rfl) (xv 9) (by rfl)))) (xacons xbl xanil)))))) (yone (yif (xtr rfl (xix rfl rfl hr.units1 (xv 7) (xv 2) (by intro _ _; rfl))) (yone (ydrop (xbm rfl PySem.F.plainAttrs_list PySem.F.slot_list_append PySem.F.type_list_append mAppend ty_lst (xv 4) (xacons (xv 5) xanil)))) ynil)))) ynil))) (ycons (yfor PassesOwn.never rfl (wany rfl (xv 4)) (vs := [5]) (zname (i := 5) sc.nd rfl (.inl rfl) (by decide)) (yone (ydrop (xdpop (xv 1) (xv 5) ⟨rfl, rfl, rfl, rfl⟩)))) (ycons (yset sc.nd (i := 6) rfl (.inl rfl) (xlstM xanil)) (ycons (yif (xtcmp (oEqX rfl hr.units65) (xv 2) xint (by rfl)) (yone (yset sc.nd (i := 6) rfl (.inl rfl) (zmeth (c := 9) (show ("fall_by_cell" : Str) ∉ AN from by decide +kernel) (xv 0) (He.cls_ok (c.fact 3 rfl)) (He.meth_ok (c.fact 21 rfl)) (ok7 KX G c ck) (hr.mono (by decide)) (xacons (xv 3) xanil)))) (yone (yif (xtcmp (oEqX rfl hr.units65) (xv 2) xint (by rfl)) (yone (yset sc.nd (i := 6) rfl (.inl rfl) (zmeth (c := 9) (show ("fall_by_box_frame" : Str) ∉ AN from by decide +kernel) (xv 0) (He.cls_ok (c.fact 3 rfl)) (He.meth_ok (c.fact 22 rfl)) (ok8 KX G c ck) (hr.mono (by decide)) (xacons (xv 3) xanil)))) (yone (yif (xtcmp (oEqX rfl hr.units65) (xv 2) xint (by rfl)) (yone (yset sc.nd (i := 6) rfl (.inl rfl) (zmeth (c := 9) (show ("fall_writing" : Str) ∉ AN from by decide +kernel) (xv 0) (He.cls_ok (c.fact 3 rfl)) (He.meth_ok (c.fact 23 rfl)) (ok9 KX G c ck) (hr.mono (by decide)) (xacons (xv 3) xanil)))) (yone (yset sc.nd (i := 6) rfl (.inl rfl) (zmeth0 (c := 9) (show ("fall_all" : Str) ∉ AN from by decide +kernel) (xv 0) (He.cls_ok (c.fact 3 rfl)) (He.meth_ok (c.fact 24 rfl)) (ok10 KX G c ck) (hr.mono (by decide)))))))))) (ycons (yif (xtcmp (oNeX rfl hr.units65) (xv 6) (xv 4) (by rfl)) (yone (yret xbl)) ynil) (ycons (ydrop (xbm rfl PySem.F.plainAttrs_list PySem.F.slot_list_append PySem.F.type_list_append mAppend ty_lst (xv 6) (xacons xnon xanil))) (yone (yret xbl)))))))))
theorem sc18 : FnScope ["_law_source_here", "_law_mapping", "_law_mine", "_law_pick_here", "_law_cell", "_law_box_frame", "_law_page", "_law_right", "_law_old", "_law_rights", "_law_letter"] ["_law_source_here", "_law_mapping", "_law_mine"] (defScope s18) := ⟨rfl, rfl, rfl, by decide +kernel, rfl, by decide +kernel, by decide +kernel⟩
theorem ok18 (KX : K.In h0) (G : h0.Ns mainGlobals mg) (c : He.SaysD fa fn K) (ck : Ck K w) : OkF P w K mg base (CC K w) 4 (He.ga K "_law_turn") 3 f18 := by
  obtain ⟨fd, F⟩ := c.def_ 12 (d := dd18) rfl
  have sc := sc18
  refine okf (N := ["_law_source_here", "_law_mapping", "_law_mine", "_law_pick_here", "_law_cell", "_law_box_frame", "_law_page", "_law_right", "_law_old", "_law_rights", "_law_letter"]) (ps := ["_law_source_here", "_law_mapping", "_law_mine"]) (k := 3) (fb := den18) F sc rfl (FunD.bindsN F fun _ _ _ _ _ _ us hl => match us, hl with | [_, _, _], _ => rfl) fun cdv A outer s H E hr => ?_
  exact PSs.nox (ycons (yset sc.nd (i := 3) rfl (.inl rfl) (zcall (ok15 KX G c ck) (hr.mono (by decide)) rfl (He.glo_ok KX G (c.fact 18 rfl)) (xacons (xv 0) (xacons xint xanil)))) (ycons (ypar rfl sc.nd (i := 5) (j := 6) rfl rfl (by decide) rfl rfl (xacons (zcall (ok15 KX G c ck) (hr.mono (by decide)) rfl (He.glo_ok KX G (c.fact 18 rfl)) (xacons (xv 0) (xacons xint xanil))) (xacons (zcall (ok15 KX G c ck) (hr.mono (by decide)) rfl (He.glo_ok KX G (c.fact 18 rfl)) (xacons (xv 0) (xacons xint xanil))) xanil)) rfl) (ycons (yset sc.nd (i := 4) rfl (.inl rfl) (xtup (xacons (zcall (ok15 KX G c ck) (hr.mono (by decide)) rfl (He.glo_ok KX G (c.fact 18 rfl)) (xacons (xv 0) (xacons xint xanil))) (xacons (xv 6) xanil)))) (ycons (yif (xtcmp oGt (xv 3) xint (by rfl)) (ycons (yset sc.nd (i := 7) rfl (.inr rfl) (xix rfl rfl hr.units1 (xstr rfl) (zcall (ok15 KX G c ck) (hr.mono (by decide)) rfl (He.glo_ok KX G (c.fact 18 rfl)) (xacons (xv 0) (xacons xint xanil))) (by intro _ _; rfl))) (ycons (yset sc.nd (i := 8) rfl (.inr rfl) (xget1 hr.units1 (xv 2) (xv 6) ⟨rfl, rfl, rfl, rfl⟩)) (ycons (yset sc.nd (i := 9) rfl (.inl rfl) (xv 7)) (ycons (yif (PW.pt (xand (xtcmp oIsntX (xv 8) xnon (by rfl)) (xand (xtcmp (oEqX rfl hr.units65) (xix rfl rfl hr.units1 (xv 8) xint (by intro _ _; rfl)) (xv 5) (by rfl)) (pw_and1 (xtcmp (oEqX rfl hr.units65) (xix rfl rfl hr.units1 (xv 8) xint (by intro _ _; rfl)) (xv 4) (by rfl)))))) (yone (yset sc.nd (i := 9) rfl (.inl rfl) (xbm rfl PySem.F.plainAttrs_str PySem.F.slot_str_join PySem.F.type_str_join (mJoin rfl) ty_str (xstr rfl) (xacons (xlc fin_frz rfl sc.nd (wany rfl (xstr rfl)) (own := [("_law_letter", 10)]) (blk_of (by kernel_rfl)) (uname (i := 10) (fun _ _ _ _ _ => pg_name sc.nd rfl (.inl rfl)) (by decide)) (fun _ _ _ _ _ => (xtone (xtcmp (oIn rfl rfl hr.units1) (xv 10) (xbin (oAdd rfl) (xix rfl rfl hr.units1 (xv 8) xint (by intro _ _; rfl)) (xv 7)) (by rfl)))) (fun _ _ _ _ _ => (xv 10))) xanil)))) ynil) (ycons (yput hr.units1 (xtup (xacons (xv 5) (xacons (xv 9) (xacons (xv 4) xanil)))) (xv 2) (xv 6)) (yone (yret (xcmp oIsX (zmeth (c := 9) (show ("widen" : Str) ∉ AN from by decide +kernel) (xv 1) (He.cls_ok (c.fact 3 rfl)) (He.meth_ok (c.fact 12 rfl)) (ok6 KX G c ck) (hr.mono (by decide)) (xacons (xv 6) (xacons (xv 5) (xacons (xv 7) (xacons (xv 4) xanil))))) xnon (by rfl))))))))) ynil) (ycons (yif (PW.pt (xand (xtcmp (oEqX rfl hr.units65) (xv 3) xint (by rfl)) (pw_and1 (xtcmp oGt (zcall (ok15 KX G c ck) (hr.mono (by decide)) rfl (He.glo_ok KX G (c.fact 18 rfl)) (xacons (xv 0) (xacons xint xanil))) xint (by rfl))))) (yone (yret xbl)) ynil) (yone (yret (zcall (ok17 KX G c ck) (hr.mono (by decide)) rfl (He.glo_ok KX G (c.fact 25 rfl)) (xacons (xv 1) (xacons (xv 2) (xacons (xv 3) (xacons (xif (xtcmp (oEqX rfl hr.units65) (xv 3) xint (by rfl)) (xv 4) (xv 5)) xanil))))))))))))
theorem sc5 : FnScope ["self", "page"] ["self"] (defScope s5) := ⟨rfl, rfl, rfl, by decide +kernel, rfl, by decide +kernel, by decide +kernel⟩
theorem ok5 (KX : K.In h0) (G : h0.Ns mainGlobals mg) (c : He.SaysD fa fn K) (ck : Ck K w) : OkF P w K mg base (CC K w) 1 (He.ma K (He.ga K "Mapping") "as_dict") 1 f5 := by
  obtain ⟨fd, F⟩ := c.def_ 13 (d := dd5) rfl
  have sc := sc5
  refine okf (N := ["self", "page"]) (ps := ["self"]) (k := 0) (fb := den5) F sc rfl (FunD.bindsN F fun _ _ _ _ _ _ us hl => match us, hl with | [_], _ => rfl) fun cdv A outer s H E hr => ?_
  exact PSs.nox (yone (yret (xdc false fin_keep hr.units0 rfl sc.nd (wany rfl (xcb (cSortedD rfl rfl) rfl (He.free_ok KX G (c.fact 19 rfl)) rfl (xacons (xfld (c := 9) (j := 0) rfl an_nd rfl (He.cls_ok (c.fact 3 rfl)) (He.noat_ok (c.fact 4 rfl)) (xv 0)) xanil))) (own := [("page", 1)]) (blk_of (by kernel_rfl)) (uname (i := 1) (fun _ _ _ _ _ => pg_name sc.nd rfl (.inl rfl)) (by decide)) (fun _ _ _ _ _ => xtnil) (fun _ _ _ _ _ => (xv 1)) (fun _ _ _ _ _ => (xsl rfl (xix rfl rfl hr.units1 (xfld (c := 9) (j := 0) rfl an_nd rfl (He.cls_ok (c.fact 3 rfl)) (He.noat_ok (c.fact 4 rfl)) (xv 0)) (xv 1) (by intro _ _; rfl)) ptnone (ptsome xint))))))
theorem sc3 : FnScope ["self"] ["self"] (defScope s3) := ⟨rfl, rfl, rfl, by decide +kernel, rfl, by decide +kernel, by decide +kernel⟩
theorem ok3 (KX : K.In h0) (G : h0.Ns mainGlobals mg) (c : He.SaysD fa fn K) (ck : Ck K w) : OkF P w K mg base (CC K w) 1 (He.ma K (He.ga K "Mapping") "__len__") 1 f3 := by
  obtain ⟨fd, F⟩ := c.def_ 14 (d := dd3) rfl
  have sc := sc3
  refine okf (N := ["self"]) (ps := ["self"]) (k := 0) (fb := den3) F sc rfl (FunD.bindsN F fun _ _ _ _ _ _ us hl => match us, hl with | [_], _ => rfl) fun cdv A outer s H E hr => ?_
  exact PSs.nox (yone (yret (xcb (cLen rfl) rfl (He.free_ok KX G (c.fact 16 rfl)) rfl (xacons (xfld (c := 9) (j := 0) rfl an_nd rfl (He.cls_ok (c.fact 3 rfl)) (He.noat_ok (c.fact 4 rfl)) (xv 0)) xanil))))
theorem sc0 : FnScope ["thing"] ["thing"] (defScope s0) := ⟨rfl, rfl, rfl, by decide +kernel, rfl, by decide +kernel, by decide +kernel⟩
theorem ok0 (KX : K.In h0) (G : h0.Ns mainGlobals mg) (c : He.SaysD fa fn K) (ck : Ck K w) : OkF P w K mg base (CC K w) 1 (He.ga K "is_number") 1 f0 := by
  obtain ⟨fd, F⟩ := c.def_ 15 (d := dd0) rfl
  have sc := sc0
  refine okf (N := ["thing"]) (ps := ["thing"]) (k := 0) (fb := den0) F sc rfl (FunD.bindsN F fun _ _ _ _ _ _ us hl => match us, hl with | [_], _ => rfl) fun cdv A outer s H E hr => ?_
  exact PSs.nox (yone (yret (xandV rfl (xisi .int rfl rfl (He.free_ok KX G (c.fact 14 rfl)) (xv 0) (xty rfl (He.free_ok KX G (c.fact 0 rfl)) rfl)) (pe_one (xnotV rfl (xisi .bl rfl rfl (He.free_ok KX G (c.fact 14 rfl)) (xv 0) (xty rfl (He.free_ok KX G (c.fact 29 rfl)) rfl)))))))
theorem sc1 : FnScope ["thing"] ["thing"] (defScope s1) := ⟨rfl, rfl, rfl, by decide +kernel, rfl, by decide +kernel, by decide +kernel⟩
theorem ok1 (KX : K.In h0) (G : h0.Ns mainGlobals mg) (c : He.SaysD fa fn K) (ck : Ck K w) : OkF P w K mg base (CC K w) 2 (He.ga K "is_count") 1 f1 := by
  obtain ⟨fd, F⟩ := c.def_ 16 (d := dd1) rfl
  have sc := sc1
  refine okf (N := ["thing"]) (ps := ["thing"]) (k := 1) (fb := den1) F sc rfl (FunD.bindsN F fun _ _ _ _ _ _ us hl => match us, hl with | [_], _ => rfl) fun cdv A outer s H E hr => ?_
  exact PSs.nox (yone (yret (xandV rfl (zcall (ok0 KX G c ck) (hr.mono (by decide)) rfl (He.glo_ok KX G (c.fact 30 rfl)) (xacons (xv 0) xanil)) (pe_one (xcmp oGe (xv 0) xint (by rfl))))))
theorem sc4 : FnScope ["self", "page"] ["self", "page"] (defScope s4) := ⟨rfl, rfl, rfl, by decide +kernel, rfl, by decide +kernel, by decide +kernel⟩
theorem ok4 (KX : K.In h0) (G : h0.Ns mainGlobals mg) (c : He.SaysD fa fn K) (ck : Ck K w) : OkF P w K mg base (CC K w) 3 (He.ma K (He.ga K "Mapping") "entry") 2 f4 := by
  obtain ⟨fd, F⟩ := c.def_ 17 (d := dd4) rfl
  have sc := sc4
  refine okf (N := ["self", "page"]) (ps := ["self", "page"]) (k := 2) (fb := den4) F sc rfl (FunD.bindsN F fun _ _ _ _ _ _ us hl => match us, hl with | [_, _], _ => rfl) fun cdv A outer s H E hr => ?_
  exact PSs.nox (yone (yret (xif (xtr rfl (zcall (ok1 KX G c ck) (hr.mono (by decide)) rfl (He.glo_ok KX G (c.fact 31 rfl)) (xacons (xv 1) xanil))) (xget2 hr.units1 (xfld (c := 9) (j := 0) rfl an_nd rfl (He.cls_ok (c.fact 3 rfl)) (He.noat_ok (c.fact 4 rfl)) (xv 0)) (xv 1) xnon ⟨rfl, rfl, rfl, rfl⟩) xnon)))
theorem sc16 : FnScope ["_law_mapping", "_law_mine", "_law_lap", "_law_page", "_law_odd", "_law_plain"] ["_law_mapping", "_law_mine"] (defScope s16) := ⟨rfl, rfl, rfl, by decide +kernel, rfl, by decide +kernel, by decide +kernel⟩
theorem ok16 (KX : K.In h0) (G : h0.Ns mainGlobals mg) (c : He.SaysD fa fn K) (ck : Ck K w) : OkF P w K mg base (CC K w) 4 (He.ga K "_law_is") 2 f16 := by
  obtain ⟨fd, F⟩ := c.def_ 18 (d := dd16) rfl
  have sc := sc16
  refine okf (N := ["_law_mapping", "_law_mine", "_law_lap", "_law_page", "_law_odd", "_law_plain"]) (ps := ["_law_mapping", "_law_mine"]) (k := 3) (fb := den16) F sc rfl (FunD.bindsN F fun _ _ _ _ _ _ us hl => match us, hl with | [_, _], _ => rfl) fun cdv A outer s H E hr => ?_
  exact PSs.nox (ycons (yfor PassesOwn.never rfl (ItD.u (wrng1 rfl (He.free_ok KX G (c.fact 7 rfl)) (xacons xint xanil))) (vs := [2]) (zname (i := 2) sc.nd rfl (.inl rfl) (by decide)) (ycons (yset sc.nd (i := 5) rfl (.inl rfl) (zmeth0 (c := 9) (show ("as_dict" : Str) ∉ AN from by decide +kernel) (xv 0) (He.cls_ok (c.fact 3 rfl)) (He.meth_ok (c.fact 27 rfl)) (ok5 KX G c ck) (hr.mono (by decide)))) (ycons (yif (xtcmp (oNeX rfl hr.units65) (xv 5) (xfrz (xct (cDictP rfl rfl) rfl (He.free_ok KX G (c.fact 8 rfl)) rfl (xacons (xlc fin_frz rfl sc.nd (wany rfl (xv 1)) (own := [("_law_page", 3)]) (blk_of (by kernel_rfl)) (uname (i := 3) (fun _ _ _ _ _ => pg_name sc.nd rfl (.inl rfl)) (by decide)) (fun _ _ _ _ _ => xtnil) (fun _ _ _ _ _ => (xtup (xacons (xv 3) (xacons (xfrz (xsl rfl (xix rfl rfl hr.units1 (xv 1) (xv 3) (by intro _ _; rfl)) ptnone (ptsome xint))) xanil))))) xanil))) (by rfl)) (yone (yret xbl)) ynil) (ycons (yif (xtcmp (oNeX rfl hr.units65) (xcb (cOLen (c := 9) rfl (ok3 KX G c ck) (hr.mono (by decide)) (He.meth_ok (c.fact 28 rfl))) rfl (He.free_ok KX G (c.fact 16 rfl)) rfl (xacons (xv 0) xanil)) (xcb (cLen rfl) rfl (He.free_ok KX G (c.fact 16 rfl)) rfl (xacons (xv 1) xanil)) (by rfl)) (yone (yret xbl)) ynil) (ycons (yif (xtcmp (oNeX rfl hr.units65) (xfrz (xct (cList rfl rfl) rfl (He.free_ok KX G (c.fact 9 rfl)) rfl (xacons (xv 5) xanil))) (xlc fin_frz rfl sc.nd (ItD.u (wrng1 rfl (He.free_ok KX G (c.fact 7 rfl)) (xacons xint xanil))) (own := [("_law_page", 3)]) (blk_of (by kernel_rfl)) (uname (i := 3) (fun _ _ _ _ _ => pg_name sc.nd rfl (.inl rfl)) (by decide)) (fun _ _ _ _ _ => (xtone (xtcmp (oIn rfl rfl hr.units1) (xv 3) (xv 1) (by rfl)))) (fun _ _ _ _ _ => (xv 3))) (by rfl)) (yone (yret xbl)) ynil) (yone (yput hr.units1 xnon (xv 5) xint))))))) (ycons (yfor PassesOwn.never rfl (ItD.u (wrng1 rfl (He.free_ok KX G (c.fact 7 rfl)) (xacons xint xanil))) (vs := [3]) (zname (i := 3) sc.nd rfl (.inl rfl) (by decide)) (yone (yif (xtcmp (oNeX rfl hr.units65) (zmeth (c := 9) (show ("entry" : Str) ∉ AN from by decide +kernel) (xv 0) (He.cls_ok (c.fact 3 rfl)) (He.meth_ok (c.fact 32 rfl)) (ok4 KX G c ck) (hr.mono (by decide)) (xacons (xv 3) xanil)) (xget1 hr.units1 (xv 1) (xv 3) ⟨rfl, rfl, rfl, rfl⟩) (by rfl)) (yone (yret xbl)) ynil))) (ycons (yfor PassesOwn.never rfl (wany rfl (xlst (xacons xnon (xacons (xstr rfl) (xacons xbl (xacons xbl (xacons xneg (xacons (xlst (xacons xint xanil)) (xacons (xfrz (xnewd false)) (xacons (xtup (xacons xint xanil)) xanil)))))))))) (vs := [4]) (zname (i := 4) sc.nd rfl (.inl rfl) (by decide)) (yone (yif (xtcmp oIsntX (zmeth (c := 9) (show ("entry" : Str) ∉ AN from by decide +kernel) (xv 0) (He.cls_ok (c.fact 3 rfl)) (He.meth_ok (c.fact 32 rfl)) (ok4 KX G c ck) (hr.mono (by decide)) (xacons (xv 4) xanil)) xnon (by rfl)) (yone (yret xbl)) ynil))) (yone (yret xbl)))))
theorem sc19 : FnScope ["_law_source_here", "_law_mine", "_law_k", "_law_mapping", "_law_left", "_law_page", "_law_letters", "_law_n", "_law_letter"] ["_law_source_here", "_law_mine"] (defScope s19) := ⟨rfl, rfl, rfl, by decide +kernel, rfl, by decide +kernel, by decide +kernel⟩
theorem ok19 (KX : K.In h0) (G : h0.Ns mainGlobals mg) (c : He.SaysD fa fn K) (ck : Ck K w) : OkF P w K mg base (CC K w) 3 (He.ga K "_law_filled") 2 f19 := by
  obtain ⟨fd, F⟩ := c.def_ 19 (d := dd19) rfl
  have sc := sc19
  refine okf (N := ["_law_source_here", "_law_mine", "_law_k", "_law_mapping", "_law_left", "_law_page", "_law_letters", "_law_n", "_law_letter"]) (ps := ["_law_source_here", "_law_mine"]) (k := 2) (fb := den19) F sc rfl (FunD.bindsN F fun _ _ _ _ _ _ us hl => match us, hl with | [_, _], _ => rfl) fun cdv A outer s H E hr => ?_
  exact PSs.nox (ycons (ypar rfl sc.nd (i := 3) (j := 4) rfl rfl (by decide) rfl rfl (xacons (zmake0 (c := 9) (He.mkr_ok (c.fact 5 rfl)) (ok2 KX G c ck) (hr.mono (by decide)) rfl (He.glo_ok KX G (c.fact 6 rfl))) (xacons (xct (cList rfl rfl) rfl (He.free_ok KX G (c.fact 9 rfl)) rfl (xacons (xv 1) xanil)) xanil)) rfl) (ycons (yfor PassesOwn.never rfl (ItD.u (wrng1 rfl (He.free_ok KX G (c.fact 7 rfl)) (xacons (xcb (cLen rfl) rfl (He.free_ok KX G (c.fact 16 rfl)) rfl (xacons (xv 1) xanil)) xanil))) (vs := [2]) (zname (i := 2) sc.nd rfl (.inl rfl) (by decide)) (ycons (yset sc.nd (i := 5) rfl (.inl rfl) (xbm rfl PySem.F.plainAttrs_list PySem.F.slot_list_pop PySem.F.type_list_pop mPopAt ty_lst (xv 4) (xacons (zcall (ok15 KX G c ck) (hr.mono (by decide)) rfl (He.glo_ok KX G (c.fact 18 rfl)) (xacons (xv 0) (xacons (xcb (cLen rfl) rfl (He.free_ok KX G (c.fact 16 rfl)) rfl (xacons (xv 4) xanil)) xanil))) xanil))) (ycons (yset sc.nd (i := 6) rfl (.inl rfl) (xct (cListT rfl) rfl (He.free_ok KX G (c.fact 9 rfl)) rfl (xacons (xix rfl rfl hr.units1 (xix rfl rfl hr.units1 (xv 1) (xv 5) (by intro _ _; rfl)) xint (by intro _ _; rfl)) xanil))) (yone (yfor PassesOwn.never rfl (ItD.u (wrng1 rfl (He.free_ok KX G (c.fact 7 rfl)) (xacons (xcb (cLen rfl) rfl (He.free_ok KX G (c.fact 16 rfl)) rfl (xacons (xv 6) xanil)) xanil))) (vs := [7]) (zname (i := 7) sc.nd rfl (.inl rfl) (by decide)) (ycons (yset sc.nd (i := 8) rfl (.inl rfl) (xbm rfl PySem.F.plainAttrs_list PySem.F.slot_list_pop PySem.F.type_list_pop mPopAt ty_lst (xv 6) (xacons (zcall (ok15 KX G c ck) (hr.mono (by decide)) rfl (He.glo_ok KX G (c.fact 18 rfl)) (xacons (xv 0) (xacons (xcb (cLen rfl) rfl (He.free_ok KX G (c.fact 16 rfl)) rfl (xacons (xv 6) xanil)) xanil))) xanil))) (yone (ydrop (zmeth (c := 9) (show ("widen" : Str) ∉ AN from by decide +kernel) (xv 3) (He.cls_ok (c.fact 3 rfl)) (He.meth_ok (c.fact 12 rfl)) (ok6 KX G c ck) (hr.mono (by decide)) (xacons (xv 5) (xacons (xix rfl rfl hr.units1 (xix rfl rfl hr.units1 (xv 1) (xv 5) (by intro _ _; rfl)) xint (by intro _ _; rfl)) (xacons (xv 8) (xacons (xix rfl rfl hr.units1 (xix rfl rfl hr.units1 (xv 1) (xv 5) (by intro _ _; rfl)) xint (by intro _ _; rfl)) xanil))))))))))))) (yone (yret (xv 3)))))
theorem sc20 : FnScope ["_law_script", "_law_source_here", "_law_turn_here", "_law_other", "_law_odd", "_law_mapping", "_law_mine", "_law_twin", "_law_early", "_law_way", "_law_one"] ["_law_script"] (defScope s20) := ⟨rfl, rfl, rfl, by decide +kernel, rfl, by decide +kernel, by decide +kernel⟩
theorem ok20 (KX : K.In h0) (G : h0.Ns mainGlobals mg) (c : He.SaysD fa fn K) (ck : Ck K w) : OkF P w K mg base (CC K w) 5 (He.ga K "law") 1 f20 := by
  obtain ⟨fd, F⟩ := c.def_ 20 (d := dd20) rfl
  have sc := sc20
  refine okf (N := ["_law_script", "_law_source_here", "_law_turn_here", "_law_other", "_law_odd", "_law_mapping", "_law_mine", "_law_twin", "_law_early", "_law_way", "_law_one"]) (ps := ["_law_script"]) (k := 4) (fb := den20) F sc rfl (FunD.bindsN F fun _ _ _ _ _ _ us hl => match us, hl with | [_], _ => rfl) fun cdv A outer s H E hr => ?_
  exact PSs.nox (ycons (yset sc.nd (i := 1) rfl (.inl rfl) (zcall (ok14 KX G c ck) (hr.mono (by decide)) rfl (He.glo_ok KX G (c.fact 2 rfl)) (xacons (xv 0) xanil))) (ycons (ypar rfl sc.nd (i := 5) (j := 6) rfl rfl (by decide) rfl rfl (xacons (zmake0 (c := 9) (He.mkr_ok (c.fact 5 rfl)) (ok2 KX G c ck) (hr.mono (by decide)) rfl (He.glo_ok KX G (c.fact 6 rfl))) (xacons (xnewd false) xanil)) rfl) (ycons (yfor PassesOwn.never rfl (ItD.u (wrng1 rfl (He.free_ok KX G (c.fact 7 rfl)) (xacons xint xanil))) (vs := [2]) (zname (i := 2) sc.nd rfl (.inl rfl) (by decide)) (ycons (ypar rfl sc.nd (i := 7) (j := 8) rfl rfl (by decide) rfl rfl (xacons (zmeth0 (c := 9) (show ("twin" : Str) ∉ AN from by decide +kernel) (xv 5) (He.cls_ok (c.fact 3 rfl)) (He.meth_ok (c.fact 13 rfl)) (ok12 KX G c ck) (hr.mono (by decide))) (xacons (xct (cDictC rfl) rfl (He.free_ok KX G (c.fact 8 rfl)) rfl (xacons (xv 6) xanil)) xanil)) rfl) (ycons (yif (PW.pt (xor (xnot (xtcmp (oOEq (c := 9) rfl ck.own_Mapping (ok13 KX G c ck) (hr.mono (by decide)) (He.meth_ok (c.fact 15 rfl))) (xv 7) (xv 5) (by rfl))) (pw_or1 (xnot (xtr rfl (zcall (ok18 KX G c ck) (hr.mono (by decide)) rfl (He.glo_ok KX G (c.fact 26 rfl)) (xacons (xv 1) (xacons (xv 5) (xacons (xv 6) xanil))))))))) (yone (yret xbl)) ynil) (ycons (yif (PW.pt (xor (xnot (xtr rfl (zcall (ok16 KX G c ck) (hr.mono (by decide)) rfl (He.glo_ok KX G (c.fact 33 rfl)) (xacons (xv 5) (xacons (xv 6) xanil))))) (pw_or1 (xnot (xtr rfl (zcall (ok16 KX G c ck) (hr.mono (by decide)) rfl (He.glo_ok KX G (c.fact 33 rfl)) (xacons (xv 7) (xacons (xv 8) xanil)))))))) (yone (yret xbl)) ynil) (ycons (yif (xtcmp (oNeX rfl hr.units65) (xcmp (oOEq (c := 9) rfl ck.own_Mapping (ok13 KX G c ck) (hr.mono (by decide)) (He.meth_ok (c.fact 15 rfl))) (xv 7) (xv 5) (by rfl)) (xcmp (oEqX rfl hr.units65) (xv 8) (xv 6) (by rfl)) (by rfl)) (yone (yret xbl)) ynil) (ycons (yset sc.nd (i := 3) rfl (.inl rfl) (zmeth0 (c := 9) (show ("twin" : Str) ∉ AN from by decide +kernel) (xv 7) (He.cls_ok (c.fact 3 rfl)) (He.meth_ok (c.fact 13 rfl)) (ok12 KX G c ck) (hr.mono (by decide)))) (ycons (ydrop (zmeth (c := 9) (show ("widen" : Str) ∉ AN from by decide +kernel) (xv 7) (He.cls_ok (c.fact 3 rfl)) (He.meth_ok (c.fact 12 rfl)) (ok6 KX G c ck) (hr.mono (by decide)) (xacons xint (xacons xint (xacons (xstr rfl) (xacons (xtup (xacons xint (xacons xint xanil))) xanil)))))) (ycons (ypar rfl sc.nd (i := 9) (j := 10) rfl rfl (by decide) rfl rfl (xacons (zcall (ok15 KX G c ck) (hr.mono (by decide)) rfl (He.glo_ok KX G (c.fact 18 rfl)) (xacons (xv 1) (xacons xint xanil))) (xacons (zcall (ok15 KX G c ck) (hr.mono (by decide)) rfl (He.glo_ok KX G (c.fact 18 rfl)) (xacons (xv 1) (xacons xint xanil))) xanil)) rfl) (ycons (ydrop (zcall (ok17 KX G c ck) (hr.mono (by decide)) rfl (He.glo_ok KX G (c.fact 25 rfl)) (xacons (xv 3) (xacons (xct (cDictC rfl) rfl (He.free_ok KX G (c.fact 8 rfl)) rfl (xacons (xv 8) xanil)) (xacons (xv 9) (xacons (xif (xtcmp (oEqX rfl hr.units65) (xv 9) xint (by rfl)) (xtup (xacons xint (xacons (xv 10) xanil))) (xv 10)) xanil)))))) (ycons (ydrop (zmeth0 (c := 9) (show ("fall_all" : Str) ∉ AN from by decide +kernel) (xv 3) (He.cls_ok (c.fact 3 rfl)) (He.meth_ok (c.fact 24 rfl)) (ok10 KX G c ck) (hr.mono (by decide)))) (yone (yif (xnot (xtr rfl (zcall (ok16 KX G c ck) (hr.mono (by decide)) rfl (He.glo_ok KX G (c.fact 33 rfl)) (xacons (xv 5) (xacons (xv 6) xanil))))) (yone (yret xbl)) ynil)))))))))))) (ycons (yset sc.nd (i := 3) rfl (.inl rfl) (zcall (ok19 KX G c ck) (hr.mono (by decide)) rfl (He.glo_ok KX G (c.fact 34 rfl)) (xacons (xv 1) (xacons (xv 6) xanil)))) (ycons (yif (PW.pt (xor (xnot (xtcmp (oOEq (c := 9) rfl ck.own_Mapping (ok13 KX G c ck) (hr.mono (by decide)) (He.meth_ok (c.fact 15 rfl))) (xv 3) (xv 5) (by rfl))) (pw_or1 (xnot (xtcmp (oOEq (c := 9) rfl ck.own_Mapping (ok13 KX G c ck) (hr.mono (by decide)) (He.meth_ok (c.fact 15 rfl))) (xv 5) (xv 3) (by rfl)))))) (yone (yret xbl)) ynil) (ycons (ydrop (zmeth (c := 9) (show ("widen" : Str) ∉ AN from by decide +kernel) (xv 3) (He.cls_ok (c.fact 3 rfl)) (He.meth_ok (c.fact 12 rfl)) (ok6 KX G c ck) (hr.mono (by decide)) (xacons xint (xacons xint (xacons (xstr rfl) (xacons (xtup (xacons xint (xacons xint xanil))) xanil)))))) (ycons (yif (xtcmp (oOEq (c := 9) rfl ck.own_Mapping (ok13 KX G c ck) (hr.mono (by decide)) (He.meth_ok (c.fact 15 rfl))) (xv 3) (xv 5) (by rfl)) (yone (yret xbl)) ynil) (ycons (yfor PassesOwn.never rfl (wany rfl (xlst (xacons xnon (xacons (xfrz (xnewd false)) (xacons (xv 6) (xacons xint xanil)))))) (vs := [4]) (zname (i := 4) sc.nd rfl (.inl rfl) (by decide)) (yone (yif (xtcmp (oOEq (c := 9) rfl ck.own_Mapping (ok13 KX G c ck) (hr.mono (by decide)) (He.meth_ok (c.fact 15 rfl))) (xv 5) (xv 4) (by rfl)) (yone (yret xbl)) ynil))) (yone (yret (xcmp (oOEq (c := 9) rfl ck.own_Mapping (ok13 KX G c ck) (hr.mono (by decide)) (He.meth_ok (c.fact 15 rfl))) (zmake0 (c := 9) (He.mkr_ok (c.fact 5 rfl)) (ok2 KX G c ck) (hr.mono (by decide)) rfl (He.glo_ok KX G (c.fact 6 rfl))) (zmake0 (c := 9) (He.mkr_ok (c.fact 5 rfl)) (ok2 KX G c ck) (hr.mono (by decide)) rfl (He.glo_ok KX G (c.fact 6 rfl))) (by rfl))))))))))))
end
end Lw

namespace Lw
open L2 PySem PySem.Spec PyProof.Rows Pd

/-! ### the source of numbers -/
theorem seq_nx {a b : DS} {Γ Γ1 : Ga} {S S1 : Sto} (h : a Γ S = .nx Γ1 S1) : sSeq a b Γ S = b Γ1 S1 := by unfold sSeq; rw [h]; rfl
theorem seq_rt {a b : DS} {Γ : Ga} {d : D} {S S1 : Sto} (h : a Γ S = .rt d S1) : sSeq a b Γ S = .rt d S1 := by unfold sSeq; rw [h]; rfl
theorem set_nx {e : DE} {i : Nat} {Γ : Ga} {d : D} {S S1 : Sto} (h : e Γ S = .ok d S1) : sSet e i Γ S = .nx (Γ.set i (some d)) S1 := by unfold sSet; rw [h]; rfl
theorem ret_rt {e : DE} {Γ : Ga} {d : D} {S S1 : Sto} (h : e Γ S = .ok d S1) : sRet e Γ S = .rt d S1 := by unfold sRet; rw [h]; rfl
theorem if_t {t : DT} {a b : DS} {Γ : Ga} {S S1 : Sto} (h : t Γ S = .ok true S1) : sIf t a b Γ S = a Γ S1 := by unfold sIf; rw [h]; rfl
theorem if_f {t : DT} {a b : DS} {Γ : Ga} {S S1 : Sto} (h : t Γ S = .ok false S1) : sIf t a b Γ S = b Γ S1 := by unfold sIf; rw [h]; rfl
theorem put_nx {fv fo fi : DE} {Γ : Ga} {v o i : D} {S S1 S2 S3 S4 : Sto} (hv : fv Γ S = .ok v S1) (ho : fo Γ S1 = .ok o S2) (hi : fi Γ S2 = .ok i S3) (h : fPut o i v S3 = some S4) : sPut fv fo fi Γ S = .nx Γ S4 := by
  unfold sPut; rw [hv]; show Res.then (fo Γ S1) _ = _; rw [ho]; show Res.then (fi Γ S2) _ = _; rw [hi]; show (match fPut o i v S3 with | some S4 => SRes.nx Γ S4 | none => .bad) = _; rw [h]
theorem d2_ok {f : D → D → Sto → Res D} {fa fb : DE} {Γ : Ga} {a b : D} {S S1 S2 : Sto} (ha : fa Γ S = .ok a S1) (hb : fb Γ S1 = .ok b S2) : d2 f fa fb Γ S = f a b S2 := by
  unfold d2; rw [ha]; show Res.bind (fb Γ S1) _ = _; rw [hb]; rfl
theorem t2_ok {f : D → D → Sto → Res D} {fa fb : DE} {Γ : Ga} {a b : D} {S S1 S2 : Sto} (ha : fa Γ S = .ok a S1) (hb : fb Γ S1 = .ok b S2) : t2 f fa fb Γ S = (f a b S2).bind blB := by
  unfold t2; rw [ha]; show Res.bind (fb Γ S1) _ = _; rw [hb]; rfl
theorem args1 {fa : DE} {Γ : Ga} {a : D} {S S1 : Sto} (h : fa Γ S = .ok a S1) : aCons fa aNil Γ S = .ok [a] S1 := by unfold aCons; rw [h]; rfl
theorem args2 {fa fb : DE} {Γ : Ga} {a b : D} {S S1 S2 : Sto} (h : fa Γ S = .ok a S1) (h2 : fb Γ S1 = .ok b S2) : aCons fa (aCons fb aNil) Γ S = .ok [a, b] S2 := by
  unfold aCons; rw [h]; show Res.bind (Res.bind (fb Γ S1) _) _ = _; rw [h2]; rfl
theorem add_ok {fa fb : DE} {Γ : Ga} {i j : Int} {S S1 S2 : Sto} (ha : fa Γ S = .ok (.int i) S1) (hb : fb Γ S1 = .ok (.int j) S2) : d2 fAdd fa fb Γ S = .ok (.int (i + j)) S2 := (d2_ok ha hb).trans rfl
theorem int_ok {fa : DE} {Γ : Ga} {i : Int} {S S1 : Sto} (h : fa Γ S = .ok (.int i) S1) : dCB gInt (aCons fa aNil) Γ S = .ok (.int i) S1 := by
  unfold dCB aCons; rw [h]; rfl

abbrev kCells : Str := ⟨#[99, 101, 108, 108, 115]⟩
abbrev kLeft : Str := ⟨#[108, 101, 102, 116]⟩
abbrev kMixed : Str := ⟨#[109, 105, 120, 101, 100]⟩
abbrev kTurn : Str := ⟨#[116, 117, 114, 110]⟩
def sd (m : Nat) (l x t : Int) : MO := .dct [(.inr kCells, .ref m), (.inr kLeft, .int l), (.inr kMixed, .int x), (.inr kTurn, .int t)]
/-- nothing lies where new things come -/
def Ok (S : Sto) : Prop := ∀ k, S.nx ≤ k → S.at k = none
structure Src (S : Sto) (n m : Nat) (cs : List Int) (l x t : Int) : Prop where
  d : S.at n = some (sd m l x t)
  c : S.at m = some (.lst (cs.map D.int))
  ne : m ≠ n
  nn : n < S.nx
  mn : m < S.nx
  ok : Ok S
  l0 : 0 ≤ l
  cs0 : ∀ c ∈ cs, 0 ≤ c
section
variable {S : Sto} {n m : Nat} {cs : List Int} {l x t : Int}
theorem ix_d {key : Str} {v : D} (h : S.at n = some (sd m l x t)) (e : lookK [(.inr kCells, .ref m), (.inr kLeft, .int l), (.inr kMixed, .int x), (.inr kTurn, .int t)] (.inr key) = some v) : fIx (.ref n) (.str key) S = .ok v S := by
  have e1 : dttV S (.ref n) = none := by
    show (match S.at n with | some (.dtt ds) => some ds | some (.lck (.dtt ds)) => some ds | _ => none) = _
    rw [h]; rfl
  have e2 : dctV S (.ref n) = some [(.inr kCells, .ref m), (.inr kLeft, .int l), (.inr kMixed, .int x), (.inr kTurn, .int t)] := by
    show (match S.at n with | some (.dct ds) => some ds | some (.lck (.dct ds)) => some ds | _ => none) = _
    rw [h]; rfl
  show fIx0 (.ref n) (.str key) S = _
  unfold fIx0
  rw [e1, e2]
  show (match lookK [(.inr kCells, .ref m), (.inr kLeft, .int l), (.inr kMixed, .int x), (.inr kTurn, .int t)] (.inr key) with | some d => Res.ok d S | none => .bad) = _
  rw [e]
theorem put_d {key : Str} {v : D} {kds : List (Key × D)} (h : S.at n = some (sd m l x t)) (e : putG eqK [(.inr kCells, .ref m), (.inr kLeft, .int l), (.inr kMixed, .int x), (.inr kTurn, .int t)] (.inr key) v = kds) : fPut (.ref n) (.str key) v S = some (S.set n (.dct kds)) := by
  have e1 : fPutL (.ref n) (.str key) v S = none := by
    show (match S.at n with | some q => (match q with | .lst xs => (none : Option Sto) | _ => none) | none => none) = _
    rw [h]; rfl
  unfold fPut
  rw [e1]
  show (match S.at n with | some q => (match q with | .dct kds => ifS (lineOk (kds.length + 1)) (S.set n (.dct (putG eqK kds (.inr key) v))) | .dtt kds => none | _ => none) | none => none) = _
  rw [h]
  show ifS (lineOk 5) (S.set n (.dct (putG eqK [(.inr kCells, .ref m), (.inr kLeft, .int l), (.inr kMixed, .int x), (.inr kTurn, .int t)] (.inr key) v))) = _
  rw [e]; rfl
theorem at_set {m' : MO} (h : S.at n = some m') {q : MO} : (S.set n q).at n = some q := look_put_same h
theorem at_set_ne {j : Nat} {q : MO} (h : j ≠ n) : (S.set n q).at j = S.at j := look_put_ne h
theorem Ok.set {k : Nat} {q : MO} (o : Ok S) (hk : k < S.nx) : Ok (S.set k q) := fun j hj => by
  have : j ≠ k := fun z => by subst z; exact absurd hk (Nat.not_lt.mpr hj)
  rw [at_set_ne this]; exact o j hj
/-- all but n and m stand as they stood -/
def Fr2 (n m : Nat) (S S' : Sto) : Prop := (∀ j, j ≠ n → j ≠ m → S'.at j = S.at j) ∧ S'.ob.map (·.1) = S.ob.map (·.1)
theorem put_keys : ∀ (l : List (Nat × MO)) (n : Nat) (q : MO), (put l n q).map (·.1) = l.map (·.1)
  | [], _, _ => rfl
  | (k, m) :: r, n, q => by
    unfold put
    cases Nat.beq k n with
    | true => rfl
    | false => show k :: (put r n q).map (·.1) = _; rw [put_keys r n q]; rfl
theorem Fr2.refl : Fr2 n m S S := ⟨fun _ _ _ => rfl, rfl⟩
theorem Fr2.trans {S' S'' : Sto} (a : Fr2 n m S S') (b : Fr2 n m S' S'') : Fr2 n m S S'' := ⟨fun j h1 h2 => (b.1 j h1 h2).trans (a.1 j h1 h2), b.2.trans a.2⟩
theorem Fr2.setn {q : MO} : Fr2 n m S (S.set n q) := ⟨fun _ h _ => at_set_ne h, put_keys _ _ _⟩
theorem Fr2.setm {q : MO} : Fr2 n m S (S.set m q) := ⟨fun _ _ h => at_set_ne h, put_keys _ _ _⟩
theorem Src.left (s : Src S n m cs l x t) {v : Int} (hv : 0 ≤ v) : fPut (.ref n) (.str kLeft) (.int v) S = some (S.set n (sd m v x t)) ∧ Src (S.set n (sd m v x t)) n m cs v x t :=
  ⟨put_d s.d rfl, at_set s.d, by rw [at_set_ne s.ne]; exact s.c, s.ne, s.nn, s.mn, s.ok.set s.nn, hv, s.cs0⟩
theorem Src.turn (s : Src S n m cs l x t) {v : Int} : fPut (.ref n) (.str kTurn) (.int v) S = some (S.set n (sd m l x v)) ∧ Src (S.set n (sd m l x v)) n m cs l x v :=
  ⟨put_d s.d rfl, at_set s.d, by rw [at_set_ne s.ne]; exact s.c, s.ne, s.nn, s.mn, s.ok.set s.nn, s.l0, s.cs0⟩
theorem onL_at {ds : List D} {f : Nat → List D → Res D} (h : S.at n = some (.lst ds)) : onL (.ref n) S f = f n ds := by
  show (match S.at n with | some (.lst xs) => f n xs | _ => .bad) = _
  rw [h]
theorem lstV_at {ds : List D} (h : S.at n = some (.lst ds)) : lstV S (.ref n) = some ds := by
  show (match S.at n with | some (.lst ds) => some ds | _ => none) = _
  rw [h]
theorem unsnoc_snoc {α : Type} (i : List α) (z : α) : unsnoc (i ++ [z]) = some (i, z) := by
  induction i with
  | nil => rfl
  | cons a i ih =>
    cases i with
    | nil => rfl
    | cons b r =>
      show (match unsnoc (b :: r ++ [z]) with | some (i, z) => some (a :: i, z) | none => none) = _
      rw [ih]
theorem Src.pop (s : Src S n m (cs ++ [z]) l x t) : gPop (.ref m) [] S = .ok (.int z) (S.set m (.lst (cs.map D.int))) ∧ Src (S.set m (.lst (cs.map D.int))) n m cs l x t := by
  refine ⟨?_, ?_, at_set s.c, s.ne, s.nn, s.mn, s.ok.set s.mn, s.l0, fun c hc => s.cs0 c (List.mem_append_left _ hc)⟩
  · show onL (.ref m) S (fun n xs => match unsnoc xs with | some (i, z) => Res.ok z (S.set n (.lst i)) | none => .bad) = _
    rw [onL_at s.c]
    show (match unsnoc ((cs ++ [z]).map D.int) with | some (i, z) => Res.ok z (S.set m (.lst i)) | none => .bad) = _
    rw [List.map_append]
    show (match unsnoc (cs.map D.int ++ [D.int z]) with | some (i, z) => Res.ok z (S.set m (.lst i)) | none => .bad) = _
    rw [unsnoc_snoc]
  · rw [at_set_ne s.ne.symm]; exact s.d
end
theorem small_of {i : Int} (h0 : 0 ≤ i) (h : i < 18446744073709551616) : small i = true := by
  show Nat.blt i.natAbs 18446744073709551616 = true
  exact Nat.ble_eq_true_of_le (by omega)
theorem mul_ok {i j : Int} {S : Sto} (h : small i = true ∨ small j = true) : fMul (.int i) (.int j) S = .ok (.int (i * j)) S := by
  show guard (small i || small j) _ = _
  rcases h with h | h
  · rw [h]; rfl
  · rw [h, Bool.or_true]; rfl
theorem mod_ok {i j : Int} {S : Sto} (h : 0 < j) : fMod (.int i) (.int j) S = .ok (.int (i.fmod j)) S := by
  show guard (Nat.blt 0 j.natAbs) _ = _
  rw [show Nat.blt 0 j.natAbs = true from Nat.ble_eq_true_of_le (by omega)]; rfl
theorem div_ok {i j : Int} {S : Sto} (h : 0 < j) (h2 : j < 1073741824) : fDiv (.int i) (.int j) S = .ok (.int (i.fdiv j)) S := by
  show guard (Nat.blt 0 j.natAbs && Nat.blt j.natAbs 1073741824) _ = _
  rw [show Nat.blt 0 j.natAbs = true from Nat.ble_eq_true_of_le (by omega), show Nat.blt j.natAbs 1073741824 = true from Nat.ble_eq_true_of_le (by omega)]; rfl
theorem fmod_in {i j : Int} (h : 0 < j) : 0 ≤ i.fmod j ∧ i.fmod j < j := ⟨Int.fmod_nonneg_of_pos i h, Int.fmod_lt_of_pos i h⟩
/-! ### stores, lists -/
section
variable {S : Sto} {n m : Nat} {cs : List Int} {l x t : Int}
theorem put_put : ∀ (o : List (Nat × MO)) (n : Nat) (a b : MO), put (put o n a) n b = put o n b
  | [], _, _, _ => rfl
  | (k, q) :: r, n, a, b => by
    cases e : Nat.beq k n with
    | true =>
      have p : ∀ q c : MO, put ((k, q) :: r) n c = (k, c) :: r := fun q c => by unfold put; rw [e]
      rw [p, p, p]
    | false =>
      have p : ∀ (q c : MO) (r : List (Nat × MO)), put ((k, q) :: r) n c = (k, q) :: put r n c := fun q c r => by conv => lhs; unfold put; rw [e]
      rw [p, p, p, put_put r n a b]
theorem set_set {a b : MO} : (S.set n a).set n b = S.set n b := congrArg (Sto.mk S.nx) (put_put S.ob n a b)
theorem new_set {a b : MO} : (S.new a).set S.nx b = S.new b := by
  show Sto.mk (S.nx + 1) (put ((S.nx, a) :: S.ob) S.nx b) = ⟨S.nx + 1, (S.nx, b) :: S.ob⟩
  unfold put
  rw [Nat.beq_refl]
def up (S : Sto) : Sto := ⟨S.nx + 1, S.ob⟩
theorem cut_none : ∀ (o : List (Nat × MO)) (n : Nat), look o n = none → cut o n = o
  | [], _, _ => rfl
  | (k, q) :: r, n, h => by
    unfold look at h
    unfold cut
    cases e : Nat.beq k n with
    | true => rw [e] at h; cases h
    | false => rw [e] at h; rw [cut_none r n h]
theorem new_del {a : MO} (o : Ok S) : (S.new a).del S.nx = up S := by
  show Sto.mk (S.nx + 1) (cut ((S.nx, a) :: S.ob) S.nx) = ⟨S.nx + 1, S.ob⟩
  unfold cut
  rw [Nat.beq_refl]
  show Sto.mk (S.nx + 1) (cut S.ob S.nx) = ⟨S.nx + 1, S.ob⟩
  rw [cut_none S.ob S.nx (o S.nx (Nat.le_refl _))]
theorem Ok.up (o : Ok S) : Ok (up S) := fun k h => o k (Nat.le_of_succ_le h)
theorem Ok.new {a : MO} (o : Ok S) : Ok (S.new a) := fun k h => by
  have h : S.nx + 1 ≤ k := h
  rw [look_new_ne (by omega)]; exact o k (by omega)
theorem Src.up (s : Src S n m cs l x t) : Src (Lw.up S) n m cs l x t := ⟨s.d, s.c, s.ne, Nat.lt_succ_of_lt s.nn, Nat.lt_succ_of_lt s.mn, s.ok.up, s.l0, s.cs0⟩
theorem Src.new {a : MO} (s : Src S n m cs l x t) : Src (S.new a) n m cs l x t :=
  ⟨by rw [look_new_ne (Nat.ne_of_lt s.nn)]; exact s.d, by rw [look_new_ne (Nat.ne_of_lt s.mn)]; exact s.c, s.ne, Nat.lt_succ_of_lt s.nn, Nat.lt_succ_of_lt s.mn, s.ok.new, s.l0, s.cs0⟩
theorem Src.other {k : Nat} {q : MO} (s : Src S n m cs l x t) (h1 : n ≠ k) (h2 : m ≠ k) (h3 : k < S.nx) : Src (S.set k q) n m cs l x t :=
  ⟨by rw [at_set_ne h1]; exact s.d, by rw [at_set_ne h2]; exact s.c, s.ne, s.nn, s.mn, s.ok.set h3, s.l0, s.cs0⟩
theorem frz_new {ds : List D} (o : Ok S) : frz (.ref S.nx) (S.new (MO.lst ds)) = .ok (.lst ds) (Lw.up S) := by
  unfold frz
  dsimp only
  rw [look_new]
  dsimp only
  rw [new_del o]
theorem frz_newD {ds : List (Key × D)} (o : Ok S) : frz (.ref S.nx) (S.new (MO.dct ds)) = .ok (.dct ds) (Lw.up S) := by
  unfold frz
  dsimp only
  rw [look_new]
  dsimp only
  rw [new_del o]
/-- a comprehension whose turns change nothing -/
theorem loopC_map {gt : D → Ga → Sto → Option Ga} {ft : DT} {fe : DE} {Γ : Ga} {F : D → D} {G : D → Ga} : ∀ (ds acc : List D), acc.length + ds.length ≤ 1000 →
    (∀ d ∈ ds, ∀ acc', gt d Γ (S.new (.lst acc')) = some (G d) ∧ ft (G d) (S.new (.lst acc')) = .ok true (S.new (.lst acc')) ∧ fe (G d) (S.new (.lst acc')) = .ok (F d) (S.new (.lst acc'))) →
    loopC gt ft fe Γ S.nx ds (S.new (.lst acc)) = some (S.new (.lst (acc ++ ds.map F)))
  | [], acc, _, _ => by rw [List.map_nil, List.append_nil]; rfl
  | d :: ds, acc, hl, h => by
    obtain ⟨h1, h2, h3⟩ := h d List.mem_cons_self acc
    unfold loopC
    rw [h1]
    dsimp only
    rw [h2]
    dsimp only
    rw [h3]
    dsimp only
    rw [look_new]
    dsimp only
    have hk : lineOk (acc.length + 1) = true := Nat.ble_eq_true_of_le (by simp at hl; omega)
    rw [hk]
    dsimp only
    rw [new_set, loopC_map ds (acc ++ [F d]) (by simp at hl ⊢; omega) fun e he => h e (List.mem_cons_of_mem _ he), List.append_assoc]
    rfl
theorem dLc_ok {fin : D → Sto → Res D} {fi : DI} {gt : D → Ga → Sto → Option Ga} {ft : DT} {fe : DE} {vs : List Nat} {Γ : Ga} {S0 : Sto} {F : D → D} {G : D → Ga} {ds : List D} (hi : fi Γ S0 = .ok (ds, .no) S) (hl : ds.length ≤ 1000)
    (h : ∀ d ∈ ds, ∀ acc', gt d (wipeG Γ vs) (S.new (.lst acc')) = some (G d) ∧ ft (G d) (S.new (.lst acc')) = .ok true (S.new (.lst acc')) ∧ fe (G d) (S.new (.lst acc')) = .ok (F d) (S.new (.lst acc'))) :
    dLc fin fi gt ft fe vs Γ S0 = fin (.ref S.nx) (S.new (.lst (ds.map F))) := by
  unfold dLc
  rw [hi]
  show (match loopC gt ft fe (wipeG Γ vs) S.nx ds (S.new (.lst [])) with
    | some S2 => (match unl .no S2 with
      | some S3 => fin (.ref S.nx) S3
      | none => .bad)
    | none => .bad) = _
  rw [loopC_map ds [] (by simpa using hl) h]
  rfl
end
/-! ### the source, made -/
theorem for_no {fi : DI} {gt : D → Ga → Sto → Option Ga} {body : DS} {Γ : Ga} {S S1 : Sto} {ds : List D} (h : fi Γ S = .ok (ds, .no) S1) : sFor fi gt body Γ S = unlS .no (loopD gt body ds Γ S1) := by unfold sFor; rw [h]; rfl
def absD : D → D
  | .int i => .int (absI i)
  | d => d
theorem nthD_get {α : Type} : ∀ (ds : List α) (j : Nat), nthD ds j = ds[j]?
  | [], _ => rfl
  | a :: r, 0 => rfl
  | a :: r, k + 1 => nthD_get r k
theorem itemD_in {α : Type} {ds : List α} {i : Int} (h0 : 0 ≤ i) (h : i < ds.length) : itemD ds i = nthD ds i.toNat := by
  obtain ⟨k, rfl⟩ := Int.eq_ofNat_of_zero_le h0
  unfold itemD
  show (match (match Nat.blt k ds.length with | true => some k | false => none) with | some j => nthD ds j | none => none) = _
  rw [show Nat.blt k ds.length = true from Nat.ble_eq_true_of_le (by omega)]
  rfl
theorem upto_mem : ∀ (n : Nat) (lo : Int) (d : D), d ∈ upto lo n → ∃ k, d = .int k ∧ lo ≤ k ∧ k < lo + n
  | 0, _, _, h => nomatch h
  | n + 1, lo, d, h => by
    rcases List.mem_cons.mp (show d ∈ D.int lo :: upto (lo + 1) n from h) with rfl | h
    · exact ⟨lo, rfl, Int.le_refl _, by omega⟩
    · obtain ⟨k, e, h1, h2⟩ := upto_mem n (lo + 1) d h
      exact ⟨k, e, by omega, by omega⟩
theorem upto_len : ∀ (n : Nat) (lo : Int), (upto lo n).length = n
  | 0, _ => rfl
  | n + 1, lo => by show (upto (lo + 1) n).length + 1 = _; rw [upto_len]
theorem ints_of : ∀ (R : List D), (∀ d ∈ R, ∃ c, d = .int c ∧ 0 ≤ c) → ∃ cs : List Int, R = cs.map D.int ∧ (∀ c ∈ cs, 0 ≤ c) ∧ cs.length = R.length
  | [], _ => ⟨[], rfl, (fun _ h => nomatch h), rfl⟩
  | d :: R, h => by
    obtain ⟨c, rfl, hc⟩ := h _ List.mem_cons_self
    obtain ⟨cs, e, h1, h2⟩ := ints_of R fun d hd => h d (List.mem_cons_of_mem _ hd)
    refine ⟨c :: cs, by rw [e]; rfl, fun c' hc' => ?_, by simp [h2]⟩
    rcases List.mem_cons.mp hc' with rfl | hc'
    · exact hc
    · exact h1 _ hc'
/-! ### what is drawn -/
def Sr (S : Sto) (n m : Nat) : Prop := ∃ cs l x t, Src S n m cs l x t ∧ cs.length ≤ 63
section
variable {S : Sto} {n m : Nat}
theorem Sr.ok (s : Sr S n m) : Ok S := let ⟨_, _, _, _, h, _⟩ := s; h.ok
theorem Sr.up (s : Sr S n m) : Sr (Lw.up S) n m := let ⟨a, b, c, d, h, e⟩ := s; ⟨a, b, c, d, h.up, e⟩
theorem Sr.new {a : MO} (s : Sr S n m) : Sr (S.new a) n m := let ⟨q, b, c, d, h, e⟩ := s; ⟨q, b, c, d, h.new, e⟩
theorem Sr.other {k : Nat} {q : MO} (s : Sr S n m) (h1 : n ≠ k) (h2 : m ≠ k) (h3 : k < S.nx) : Sr (S.set k q) n m := let ⟨a, b, c, d, h, e⟩ := s; ⟨a, b, c, d, h.other h1 h2 h3, e⟩
theorem Sr.nn (s : Sr S n m) : n < S.nx ∧ m < S.nx := let ⟨_, _, _, _, h, _⟩ := s; ⟨h.nn, h.mn⟩
theorem Sr.del {k : Nat} (s : Sr S n m) (h1 : n ≠ k) (h2 : m ≠ k) : Sr (S.del k) n m := by
  obtain ⟨a, b, c, d, h, e⟩ := s
  have q : ∀ j, j ≠ k → (S.del k).at j = S.at j := fun j hj => look_cut_ne hj
  refine ⟨a, b, c, d, ⟨by rw [q n h1]; exact h.d, by rw [q m h2]; exact h.c, h.ne, h.nn, h.mn, fun j hj => ?_, h.l0, h.cs0⟩, e⟩
  by_cases z : j = k
  · subst z; exact look_cut_same
  · rw [q j z]; exact h.ok j hj
theorem call_ok {n : Nat} {f : List D → Sto → Res D} {fr : DA} {Γ : Ga} {ds : List D} {S1 : Sto} (h : fr Γ S = .ok ds S1) (hl : lenIs n ds = true) : dCall n f fr Γ S = f ds S1 := by
  unfold dCall; rw [h]; show guard (lenIs n ds) (f ds S1) = _; rw [hl]; rfl
end
theorem acons {fa : DE} {fr : DA} {Γ : Ga} {a : D} {ds : List D} {S S1 S2 : Sto} (h : fa Γ S = .ok a S1) (h2 : fr Γ S1 = .ok ds S2) : aCons fa fr Γ S = .ok (a :: ds) S2 := by
  unfold aCons; rw [h]; show Res.bind (fr Γ S1) _ = _; rw [h2]; rfl
theorem lst_ok {fr : DA} {Γ : Ga} {ds : List D} {S S1 : Sto} (h : fr Γ S = .ok ds S1) (hl : ds.length ≤ 1000) : dLst fr Γ S = .ok (.lst ds) S1 := by
  unfold dLst; rw [h]; show guard (lineOk ds.length) _ = _
  rw [show lineOk ds.length = true from Nat.ble_eq_true_of_le (by omega)]; rfl
theorem frzE {fa : DE} {Γ : Ga} {a b : D} {S S1 S2 : Sto} (h : fa Γ S = .ok a S1) (h2 : frz a S1 = .ok b S2) : dFrz fa Γ S = .ok b S2 := by
  unfold dFrz; rw [h]; exact h2
section
variable {S : Sto}
def flipB (neg r : Bool) : Bool := match r with
  | true => !neg
  | false => neg
/-- x in a list or tuple: no text is looked through, no dict -/
theorem in_seq {neg : Bool} {x : Str} {b : D} {ds : List D} {r : Bool} (h0 : kdV b = none) (h1 : dctV S b = none) (hb : ∀ z, b ≠ .str z) (h2 : seqV S b = some ds) (h3 : inD (.str x) ds = some r) : fInK neg (.str x) b S = .ok (.bl (flipB neg r)) S := by
  unfold fInK
  rw [h0]
  show fIn neg (.str x) b S = _
  unfold fIn
  rw [h1]
  dsimp only
  split
  · exact absurd rfl (hb _)
  · rw [h2]
    show guard true (match inD (.str x) ds with | some e => Res.ok (D.bl (match e with | true => !neg | false => neg)) S | none => Res.bad) = _
    rw [h3]; cases r <;> rfl
theorem eqS_symm (x y : Str) : eqS x y = eqS y x := by
  rw [eqS_eq, eqS_eq]
  exact decide_eq_decide.mpr ⟨Eq.symm, Eq.symm⟩
theorem len_ne {fa fb : DE} {Γ : Ga} {a b : Nat} (h : fa Γ S = .ok (.int a) S) (h2 : fb Γ S = .ok (.int b) S) : t2 fNeX fa fb Γ S = .ok (!Nat.beq a b) S := by
  rw [t2_ok h h2]
  show Res.ok (!eqB (a : Int) (b : Int)) S = _
  rw [eqB_eq]
  congr 2
  cases e : Nat.beq a b with
  | true => exact decide_eq_true (by rw [Nat.eq_of_beq_eq_true e])
  | false =>
    refine decide_eq_false fun z => ?_
    have z : a = b := Int.ofNat.inj z
    rw [z, Nat.beq_refl] at e
    cases e
end
theorem loopC_filt {S : Sto} {gt : D → Ga → Sto → Option Ga} {ft : DT} {fe : DE} {Γ : Ga} {F : D → D} {B : D → Bool} {G : D → Ga} : ∀ (ds acc : List D), acc.length + ds.length ≤ 1000 →
    (∀ d ∈ ds, ∀ acc', gt d Γ (S.new (.lst acc')) = some (G d) ∧ ft (G d) (S.new (.lst acc')) = .ok (B d) (S.new (.lst acc')) ∧ fe (G d) (S.new (.lst acc')) = .ok (F d) (S.new (.lst acc'))) →
    loopC gt ft fe Γ S.nx ds (S.new (.lst acc)) = some (S.new (.lst (acc ++ (ds.filter B).map F)))
  | [], acc, _, _ => by rw [List.filter_nil, List.map_nil, List.append_nil]; rfl
  | d :: ds, acc, hl, h => by
    obtain ⟨h1, h2, h3⟩ := h d List.mem_cons_self acc
    unfold loopC
    rw [h1]
    dsimp only
    rw [h2]
    cases e : B d with
    | false =>
      dsimp only
      rw [loopC_filt ds acc (by simp at hl ⊢; omega) fun e he => h e (List.mem_cons_of_mem _ he), List.filter_cons_of_neg (by rw [e]; decide)]
    | true =>
      dsimp only
      rw [h3]
      dsimp only
      rw [look_new]
      dsimp only
      have hk : lineOk (acc.length + 1) = true := Nat.ble_eq_true_of_le (by simp at hl; omega)
      rw [hk]
      dsimp only
      rw [new_set, loopC_filt ds (acc ++ [F d]) (by simp at hl ⊢; omega) fun e he => h e (List.mem_cons_of_mem _ he), List.append_assoc, List.filter_cons_of_pos e]
      rfl
theorem dLc_filt {S : Sto} {fin : D → Sto → Res D} {fi : DI} {gt : D → Ga → Sto → Option Ga} {ft : DT} {fe : DE} {vs : List Nat} {Γ : Ga} {S0 : Sto} {F : D → D} {B : D → Bool} {G : D → Ga} {ds : List D} (hi : fi Γ S0 = .ok (ds, .no) S) (hl : ds.length ≤ 1000)
    (h : ∀ d ∈ ds, ∀ acc', gt d (wipeG Γ vs) (S.new (.lst acc')) = some (G d) ∧ ft (G d) (S.new (.lst acc')) = .ok (B d) (S.new (.lst acc')) ∧ fe (G d) (S.new (.lst acc')) = .ok (F d) (S.new (.lst acc'))) :
    dLc fin fi gt ft fe vs Γ S0 = fin (.ref S.nx) (S.new (.lst ((ds.filter B).map F))) := by
  unfold dLc
  rw [hi]
  show (match loopC gt ft fe (wipeG Γ vs) S.nx ds (S.new (.lst [])) with
    | some S2 => (match unl .no S2 with
      | some S3 => fin (.ref S.nx) S3
      | none => .bad)
    | none => .bad) = _
  rw [loopC_filt ds [] (by simpa using hl) h]
  rfl
theorem put_step {S : Sto} {kds : List (Key × D)} {k v : D} {key : Key} (hk : keyOf k = some key) (hl : kds.length + 1 ≤ 1000) : fPutD (.ref S.nx) k v (S.new (.dct kds)) = some (S.new (.dct (putG eqK kds key v))) := by
  unfold fPutD onS
  dsimp only
  rw [look_new]
  dsimp only
  rw [hk]
  show ifS (lineOk (kds.length + 1)) ((S.new (.dct kds)).set S.nx (.dct (putG eqK kds key v))) = _
  rw [new_set, show lineOk (kds.length + 1) = true from Nat.ble_eq_true_of_le (by omega)]; rfl
theorem putAll_step {S : Sto} {kds kds' : List (Key × D)} {k v : D} {key : Key} {r : List (D × D)} (hk : keyOf k = some key) (hl : Nat.ble (kds.length + 1) 1000 = true) (he : putG eqK kds key v = kds') : Pd.putAll S.nx ((k, v) :: r) (S.new (.dct kds)) = Pd.putAll S.nx r (S.new (.dct kds')) := by
  conv => lhs; unfold Pd.putAll
  rw [put_step hk (Nat.le_of_ble_eq_true hl), he]
def anyS : List Str → Str → Bool
  | [], _ => false
  | y :: r, x => (match eqS y x with
    | true => true
    | false => anyS r x)
theorem inD_strs {x : Str} : ∀ l : List Str, inD (.str x) (l.map D.str) = some (anyS l x)
  | [] => rfl
  | y :: r => by
    show (match inD (.str x) (r.map D.str) with | some b => (match eqS y x with | true => some true | false => some b) | none => none) = some (match eqS y x with | true => true | false => anyS r x)
    rw [inD_strs r]
    cases eqS y x <;> rfl
inductive Ups (S : Sto) : Sto → Prop
  | refl : Ups S S
  | up {S' : Sto} (h : Ups S S') : Ups S (Lw.up S')
section
variable {S S' : Sto} {n m : Nat}
theorem Sr.ups (s : Sr S n m) (u : Ups S S') : Sr S' n m := by induction u with
  | refl => exact s
  | up _ ih => exact ih.up
end
end Lw

namespace Lw
open L2 PySem PySem.Spec PyProof.Rows Pd
/-! what is locked while it is walked -/
theorem put_same : ∀ {l : List (Nat × MO)} {n : Nat} {q : MO}, look l n = some q → put l n q = l
  | [], _, _, _ => rfl
  | (k, m) :: r, n, q, h => by
    unfold look at h
    unfold put
    cases e : Nat.beq k n with
    | true => rw [e] at h; cases h; rfl
    | false => rw [e] at h; rw [put_same h]
theorem lock_round {S : Sto} {k : Nat} {m q L : MO} (o : Ok S) (hk : k < S.nx) (h : S.at k = some m) : ((((S.set k q).new L).set k m).del S.nx) = Lw.up S := by
  have hne : Nat.beq S.nx k = false := by
    cases e : Nat.beq S.nx k with
    | true => exact absurd (Nat.eq_of_beq_eq_true e) (by omega)
    | false => rfl
  show Sto.mk (S.nx + 1) (cut (put ((S.nx, L) :: put S.ob k q) k m) S.nx) = ⟨S.nx + 1, S.ob⟩
  have e1 : put ((S.nx, L) :: put S.ob k q) k m = (S.nx, L) :: S.ob := by
    conv => lhs; unfold put
    rw [hne]
    show (S.nx, L) :: put (put S.ob k q) k m = _
    rw [put_put, put_same h]
  rw [e1]
  unfold cut
  rw [Nat.beq_refl]
  show Sto.mk (S.nx + 1) (cut S.ob S.nx) = _
  rw [cut_none S.ob S.nx (o S.nx (Nat.le_refl _))]
theorem frz_locked {S : Sto} {k : Nat} {m q : MO} {ds : List D} (o : Ok S) (hk : k < S.nx) (h : S.at k = some m) : (match unl (.st k) ((S.set k (.lck m)).new (.lst ds)) with | some S3 => frz (.ref S.nx) S3 | none => .bad) = .ok (.lst ds) (Lw.up S) := by
  have e1 : ((S.set k (.lck m)).new (.lst ds)).at k = some (.lck m) := by
    rw [look_new_ne (S := S.set k (.lck m)) (Nat.ne_of_lt hk)]; exact at_set h
  have e2 : unl (.st k) ((S.set k (.lck m)).new (.lst ds)) = some (((S.set k (.lck m)).new (.lst ds)).set k m) := by
    unfold unl
    dsimp only
    rw [e1]
  rw [e2]
  have e3 : (((S.set k (.lck m)).new (.lst ds)).set k m).at S.nx = some (.lst ds) := by
    rw [at_set_ne (Nat.ne_of_gt hk)]
    exact look_new (S := S.set k (.lck m))
  show frz (.ref S.nx) (((S.set k (.lck m)).new (.lst ds)).set k m) = _
  unfold frz
  dsimp only
  rw [e3]
  dsimp only
  rw [lock_round o hk h]
/-- a comprehension over something that is locked meanwhile -/
theorem dLc_lock {S : Sto} {fi : DI} {gt : D → Ga → Sto → Option Ga} {ft : DT} {fe : DE} {vs : List Nat} {Γ : Ga} {F : D → D} {G : D → Ga} {ds : List D} {k : Nat} {m : MO} (o : Ok S) (hk : k < S.nx) (hm : S.at k = some m)
    (hi : fi Γ S = .ok (ds, .st k) (S.set k (.lck m))) (hl : ds.length ≤ 1000)
    (h : ∀ d ∈ ds, ∀ acc', gt d (wipeG Γ vs) ((S.set k (.lck m)).new (.lst acc')) = some (G d) ∧ ft (G d) ((S.set k (.lck m)).new (.lst acc')) = .ok true ((S.set k (.lck m)).new (.lst acc')) ∧ fe (G d) ((S.set k (.lck m)).new (.lst acc')) = .ok (F d) ((S.set k (.lck m)).new (.lst acc'))) :
    dLc frz fi gt ft fe vs Γ S = .ok (.lst (ds.map F)) (Lw.up S) := by
  unfold dLc
  rw [hi]
  show (match loopC gt ft fe (wipeG Γ vs) (S.set k (.lck m)).nx ds ((S.set k (.lck m)).new (.lst [])) with
    | some S2 => (match unl (.st k) S2 with
      | some S3 => frz (.ref (S.set k (.lck m)).nx) S3
      | none => .bad)
    | none => .bad) = _
  rw [loopC_map (S := S.set k (.lck m)) ds [] (by simpa using hl) h]
  exact frz_locked (q := m) o hk hm
/-- .. with a test -/
theorem dLc_lockF {S : Sto} {fi : DI} {gt : D → Ga → Sto → Option Ga} {ft : DT} {fe : DE} {vs : List Nat} {Γ : Ga} {F : D → D} {B : D → Bool} {G : D → Ga} {ds : List D} {k : Nat} {m : MO} (o : Ok S) (hk : k < S.nx) (hm : S.at k = some m)
    (hi : fi Γ S = .ok (ds, .st k) (S.set k (.lck m))) (hl : ds.length ≤ 1000)
    (h : ∀ d ∈ ds, ∀ T : Sto, T.at k = some (.lck m) → (∀ j, j < S.nx → j ≠ k → T.at j = S.at j) → gt d (wipeG Γ vs) T = some (G d) ∧ ft (G d) T = .ok (B d) T ∧ fe (G d) T = .ok (F d) T) :
    dLc frz fi gt ft fe vs Γ S = .ok (.lst ((ds.filter B).map F)) (Lw.up S) := by
  unfold dLc
  rw [hi]
  show (match loopC gt ft fe (wipeG Γ vs) (S.set k (.lck m)).nx ds ((S.set k (.lck m)).new (.lst [])) with
    | some S2 => (match unl (.st k) S2 with
      | some S3 => frz (.ref (S.set k (.lck m)).nx) S3
      | none => .bad)
    | none => .bad) = _
  rw [loopC_filt (S := S.set k (.lck m)) ds [] (by simpa using hl) fun d hd acc' => h d hd _ (by
    rw [look_new_ne (S := S.set k (.lck m)) (Nat.ne_of_lt hk)]; exact at_set hm) fun j hj hne => by
    rw [look_new_ne (S := S.set k (.lck m)) (Nat.ne_of_lt hj)]; exact at_set_ne hne]
  exact frz_locked (q := m) o hk hm
end Lw

namespace Lw
open L2 PySem PySem.Spec PyProof.Rows Pd

abbrev gPk (n : Nat) (k : Int) (a b : Option D) : Ga := [some (.ref n), some (.int k), a, b]
abbrev tstP : DT := (dAnd (t2 fGt (dVar 1) (dC (.int 1))) (dAnd (t2 fLt (d2 fIx (dVar 0) (dC (.str (⟨#[108, 101, 102, 116]⟩ : Str)))) (dC (.int 2))) (t2 fGt (dCB gLen (aCons (d2 fIx (dVar 0) (dC (.str (⟨#[99, 101, 108, 108, 115]⟩ : Str)))) aNil)) (dC (.int 0)))))
abbrev bdyP : DS := (sPut (dBM isL gPop (d2 fIx (dVar 0) (dC (.str (⟨#[99, 101, 108, 108, 115]⟩ : Str)))) aNil) (dVar 0) (dC (.str (⟨#[108, 101, 102, 116]⟩ : Str))))
theorem whileP {n m : Nat} {x t k : Int} : ∀ (fuel : Nat) (cs : List Int) (S : Sto) (l : Int), cs.length < fuel → Src S n m cs l x t → ∃ S' cs' l', loopW tstP bdyP fuel (gPk n k none none) S = .nx (gPk n k none none) S' ∧ Src S' n m cs' l' x t ∧ cs'.length ≤ cs.length ∧ S'.nx = S.nx ∧ Fr2 n m S S'
  | 0, _, _, _, h, _ => absurd h (Nat.not_lt_zero _)
  | fuel + 1, cs, S, l, h, s => by
    have e0 : (t2 fGt (dVar 1) (dC (.int 1))) (gPk n k none none) S = .ok (ltB 1 k) S := by
      rw [t2_ok (a := .int k) (b := .int 1) rfl rfl]; rfl
    have e1 : (t2 fLt (d2 fIx (dVar 0) (dC (.str kLeft))) (dC (.int 2))) (gPk n k none none) S = .ok (ltB l 2) S := by
      rw [t2_ok (d2_ok (f := fIx) (a := .ref n) (b := .str kLeft) rfl rfl |>.trans (ix_d s.d rfl)) (b := .int 2) rfl]; rfl
    have ec : d2 fIx (dVar 0) (dC (.str kCells)) (gPk n k none none) S = .ok (.ref m) S := (d2_ok (f := fIx) (a := .ref n) (b := .str kCells) rfl rfl).trans (ix_d s.d rfl)
    have e2 : (t2 fGt (dCB gLen (aCons (d2 fIx (dVar 0) (dC (.str kCells))) aNil)) (dC (.int 0))) (gPk n k none none) S = .ok (ltB 0 (cs.length : Int)) S := by
      have q : dCB gLen (aCons (d2 fIx (dVar 0) (dC (.str kCells))) aNil) (gPk n k none none) S = .ok (.int cs.length) S := by
        show Res.bind (aCons (d2 fIx (dVar 0) (dC (.str kCells))) aNil (gPk n k none none) S) gLen = _
        rw [args1 ec]
        show gLen [.ref m] S = _
        show (match (match lstV S (.ref m) with | some ds => some ds.length | none => (match dctV S (.ref m) with | some ks => some ks.length | none => (match dttV S (.ref m) with | some ks => some ks.length | none => none))) with | some n => Res.ok (D.int n) S | none => .bad) = _
        rw [lstV_at s.c]
        show Res.ok (D.int ((cs.map D.int).length : Nat)) S = _
        rw [List.length_map]
      rw [t2_ok q (b := .int 0) rfl]; rfl
    have stop : tstP (gPk n k none none) S = .ok false S → ∃ S' cs' l', loopW tstP bdyP (fuel + 1) (gPk n k none none) S = .nx (gPk n k none none) S' ∧ Src S' n m cs' l' x t ∧ cs'.length ≤ cs.length ∧ S'.nx = S.nx ∧ Fr2 n m S S' := fun z => by
      refine ⟨S, cs, l, ?_, s, Nat.le_refl _, rfl, .refl⟩
      unfold loopW
      rw [z]; rfl
    cases c0 : ltB 1 k with
    | false =>
      refine stop ?_
      show Res.bind ((t2 fGt (dVar 1) (dC (.int 1))) (gPk n k none none) S) _ = _
      rw [e0, c0]; rfl
    | true =>
      have step : tstP (gPk n k none none) S = (dAnd (t2 fLt (d2 fIx (dVar 0) (dC (.str kLeft))) (dC (.int 2))) (t2 fGt (dCB gLen (aCons (d2 fIx (dVar 0) (dC (.str kCells))) aNil)) (dC (.int 0)))) (gPk n k none none) S := by
        show Res.bind ((t2 fGt (dVar 1) (dC (.int 1))) (gPk n k none none) S) _ = _
        rw [e0, c0]; rfl
      cases c1 : ltB l 2 with
      | false =>
        refine stop ?_
        rw [step]
        show Res.bind ((t2 fLt (d2 fIx (dVar 0) (dC (.str kLeft))) (dC (.int 2))) (gPk n k none none) S) _ = _
        rw [e1, c1]; rfl
      | true =>
        have step2 : tstP (gPk n k none none) S = (t2 fGt (dCB gLen (aCons (d2 fIx (dVar 0) (dC (.str kCells))) aNil)) (dC (.int 0))) (gPk n k none none) S := by
          rw [step]
          show Res.bind ((t2 fLt (d2 fIx (dVar 0) (dC (.str kLeft))) (dC (.int 2))) (gPk n k none none) S) _ = _
          rw [e1, c1]; rfl
        rcases List.eq_nil_or_concat cs with hc | ⟨ds, z, hc⟩ <;> (try rw [List.concat_eq_append] at hc)
        · subst hc
          refine stop ?_
          rw [step2, e2]; rfl
        · subst hc
          have hz : 0 ≤ z := s.cs0 z (by simp)
          obtain ⟨p1, s1⟩ := s.pop
          obtain ⟨p2, s2⟩ := s1.left hz
          have hlen : ds.length < fuel := by simp at h; omega
          obtain ⟨S', cs', l', q1, q2, q3, q4, q5⟩ := whileP fuel ds _ z hlen s2
          refine ⟨S', cs', l', ?_, q2, by simp; omega, q4, ((Fr2.setm (S := S)).trans .setn).trans q5⟩
          rw [← q1]
          conv => lhs; unfold loopW
          have e3 : tstP (gPk n k none none) S = .ok true S := by
            rw [step2, e2, ltB_eq, decide_eq_true (by simp)]
          have e4 : bdyP (gPk n k none none) S = .nx (gPk n k none none) ((S.set m (.lst (ds.map D.int))).set n (sd m z x t)) := by
            refine put_nx (v := .int z) (o := .ref n) (i := .str kLeft) ?_ rfl rfl p2
            show Res.bind (d2 fIx (dVar 0) (dC (.str kCells)) (gPk n k none none) S) _ = _
            rw [ec]
            show guard (isL S (.ref m)) (gPop (.ref m) [] S) = _
            have : isL S (.ref m) = true := by unfold isL; rw [lstV_at s.c]
            rw [this, ← p1]; rfl
          rw [e3]
          show (match bdyP (gPk n k none none) S with
            | .nx Γ2 S2 => loopW tstP bdyP fuel Γ2 S2
            | .ct Γ2 S2 => loopW tstP bdyP fuel Γ2 S2
            | .bk Γ2 S2 => .nx Γ2 S2
            | o => o) = _
          rw [e4]
theorem maxk {k : Int} (hk : 1 ≤ k) {a b : Option D} {n : Nat} {S : Sto} : dCB gMax2 (aCons (dC (.int 1)) (aCons (dVar 1) aNil)) (gPk n k a b) S = .ok (.int k) S := by
  show gMax2 [.int 1, .int k] S = _
  show (match ltB 1 k with | true => Res.ok (D.int k) S | false => Res.ok (D.int 1) S) = _
  rw [ltB_eq]
  by_cases h : 1 < k
  · rw [decide_eq_true h]
  · have : k = 1 := by omega
    subst this; rfl
theorem pickP {S : Sto} {n m : Nat} {cs : List Int} {l x t k : Int} (hk : 1 ≤ k) (hk2 : k ≤ 1000000) (s : Src S n m cs l x t) (hl : cs.length ≤ 63) :
    ∃ i S' cs' l' t', f15 [.ref n, .int k] S = .ok (.int i) S' ∧ 0 ≤ i ∧ i < k ∧ Src S' n m cs' l' x t' ∧ cs'.length ≤ 63 ∧ S'.nx = S.nx ∧ Fr2 n m S S' := by
  obtain ⟨S1, cs1, l1, e3, s1, hl1, n1, f1⟩ := whileP (k := k) 100000 cs S l (by omega) s
  have e4 : sSet (d2 fIx (dVar 0) (dC (.str kLeft))) 2 (gPk n k none none) S1 = .nx (gPk n k (some (.int l1)) none) S1 := set_nx ((d2_ok rfl rfl).trans (ix_d s1.d rfl))
  have g1 : t2 fLt (dVar 1) (dC (.int 2)) (gPk n k (some (.int l1)) none) S1 = .ok (ltB k 2) S1 := by
    rw [t2_ok (a := .int k) (b := .int 2) rfl rfl]; rfl
  have g2 : t2 fGt (dVar 2) (dC (.int 1)) (gPk n k (some (.int l1)) none) S1 = .ok (ltB 1 l1) S1 := by
    rw [t2_ok (a := .int l1) (b := .int 1) rfl rfl]; rfl
  have g3 : (dOr (t2 fLt (dVar 1) (dC (.int 2))) (t2 fGt (dVar 2) (dC (.int 1)))) (gPk n k (some (.int l1)) none) S1 = .ok (ltB k 2 || ltB 1 l1) S1 := by
    unfold dOr
    rw [g1]
    cases ltB k 2 with
    | true => rfl
    | false => exact g2
  by_cases h3 : (ltB k 2 || ltB 1 l1) = true
  · rw [h3] at g3
    have hd0 : 0 ≤ l1.fdiv k := Int.fdiv_nonneg s1.l0 (by omega)
    obtain ⟨p1, s2⟩ := s1.left hd0
    have e5 : sPut (d2 fDiv (dVar 2) (dCB gMax2 (aCons (dC (.int 1)) (aCons (dVar 1) aNil)))) (dVar 0) (dC (.str kLeft)) (gPk n k (some (.int l1)) none) S1 = .nx (gPk n k (some (.int l1)) none) (S1.set n (sd m (l1.fdiv k) x t)) :=
      put_nx ((d2_ok (a := .int l1) rfl (maxk hk)).trans (div_ok (by omega) (by omega))) rfl rfl p1
    have e6 : sRet (d2 fMod (dCB gInt (aCons (dVar 2) aNil)) (dCB gMax2 (aCons (dC (.int 1)) (aCons (dVar 1) aNil)))) (gPk n k (some (.int l1)) none) (S1.set n (sd m (l1.fdiv k) x t)) = .rt (.int (l1.fmod k)) (S1.set n (sd m (l1.fdiv k) x t)) :=
      ret_rt ((d2_ok (int_ok rfl) (maxk hk)).trans (mod_ok (by omega)))
    have b := fmod_in (i := l1) (j := k) (by omega)
    refine ⟨l1.fmod k, _, cs1, _, t, ?_, b.1, b.2, s2, by omega, n1, f1.trans .setn⟩
    show endD (den15 (gPk n k none none) S) = _
    unfold den15
    rw [seq_nx e3, seq_nx e4, seq_rt ((if_t g3).trans ((seq_nx e5).trans e6))]
    rfl
  · rw [Bool.not_eq_true] at h3
    rw [h3] at g3
    have e5 : ∀ a : DS, sIf (dOr (t2 fLt (dVar 1) (dC (.int 2))) (t2 fGt (dVar 2) (dC (.int 1)))) a sNil (gPk n k (some (.int l1)) none) S1 = .nx (gPk n k (some (.int l1)) none) S1 := fun a => (if_f g3).trans rfl
    obtain ⟨p1, s2⟩ := s1.turn (v := t + 1)
    have e6 : sPut (d2 fAdd (d2 fIx (dVar 0) (dC (.str kTurn))) (dC (.int 1))) (dVar 0) (dC (.str kTurn)) (gPk n k (some (.int l1)) none) S1 = .nx (gPk n k (some (.int l1)) none) (S1.set n (sd m l1 x (t + 1))) :=
      put_nx (add_ok ((d2_ok rfl rfl).trans (ix_d s1.d rfl)) rfl) rfl rfl p1
    have tn : ∀ b : Option D, d2 fIx (dVar 0) (dC (.str kTurn)) (gPk n k (some (.int l1)) b) (S1.set n (sd m l1 x (t + 1))) = .ok (.int (t + 1)) (S1.set n (sd m l1 x (t + 1))) := fun b => (d2_ok rfl rfl).trans (ix_d s2.d rfl)
    have e8 : sSet (d2 fMod (dCB gInt (aCons (d2 fAdd (d2 fIx (dVar 0) (dC (.str kMixed))) (d2 fMul (d2 fIx (dVar 0) (dC (.str kTurn))) (dC (.int 104729)))) aNil)) (dC (.int 998244353))) 3 (gPk n k (some (.int l1)) none) (S1.set n (sd m l1 x (t + 1))) = .nx (gPk n k (some (.int l1)) (some (.int ((x + (t + 1) * 104729).fmod 998244353)))) (S1.set n (sd m l1 x (t + 1))) :=
      set_nx ((d2_ok (int_ok (add_ok ((d2_ok rfl rfl).trans (ix_d s2.d rfl)) ((d2_ok (tn none) rfl).trans (mul_ok (.inr rfl))))) rfl).trans (mod_ok (by decide)))
    have b1 := fmod_in (i := x + (t + 1) * 104729) (j := 998244353) (by decide)
    generalize (x + (t + 1) * 104729).fmod 998244353 = y at e8 b1
    have e9 : sSet (d2 fMod (dCB gInt (aCons (d2 fAdd (d2 fMul (dVar 3) (dVar 3)) (d2 fMul (d2 fIx (dVar 0) (dC (.str kTurn))) (dC (.int 17)))) aNil)) (dC (.int 2147483647))) 3 (gPk n k (some (.int l1)) (some (.int y))) (S1.set n (sd m l1 x (t + 1))) = .nx (gPk n k (some (.int l1)) (some (.int ((y * y + (t + 1) * 17).fmod 2147483647)))) (S1.set n (sd m l1 x (t + 1))) :=
      set_nx ((d2_ok (int_ok (add_ok ((d2_ok rfl rfl).trans (mul_ok (.inl (small_of b1.1 (by omega))))) ((d2_ok (tn _) rfl).trans (mul_ok (.inr rfl))))) rfl).trans (mod_ok (by decide)))
    have b2 := fmod_in (i := y * y + (t + 1) * 17) (j := 2147483647) (by decide)
    generalize (y * y + (t + 1) * 17).fmod 2147483647 = z at e9 b2
    have e11 : sRet (d2 fMod (dCB gInt (aCons (d2 fDiv (dVar 3) (dC (.int 16))) aNil)) (dVar 1)) (gPk n k (some (.int l1)) (some (.int z))) (S1.set n (sd m l1 x (t + 1))) = .rt (.int ((z.fdiv 16).fmod k)) (S1.set n (sd m l1 x (t + 1))) :=
      ret_rt ((d2_ok (int_ok ((d2_ok rfl rfl).trans (div_ok (by decide) (by decide)))) rfl).trans (mod_ok (by omega)))
    have b := fmod_in (i := z.fdiv 16) (j := k) (by omega)
    refine ⟨(z.fdiv 16).fmod k, _, cs1, _, t + 1, ?_, b.1, b.2, s2, by omega, n1, f1.trans .setn⟩
    show endD (den15 (gPk n k none none) S) = _
    unfold den15
    rw [seq_nx e3, seq_nx e4, seq_nx (e5 _), seq_nx e6, seq_nx e8, seq_nx e9, e11]
    rfl
theorem pick' {S : Sto} {n m : Nat} {k : Int} (hk : 1 ≤ k) (hk2 : k ≤ 1000000) (s : Sr S n m) : ∃ i S', f15 [.ref n, .int k] S = .ok (.int i) S' ∧ 0 ≤ i ∧ i < k ∧ Sr S' n m ∧ S'.nx = S.nx ∧ Fr2 n m S S' := by
  obtain ⟨cs, l, x, t, h, e⟩ := s
  obtain ⟨i, S', a, b, c, h1, h2, h3, h4, h5, h6, h7⟩ := pickP hk hk2 h e
  exact ⟨i, S', h1, h2, h3, ⟨a, b, x, c, h4, h5⟩, h6, h7⟩
end Lw

namespace Lw
open L2 PySem PySem.Spec PyProof.Rows Pd

abbrev bodS : DS := (sSet (d2 fMod (dCB gInt (aCons (d2 fAdd (d2 fAdd (d2 fMul (dVar 1) (dC (.int 69069))) (d2 fMul (dVar 2) (dC (.int 31)))) (dC (.int 5))) aNil)) (dC (.int 2147483629))) 1)
theorem loopS {f : D} {S : Sto} : ∀ (ns : List Int) (y : Int) (c : Option D), ∃ y' c', loopD (gN 2) bodS (ns.map D.int) [some f, some (.int y), c] S = .nx [some f, some (.int y'), c'] S
  | [], y, c => ⟨y, c, rfl⟩
  | a :: ns, y, c => by
    have e : bodS [some f, some (.int y), some (.int a)] S = .nx [some f, some (.int ((y * 69069 + a * 31 + 5).fmod 2147483629)), some (.int a)] S :=
      set_nx ((d2_ok (int_ok (add_ok (add_ok ((d2_ok rfl rfl).trans (mul_ok (.inr rfl))) ((d2_ok rfl rfl).trans (mul_ok (.inr rfl)))) rfl)) rfl).trans (mod_ok (by decide)))
    obtain ⟨y', c', q⟩ := loopS ns ((y * 69069 + a * 31 + 5).fmod 2147483629) (some (.int a))
    refine ⟨y', c', ?_⟩
    show (match bodS [some f, some (.int y), some (.int a)] S with
      | .nx Γ2 S2 => loopD (gN 2) bodS (ns.map D.int) Γ2 S2
      | .ct Γ2 S2 => loopD (gN 2) bodS (ns.map D.int) Γ2 S2
      | .bk Γ2 S2 => .nx Γ2 S2
      | o => o) = _
    rw [e]
    exact q
/-- the source as it lies first -/
def S2x (cs : List Int) (l x t : Int) : Sto := ⟨2, [(1, .lst (cs.map D.int)), (0, sd 1 l x t)]⟩
theorem src24 (ns : List Int) (hl : ns.length ≤ 63) : ∃ (cs : List Int) (x : Int), f14 [.frl (ns.map D.int)] S0 = .ok (.ref 0) (S2x cs 1 x 0) ∧ cs.length ≤ 63 ∧ ∀ c ∈ cs, 0 ≤ c := by
  obtain ⟨y, c, q⟩ := loopS (f := .frl (ns.map D.int)) (S := S0) ns 11 none
  have e1 : sSet (dC (.int 11)) 1 [some (.frl (ns.map D.int)), none, none] S0 = .nx [some (.frl (ns.map D.int)), some (.int 11), none] S0 := rfl
  have e2 : sFor (iAny (dVar 0)) (gN 2) bodS [some (.frl (ns.map D.int)), some (.int 11), none] S0 = .nx [some (.frl (ns.map D.int)), some (.int y), c] S0 := by
    rw [for_no (ds := ns.map D.int) (S1 := S0) rfl, q]; rfl
  refine ⟨ns.map absI, y, ?_, by simpa using hl, fun c hc => ?_⟩
  · have e3 : dLc keep (iAny (dVar 0)) (gN 2) dYes (dCB gAbs (aCons (dVar 2) aNil)) [2] [some (.frl (ns.map D.int)), some (.int y), c] (S0.new (.dct [])) = .ok (.ref 1) ((S0.new (.dct [])).new (.lst ((ns.map D.int).map absD))) := by
      refine (dLc_ok (S := S0.new (.dct [])) (F := absD) (G := fun d => [some (.frl (ns.map D.int)), some (.int y), some d]) (ds := ns.map D.int) rfl (by simp; omega) fun d hd acc => ?_).trans rfl
      obtain ⟨i, _, rfl⟩ := List.mem_map.mp hd
      exact ⟨rfl, rfl, rfl⟩
    have e4 : ((ns.map D.int).map absD) = (ns.map absI).map D.int := by
      rw [List.map_map, List.map_map]; rfl
    rw [e4] at e3
    have e5 : dDisp false (pCons (dC (.str kCells)) (dLc keep (iAny (dVar 0)) (gN 2) dYes (dCB gAbs (aCons (dVar 2) aNil)) [2]) (pCons (dC (.str kLeft)) (dC (.int 1)) (pCons (dC (.str kMixed)) (dVar 1) (pCons (dC (.str kTurn)) (dC (.int 0)) pNil)))) [some (.frl (ns.map D.int)), some (.int y), c] S0 = .ok (.ref 0) (S2x (ns.map absI) 1 y 0) := by
      show Res.bind (Res.bind (dLc keep (iAny (dVar 0)) (gN 2) dYes (dCB gAbs (aCons (dVar 2) aNil)) [2] [some (.frl (ns.map D.int)), some (.int y), c] (S0.new (.dct []))) _) _ = _
      rw [e3]
      rfl
    show endD (den14 [some (.frl (ns.map D.int)), none, none] S0) = _
    unfold den14
    rw [seq_nx e1, seq_nx e2, ret_rt e5]
    rfl
  · obtain ⟨i, _, rfl⟩ := List.mem_map.mp hc
    cases i <;> exact Int.natCast_nonneg _
theorem src2_ok {cs : List Int} {l x t : Int} (h0 : 0 ≤ l) (h : ∀ c ∈ cs, 0 ≤ c) : Src (S2x cs l x t) 0 1 cs l x t :=
  ⟨rfl, rfl, by decide, by show 0 < 2; decide, by show 1 < 2; decide, fun k hk => by
    have hk : 2 ≤ k := hk
    show look [(1, .lst (cs.map D.int)), (0, sd 1 l x t)] k = none
    unfold look
    cases e : Nat.beq 1 k with
    | true => exact absurd (Nat.eq_of_beq_eq_true e) (by omega)
    | false =>
      unfold look
      cases e : Nat.beq 0 k with
      | true => exact absurd (Nat.eq_of_beq_eq_true e) (by omega)
      | false => rfl, h0, h⟩
/-! the entries -/
abbrev wAll : Str := ⟨#[97, 108, 108]⟩
abbrev wSys : Str := ⟨#[115, 121, 115, 116, 101, 109]⟩
abbrev rights8 : List Str := [⟨#[]⟩, ⟨#[114]⟩, ⟨#[114, 119]⟩, ⟨#[114, 119, 120]⟩, ⟨#[120]⟩, ⟨#[119]⟩, ⟨#[114, 120]⟩, ⟨#[119, 120]⟩]
abbrev Ent : Type := Int × Str × Str
def entD : Ent → D
  | (f, who, r) => .tup [.int f, .str who, .str r]
structure GoodE (e : Ent) : Prop where
  f0 : 0 ≤ e.1
  who : e.2.1 = wAll ∨ e.2.1 = wSys
  r : e.2.2 ∈ rights8
/-- entries of a dict: words and entries -/
def kdsOf (es : List (Int × Ent)) : List (Key × D) := es.map fun p => (.inl p.1, entD p.2)
def GoodEs (W : Int) (es : List (Int × Ent)) : Prop := ∀ p ∈ es, 0 ≤ p.1 ∧ p.1 < W ∧ GoodE p.2
theorem hasG_kds {w : Int} : ∀ es : List (Int × Ent), hasG eqK (kdsOf es) (.inl w) = es.any fun p => eqB p.1 w
  | [] => rfl
  | (a, e) :: r => by
    show (match eqB a w with | true => true | false => hasG eqK (kdsOf r) (.inl w)) = (eqB a w || r.any fun p => eqB p.1 w)
    rw [hasG_kds r]
    cases eqB a w <;> rfl
theorem repG_kds {w : Int} {e : Ent} : ∀ es : List (Int × Ent), repG eqK (kdsOf es) (.inl w) (entD e) = kdsOf (es.map fun p => match eqB p.1 w with | true => (p.1, e) | false => p)
  | [] => rfl
  | (a, x) :: r => by
    show (match eqB a w with | true => (Sum.inl a, entD e) :: repG eqK (kdsOf r) (.inl w) (entD e) | false => (Sum.inl a, entD x) :: repG eqK (kdsOf r) (.inl w) (entD e)) = (Sum.inl (match eqB a w with | true => (a, e) | false => (a, x)).1, entD (match eqB a w with | true => (a, e) | false => (a, x)).2) :: kdsOf (r.map fun p => match eqB p.1 w with | true => (p.1, e) | false => p)
    rw [repG_kds r]
    cases eqB a w <;> rfl
theorem putG_kds {W w : Int} {e : Ent} {es : List (Int × Ent)} (h : GoodEs W es) (h0 : 0 ≤ w) (h1 : w < W) (he : GoodE e) : ∃ es', putG eqK (kdsOf es) (.inl w) (entD e) = kdsOf es' ∧ GoodEs W es' ∧ es'.length ≤ es.length + 1 := by
  unfold putG
  cases hasG eqK (kdsOf es) (.inl w) with
  | true =>
    refine ⟨_, repG_kds es, fun p hp => ?_, by simp⟩
    obtain ⟨q, hq, rfl⟩ := List.mem_map.mp hp; have := h q hq
    cases eqB q.1 w with
    | true => exact ⟨this.1, this.2.1, he⟩
    | false => exact this
  | false =>
    refine ⟨es ++ [(w, e)], by show kdsOf es ++ [(Sum.inl w, entD e)] = _; unfold kdsOf; rw [List.map_append]; rfl, fun p hp => ?_, by simp⟩
    rcases (List.mem_append.mp hp) with hp | hp
    · exact h p hp
    · obtain rfl := List.mem_singleton.mp hp
      exact ⟨h0, h1, he⟩
def enOf (es : List (Int × Ent)) (w : Int) : Option Ent := match es with
  | [] => none
  | (a, e) :: r => (match eqB a w with
    | true => some e
    | false => enOf r w)
theorem look_kds {w : Int} : ∀ es : List (Int × Ent), lookK (kdsOf es) (.inl w) = (enOf es w).map entD
  | [] => rfl
  | (a, e) :: r => by
    show (match eqB a w with | true => some (entD e) | false => lookK (kdsOf r) (.inl w)) = Option.map entD (match eqB a w with | true => some e | false => enOf r w)
    rw [look_kds r]
    cases eqB a w <;> rfl
theorem en_good {W w : Int} {e : Ent} : ∀ {es : List (Int × Ent)}, GoodEs W es → enOf es w = some e → GoodE e
  | [], _, h => by cases h
  | (a, x) :: r, g, h => by
    have h : (match eqB a w with | true => some x | false => enOf r w) = some e := h
    cases q : eqB a w with
    | true => rw [q] at h; cases h; exact (g _ List.mem_cons_self).2.2
    | false => rw [q] at h; exact en_good (fun p hp => g p (List.mem_cons_of_mem _ hp)) h
end Lw

namespace Lw
open L2 PySem PySem.Spec PyProof.Rows Pd

/-! ### what is kept -/
structure Pk (S S' : Sto) (L : Nat → Prop) : Prop where
  nx : S.nx ≤ S'.nx
  at_ : ∀ j, j < S.nx → ¬ L j → S'.at j = S.at j
  ok : Ok S'
section
variable {S S' S'' : Sto} {L L' L'' : Nat → Prop} {n m : Nat}
theorem Pk.refl (o : Ok S) : Pk S S L := ⟨Nat.le_refl _, fun _ _ _ => rfl, o⟩
theorem Pk.trans (a : Pk S S' L) (b : Pk S' S'' L) : Pk S S'' L := ⟨Nat.le_trans a.nx b.nx, fun j h1 h2 => (b.at_ j (Nat.lt_of_lt_of_le h1 a.nx) h2).trans (a.at_ j h1 h2), b.ok⟩
theorem Pk.mono (a : Pk S S' L) (h : ∀ j, j < S.nx → L j → L' j) : Pk S S' L' := ⟨a.nx, fun j h1 h2 => a.at_ j h1 fun z => h2 (h j h1 z), a.ok⟩
theorem Pk.none (a : Pk S S' fun _ => False) : Pk S S' L := a.mono fun _ _ z => z.elim
theorem Pk.up (a : Pk S S' L) : Pk S (Lw.up S') L := ⟨Nat.le_succ_of_le a.nx, a.at_, a.ok.up⟩
theorem Pk.new {q : MO} (a : Pk S S' L) : Pk S (S'.new q) L := ⟨Nat.le_succ_of_le a.nx, fun j h1 h2 => by
  rw [look_new_ne (Nat.ne_of_lt (Nat.lt_of_lt_of_le h1 a.nx))]; exact a.at_ j h1 h2, a.ok.new⟩
theorem Pk.set {q : MO} (a : Pk S S' L) (hm : m < S'.nx) (h : m < S.nx → L m) : Pk S (S'.set m q) L := ⟨a.nx, fun j h1 h2 => by
  rw [at_set_ne (fun z => by subst z; exact h2 (h h1))]; exact a.at_ j h1 h2, a.ok.set hm⟩
theorem Sr.pk (s : Sr S 0 1) (k : Pk S S' L) (h0 : ¬ L 0) (h1 : ¬ L 1) : Sr S' 0 1 := by
  obtain ⟨cs, l, x, t, h, e⟩ := s
  exact ⟨cs, l, x, t, ⟨by rw [k.at_ 0 h.nn h0]; exact h.d, by rw [k.at_ 1 h.mn h1]; exact h.c, h.ne, Nat.lt_of_lt_of_le h.nn k.nx, Nat.lt_of_lt_of_le h.mn k.nx, k.ok, h.l0, h.cs0⟩, e⟩
theorem Pk.of_fr (s : Sr S' 0 1) (f : Fr2 0 1 S S') (h : S'.nx = S.nx) : Pk S S' fun j => j = 0 ∨ j = 1 := ⟨by omega, fun j _ h2 => f.1 j (fun z => h2 (.inl z)) fun z => h2 (.inr z), s.ok⟩
end

/-! ### tables by numbers -/
section
variable {ε : Type} (f : ε → D)
abbrev Tb (ε : Type) := List (Int × ε)
def kdz (es : Tb ε) : List (Key × D) := es.map fun p => (.inl p.1, f p.2)
def hasE : Tb ε → Int → Bool
  | [], _ => false
  | (a, _) :: r, w => (match eqB a w with
    | true => true
    | false => hasE r w)
def repE : Tb ε → Int → ε → Tb ε
  | [], _, _ => []
  | (a, x) :: r, w, e => (match eqB a w with
    | true => (a, e) :: repE r w e
    | false => (a, x) :: repE r w e)
def putE (es : Tb ε) (w : Int) (e : ε) : Tb ε := match hasE es w with
  | true => repE es w e
  | false => es ++ [(w, e)]
def enE : Tb ε → Int → Option ε
  | [], _ => none
  | (a, e) :: r, w => (match eqB a w with
    | true => some e
    | false => enE r w)
def dropE : Tb ε → Int → Tb ε
  | [], _ => []
  | (a, e) :: r, w => (match eqB a w with
    | true => dropE r w
    | false => (a, e) :: dropE r w)
def keysE (es : Tb ε) : List Int := es.map (·.1)
theorem hasG_kdz {w : Int} : ∀ es : Tb ε, hasG eqK (kdz f es) (.inl w) = hasE es w
  | [] => rfl
  | (a, e) :: r => by
    show (match eqB a w with | true => true | false => hasG eqK (kdz f r) (.inl w)) = (match eqB a w with | true => true | false => hasE r w)
    rw [hasG_kdz r]
theorem repG_kdz {w : Int} {e : ε} : ∀ es : Tb ε, repG eqK (kdz f es) (.inl w) (f e) = kdz f (repE es w e)
  | [] => rfl
  | (a, x) :: r => by
    show (match eqB a w with | true => (Sum.inl a, f e) :: repG eqK (kdz f r) (.inl w) (f e) | false => (Sum.inl a, f x) :: repG eqK (kdz f r) (.inl w) (f e)) = kdz f (match eqB a w with | true => (a, e) :: repE r w e | false => (a, x) :: repE r w e)
    rw [repG_kdz r]
    cases eqB a w <;> rfl
theorem putG_kdz {w : Int} {e : ε} (es : Tb ε) : putG eqK (kdz f es) (.inl w) (f e) = kdz f (putE es w e) := by
  unfold putG putE
  rw [hasG_kdz]
  cases hasE es w with
  | true => exact repG_kdz f es
  | false => show kdz f es ++ [(Sum.inl w, f e)] = _; unfold kdz; rw [List.map_append]; rfl
theorem lookK_kdz {w : Int} : ∀ es : Tb ε, lookK (kdz f es) (.inl w) = (enE es w).map f
  | [] => rfl
  | (a, e) :: r => by
    show (match eqB a w with | true => some (f e) | false => lookK (kdz f r) (.inl w)) = Option.map f (match eqB a w with | true => some e | false => enE r w)
    rw [lookK_kdz r]
    cases eqB a w <;> rfl
theorem dropG_kdz {w : Int} : ∀ es : Tb ε, dropG (kdz f es) (.inl w) = kdz f (dropE es w)
  | [] => rfl
  | (a, e) :: r => by
    show (match eqB a w with | true => dropG (kdz f r) (.inl w) | false => (Sum.inl a, f e) :: dropG (kdz f r) (.inl w)) = kdz f (match eqB a w with | true => dropE r w | false => (a, e) :: dropE r w)
    rw [dropG_kdz r]
    cases eqB a w <;> rfl
theorem keysD_kdz : ∀ es : Tb ε, keysD (kdz f es) = (keysE es).map D.int
  | [] => rfl
  | (a, e) :: r => by
    show D.int a :: keysD (kdz f r) = _
    rw [keysD_kdz r]; rfl
theorem kdz_len (es : Tb ε) : (kdz f es).length = es.length := by unfold kdz; simp
end
section
variable {ε : Type} {es : Tb ε} {w v : Int} {e : ε}
theorem eqB_t {i j : Int} (h : eqB i j = true) : i = j := by rw [eqB_eq] at h; exact of_decide_eq_true h
theorem eqB_f {i j : Int} (h : eqB i j = false) : i ≠ j := by rw [eqB_eq] at h; exact of_decide_eq_false h
theorem eqB_self (i : Int) : eqB i i = true := by rw [eqB_eq]; exact decide_eq_true rfl
theorem eqB_ne {i j : Int} (h : i ≠ j) : eqB i j = false := by rw [eqB_eq]; exact decide_eq_false h
theorem hasE_en : ∀ (es : Tb ε) (w : Int), hasE es w = (enE es w).isSome
  | [], _ => rfl
  | (a, e) :: r, w => by
    unfold hasE enE
    cases eqB a w with
    | true => rfl
    | false => exact hasE_en r w
theorem hasE_mem : ∀ (es : Tb ε) (w : Int), hasE es w = true ↔ w ∈ keysE es
  | [], w => by simp [hasE, keysE]
  | (a, e) :: r, w => by
    have ih := hasE_mem r w
    unfold hasE
    cases h : eqB a w with
    | true => rw [eqB_t h]; simp [keysE]
    | false =>
      have := eqB_f h
      show hasE r w = true ↔ w ∈ a :: keysE r
      rw [ih]
      simp [Ne.symm this]
theorem enE_none {es : Tb ε} {w : Int} (h : w ∉ keysE es) : enE es w = none := by
  have h2 : hasE es w = false := by
    cases z : hasE es w with
    | false => rfl
    | true => exact absurd ((hasE_mem es w).mp z) h
  rw [hasE_en] at h2
  cases z : enE es w with
  | none => rfl
  | some e => rw [z] at h2; cases h2
theorem enE_mem : ∀ {es : Tb ε} {w : Int} {e : ε}, (keysE es).Nodup → (w, e) ∈ es → enE es w = some e
  | [], _, _, _, h => nomatch h
  | (a, x) :: r, w, e, nd, h => by
    obtain ⟨n1, n2⟩ := List.nodup_cons.mp (show (a :: keysE r).Nodup from nd)
    unfold enE
    rcases List.mem_cons.mp h with z | h
    · cases z; rw [eqB_self]
    · have hk : w ∈ keysE r := List.mem_map.mpr ⟨(w, e), h, rfl⟩
      rw [eqB_ne (fun z => by subst z; exact n1 hk)]
      exact enE_mem n2 h
theorem enE_in : ∀ {es : Tb ε} {w : Int} {e : ε}, enE es w = some e → (w, e) ∈ es
  | [], _, _, h => nomatch h
  | (a, x) :: r, w, e, h => by
    unfold enE at h
    cases z : eqB a w with
    | true => rw [z] at h; cases h; rw [eqB_t z]; exact List.mem_cons_self
    | false => rw [z] at h; exact List.mem_cons_of_mem _ (enE_in h)
theorem keysE_rep : ∀ (es : Tb ε) (w : Int) (e : ε), keysE (repE es w e) = keysE es
  | [], _, _ => rfl
  | (a, x) :: r, w, e => by
    unfold repE
    cases eqB a w with
    | true => show a :: keysE (repE r w e) = _; rw [keysE_rep r]; rfl
    | false => show a :: keysE (repE r w e) = _; rw [keysE_rep r]; rfl
theorem keysE_put (es : Tb ε) (w : Int) (e : ε) : keysE (putE es w e) = if w ∈ keysE es then keysE es else keysE es ++ [w] := by
  unfold putE
  cases h : hasE es w with
  | true => rw [if_pos ((hasE_mem es w).mp h)]; exact keysE_rep es w e
  | false =>
    rw [if_neg (fun z => by rw [(hasE_mem es w).mpr z] at h; cases h)]
    unfold keysE; rw [List.map_append]; rfl
theorem nd_put {es : Tb ε} (nd : (keysE es).Nodup) : (keysE (putE es w e)).Nodup := by
  rw [keysE_put]
  split
  · exact nd
  · rename_i h
    exact List.nodup_append.mpr ⟨nd, List.nodup_cons.mpr ⟨by simp, .nil⟩, fun a ha b hb => by
      rw [List.mem_singleton.mp hb]; exact fun z => h (z ▸ ha)⟩
theorem enE_rep : ∀ (es : Tb ε) (w : Int) (e : ε) (v : Int), enE (repE es w e) v = if v = w ∧ hasE es w = true then some e else enE es v
  | [], w, e, v => by simp [repE, enE, hasE]
  | (a, x) :: r, w, e, v => by
    have ih := enE_rep r w e v
    unfold repE
    cases h : eqB a w with
    | true =>
      have h' := eqB_t h
      subst h'
      show (match eqB a v with | true => some e | false => enE (repE r a e) v) = if v = a ∧ hasE ((a, x) :: r) a = true then some e else (match eqB a v with | true => some x | false => enE r v)
      have hh : hasE ((a, x) :: r) a = true := by unfold hasE; rw [eqB_self]
      cases h2 : eqB a v with
      | true => rw [if_pos ⟨(eqB_t h2).symm, hh⟩]
      | false =>
        have n : ¬ v = a := fun z => eqB_f h2 z.symm
        rw [if_neg (fun z => n z.1)]
        show enE (repE r a e) v = enE r v
        rw [ih, if_neg (fun z => n z.1)]
    | false =>
      show (match eqB a v with | true => some x | false => enE (repE r w e) v) = if v = w ∧ (match eqB a w with | true => true | false => hasE r w) = true then some e else (match eqB a v with | true => some x | false => enE r v)
      rw [h]
      cases h2 : eqB a v with
      | true =>
        have n : ¬ v = w := fun z => eqB_f h ((eqB_t h2).trans z)
        rw [if_neg (fun z => n z.1)]
      | false => exact ih
theorem enE_app : ∀ (es fs : Tb ε) (v : Int), enE (es ++ fs) v = (enE es v).or (enE fs v)
  | [], fs, v => by simp [enE]
  | (a, x) :: r, fs, v => by
    show (match eqB a v with | true => some x | false => enE (r ++ fs) v) = ((match eqB a v with | true => some x | false => enE r v) : Option ε).or _
    rw [enE_app r]
    cases eqB a v <;> rfl
theorem enE_put (es : Tb ε) (w : Int) (e : ε) (v : Int) : enE (putE es w e) v = if v = w then some e else enE es v := by
  unfold putE
  cases h : hasE es w with
  | true =>
    show enE (repE es w e) v = _
    rw [enE_rep, h]
    simp
  | false =>
    show enE (es ++ [(w, e)]) v = _
    rw [enE_app]
    have hn : enE es w = none := enE_none fun z => by rw [(hasE_mem es w).mpr z] at h; cases h
    by_cases z : v = w
    · subst z
      rw [if_pos rfl, hn]
      show (match eqB v v with | true => some e | false => enE [] v) = _
      rw [eqB_self]
    · rw [if_neg z]
      show (enE es v).or (match eqB w v with | true => some e | false => none) = _
      rw [eqB_ne (Ne.symm z)]
      simp
theorem dropE_filter : ∀ (es : Tb ε) (w : Int), dropE es w = es.filter fun p => !eqB p.1 w
  | [], _ => rfl
  | (a, x) :: r, w => by
    unfold dropE
    rw [dropE_filter r]
    cases h : eqB a w with
    | true => rw [List.filter_cons_of_neg (by simp [h])]
    | false => rw [List.filter_cons_of_pos (by simp [h])]
end
end Lw

namespace Lw
open L2 PySem PySem.Spec PyProof.Rows Pd

/-! ### trees as data, compared -/
/-- a tree as data, whatever the store -/
def TP (d : D) (p : PyData) : Prop := ∀ S, toPy 40 S d = some p
theorem eqL_self {f : PyData → PyData → Bool} : ∀ xs : List PyData, (∀ x ∈ xs, f x x = true) → eqL f xs xs = true
  | [], _ => rfl
  | x :: xs, h => by
    unfold eqL
    rw [h x List.mem_cons_self]
    exact eqL_self xs fun y hy => h y (List.mem_cons_of_mem _ hy)
theorem eqS_self (x : Str) : eqS x x = true := (eqS_iff x x).mpr rfl
theorem eqF_self : ∀ (n : Nat) (p : PyData), p.depth < n → p.canLay0 = true → eqF n p p = true
  | n, p, h, hl => by
    rw [eqF_eq n p p h hl]
    exact SeqAt.eqv_refl p hl
theorem eqD_self {d : D} {p : PyData} (h : TP d p) (S : Sto) : eqD S d d = some true := by
  unfold eqD
  rw [h S]
  show some (eqF 41 p p) = some true
  rw [eqF_self 41 p (Nat.lt_of_le_of_lt (toPy_depth 40 d p (h S)) (by decide)) (toPy_lay 40 d p (h S))]
theorem eqD_tp {d e : D} {p q : PyData} (h : TP d p) (h' : TP e q) (S : Sto) : eqD S d e = some (eqF 41 p q) := by
  unfold eqD
  rw [h S, h' S]
/-- tables compared -/
theorem eqDk_true {S : Sto} {ls : List (Key × D)} : ∀ ks : List (Key × D), (∀ p ∈ ks, ∃ e, lookK ls p.1 = some e ∧ eqD S p.2 e = some true) → eqDk S ls ks = some true
  | [], _ => rfl
  | (k, d) :: r, h => by
    obtain ⟨e, h1, h2⟩ := h _ List.mem_cons_self
    unfold eqDk
    rw [h1]
    dsimp only
    rw [h2, eqDk_true r fun p hp => h p (List.mem_cons_of_mem _ hp)]
    rfl
theorem eqDk_def {ls : List (Key × D)} (hl : ∀ k e, lookK ls k = some e → ∃ p, TP e p) : ∀ ks : List (Key × D), (∀ p ∈ ks, ∃ q, TP p.2 q) → ∃ r, ∀ S, eqDk S ls ks = some r
  | [], _ => ⟨true, fun _ => rfl⟩
  | (k, d) :: r, h => by
    obtain ⟨r0, h0⟩ := eqDk_def hl r fun p hp => h p (List.mem_cons_of_mem _ hp)
    obtain ⟨q, hq⟩ := h _ List.mem_cons_self
    cases e : lookK ls k with
    | none => exact ⟨false, fun S => by unfold eqDk; rw [e]⟩
    | some x =>
      obtain ⟨p, hp⟩ := hl k x e
      exact ⟨_, fun S => by
        unfold eqDk
        rw [e]
        dsimp only
        rw [eqD_tp hq hp S, h0 S]
        rfl⟩
def ifB (b r : Bool) : Bool := match b with
  | true => r
  | false => false
theorem isDks_t {a b : D} {S : Sto} {ks ls : List (Key × D)} (ha : dctV S a = some ks) (hb : dctV S b = some ls) : isDks a b S = true := by
  unfold isDks
  rw [ha, hb]
theorem dkEq_of {a b : D} {S : Sto} {ks ls : List (Key × D)} {r : Bool} (ha : dctV S a = some ks) (hb : dctV S b = some ls) (h : eqDk S ls ks = some r) : dkEq S a b = some (ifB (eqLen ks ls) r) := by
  unfold dkEq
  rw [ha, hb]
  dsimp only
  rw [h]
  rfl
theorem fEqX_dk {a b : D} {S : Sto} {ks ls : List (Key × D)} {r : Bool} (ha : dctV S a = some ks) (hb : dctV S b = some ls) (h : eqDk S ls ks = some r) : fEqX a b S = .ok (.bl (ifB (eqLen ks ls) r)) S := by
  unfold fEqX
  rw [isDks_t ha hb]
  dsimp only
  unfold fEqK
  rw [dkEq_of ha hb h]
theorem fNeX_dk {a b : D} {S : Sto} {ks ls : List (Key × D)} {r : Bool} (ha : dctV S a = some ks) (hb : dctV S b = some ls) (h : eqDk S ls ks = some r) : fNeX a b S = .ok (.bl (!(ifB (eqLen ks ls) r))) S := by
  unfold fNeX
  rw [isDks_t ha hb]
  dsimp only
  unfold fNeK
  rw [dkEq_of ha hb h]
theorem fNeX_tp {a b : D} {S : Sto} {p q : PyData} (h0 : dctV S a = none) (ha : TP a p) (hb : TP b q) : fNeX a b S = .ok (.bl (!(eqF 41 p q))) S := by
  unfold fNeX isDks
  rw [h0]
  dsimp only
  unfold fNe
  rw [eqD_tp ha hb S]
theorem fEqX_tp {a b : D} {S : Sto} {p q : PyData} (h0 : dctV S a = none) (ha : TP a p) (hb : TP b q) : fEqX a b S = .ok (.bl (eqF 41 p q)) S := by
  unfold fEqX isDks
  rw [h0]
  dsimp only
  unfold fEq
  rw [eqD_tp ha hb S]
theorem fNeX_self {d : D} {p : PyData} {S : Sto} (h0 : dctV S d = none) (h : TP d p) : fNeX d d S = .ok (.bl false) S := by
  rw [fNeX_tp h0 h h]
  rw [eqF_self 41 p (Nat.lt_of_le_of_lt (toPy_depth 40 d p (h S)) (by decide)) (toPy_lay 40 d p (h S))]
  rfl
section
variable {ε : Type} {f : ε → D} {S : Sto}
theorem kdz_mem {es : Tb ε} {p : Key × D} (h : p ∈ kdz f es) : ∃ w e, (w, e) ∈ es ∧ p = (.inl w, f e) := by
  obtain ⟨x, hx, rfl⟩ := List.mem_map.mp h
  exact ⟨x.1, x.2, hx, rfl⟩
theorem eqDk_same (tp : ∀ e, ∃ p, TP (f e) p) {es fs : Tb ε} (h : ∀ w e, (w, e) ∈ es → enE fs w = some e) (S : Sto) : eqDk S (kdz f fs) (kdz f es) = some true := by
  refine eqDk_true _ fun p hp => ?_
  obtain ⟨w, e, h1, rfl⟩ := kdz_mem hp
  obtain ⟨q, hq⟩ := tp e
  exact ⟨f e, by rw [lookK_kdz, h w e h1]; rfl, eqD_self hq S⟩
theorem eqDk_kdz (tp : ∀ e, ∃ p, TP (f e) p) (es fs : Tb ε) : ∃ r, ∀ S, eqDk S (kdz f fs) (kdz f es) = some r := by
  refine eqDk_def (fun k e h => ?_) _ fun p hp => ?_
  · cases k with
    | inl w =>
      rw [lookK_kdz] at h
      cases z : enE fs w with
      | none => rw [z] at h; cases h
      | some x => rw [z] at h; cases h; exact tp x
    | inr x =>
      exfalso
      have : ∀ fs : Tb ε, lookK (kdz f fs) (.inr x) = none := by
        intro fs
        induction fs with
        | nil => rfl
        | cons p r ih => exact ih
      rw [this] at h
      cases h
  · obtain ⟨w, e, h1, rfl⟩ := kdz_mem hp
    exact tp e
theorem eqLen_self {α : Type} : ∀ l : List α, eqLen l l = true
  | [] => rfl
  | _ :: r => eqLen_self r
theorem eqLen_len {α β : Type} {x : List α} {y : List β} (h : x.length = y.length) : eqLen x y = true := by rw [eqLen_eq, h]; simp
theorem eqLen_ne {α β : Type} {x : List α} {y : List β} (h : x.length ≠ y.length) : eqLen x y = false := by rw [eqLen_eq]; simp [h]
end
end Lw

namespace Lw
open L2 PySem PySem.Spec PyProof.Rows Pd

/-! ### entries of a mapping -/
abbrev R3 := Bool × Bool × Bool
abbrev E := Int × R3 × Int × Int
def lR : R3 → List Nat
  | (true, true, true) => [114, 119, 120]
  | (true, true, false) => [114, 119]
  | (true, false, true) => [114, 120]
  | (true, false, false) => [114]
  | (false, true, true) => [119, 120]
  | (false, true, false) => [119]
  | (false, false, true) => [120]
  | (false, false, false) => []
def rtS (R : R3) : Str := ⟨(lR R).toArray⟩
def eD : E → D := fun e => .tup [.int e.1, .str (rtS e.2.1), .tup [.int e.2.2.1, .int e.2.2.2]]
def eP (e : E) : PyData := .tuple [.int e.1, .str (rtS e.2.1), .tuple [.int e.2.2.1, .int e.2.2.2]]
theorem tpE (e : E) : TP (eD e) (eP e) := fun S => by
  obtain ⟨b, ⟨x, y, z⟩, c, q⟩ := e
  cases x <;> cases y <;> cases z <;> rfl
theorem tpE' (e : E) : ∃ p, TP (eD e) p := ⟨_, tpE e⟩
/-- without the cell -/
def eD2 : E → D := fun e => .tup [.int e.1, .str (rtS e.2.1)]
def eP2 (e : E) : PyData := .tuple [.int e.1, .str (rtS e.2.1)]
theorem tpE2 (e : E) : TP (eD2 e) (eP2 e) := fun S => by
  obtain ⟨b, ⟨x, y, z⟩, c, q⟩ := e
  cases x <;> cases y <;> cases z <;> rfl
theorem tpE2' (e : E) : ∃ p, TP (eD2 e) p := ⟨_, tpE2 e⟩
/-- a letter more -/
inductive Lt where | r | w | x
def Lt.c : Lt → Nat
  | .r => 114 | .w => 119 | .x => 120
def addL : R3 → Lt → R3
  | (_, b, c), .r => (true, b, c)
  | (a, _, c), .w => (a, true, c)
  | (a, b, _), .x => (a, b, true)
def hasC (z : List Nat) (c : Nat) : Bool := memN c z
def joined (z : List Nat) : List Nat := [114, 119, 120].filter fun c => memN c z
theorem joined_one (l : Lt) : joined [l.c] = lR (addL (false, false, false) l) := by cases l <;> rfl
theorem joined_more (R : R3) (l : Lt) : joined (lR R ++ [l.c]) = lR (addL R l) := by
  obtain ⟨x, y, z⟩ := R
  cases x <;> cases y <;> cases z <;> cases l <;> rfl
/-- an entry widened -/
def widE (es : Tb E) (p b : Int) (l : Lt) (c q : Int) : Tb E := putE es p (match enE es p with
  | some e => (match eqB e.1 b && (eqB e.2.2.1 c && eqB e.2.2.2 q) with
    | true => (b, addL e.2.1 l, c, q)
    | false => (b, addL (false, false, false) l, c, q))
  | none => (b, addL (false, false, false) l, c, q))

/-! ### where a mapping lies -/
structure Mp (S : Sto) (n m : Nat) (es : Tb E) : Prop where
  o : S.at n = some (.ins 9 [(0, .ref m)])
  d : S.at m = some (.dct (kdz eD es))
  ln : n < S.nx
  lm : m < S.nx
  ne : n ≠ m
  n2 : 2 ≤ n
  m2 : 2 ≤ m
section
variable {S S' : Sto} {n m k : Nat} {es : Tb E} {L : Nat → Prop}
theorem Mp.pk (h : Mp S n m es) (p : Pk S S' L) (h1 : ¬ L n) (h2 : ¬ L m) : Mp S' n m es :=
  ⟨by rw [p.at_ n h.ln h1]; exact h.o, by rw [p.at_ m h.lm h2]; exact h.d, Nat.lt_of_lt_of_le h.ln p.nx, Nat.lt_of_lt_of_le h.lm p.nx, h.ne, h.n2, h.m2⟩
theorem Mp.put (h : Mp S n m es) {fs : Tb E} (p : Pk S S' L) (h1 : ¬ L n) (h2 : S'.at m = some (.dct (kdz eD fs))) : Mp S' n m fs :=
  ⟨by rw [p.at_ n h.ln h1]; exact h.o, h2, Nat.lt_of_lt_of_le h.ln p.nx, Nat.lt_of_lt_of_le h.lm p.nx, h.ne, h.n2, h.m2⟩
theorem fld_ok {Γ : Ga} {i : Nat} (hi : Γ[i]? = some (some (.ref n))) (h : S.at n = some (.ins 9 [(0, .ref m)])) : dFld 9 0 (dVar i) Γ S = .ok (.ref m) S := by
  unfold dFld dVar
  rw [hi]
  show (match insV S (.ref n) with | some (c', fs) => guard (Nat.beq c' 9) (match lookF fs 0 with | some v => Res.ok v S | none => .bad) | none => .bad) = _
  have e : insV S (.ref n) = some (9, [(0, .ref m)]) := by
    show (match S.at n with | some (.ins c fs) => some (c, fs) | _ => none) = _
    rw [h]
  rw [e]
  rfl
theorem dctV_at {kds : List (Key × D)} (h : S.at m = some (.dct kds) ∨ S.at m = some (.lck (.dct kds))) : dctV S (.ref m) = some kds := by
  show (match S.at m with | some (.dct ds) => some ds | some (.lck (.dct ds)) => some ds | _ => none) = _
  rcases h with h | h <;> rw [h]
theorem dttV_at {kds : List (Key × D)} (h : S.at m = some (.dct kds) ∨ S.at m = some (.lck (.dct kds))) : dttV S (.ref m) = none := by
  show (match S.at m with | some (.dtt ds) => some ds | some (.lck (.dtt ds)) => some ds | _ => none) = _
  rcases h with h | h <;> rw [h]
/-- w in the table -/
theorem inK_d {kds : List (Key × D)} {w : Int} (h : S.at m = some (.dct kds) ∨ S.at m = some (.lck (.dct kds))) : fInK false (.int w) (.ref m) S = .ok (.bl (lookK kds (.inl w)).isSome) S := by
  show fIn false (.int w) (.ref m) S = _
  unfold fIn
  rw [dctV_at h]
  show Res.ok (D.bl (match lookK kds (.inl w) with | some _ => true | none => false)) S = _
  cases lookK kds (.inl w) <;> rfl
theorem ix_dk {kds : List (Key × D)} {w : Int} {d : D} (h : S.at m = some (.dct kds) ∨ S.at m = some (.lck (.dct kds))) (e : lookK kds (.inl w) = some d) : fIx (.ref m) (.int w) S = .ok d S := by
  show fIx0 (.ref m) (.int w) S = _
  unfold fIx0
  rw [dttV_at h, dctV_at h]
  show (match lookK kds (.inl w) with | some d => Res.ok d S | none => .bad) = _
  rw [e]
theorem get_dk {kds : List (Key × D)} {w : Int} (h : S.at m = some (.dct kds) ∨ S.at m = some (.lck (.dct kds))) : getD (.ref m) (.int w) S = some (lookK kds (.inl w)) := by
  unfold getD
  rw [dttV_at h, dctV_at h]
  rfl
theorem isD_at {kds : List (Key × D)} (h : S.at m = some (.dct kds) ∨ S.at m = some (.lck (.dct kds))) : isD S (.ref m) = true := by
  unfold isD
  rw [dttV_at h, dctV_at h]
/-- d[w] = v -/
theorem put_dk {kds : List (Key × D)} {w : Int} {v : D} (h : S.at m = some (.dct kds)) (hl : kds.length + 1 ≤ 1000) : fPut (.ref m) (.int w) v S = some (S.set m (.dct (putG eqK kds (.inl w) v))) := by
  have e1 : fPutL (.ref m) (.int w) v S = none := by
    show (match S.at m with | some q => (match q with | .lst xs => (match placeD xs.length w with | some j => some (S.set m (.lst (setD xs j v))) | none => none) | _ => none) | none => none) = _
    rw [h]
  unfold fPut
  rw [e1]
  show (match S.at m with | some q => (match q with | .dct kds => ifS (lineOk (kds.length + 1)) (S.set m (.dct (putG eqK kds (.inl w) v))) | .dtt kds => none | _ => none) | none => none) = _
  rw [h]
  show ifS (lineOk (kds.length + 1)) _ = _
  rw [show lineOk (kds.length + 1) = true from Nat.ble_eq_true_of_le (by omega)]; rfl
end
end Lw

namespace Lw
open L2 PySem PySem.Spec PyProof.Rows Pd

/-! ### widen -/
section
variable {S : Sto}
abbrev cellD (c q : Int) : D := .tup [.int c, .int q]
theorem eq_cell {a b c d : Int} : fEqX (cellD a b) (cellD c d) S = .ok (.bl (eqB a c && eqB b d)) S := by
  have h : fEqX (cellD a b) (cellD c d) S = .ok (.bl (match eqB a c with | true => (match eqB b d with | true => true | false => false) | false => false)) S := rfl
  rw [h]
  cases eqB a c <;> cases eqB b d <;> rfl
def inZ (z : List Nat) : D → Bool
  | .str x => (match x.cps.toList with
    | [c] => memN c z
    | _ => false)
  | _ => false
theorem signs_filter (z : List Nat) : ∀ cs : List Nat, ((signs cs).filter (inZ z)).map (fun d => d) = signs (cs.filter fun c => memN c z)
  | [] => rfl
  | c :: r => by
    have ih := signs_filter z r
    show ((D.str ⟨#[c]⟩ :: signs r).filter (inZ z)).map (fun d => d) = _
    have e : inZ z (.str ⟨#[c]⟩) = memN c z := rfl
    cases h : memN c z with
    | true => rw [List.filter_cons_of_pos (by rw [e, h]), List.filter_cons_of_pos (by simpa using h), List.map_cons, ih]; rfl
    | false => rw [List.filter_cons_of_neg (by rw [e, h]; decide), List.filter_cons_of_neg (by simp [h]), ih]
theorem in_text {z : Str} {c : Nat} : fInK false (.str ⟨#[c]⟩) (.str z) S = .ok (.bl (memN c z.cps.toList)) S := by
  show Res.ok (D.bl (match memN c z.cps.toList with | true => !false | false => false)) S = _
  cases memN c z.cps.toList <;> rfl
theorem join_R (R : R3) : gJoin (.str ⟨#[]⟩) [.lst (signs (lR R))] S = .ok (.str (rtS R)) S := by
  obtain ⟨x, y, z⟩ := R
  cases x <;> cases y <;> cases z <;> rfl
/-- ''.join([letter for letter in 'rwx' if letter in z]) -/
theorem letters_ok {Γ : Ga} {i j : Nat} {z : Str} {R : R3} (o : Ok S) (hi : i < Γ.length) (hij : j ≠ i) (hj : Γ[j]? = some (some (.str z))) (hz : joined z.cps.toList = lR R) :
    dBM isS gJoin (dC (.str (⟨#[]⟩ : Str))) (aCons (dLc frz (iAny (dC (.str (⟨#[114, 119, 120]⟩ : Str)))) (gN i) (t2 (fInK false) (dVar i) (dVar j)) (dVar i) [i]) aNil) Γ S = .ok (.str (rtS R)) (Lw.up S) := by
  have hw : (wipeG Γ [i])[j]? = some (some (.str z)) := by
    show (Γ.set i none)[j]? = _
    rw [List.getElem?_set_ne (Ne.symm hij)]; exact hj
  have e : dLc frz (iAny (dC (.str (⟨#[114, 119, 120]⟩ : Str)))) (gN i) (t2 (fInK false) (dVar i) (dVar j)) (dVar i) [i] Γ S = .ok (.lst (signs (lR R))) (Lw.up S) := by
    rw [dLc_filt (S := S) (ds := signs [114, 119, 120]) (F := fun d => d) (B := inZ z.cps.toList) (G := fun d => (wipeG Γ [i]).set i (some d)) rfl (by decide) fun d hd acc => ⟨rfl, ?_, ?_⟩]
    · rw [signs_filter, show ([114, 119, 120].filter fun c => memN c z.cps.toList) = lR R from hz]
      exact frz_new o
    · have hli : i < (wipeG Γ [i]).length := by show i < (Γ.set i none).length; simpa using hi
      have v1 : dVar i ((wipeG Γ [i]).set i (some d)) (S.new (.lst acc)) = .ok d (S.new (.lst acc)) := by
        unfold dVar; rw [List.getElem?_set_self hli]
      have v2 : dVar j ((wipeG Γ [i]).set i (some d)) (S.new (.lst acc)) = .ok (.str z) (S.new (.lst acc)) := by
        unfold dVar; rw [List.getElem?_set_ne (Ne.symm hij), hw]
      rw [t2_ok v1 v2]
      obtain ⟨c, rfl⟩ : ∃ c, d = .str ⟨#[c]⟩ := by
        have hd : d ∈ [D.str ⟨#[114]⟩, D.str ⟨#[119]⟩, D.str ⟨#[120]⟩] := hd
        simp only [List.mem_cons, List.not_mem_nil, or_false] at hd
        rcases hd with rfl | rfl | rfl <;> exact ⟨_, rfl⟩
      rw [in_text]
      rfl
    · have hli : i < (wipeG Γ [i]).length := by show i < (Γ.set i none).length; simpa using hi
      show dVar i ((wipeG Γ [i]).set i (some d)) _ = _
      unfold dVar; rw [List.getElem?_set_self hli]
  unfold dBM
  show guard true ((aCons (dLc frz (iAny (dC (.str (⟨#[114, 119, 120]⟩ : Str)))) (gN i) (t2 (fInK false) (dVar i) (dVar j)) (dVar i) [i]) aNil Γ S).bind fun ds S2 => gJoin (.str ⟨#[]⟩) ds S2) = _
  rw [args1 e]
  exact join_R R
end
def tx (l : Lt) : Str := ⟨#[l.c]⟩
theorem add_text (R : R3) (l : Lt) {S : Sto} : fAdd (.str (rtS R)) (.str (tx l)) S = .ok (.str ⟨(lR R ++ [l.c]).toArray⟩) S := by
  obtain ⟨x, y, z⟩ := R
  cases x <;> cases y <;> cases z <;> cases l <;> rfl
def condW (es : Tb E) (p b c q : Int) : Bool := match enE es p with
  | some e => eqB e.1 b && (eqB e.2.2.1 c && eqB e.2.2.2 q)
  | none => false
theorem widen_ok {S : Sto} {n m : Nat} {es : Tb E} {p b c q : Int} {l : Lt} (o : Ok S) (h : Mp S n m es) (hl : es.length ≤ 900) :
    ∃ S', f6 [.ref n, .int p, .int b, .str (tx l), cellD c q] S = .ok .non S' ∧ Pk S S' (· = m) ∧ Mp S' n m (widE es p b l c q) := by
  let Γ : Option D → Option D → Option D → Ga := fun x y z => [some (.ref n), some (.int p), some (.int b), some (.str (tx l)), some (cellD c q), some (cellD c q), x, y, z]
  have fl : ∀ {x y z T}, T.at n = some (.ins 9 [(0, .ref m)]) → dFld 9 0 (dVar 0) (Γ x y z) T = .ok (.ref m) T := fun hh => fld_ok (i := 0) rfl hh
  have atm : S.at m = some (.dct (kdz eD es)) ∨ S.at m = some (.lck (.dct (kdz eD es))) := .inl h.d
  -- the test
  have t1 : t2 (fInK false) (dVar 1) (dFld 9 0 (dVar 0)) (Γ (some (.str (tx l))) none none) S = .ok (enE es p).isSome S := by
    rw [t2_ok (a := .int p) rfl (fl h.o), inK_d atm, lookK_kdz]
    cases enE es p <;> rfl
  have ent : ∀ e, enE es p = some e → d2 fIx (dFld 9 0 (dVar 0)) (dVar 1) (Γ (some (.str (tx l))) none none) S = .ok (eD e) S := fun e he =>
    (d2_ok (fl h.o) (b := .int p) rfl).trans (ix_dk atm (by rw [lookK_kdz, he]; rfl))
  have tt : (dAnd (t2 (fInK false) (dVar 1) (dFld 9 0 (dVar 0))) (dAnd (t2 fEqX (d2 fIx (d2 fIx (dFld 9 0 (dVar 0)) (dVar 1)) (dC (.int 0))) (dVar 2)) (t2 fEqX (d2 fIx (d2 fIx (dFld 9 0 (dVar 0)) (dVar 1)) (dC (.int 2))) (dVar 5)))) (Γ (some (.str (tx l))) none none) S = .ok (condW es p b c q) S := by
    unfold condW
    unfold dAnd
    rw [t1]
    cases he : enE es p with
    | none => rfl
    | some e =>
      have e0 : t2 fEqX (d2 fIx (d2 fIx (dFld 9 0 (dVar 0)) (dVar 1)) (dC (.int 0))) (dVar 2) (Γ (some (.str (tx l))) none none) S = .ok (eqB e.1 b) S := by
        rw [t2_ok (a := .int e.1) ((d2_ok (ent e he) (b := .int 0) rfl).trans rfl) (b := .int b) rfl]; rfl
      have e2 : t2 fEqX (d2 fIx (d2 fIx (dFld 9 0 (dVar 0)) (dVar 1)) (dC (.int 2))) (dVar 5) (Γ (some (.str (tx l))) none none) S = .ok (eqB e.2.2.1 c && eqB e.2.2.2 q) S := by
        rw [t2_ok (a := cellD e.2.2.1 e.2.2.2) ((d2_ok (ent e he) (b := .int 2) rfl).trans rfl) (b := cellD c q) rfl, eq_cell]; rfl
      show (t2 fEqX _ _ (Γ (some (.str (tx l))) none none) S).bind _ = Res.ok (eqB e.1 b && (eqB e.2.2.1 c && eqB e.2.2.2 q)) S
      rw [e0]
      cases eqB e.1 b with
      | false => rfl
      | true => exact e2
  -- the letters so far
  obtain ⟨z, R, e3, hz, hw⟩ : ∃ (z : Str) (R : R3), sIf (dAnd (t2 (fInK false) (dVar 1) (dFld 9 0 (dVar 0))) (dAnd (t2 fEqX (d2 fIx (d2 fIx (dFld 9 0 (dVar 0)) (dVar 1)) (dC (.int 0))) (dVar 2)) (t2 fEqX (d2 fIx (d2 fIx (dFld 9 0 (dVar 0)) (dVar 1)) (dC (.int 2))) (dVar 5)))) (sSet (d2 fAdd (d2 fIx (d2 fIx (dFld 9 0 (dVar 0)) (dVar 1)) (dC (.int 1))) (dVar 3)) 6) sNil (Γ (some (.str (tx l))) none none) S = .nx (Γ (some (.str z)) none none) S ∧ joined z.cps.toList = lR R ∧ widE es p b l c q = putE es p (b, R, c, q) := by
    cases hc : condW es p b c q with
    | false =>
      refine ⟨tx l, addL (false, false, false) l, (if_f (tt.trans (by rw [hc]))).trans rfl, joined_one l, ?_⟩
      unfold widE
      unfold condW at hc
      cases he : enE es p with
      | none => rfl
      | some e => rw [he] at hc; dsimp only at hc; dsimp only; rw [hc]
    | true =>
      unfold condW at hc
      cases he : enE es p with
      | none => rw [he] at hc; cases hc
      | some e =>
        rw [he] at hc
        dsimp only at hc
        refine ⟨⟨(lR e.2.1 ++ [l.c]).toArray⟩, addL e.2.1 l, (if_t (tt.trans (by unfold condW; rw [he]; dsimp only; rw [hc]))).trans ?_, joined_more _ _, ?_⟩
        · have e1 : d2 fAdd (d2 fIx (d2 fIx (dFld 9 0 (dVar 0)) (dVar 1)) (dC (.int 1))) (dVar 3) (Γ (some (.str (tx l))) none none) S = .ok (.str ⟨(lR e.2.1 ++ [l.c]).toArray⟩) S :=
            (d2_ok (a := .str (rtS e.2.1)) ((d2_ok (ent e he) (b := .int 1) rfl).trans rfl) (b := .str (tx l)) rfl).trans (add_text _ _)
          exact (set_nx e1).trans rfl
        · unfold widE
          rw [he]
          dsimp only
          rw [hc]
  have e4 : sSet (dBM isS gJoin (dC (.str (⟨#[]⟩ : Str))) (aCons (dLc frz (iAny (dC (.str (⟨#[114, 119, 120]⟩ : Str)))) (gN 8) (t2 (fInK false) (dVar 8) (dVar 6)) (dVar 8) [8]) aNil)) 7 (Γ (some (.str z)) none none) S = .nx (Γ (some (.str z)) (some (.str (rtS R))) none) (Lw.up S) :=
    (set_nx (letters_ok o (i := 8) (j := 6) (by show 8 < 9; decide) (by decide) rfl hz)).trans rfl
  have e5 : sPut (dTup (aCons (dVar 2) (aCons (dVar 7) (aCons (dVar 5) aNil)))) (dFld 9 0 (dVar 0)) (dVar 1) (Γ (some (.str z)) (some (.str (rtS R))) none) (Lw.up S) = .nx (Γ (some (.str z)) (some (.str (rtS R))) none) ((Lw.up S).set m (.dct (kdz eD (putE es p (b, R, c, q))))) := by
    refine put_nx (v := eD (b, R, c, q)) (i := .int p) rfl (fl h.o) rfl ?_
    rw [put_dk (S := Lw.up S) (m := m) (kds := kdz eD es) h.d (by rw [kdz_len]; omega), putG_kdz]
  refine ⟨(Lw.up S).set m (.dct (kdz eD (putE es p (b, R, c, q)))), ?_, ((Pk.refl o).up).set (Nat.lt_succ_of_lt h.lm) (fun _ => rfl), ?_⟩
  · exact congrArg endD ((seq_nx (a := sSet (dCB gTuple (aCons (dVar 4) aNil)) 5) (Γ1 := Γ none none none) (S1 := S) rfl).trans ((seq_nx (a := sSet (dVar 3) 6) (Γ1 := Γ (some (.str (tx l))) none none) (S1 := S) rfl).trans ((seq_nx e3).trans ((seq_nx e4).trans e5))))
  · rw [hw]
    exact h.put (((Pk.refl (L := (· = m)) o).up).set (Nat.lt_succ_of_lt h.lm) (fun _ => rfl)) h.ne (at_set (S := Lw.up S) h.d)
end Lw

namespace Lw
open L2 PySem PySem.Spec PyProof.Rows Pd

/-! ### new mappings, twins -/
section
variable {S : Sto}
theorem meth_ins {c k n : Nat} {fs : List (Nat × D)} {f : List D → Sto → Res D} {fo : DE} {fr : DA} {Γ : Ga} {ds : List D} {S1 : Sto} (ho : fo Γ S = .ok (.ref k) S) (hk : S.at k = some (.ins c fs)) (hr : fr Γ S = .ok ds S1) (hl : lenIs n (.ref k :: ds) = true) :
    dMeth c n f fo fr Γ S = f (.ref k :: ds) S1 := by
  unfold dMeth
  rw [ho]
  have e : insV S (.ref k) = some (c, fs) := by
    show (match S.at k with | some (.ins c fs) => some (c, fs) | _ => none) = _
    rw [hk]
  show (match insV S (.ref k) with | some (c', _) => guard (Nat.beq c' c) ((fr Γ S).bind fun ds S2 => guard (lenIs n (.ref k :: ds)) (f (.ref k :: ds) S2)) | none => .bad) = _
  rw [e]
  show guard (Nat.beq c c) _ = _
  rw [Nat.beq_refl, hr]
  show guard (lenIs n (.ref k :: ds)) _ = _
  rw [hl]
  rfl
theorem drop_nx {e : DE} {Γ : Ga} {d : D} {S S1 : Sto} (h : e Γ S = .ok d S1) : sDrop e Γ S = .nx Γ S1 := by unfold sDrop; rw [h]; rfl
theorem make_ok {Γ : Ga} (o : Ok S) (h2 : 2 ≤ S.nx) : ∃ S', dMake 9 1 f2 aNil Γ S = .ok (.ref S.nx) S' ∧ Pk S S' (fun _ => False) ∧ Mp S' S.nx (S.nx + 1) [] ∧ S'.nx = S.nx + 2 := by
  let S2 := (S.new (.ins 9 [])).new (.dct [])
  have a2 : S2.at S.nx = some (.ins 9 []) := by
    show ((S.new (.ins 9 [])).new (.dct [])).at S.nx = _
    rw [look_new_ne (S := S.new (.ins 9 [])) (by show S.nx ≠ S.nx + 1; omega)]; exact look_new
  have e : dMake 9 1 f2 aNil Γ S = .ok (.ref S.nx) (S2.set S.nx (.ins 9 [(0, .ref (S.nx + 1))])) := by
    show (f2 [D.ref S.nx] (S.new (.ins 9 []))).bind (fun r S2 => ifNon r (Res.ok (D.ref S.nx) S2)) = _
    have : f2 [D.ref S.nx] (S.new (.ins 9 [])) = .ok .non (S2.set S.nx (.ins 9 [(0, .ref (S.nx + 1))])) := by
      show endD (match fSetA 9 0 (.ref S.nx) (.ref (S.nx + 1)) S2 with | some S3 => SRes.nx [some (.ref S.nx)] S3 | none => .bad) = _
      have q : fSetA 9 0 (.ref S.nx) (.ref (S.nx + 1)) S2 = some (S2.set S.nx (.ins 9 [(0, .ref (S.nx + 1))])) := by
        show (match S2.at S.nx with | some m => (match m with | .ins c' fs => (match Nat.beq c' 9 with | true => ifS (Nat.blt fs.length 100) (S2.set S.nx (.ins c' (putA fs 0 (.ref (S.nx + 1))))) | false => none) | _ => none) | none => none) = _
        rw [a2]
        rfl
      rw [q]
      rfl
    rw [this]
    rfl
  have pk : Pk S (S2.set S.nx (.ins 9 [(0, .ref (S.nx + 1))])) (fun _ => False) := ((Pk.refl o).new.new).set (by show S.nx < S.nx + 1 + 1; omega) (fun z => absurd z (Nat.lt_irrefl _))
  refine ⟨_, e, pk, ⟨at_set a2, ?_, by show S.nx < S.nx + 1 + 1; omega, by show S.nx + 1 < S.nx + 1 + 1; omega, by omega, h2, by omega⟩, rfl⟩
  rw [at_set_ne (by omega)]
  exact look_new (S := S.new (.ins 9 []))
theorem list_keys {m : Nat} {kds : List (Key × D)} {fa : DE} {Γ : Ga} (o : Ok S) (h : S.at m = some (.dct kds)) (ha : fa Γ S = .ok (.ref m) S) : dFrz (dCB gList (aCons fa aNil)) Γ S = .ok (.lst (keysD kds)) (Lw.up S) := by
  refine frzE (a := .ref S.nx) (S1 := S.new (.lst (keysD kds))) ?_ (frz_new o)
  show Res.bind (aCons fa aNil Γ S) gList = _
  rw [args1 ha]
  show (match seqV S (.ref m) with | some xs => Res.ok (D.ref S.nx) (S.new (.lst xs)) | none => (match dctV S (.ref m) with | some ks => .ok (D.ref S.nx) (S.new (.lst (keysD ks))) | none => .bad)) = _
  have e : seqV S (.ref m) = none := by
    show (match S.at m with | some (.lst ds) => some ds | _ => none) = _
    rw [h]
  rw [e, dctV_at (.inl h)]
end
/-! the letters of a text -/
def ltsR : R3 → List Lt
  | (true, true, true) => [.r, .w, .x]
  | (true, true, false) => [.r, .w]
  | (true, false, true) => [.r, .x]
  | (true, false, false) => [.r]
  | (false, true, true) => [.w, .x]
  | (false, true, false) => [.w]
  | (false, false, true) => [.x]
  | (false, false, false) => []
theorem lts_signs (R : R3) : signs (rtS R).cps.toList = (ltsR R).map fun l => D.str (tx l) := by
  obtain ⟨x, y, z⟩ := R
  cases x <;> cases y <;> cases z <;> rfl
def someR (R : R3) : Prop := R ≠ (false, false, false)
section
variable {es : Tb E} {p b c q : Int}
theorem wid_new (h : p ∉ keysE es) (l : Lt) : widE es p b l c q = es ++ [(p, (b, addL (false, false, false) l, c, q))] := by
  unfold widE
  rw [enE_none h]
  unfold putE
  rw [show hasE es p = false by cases z : hasE es p with | false => rfl | true => exact absurd ((hasE_mem es p).mp z) h]
theorem rep_none : ∀ {es : Tb E} {p : Int} {e : E}, p ∉ keysE es → repE es p e = es
  | [], _, _, _ => rfl
  | (a, x) :: r, p, e, h => by
    have h1 : p ≠ a := fun z => h (z ▸ List.mem_cons_self)
    have h2 : p ∉ keysE r := fun z => h (List.mem_cons_of_mem _ z)
    unfold repE
    rw [eqB_ne (Ne.symm h1)]
    show (a, x) :: repE r p e = _
    rw [rep_none h2]
theorem rep_app : ∀ {es fs : Tb E} {p : Int} {e : E}, repE (es ++ fs) p e = repE es p e ++ repE fs p e
  | [], _, _, _ => rfl
  | (a, x) :: r, fs, p, e => by
    have ih := rep_app (es := r) (fs := fs) (p := p) (e := e)
    show (match eqB a p with | true => (a, e) :: repE (r ++ fs) p e | false => (a, x) :: repE (r ++ fs) p e) = (match eqB a p with | true => (a, e) :: repE r p e | false => (a, x) :: repE r p e) ++ repE fs p e
    rw [ih]
    cases eqB a p <;> rfl
theorem en_end {T : E} (h : p ∉ keysE es) : enE (es ++ [(p, T)]) p = some T := by
  rw [enE_app, enE_none h]
  show (match eqB p p with | true => some T | false => none) = _
  rw [eqB_self]
theorem wid_end (h : p ∉ keysE es) (T : R3) (l : Lt) : widE (es ++ [(p, (b, T, c, q))]) p b l c q = es ++ [(p, (b, addL T l, c, q))] := by
  unfold widE
  rw [en_end h]
  dsimp only
  rw [eqB_self, eqB_self, eqB_self]
  show putE _ p (b, addL T l, c, q) = _
  unfold putE
  rw [hasE_en, en_end h]
  show repE (es ++ [(p, (b, T, c, q))]) p _ = _
  rw [rep_app, rep_none h]
  congr 1
  show (match eqB p p with | true => (p, (b, addL T l, c, q)) :: repE [] p _ | false => _) = _
  rw [eqB_self]
  rfl
def widsE (es : Tb E) (p b c q : Int) : List Lt → Tb E
  | [] => es
  | l :: r => widsE (widE es p b l c q) p b c q r
theorem wids_end (h : p ∉ keysE es) : ∀ (ls : List Lt) (T : R3), widsE (es ++ [(p, (b, T, c, q))]) p b c q ls = es ++ [(p, (b, ls.foldl addL T, c, q))]
  | [], _ => rfl
  | l :: r, T => by
    show widsE (widE _ p b l c q) p b c q r = _
    rw [wid_end h, wids_end h r]
    rfl
theorem wids_new (h : p ∉ keysE es) {ls : List Lt} (hn : ls ≠ []) : widsE es p b c q ls = es ++ [(p, (b, ls.foldl addL (false, false, false), c, q))] := by
  cases ls with
  | nil => exact absurd rfl hn
  | cons l r =>
    show widsE (widE es p b l c q) p b c q r = _
    rw [wid_new h, wids_end h r]
    rfl
theorem lts_all (R : R3) : (ltsR R).foldl addL (false, false, false) = R := by
  obtain ⟨x, y, z⟩ := R
  cases x <;> cases y <;> cases z <;> rfl
theorem lts_some {R : R3} (h : someR R) : ltsR R ≠ [] := by
  obtain ⟨x, y, z⟩ := R
  cases x <;> cases y <;> cases z <;> first | exact absurd rfl h | exact fun z => nomatch z
end
end Lw

namespace Lw
open L2 PySem PySem.Spec PyProof.Rows Pd

theorem Pk.trans' {S S' S'' : Sto} {L L' : Nat → Prop} (a : Pk S S' L) (b : Pk S' S'' L') (h : ∀ j, j < S.nx → L' j → L j) : Pk S S'' L :=
  ⟨Nat.le_trans a.nx b.nx, fun j h1 h2 => (b.at_ j (Nat.lt_of_lt_of_le h1 a.nx) fun z => h2 (h j h1 z)).trans (a.at_ j h1 h2), b.ok⟩
/-! ### twin -/
theorem widE_len (es : Tb E) (p b : Int) (l : Lt) (c q : Int) : (widE es p b l c q).length ≤ es.length + 1 := by
  have h : ∀ e : E, (putE es p e).length ≤ es.length + 1 := fun e => by
    have := congrArg List.length (keysE_put es p e)
    unfold keysE at this
    rw [List.length_map] at this
    rw [this]
    split <;> simp
  exact h _
abbrev GT (n0 n : Nat) (pg : D) (p : Option D) (a4 b r c : Option D) : Ga := [some (.ref n0), some (.ref n), some pg, p, a4, b, r, c]
abbrev bodyI : DS := sDrop (dMeth 9 5 f6 (dVar 1) (aCons (dVar 3) (aCons (dVar 5) (aCons (dVar 4) (aCons (dVar 7) aNil)))))
theorem inner_ok {n0 n m : Nat} {pg : D} {rg : Option D} {p b c q : Int} : ∀ (ls : List Lt) (S : Sto) (es : Tb E) (a4 : Option D), Ok S → Mp S n m es → es.length + ls.length ≤ 900 →
    ∃ a4' S', loopD (gN 4) bodyI (ls.map fun l => D.str (tx l)) (GT n0 n pg (some (.int p)) a4 (some (.int b)) rg (some (cellD c q))) S = .nx (GT n0 n pg (some (.int p)) a4' (some (.int b)) rg (some (cellD c q))) S' ∧ Pk S S' (· = m) ∧ Mp S' n m (widsE es p b c q ls)
  | [], S, es, a4, o, h, _ => ⟨a4, S, rfl, .refl o, h⟩
  | l :: ls, S, es, a4, o, h, hl => by
    obtain ⟨S1, e1, k1, h1⟩ := widen_ok (p := p) (b := b) (c := c) (q := q) (l := l) o h (by omega)
    have hw := widE_len es p b l c q
    obtain ⟨a4', S2, e2, k2, h2⟩ := inner_ok (n0 := n0) (pg := pg) (rg := rg) (p := p) (b := b) (c := c) (q := q) ls S1 _ (some (.str (tx l))) k1.ok h1 (by simp at hl; omega)
    refine ⟨a4', S2, ?_, k1.trans k2, h2⟩
    have eb : bodyI (GT n0 n pg (some (.int p)) (some (.str (tx l))) (some (.int b)) rg (some (cellD c q))) S = .nx (GT n0 n pg (some (.int p)) (some (.str (tx l))) (some (.int b)) rg (some (cellD c q))) S1 :=
      drop_nx ((meth_ins (k := n) (ds := [.int p, .int b, .str (tx l), cellD c q]) rfl h.o rfl rfl).trans e1)
    show (match bodyI (GT n0 n pg (some (.int p)) (some (.str (tx l))) (some (.int b)) rg (some (cellD c q))) S with
      | .nx Γ2 S2 => loopD (gN 4) bodyI (ls.map fun l => D.str (tx l)) Γ2 S2
      | .ct Γ2 S2 => loopD (gN 4) bodyI (ls.map fun l => D.str (tx l)) Γ2 S2
      | .bk Γ2 S2 => .nx Γ2 S2
      | o => o) = _
    rw [eb]
    exact e2
structure GoodM (es : Tb E) : Prop where
  nd : (keysE es).Nodup
  some : ∀ p ∈ es, someR p.2.2.1
  len : es.length ≤ 100
abbrev bodyT : DS := sSeq (sAsg (d2 fIx (dFld 9 0 (dVar 0)) (dVar 3)) (gTp 3 (gCons (gN 5) (gCons (gN 6) (gCons (gN 7) gNil))))) (sFor (iAny (dVar 6)) (gN 4) bodyI)
theorem lts_len (R : R3) : (ltsR R).length ≤ 3 := by
  obtain ⟨x, y, z⟩ := R
  cases x <;> cases y <;> cases z <;> decide
theorem nd_app {es : Tb E} {p : Int × E} {ps : Tb E} (h : (keysE (es ++ p :: ps)).Nodup) : p.1 ∉ keysE es := by
  unfold keysE at h
  rw [List.map_append] at h
  have := (List.nodup_append.mp h).2.2
  exact fun z => this p.1 z p.1 (by simp) rfl
theorem outer_ok {n0 m0 n m : Nat} {pg : D} {es : Tb E} (g : GoodM es) (hn : m ≠ n0) (hm : m ≠ m0) : ∀ (ps fs : Tb E) (S : Sto) (p0 a4 b r c : Option D), es = fs ++ ps → Ok S → Mp S n0 m0 es → Mp S n m fs →
    ∃ p' a4' b' r' c' S', loopD (gN 3) bodyT ((keysE ps).map D.int) (GT n0 n pg p0 a4 b r c) S = .nx (GT n0 n pg p' a4' b' r' c') S' ∧ Pk S S' (· = m) ∧ Mp S' n m es
  | [], fs, S, p0, a4, b, r, c, e, o, h0, h => ⟨p0, a4, b, r, c, S, rfl, .refl o, by rw [e, List.append_nil]; exact h⟩
  | (p, x) :: ps, fs, S, p0, a4, b, r, c, e, o, h0, h => by
    have hp : p ∉ keysE fs := nd_app (p := (p, x)) (ps := ps) (by rw [← e]; exact g.nd)
    have hin : (p, x) ∈ es := by rw [e]; simp
    have hlen : fs.length ≤ 100 := by have := g.len; rw [e] at this; simp at this; omega
    obtain ⟨bb, R, cc, qq⟩ := x
    have hsome : someR R := g.some _ hin
    have e1 : sAsg (d2 fIx (dFld 9 0 (dVar 0)) (dVar 3)) (gTp 3 (gCons (gN 5) (gCons (gN 6) (gCons (gN 7) gNil)))) (GT n0 n pg (some (.int p)) a4 b r c) S = .nx (GT n0 n pg (some (.int p)) a4 (some (.int bb)) (some (.str (rtS R))) (some (cellD cc qq))) S := by
      unfold sAsg
      have q : d2 fIx (dFld 9 0 (dVar 0)) (dVar 3) (GT n0 n pg (some (.int p)) a4 b r c) S = .ok (eD (bb, R, cc, qq)) S := (d2_ok (fld_ok (i := 0) rfl h0.o) (b := .int p) rfl).trans (ix_dk (.inl h0.d) (by rw [lookK_kdz, enE_mem g.nd hin]; rfl))
      rw [q]
      rfl
    obtain ⟨a4', S1, e2, k1, h1⟩ := inner_ok (n0 := n0) (n := n) (m := m) (pg := pg) (rg := some (.str (rtS R))) (p := p) (b := bb) (c := cc) (q := qq) (ltsR R) S fs a4 o h (by have := lts_len R; omega)
    have e3 : sFor (iAny (dVar 6)) (gN 4) bodyI (GT n0 n pg (some (.int p)) a4 (some (.int bb)) (some (.str (rtS R))) (some (cellD cc qq))) S = .nx (GT n0 n pg (some (.int p)) a4' (some (.int bb)) (some (.str (rtS R))) (some (cellD cc qq))) S1 := by
      rw [for_no (ds := signs (rtS R).cps.toList) (S1 := S) rfl, lts_signs, e2]
      rfl
    have hfs : widsE fs p bb cc qq (ltsR R) = fs ++ [(p, (bb, R, cc, qq))] := by rw [wids_new hp (lts_some hsome), lts_all]
    rw [hfs] at h1
    obtain ⟨p', a5, b', r', c', S2, e4, k2, h2⟩ := outer_ok g hn hm ps (fs ++ [(p, (bb, R, cc, qq))]) S1 (some (.int p)) a4' (some (.int bb)) (some (.str (rtS R))) (some (cellD cc qq)) (by rw [e]; simp) k1.ok (h0.pk k1 (Ne.symm hn) (Ne.symm hm)) h1
    refine ⟨p', a5, b', r', c', S2, ?_, k1.trans k2, h2⟩
    show (match bodyT (GT n0 n pg (some (.int p)) a4 b r c) S with
      | .nx Γ2 S2 => loopD (gN 3) bodyT ((keysE ps).map D.int) Γ2 S2
      | .ct Γ2 S2 => loopD (gN 3) bodyT ((keysE ps).map D.int) Γ2 S2
      | .bk Γ2 S2 => .nx Γ2 S2
      | o => o) = _
    rw [show bodyT (GT n0 n pg (some (.int p)) a4 b r c) S = _ from (seq_nx e1).trans e3]
    exact e4
theorem twin_ok {S : Sto} {n m : Nat} {es : Tb E} (o : Ok S) (h : Mp S n m es) (g : GoodM es) :
    ∃ n' m' S', f12 [.ref n] S = .ok (.ref n') S' ∧ Pk S S' (fun _ => False) ∧ Mp S' n' m' es ∧ S.nx ≤ n' ∧ S.nx ≤ m' := by
  have h2 : 2 ≤ S.nx := Nat.le_trans h.n2 (Nat.le_of_lt h.ln)
  obtain ⟨S1, e1, k1, h1, hx⟩ := make_ok (Γ := [some (.ref n), none, none, none, none, none, none, none]) o h2
  have h0 := h.pk k1 id id
  let pg : D := .lst (keysD (kdz eD es))
  have e2 : sSet (dFrz (dCB gList (aCons (dFld 9 0 (dVar 0)) aNil))) 2 [some (.ref n), some (.ref S.nx), none, none, none, none, none, none] S1 = .nx (GT n S.nx pg none none none none none) (Lw.up S1) :=
    set_nx (list_keys k1.ok h0.d (fld_ok (i := 0) rfl h0.o))
  have ku : Pk S1 (Lw.up S1) (fun _ => False) := (Pk.refl k1.ok).up
  have hn1 := h.ln
  have hm1 := h.lm
  obtain ⟨p', a4', b', r', c', S2, e3, k2, h3⟩ := outer_ok (n0 := n) (m0 := m) (n := S.nx) (m := S.nx + 1) (pg := pg) g (by omega) (by omega) es [] (Lw.up S1) none none none none none rfl k1.ok.up (h0.pk ku id id) (h1.pk ku id id)
  have e4 : sFor (iAny (dVar 2)) (gN 3) bodyT (GT n S.nx pg none none none none none) (Lw.up S1) = .nx (GT n S.nx pg p' a4' b' r' c') S2 := by
    rw [for_no (ds := keysD (kdz eD es)) (S1 := Lw.up S1) rfl, keysD_kdz, e3]
    rfl
  have e1' : sSet (dMake 9 1 f2 aNil) 1 [some (.ref n), none, none, none, none, none, none, none] S = .nx [some (.ref n), some (.ref S.nx), none, none, none, none, none, none] S1 := set_nx e1
  refine ⟨S.nx, S.nx + 1, S2, ?_, ?_, h3, Nat.le_refl _, Nat.le_succ _⟩
  · show endD (den12 [some (.ref n), none, none, none, none, none, none, none] S) = _
    unfold den12
    rw [seq_nx e1', seq_nx e2, seq_nx e4]
    rfl
  exact (k1.trans' ku fun _ _ z => z).trans' k2 fun j hj z => by
    have z : j = S.nx + 1 := z
    omega
end Lw

namespace Lw
open L2 PySem PySem.Spec PyProof.Rows Pd

/-! ### ==, len, entry -/
section
variable {S : Sto} {n m n' m' : Nat} {es fs : Tb E}
theorem insV_at {k c : Nat} {l : List (Nat × D)} (h : S.at k = some (.ins c l)) : insV S (.ref k) = some (c, l) := by
  show (match S.at k with | some (.ins c fs) => some (c, fs) | _ => none) = _
  rw [h]
theorem own_t (h : Mp S n m es) : ownIs 9 S (.ref n) = some true := by
  unfold ownIs
  rw [insV_at h.o]
theorem eq13 {r : Bool} (h : Mp S n m es) (h' : Mp S n' m' fs) (e : eqDk S (kdz eD fs) (kdz eD es) = some r) : f13 [.ref n, .ref n'] S = .ok (.bl (ifB (eqLen es fs) r)) S := by
  have e1 : dIsO 9 (dVar 1) [some (.ref n), some (.ref n')] S = .ok (.bl true) S := by
    show (match ownIs 9 S (.ref n') with | some b => Res.ok (D.bl b) S | none => .bad) = _
    rw [own_t h']
  have e2 : d2 fEqX (dFld 9 0 (dVar 0)) (dFld 9 0 (dVar 1)) [some (.ref n), some (.ref n')] S = .ok (.bl (ifB (eqLen es fs) r)) S := by
    rw [d2_ok (fld_ok (i := 0) rfl h.o) (fld_ok (i := 1) rfl h'.o), fEqX_dk (dctV_at (.inl h.d)) (dctV_at (.inl h'.d)) e]
    have : eqLen (kdz eD es) (kdz eD fs) = eqLen es fs := by rw [eqLen_eq, eqLen_eq, kdz_len, kdz_len]
    rw [this]
  show endD (sRet (dAndV (dIsO 9 (dVar 1)) (d2 fEqX (dFld 9 0 (dVar 0)) (dFld 9 0 (dVar 1)))) [some (.ref n), some (.ref n')] S) = _
  have e3 : dAndV (dIsO 9 (dVar 1)) (d2 fEqX (dFld 9 0 (dVar 0)) (dFld 9 0 (dVar 1))) [some (.ref n), some (.ref n')] S = .ok (.bl (ifB (eqLen es fs) r)) S := by
    unfold dAndV
    rw [e1]
    exact e2
  rw [ret_rt e3]
  rfl
theorem eqO {r : Bool} (h : Mp S n m es) (h' : Mp S n' m' fs) (e : eqDk S (kdz eD fs) (kdz eD es) = some r) : fOEq 9 f13 (.ref n) (.ref n') S = .ok (.bl (ifB (eqLen es fs) r)) S := by
  unfold fOEq
  rw [insV_at h.o]
  show guard true _ = _
  rw [own_t h', eq13 h h' e]
  rfl
theorem eqO_odd {d : D} (h : Mp S n m es) (ho : ownIs 9 S d = some false) : fOEq 9 f13 (.ref n) d S = .ok (.bl false) S := by
  unfold fOEq
  rw [insV_at h.o]
  show guard true _ = _
  rw [ho]
  have : f13 [.ref n, d] S = .ok (.bl false) S := by
    have e1 : dIsO 9 (dVar 1) [some (.ref n), some d] S = .ok (.bl false) S := by
      show (match ownIs 9 S d with | some b => Res.ok (D.bl b) S | none => .bad) = _
      rw [ho]
    have e3 : dAndV (dIsO 9 (dVar 1)) (d2 fEqX (dFld 9 0 (dVar 0)) (dFld 9 0 (dVar 1))) [some (.ref n), some d] S = .ok (.bl false) S := by
      unfold dAndV
      rw [e1]
      rfl
    show endD (sRet (dAndV (dIsO 9 (dVar 1)) (d2 fEqX (dFld 9 0 (dVar 0)) (dFld 9 0 (dVar 1)))) [some (.ref n), some d] S) = _
    rw [ret_rt e3]
    rfl
  show guard true (blOnly (f13 [.ref n, d] S)) = _
  rw [this]
  rfl
theorem len_dk {kds : List (Key × D)} (h : S.at m = some (.dct kds)) : gLen [.ref m] S = .ok (.int (kds.length : Nat)) S := by
  show (match lenD S (.ref m) with | some n => Res.ok (D.int n) S | none => .bad) = _
  have e : lenD S (.ref m) = some kds.length := by
    show (match seqV S (.ref m) with | some ds => some ds.length | none => (match dctV S (.ref m) with | some ks => some ks.length | none => _)) = _
    have e1 : seqV S (.ref m) = none := by
      show (match S.at m with | some (.lst ds) => some ds | _ => none) = _
      rw [h]
    rw [e1, dctV_at (.inl h)]
  rw [e]
theorem olen_ok (h : Mp S n m es) (hl : es.length ≤ 900) : gOLen 9 f3 [.ref n] S = .ok (.int (es.length : Nat)) S := by
  show (match insV S (.ref n) with | some (c', _) => guard (Nat.beq c' 9) (smallN (f3 [.ref n] S)) | none => .bad) = _
  rw [insV_at h.o]
  have e : f3 [.ref n] S = .ok (.int (es.length : Nat)) S := by
    show endD (sRet (dCB gLen (aCons (dFld 9 0 (dVar 0)) aNil)) [some (.ref n)] S) = _
    have q : dCB gLen (aCons (dFld 9 0 (dVar 0)) aNil) [some (.ref n)] S = .ok (.int (es.length : Nat)) S := by
      show Res.bind (aCons (dFld 9 0 (dVar 0)) aNil [some (.ref n)] S) gLen = _
      rw [args1 (fld_ok (i := 0) rfl h.o)]
      show gLen [.ref m] S = _
      rw [len_dk h.d, kdz_len]
    rw [ret_rt q]
    rfl
  show guard true (smallN (f3 [.ref n] S)) = _
  rw [e]
  show guard (lineOk es.length) _ = _
  rw [show lineOk es.length = true from Nat.ble_eq_true_of_le (by omega)]
  rfl
def optD : Option E → D
  | some e => eD e
  | none => .non
theorem entry_ok {p : Int} (h : Mp S n m es) (hp : 0 ≤ p) : f4 [.ref n, .int p] S = .ok (optD (enE es p)) S := by
  have e1 : dTr (dCall 1 f1 (aCons (dVar 1) aNil)) [some (.ref n), some (.int p)] S = .ok true S := by
    show Res.ok (leB 0 p) S = _
    rw [leB_eq, decide_eq_true hp]
  have e2 : dGet2 (dFld 9 0 (dVar 0)) (dVar 1) (dC .non) [some (.ref n), some (.int p)] S = .ok (optD (enE es p)) S := by
    unfold dGet2
    rw [fld_ok (i := 0) rfl h.o]
    show guard (isD S (.ref m)) (match getD (.ref m) (.int p) S with | some (some d) => Res.ok d S | some none => .ok .non S | none => .bad) = _
    rw [isD_at (.inl h.d), get_dk (.inl h.d), lookK_kdz]
    cases enE es p <;> rfl
  have e3 : dIf (dTr (dCall 1 f1 (aCons (dVar 1) aNil))) (dGet2 (dFld 9 0 (dVar 0)) (dVar 1) (dC .non)) (dC .non) [some (.ref n), some (.int p)] S = .ok (optD (enE es p)) S := by
    unfold dIf
    rw [e1]
    exact e2
  show endD (sRet (dIf (dTr (dCall 1 f1 (aCons (dVar 1) aNil))) (dGet2 (dFld 9 0 (dVar 0)) (dVar 1) (dC .non)) (dC .non)) [some (.ref n), some (.int p)] S) = _
  rw [ret_rt e3]
  rfl
end
/-! ### as_dict -/
def selE (es : Tb E) : List Int → Tb E
  | [] => []
  | k :: r => (match enE es k with
    | some e => (k, e) :: selE es r
    | none => selE es r)
theorem intK_kdz {es : Tb E} : intK (kdz eD es) = some (keysE es) := by
  induction es with
  | nil => rfl
  | cons p r ih =>
    show (match intK (kdz eD r) with | some is => some (p.1 :: is) | none => none) = _
    rw [ih]
    rfl
theorem put_new {es : Tb E} {p : Int} {e : E} (h : p ∉ keysE es) : putE es p e = es ++ [(p, e)] := by
  unfold putE
  rw [show hasE es p = false by cases z : hasE es p with | false => rfl | true => exact absurd ((hasE_mem es p).mp z) h]
abbrev loopA (n : Nat) (k : Nat) := loopCD (gN 1) dYes (dVar 1) (dSl (d2 fIx (dFld 9 0 (dVar 0)) (dVar 1)) oNone (oSome (dC (.int 2)))) [some (.ref n), none] k
theorem loopA_ok {n m k : Nat} {es : Tb E} : ∀ (ks : List Int) (acc : Tb E) (S : Sto), S.at n = some (.ins 9 [(0, .ref m)]) → S.at m = some (.dct (kdz eD es)) → S.at k = some (.dct (kdz eD2 acc)) → k < S.nx → n ≠ k → m ≠ k → (∀ x ∈ ks, x ∈ keysE es) → (keysE acc ++ ks).Nodup → acc.length + ks.length ≤ 900 →
    loopA n k (ks.map D.int) S = some (S.set k (.dct (kdz eD2 (acc ++ selE es ks))))
  | [], acc, S, h1, h2, h3, _, _, _, _, _, _ => by
    show some S = some (S.set k (.dct (kdz eD2 (acc ++ []))))
    rw [List.append_nil]
    show some S = some (Sto.mk S.nx (put S.ob k (.dct (kdz eD2 acc))))
    rw [put_same h3]
  | x :: ks, acc, S, h1, h2, h3, hk, hn, hm, hin, nd, hl => by
    obtain ⟨e, he⟩ : ∃ e, enE es x = some e := by
      have := (hasE_mem es x).mpr (hin x List.mem_cons_self)
      rw [hasE_en] at this
      exact Option.isSome_iff_exists.mp this
    have hx : x ∉ keysE acc := fun z => (List.nodup_append.mp nd).2.2 x z x List.mem_cons_self rfl
    have e1 : dSl (d2 fIx (dFld 9 0 (dVar 0)) (dVar 1)) oNone (oSome (dC (.int 2))) [some (.ref n), some (.int x)] S = .ok (eD2 e) S := by
      unfold dSl
      rw [(d2_ok (fld_ok (i := 0) rfl h1) (b := .int x) rfl).trans (ix_dk (.inl h2) (by rw [lookK_kdz, he]; rfl))]
      rfl
    have e2 : fPutD (.ref k) (.int x) (eD2 e) S = some (S.set k (.dct (kdz eD2 (acc ++ [(x, e)])))) := by
      show (match S.at k with | some m => (match m with | .dct kds => ifS (lineOk (kds.length + 1)) (S.set k (.dct (putG eqK kds (.inl x) (eD2 e)))) | .dtt kds => none | _ => none) | none => none) = _
      rw [h3]
      show ifS (lineOk ((kdz eD2 acc).length + 1)) (S.set k (.dct (putG eqK (kdz eD2 acc) (.inl x) (eD2 e)))) = _
      rw [kdz_len, show lineOk (acc.length + 1) = true from Nat.ble_eq_true_of_le (by simp at hl; omega), putG_kdz, put_new hx]
      rfl
    have ih := loopA_ok (n := n) (m := m) (k := k) ks (acc ++ [(x, e)]) (S.set k (.dct (kdz eD2 (acc ++ [(x, e)])))) (by rw [at_set_ne hn]; exact h1) (by rw [at_set_ne hm]; exact h2) (at_set h3) hk hn hm (fun y hy => hin y (List.mem_cons_of_mem _ hy)) (by
      have : keysE (acc ++ [(x, e)]) ++ ks = keysE acc ++ x :: ks := by unfold keysE; simp
      rw [this]; exact nd) (by simp at hl ⊢; omega)
    show (match dSl (d2 fIx (dFld 9 0 (dVar 0)) (dVar 1)) oNone (oSome (dC (.int 2))) [some (.ref n), some (.int x)] S with
      | .ok v S3 => (match fPutD (.ref k) (.int x) v S3 with
        | some S4 => loopA n k (ks.map D.int) S4
        | none => none)
      | _ => none) = _
    rw [e1]
    dsimp only
    rw [e2]
    dsimp only
    rw [ih, set_set]
    have : selE es (x :: ks) = (x, e) :: selE es ks := by
      show (match enE es x with | some e => (x, e) :: selE es ks | none => selE es ks) = _
      rw [he]
    rw [this]
    simp
theorem tupI_map : ∀ l : List Int, tupI l = l.map D.int
  | [] => rfl
  | i :: r => by show D.int i :: tupI r = _; rw [tupI_map r]; rfl
theorem asdict_ok {S : Sto} {n m : Nat} {es : Tb E} (o : Ok S) (h : Mp S n m es) (nd : (keysE es).Nodup) (hl : es.length ≤ 60) :
    ∃ S', f5 [.ref n] S = .ok (.ref (S.nx + 1)) S' ∧ Pk S S' (fun _ => False) ∧ S'.at (S.nx + 1) = some (.dct (kdz eD2 (selE es (sortS (keysE es))))) ∧ S.nx + 1 < S'.nx := by
  let ks := sortS (keysE es)
  have pm : ks.Perm (keysE es) := sortS_perm _
  have kl : ks.length = es.length := by rw [pm.length_eq]; unfold keysE; simp
  let T0 := S.new (.lst (ks.map D.int))
  let T1 := T0.set S.nx (.lck (.lst (ks.map D.int)))
  let T2 := T1.new (.dct [])
  have a0 : T0.at S.nx = some (.lst (ks.map D.int)) := look_new
  have a1 : T1.at S.nx = some (.lck (.lst (ks.map D.int))) := at_set a0
  have e0 : iAny (dCB gSortedD (aCons (dFld 9 0 (dVar 0)) aNil)) [some (.ref n), none] S = .ok (ks.map D.int, .st S.nx) T1 := by
    have q : dCB gSortedD (aCons (dFld 9 0 (dVar 0)) aNil) [some (.ref n), none] S = .ok (.ref S.nx) T0 := by
      show Res.bind (aCons (dFld 9 0 (dVar 0)) aNil [some (.ref n), none] S) gSortedD = _
      rw [args1 (fld_ok (i := 0) rfl h.o)]
      show (match dctV S (.ref m) with | some kds => (match intK kds with | some ns => (match Nat.blt ns.length 64 with | true => Res.ok (D.ref S.nx) (S.new (.lst (tupI (sortS ns)))) | false => .bad) | none => .bad) | none => .bad) = _
      rw [dctV_at (.inl h.d)]
      dsimp only
      rw [intK_kdz]
      dsimp only
      rw [show Nat.blt (keysE es).length 64 = true from Nat.ble_eq_true_of_le (by unfold keysE; simp; omega), tupI_map]
    unfold iAny
    rw [q]
    show (match T0.at S.nx with | some (.lst ds) => Res.ok (ds, UK.st S.nx) (T0.set S.nx (.lck (.lst ds))) | some (.lck (.lst ds)) => .ok (ds, .no) T0 | _ => lockD (.ref S.nx) T0) = _
    rw [a0]
  have hn1 := h.ln
  have hm1 := h.lm
  have pk2 : Pk S T2 (fun _ => False) := (((Pk.refl o).new).set (by show S.nx < S.nx + 1; omega) (fun z => absurd z (Nat.lt_irrefl _))).new
  have hT2 : T2.nx = S.nx + 2 := rfl
  have e1 : loopA n (S.nx + 1) (ks.map D.int) T2 = some (T2.set (S.nx + 1) (.dct (kdz eD2 ([] ++ selE es ks)))) := by
    refine loopA_ok (m := m) ks [] T2 (by rw [pk2.at_ n hn1 id]; exact h.o) (by rw [pk2.at_ m hm1 id]; exact h.d) (look_new (S := T1)) (by omega) (by omega) (by omega) (fun x hx => pm.mem_iff.mp hx) ?_ (by simp; omega)
    show (([] : List Int) ++ ks).Nodup
    rw [List.nil_append]
    exact pm.nodup_iff.mpr nd
  rw [List.nil_append] at e1
  let T3 := T2.set (S.nx + 1) (.dct (kdz eD2 (selE es ks)))
  have a2 : T2.at (S.nx + 1) = some (.dct []) := look_new (S := T1)
  have a3 : T3.at S.nx = some (.lck (.lst (ks.map D.int))) := by
    show (T2.set (S.nx + 1) _).at S.nx = _
    rw [at_set_ne (by omega)]
    rw [look_new_ne (S := T1) (by show S.nx ≠ S.nx + 1; omega)]
    exact a1
  have e2 : unl (.st S.nx) T3 = some (T3.set S.nx (.lst (ks.map D.int))) := by
    unfold unl
    dsimp only
    rw [a3]
  refine ⟨T3.set S.nx (.lst (ks.map D.int)), ?_, ?_, ?_, by show S.nx + 1 < S.nx + 2; omega⟩
  · have e3 : dDc false keep (iAny (dCB gSortedD (aCons (dFld 9 0 (dVar 0)) aNil))) (gN 1) dYes (dVar 1) (dSl (d2 fIx (dFld 9 0 (dVar 0)) (dVar 1)) oNone (oSome (dC (.int 2)))) [1] [some (.ref n), none] S = .ok (.ref (S.nx + 1)) (T3.set S.nx (.lst (ks.map D.int))) := by
      unfold dDc
      rw [e0]
      show (match loopA n (S.nx + 1) (ks.map D.int) T2 with
        | some S2 => (match unl (.st S.nx) S2 with
          | some S3 => keep (.ref (S.nx + 1)) S3
          | none => .bad)
        | none => .bad) = _
      rw [e1]
      dsimp only
      rw [e2]
      rfl
    show endD (sRet (dDc false keep (iAny (dCB gSortedD (aCons (dFld 9 0 (dVar 0)) aNil))) (gN 1) dYes (dVar 1) (dSl (d2 fIx (dFld 9 0 (dVar 0)) (dVar 1)) oNone (oSome (dC (.int 2)))) [1]) [some (.ref n), none] S) = _
    rw [ret_rt e3]
    rfl
  · exact (pk2.set (by omega) (fun z => by omega)).set (by show S.nx < S.nx + 2; omega) (fun z => absurd z (Nat.lt_irrefl _))
  · rw [at_set_ne (by omega)]
    exact at_set a2
end Lw

namespace Lw
open L2 PySem PySem.Spec PyProof.Rows Pd

/-! ### loops, lists of numbers -/
theorem loopD_inv {gt : D → Ga → Sto → Option Ga} {body : DS} {I : Ga → Sto → Prop} : ∀ (ds : List D) (Γ : Ga) (S : Sto), (∀ d ∈ ds, ∀ Γ S, I Γ S → ∃ Γ1 Γ' S', gt d Γ S = some Γ1 ∧ body Γ1 S = .nx Γ' S' ∧ I Γ' S') → I Γ S →
    ∃ Γ' S', loopD gt body ds Γ S = .nx Γ' S' ∧ I Γ' S'
  | [], Γ, S, _, h => ⟨Γ, S, rfl, h⟩
  | d :: ds, Γ, S, f, h => by
    obtain ⟨Γ1, Γ2, S2, e1, e2, h2⟩ := f d List.mem_cons_self Γ S h
    obtain ⟨Γ3, S3, e3, h3⟩ := loopD_inv ds Γ2 S2 (fun x hx => f x (List.mem_cons_of_mem _ hx)) h2
    refine ⟨Γ3, S3, ?_, h3⟩
    unfold loopD
    rw [e1]
    dsimp only
    rw [e2]
    exact e3
theorem for_inv {fi : DI} {gt : D → Ga → Sto → Option Ga} {body : DS} {I : Ga → Sto → Prop} {ds : List D} {Γ : Ga} {S S1 : Sto} (hi : fi Γ S = .ok (ds, .no) S1) (f : ∀ d ∈ ds, ∀ Γ S, I Γ S → ∃ Γ1 Γ' S', gt d Γ S = some Γ1 ∧ body Γ1 S = .nx Γ' S' ∧ I Γ' S') (h : I Γ S1) :
    ∃ Γ' S', sFor fi gt body Γ S = .nx Γ' S' ∧ I Γ' S' := by
  obtain ⟨Γ', S', e, h'⟩ := loopD_inv ds Γ S1 f h
  exact ⟨Γ', S', by rw [for_no hi, e]; rfl, h'⟩
theorem mapO_ints (n : Nat) (S : Sto) : ∀ l : List Int, mapO (toPy (n + 1) S) (l.map D.int) = some (l.map PyData.int)
  | [] => rfl
  | i :: r => by
    have e : toPy (n + 1) S (.int i) = some (.int i) := by unfold toPy; rfl
    rw [List.map_cons]
    unfold mapO
    rw [e, mapO_ints n S r]
    rfl
theorem tpInts (l : List Int) : TP (.lst (l.map D.int)) (.list (l.map PyData.int)) := fun S => by
  show (match mapO (toPy 39 S) (l.map D.int) with | some ps => some (PyData.list ps) | none => none) = _
  rw [mapO_ints 38 S l]
theorem merge_kdz {ε : Type} {f : ε → D} : ∀ (es acc : Tb ε), (keysE acc ++ keysE es).Nodup → mergeG eqK (kdz f acc) (kdz f es) = kdz f (acc ++ es)
  | [], acc, _ => by rw [List.append_nil]; rfl
  | (p, e) :: r, acc, nd => by
    have hp : p ∉ keysE acc := fun z => (List.nodup_append.mp nd).2.2 p z p List.mem_cons_self rfl
    show mergeG eqK (putG eqK (kdz f acc) (.inl p) (f e)) (kdz f r) = _
    have q : putE acc p e = acc ++ [(p, e)] := by
      unfold putE
      rw [show hasE acc p = false by cases z : hasE acc p with | false => rfl | true => exact absurd ((hasE_mem acc p).mp z) hp]
    rw [putG_kdz, q, merge_kdz r (acc ++ [(p, e)]) (by
      have : keysE (acc ++ [(p, e)]) ++ keysE r = keysE acc ++ keysE ((p, e) :: r) := by unfold keysE; simp
      rw [this]; exact nd)]
    simp
theorem pairs_kdz {ε : Type} {f : ε → D} : ∀ es : Tb ε, pairsD (es.map fun p => D.tup [.int p.1, f p.2]) = some (kdz f es)
  | [] => rfl
  | p :: r => by
    show (match pairsD (r.map fun p => D.tup [.int p.1, f p.2]) with | some kds => some ((Sum.inl p.1, f p.2) :: kds) | none => none) = _
    rw [pairs_kdz r]
    rfl
theorem sel_en {es : Tb E} : ∀ {ks : List Int} {w : Int} {e : E}, (w, e) ∈ selE es ks → enE es w = some e
  | [], _, _, h => nomatch h
  | k :: r, w, e, h => by
    unfold selE at h
    cases z : enE es k with
    | none => rw [z] at h; exact sel_en h
    | some x =>
      rw [z] at h
      rcases (List.mem_cons.mp h) with q | q
      · cases q; exact z
      · exact sel_en q
theorem sel_keys {es : Tb E} : ∀ {ks : List Int}, (∀ k ∈ ks, k ∈ keysE es) → keysE (selE es ks) = ks
  | [], _ => rfl
  | k :: r, h => by
    have := (hasE_mem es k).mpr (h k List.mem_cons_self)
    rw [hasE_en] at this
    obtain ⟨e, he⟩ := Option.isSome_iff_exists.mp this
    unfold selE
    rw [he]
    show k :: keysE (selE es r) = _
    rw [sel_keys fun x hx => h x (List.mem_cons_of_mem _ hx)]
/-- the numbers below n, as they are walked -/
def nums (n : Nat) : List Int := (List.range n).map Int.ofNat
theorem nums_asc (n : Nat) : (nums n).Pairwise (· ≤ ·) := by
  unfold nums
  refine List.pairwise_map.mpr (List.pairwise_lt_range.imp fun h => ?_)
  exact Int.ofNat_le.mpr (Nat.le_of_lt h)
theorem nums_nd (n : Nat) : (nums n).Nodup := by
  unfold nums
  exact List.Pairwise.map _ (fun a b h z => h (Int.ofNat.inj z)) List.nodup_range
theorem mem_nums {n : Nat} {i : Int} : i ∈ nums n ↔ 0 ≤ i ∧ i < n := by
  unfold nums
  (simp only [List.mem_map, List.mem_range])
  constructor
  · rintro ⟨a, h, rfl⟩
    exact ⟨Int.natCast_nonneg a, Int.ofNat_lt.mpr h⟩
  · rintro ⟨h0, h1⟩
    exact ⟨i.toNat, by omega, by show ((i.toNat : Nat) : Int) = i; omega⟩
/-- sorted numbers without twins are the filter of all numbers -/
theorem sort_filter {l : List Int} {P : Int → Bool} {n : Nat} (nd : l.Nodup) (h : ∀ i, i ∈ l ↔ (0 ≤ i ∧ i < n ∧ P i = true)) : sortS l = (nums n).filter P := by
  have p1 := sortS_perm l
  have p2 : (sortS l).Perm ((nums n).filter P) := (List.perm_ext_iff_of_nodup (p1.nodup_iff.mpr nd) ((nums_nd n).sublist List.filter_sublist)).mpr fun i => by
    rw [p1.mem_iff, List.mem_filter, mem_nums, h]
    constructor
    · rintro ⟨a, b, c⟩; exact ⟨⟨a, b⟩, c⟩
    · rintro ⟨⟨a, b⟩, c⟩; exact ⟨a, b, c⟩
  exact p2.eq_of_pairwise (le := fun a b => a ≤ b) (fun a b _ _ h1 h2 => Int.le_antisymm h1 h2) (sortS_asc l) ((nums_asc n).sublist List.filter_sublist)
theorem upto8 : upto 0 8 = (nums 8).map D.int := rfl
theorem upto9 : upto 0 9 = (nums 9).map D.int := rfl
theorem filter_ints (P : Int → Bool) (B : D → Bool) (h : ∀ i, B (.int i) = P i) : ∀ l : List Int, ((l.map D.int).filter B).map (fun d => d) = (l.filter P).map D.int
  | [] => rfl
  | i :: r => by
    have ih := filter_ints P B h r
    rw [List.map_cons]
    cases z : P i with
    | true => rw [List.filter_cons_of_pos (by rw [h, z]), List.filter_cons_of_pos z, List.map_cons, ih]; rfl
    | false => rw [List.filter_cons_of_neg (by rw [h, z]; decide), List.filter_cons_of_neg (by rw [z]; decide), ih]
end Lw

namespace Lw
open L2 PySem PySem.Spec PyProof.Rows Pd

/-! ### _law_is -/
theorem keysE_len {ε : Type} (es : Tb ε) : (keysE es).length = es.length := by unfold keysE; simp
structure Dt (S : Sto) (k : Nat) (es : Tb E) : Prop where
  d : S.at k = some (.dct (kdz eD es))
  l : k < S.nx
  k2 : 2 ≤ k
theorem Dt.pk {S S' : Sto} {k : Nat} {es : Tb E} {L : Nat → Prop} (h : Dt S k es) (p : Pk S S' L) (h1 : ¬ L k) : Dt S' k es := ⟨by rw [p.at_ k h.l h1]; exact h.d, Nat.lt_of_lt_of_le h.l p.nx, h.k2⟩
structure GoodN (es : Tb E) : Prop where
  g : GoodM es
  b : ∀ p ∈ es, 0 ≤ p.1 ∧ p.1 < 8
  len : es.length ≤ 60
abbrev GI (n k : Nat) (a2 a3 a4 a5 : Option D) : Ga := [some (.ref n), some (.ref k), a2, a3, a4, a5]
abbrev lcI : DE := dLc frz (iAny (dVar 1)) (gN 3) dYes (dTup (aCons (dVar 3) (aCons (dFrz (dSl (d2 fIx (dVar 1) (dVar 3)) oNone (oSome (dC (.int 2))))) aNil))) [3]
def pairF (es : Tb E) : D → D
  | .int x => (match enE es x with
    | some e => .tup [.int x, eD2 e]
    | none => .non)
  | _ => .non
section
variable {S : Sto} {n m k : Nat} {es : Tb E}
theorem pairs_map (nd : (keysE es).Nodup) : ((keysE es).map D.int).map (pairF es) = es.map fun p => D.tup [.int p.1, eD2 p.2] := by
  unfold keysE
  rw [List.map_map, List.map_map]; refine List.map_congr_left fun p hp => ?_
  show pairF es (.int p.1) = _
  show (match enE es p.1 with | some e => D.tup [.int p.1, eD2 e] | none => .non) = _
  rw [enE_mem nd (show (p.1, p.2) ∈ es from hp)]
theorem iDict {Γ : Ga} {i : Nat} (h : S.at k = some (.dct (kdz eD es))) (hi : Γ[i]? = some (some (.ref k))) : iAny (dVar i) Γ S = .ok ((keysE es).map D.int, .st k) (S.set k (.lck (.dct (kdz eD es)))) := by
  unfold iAny
  rw [show dVar i Γ S = .ok (.ref k) S by unfold dVar; rw [hi]]
  show (match S.at k with
    | some (.lst ds) => Res.ok (ds, UK.st k) (S.set k (.lck (.lst ds)))
    | some (.lck (.lst ds)) => .ok (ds, .no) S
    | _ => lockD (.ref k) S) = _
  rw [h]
  show (match S.at k with
    | some (.dct kds) => Res.ok (keysD kds, UK.st k) (S.set k (.lck (.dct kds)))
    | some (.dtt kds) => .ok (tkeysD kds, .st k) (S.set k (.lck (.dtt kds)))
    | some (.lck (.dct kds)) => .ok (keysD kds, .no) S
    | some (.lck (.dtt kds)) => .ok (tkeysD kds, .no) S
    | _ => .bad) = _
  rw [h, ← keysD_kdz]
theorem lcI_ok {a2 a3 a4 a5 : Option D} (o : Ok S) (h : Dt S k es) (g : GoodN es) : lcI (GI n k a2 a3 a4 a5) S = .ok (.lst (es.map fun p => D.tup [.int p.1, eD2 p.2])) (Lw.up S) := by
  have hk : ((keysE es).map D.int).length ≤ 1000 := by unfold keysE; have := g.len; simp; omega
  refine (dLc_lockF (F := pairF es) (B := fun _ => true) (G := fun d => GI n k a2 (some d) a4 a5) o h.l h.d (iDict (i := 1) h.d rfl) hk fun d hd T h1 h2 => ⟨rfl, rfl, ?_⟩).trans ?_
  · obtain ⟨x, hx, rfl⟩ := List.mem_map.mp hd
    obtain ⟨e, he⟩ : ∃ e, enE es x = some e := by
      have := (hasE_mem es x).mpr hx
      rw [hasE_en] at this
      exact Option.isSome_iff_exists.mp this
    have e1 : dFrz (dSl (d2 fIx (dVar 1) (dVar 3)) oNone (oSome (dC (.int 2)))) (GI n k a2 (some (.int x)) a4 a5) T = .ok (eD2 e) T := by
      refine frzE (a := eD2 e) (S1 := T) ?_ rfl
      unfold dSl
      rw [(d2_ok (a := .ref k) (b := .int x) rfl rfl).trans (ix_dk (.inr h1) (by rw [lookK_kdz, he]; rfl))]
      rfl
    have e2 : dTup (aCons (dVar 3) (aCons (dFrz (dSl (d2 fIx (dVar 1) (dVar 3)) oNone (oSome (dC (.int 2))))) aNil)) (GI n k a2 (some (.int x)) a4 a5) T = .ok (.tup [.int x, eD2 e]) T := by
      unfold dTup
      rw [args2 (a := .int x) rfl e1]
      rfl
    show dTup (aCons (dVar 3) (aCons (dFrz (dSl (d2 fIx (dVar 1) (dVar 3)) oNone (oSome (dC (.int 2))))) aNil)) (GI n k a2 (some (.int x)) a4 a5) T = _
    rw [e2]
    show _ = Res.ok (match enE es x with | some e => D.tup [.int x, eD2 e] | none => .non) T
    rw [he]
  · rw [List.filter_eq_self.mpr (fun _ _ => rfl), pairs_map g.g.nd]
abbrev bodyL1 : DS := (sSeq (sSet (dMeth 9 1 f5 (dVar 0) aNil) 5) (sSeq (sIf (t2 fNeX (dVar 5) (dFrz (dCB gDictP (aCons lcI aNil)))) (sRet (dC (.bl false))) sNil) (sSeq (sIf (t2 fNeX (dCB (gOLen 9 f3) (aCons (dVar 0) aNil)) (dCB gLen (aCons (dVar 1) aNil))) (sRet (dC (.bl false))) sNil) (sSeq (sIf (t2 fNeX (dFrz (dCB gList (aCons (dVar 5) aNil))) (dLc frz (iNo (aBind (aCons (dC (.int 8)) aNil) rng1)) (gN 3) (t2 (fInK false) (dVar 3) (dVar 1)) (dVar 3) [3])) (sRet (dC (.bl false))) sNil) (sPut (dC .non) (dVar 5) (dC (.int 9)))))))
theorem ne_int {i j : Int} : fNeX (.int i) (.int j) S = .ok (.bl (!eqB i j)) S := rfl
theorem L1_ok {a2 a3 a4 a5 : Option D} (o : Ok S) (h : Mp S n m es) (hd : Dt S k es) (g : GoodN es) :
    ∃ Γ' S', bodyL1 (GI n k a2 a3 a4 a5) S = .nx Γ' S' ∧ (∃ b5, Γ' = GI n k a2 a3 a4 b5) ∧ Pk S S' fun _ => False := by
  obtain ⟨S1, e1, k1, at1, l1⟩ := asdict_ok o h g.g.nd g.len
  have hin : ∀ x ∈ sortS (keysE es), x ∈ keysE es := fun x hx => (sortS_perm _).mem_iff.mp hx
  have hlen : (selE es (sortS (keysE es))).length = es.length := by
    have := congrArg List.length (sel_keys hin)
    rw [(sortS_perm _).length_eq, keysE_len, keysE_len] at this
    exact this
  have d1 := hd.pk k1 id
  have m1 := h.pk k1 id id
  have s1 : sSet (dMeth 9 1 f5 (dVar 0) aNil) 5 (GI n k a2 a3 a4 a5) S = .nx (GI n k a2 a3 a4 (some (.ref (S.nx + 1)))) S1 :=
    set_nx ((meth_ins (k := n) (ds := []) rfl h.o rfl rfl).trans e1)
  -- the dict made of the law's own
  have q2 : dFrz (dCB gDictP (aCons lcI aNil)) (GI n k a2 a3 a4 (some (.ref (S.nx + 1)))) S1 = .ok (.dct (kdz eD2 es)) (Lw.up (Lw.up S1)) := by
    refine frzE (a := .ref (Lw.up S1).nx) (S1 := (Lw.up S1).new (.dct (kdz eD2 es))) ?_ (frz_newD k1.ok.up)
    show Res.bind (aCons lcI aNil (GI n k a2 a3 a4 (some (.ref (S.nx + 1)))) S1) gDictP = _
    rw [args1 (lcI_ok k1.ok d1 g)]
    show (match pairsD (es.map fun p => D.tup [.int p.1, eD2 p.2]) with | some kds => Res.ok (D.ref (Lw.up S1).nx) ((Lw.up S1).new (.dct (mergeG eqK [] kds))) | none => .bad) = _
    rw [pairs_kdz]
    dsimp only
    have := merge_kdz (f := eD2) es [] (by show (([] : List Int) ++ keysE es).Nodup; simpa using g.g.nd)
    rw [List.nil_append] at this
    rw [show mergeG eqK [] (kdz eD2 es) = kdz eD2 es from this]
  have k2 : Pk S1 (Lw.up (Lw.up S1)) fun _ => False := (Pk.refl k1.ok).up.up
  generalize Lw.up (Lw.up S1) = S2 at q2 k2
  have at2 : S2.at (S.nx + 1) = some (.dct (kdz eD2 (selE es (sortS (keysE es))))) := by rw [k2.at_ _ l1 id]; exact at1
  have t2' : t2 fNeX (dVar 5) (dFrz (dCB gDictP (aCons lcI aNil))) (GI n k a2 a3 a4 (some (.ref (S.nx + 1)))) S1 = .ok false S2 := by
    rw [t2_ok (a := .ref (S.nx + 1)) rfl q2, fNeX_dk (dctV_at (.inl at2)) rfl (eqDk_same tpE2' (fun w e => sel_en) S2)]
    rw [eqLen_len (by rw [kdz_len, kdz_len, hlen])]
    rfl
  have s2 := if_f (a := sRet (dC (.bl false))) (b := sNil) t2'
  have m2 := m1.pk k2 id id
  have d2' := d1.pk k2 id
  have t3 : t2 fNeX (dCB (gOLen 9 f3) (aCons (dVar 0) aNil)) (dCB gLen (aCons (dVar 1) aNil)) (GI n k a2 a3 a4 (some (.ref (S.nx + 1)))) S2 = .ok false S2 := by
    have a : dCB (gOLen 9 f3) (aCons (dVar 0) aNil) (GI n k a2 a3 a4 (some (.ref (S.nx + 1)))) S2 = .ok (.int (es.length : Nat)) S2 := by
      show gOLen 9 f3 [.ref n] S2 = _
      exact olen_ok m2 (by have := g.len; omega)
    have b : dCB gLen (aCons (dVar 1) aNil) (GI n k a2 a3 a4 (some (.ref (S.nx + 1)))) S2 = .ok (.int (es.length : Nat)) S2 := by
      show gLen [.ref k] S2 = _
      rw [len_dk d2'.d, kdz_len]
    rw [t2_ok a b, ne_int, eqB_self]
    rfl
  have s3 := if_f (a := sRet (dC (.bl false))) (b := sNil) t3
  -- the keys
  have q4 : dFrz (dCB gList (aCons (dVar 5) aNil)) (GI n k a2 a3 a4 (some (.ref (S.nx + 1)))) S2 = .ok (.lst ((sortS (keysE es)).map D.int)) (Lw.up S2) := by
    rw [list_keys k2.ok at2 rfl, keysD_kdz, sel_keys hin]
  have q5 : dLc frz (iNo (aBind (aCons (dC (.int 8)) aNil) rng1)) (gN 3) (t2 (fInK false) (dVar 3) (dVar 1)) (dVar 3) [3] (GI n k a2 a3 a4 (some (.ref (S.nx + 1)))) (Lw.up S2) = .ok (.lst ((sortS (keysE es)).map D.int)) (Lw.up (Lw.up S2)) := by
    rw [dLc_filt (S := Lw.up S2) (ds := (nums 8).map D.int) (F := fun d => d) (B := fun d => match d with | .int x => hasE es x | _ => false) (G := fun d => GI n k a2 (some d) a4 (some (.ref (S.nx + 1)))) rfl (by decide) fun d hd acc => ⟨rfl, ?_, rfl⟩]
    · rw [filter_ints (hasE es) _ (fun _ => rfl), ← sort_filter (n := 8) g.g.nd fun i => ?_]
      · exact frz_new k2.ok.up
      · rw [← hasE_mem]
        constructor
        · intro hi
          have : i ∈ keysE es := (hasE_mem es i).mp hi
          obtain ⟨p, hp, rfl⟩ := List.mem_map.mp this
          exact ⟨(g.b p hp).1, (g.b p hp).2, hi⟩
        · rintro ⟨_, _, hi⟩; exact hi
    · obtain ⟨x, _, rfl⟩ := List.mem_map.mp hd
      have ak : ((Lw.up S2).new (.lst acc)).at k = some (.dct (kdz eD es)) := by
        rw [look_new_ne (S := Lw.up S2) (Nat.ne_of_lt (Nat.lt_succ_of_lt d2'.l))]; exact d2'.d
      rw [t2_ok (a := .int x) (b := .ref k) rfl rfl, inK_d (.inl ak), lookK_kdz]
      show Res.ok ((enE es x).map eD).isSome _ = Res.ok (hasE es x) _
      rw [hasE_en]
      cases enE es x <;> rfl
  have k4 : Pk S2 (Lw.up (Lw.up S2)) fun _ => False := (Pk.refl k2.ok).up.up
  have t4 : t2 fNeX (dFrz (dCB gList (aCons (dVar 5) aNil))) (dLc frz (iNo (aBind (aCons (dC (.int 8)) aNil) rng1)) (gN 3) (t2 (fInK false) (dVar 3) (dVar 1)) (dVar 3) [3]) (GI n k a2 a3 a4 (some (.ref (S.nx + 1)))) S2 = .ok false (Lw.up (Lw.up S2)) := by
    rw [t2_ok q4 q5, fNeX_self rfl (tpInts _)]
    rfl
  generalize Lw.up (Lw.up S2) = S3 at t4 k4
  have s4 := if_f (a := sRet (dC (.bl false))) (b := sNil) t4
  have at3 : S3.at (S.nx + 1) = some (.dct (kdz eD2 (selE es (sortS (keysE es))))) := by rw [k4.at_ _ (Nat.lt_of_lt_of_le l1 k2.nx) id]; exact at2
  have s5 : sPut (dC .non) (dVar 5) (dC (.int 9)) (GI n k a2 a3 a4 (some (.ref (S.nx + 1)))) S3 = .nx (GI n k a2 a3 a4 (some (.ref (S.nx + 1)))) _ :=
    put_nx (v := .non) (o := .ref (S.nx + 1)) (i := .int 9) rfl rfl rfl (put_dk at3 (by rw [kdz_len, hlen]; have := g.len; omega))
  refine ⟨_, _, (seq_nx s1).trans ((seq_nx (s2.trans rfl)).trans ((seq_nx (s3.trans rfl)).trans ((seq_nx (s4.trans rfl)).trans s5))), ⟨_, rfl⟩, ?_⟩
  exact ((k1.trans k2).trans k4).set (Nat.lt_of_lt_of_le l1 (Nat.le_trans k2.nx k4.nx)) fun z => absurd z (by omega)
theorem tpOpt (x : Option E) : ∃ p, TP (optD x) p := by
  cases x with
  | none => exact ⟨.none, fun _ => rfl⟩
  | some e => exact tpE' e
theorem law_is_ok (o : Ok S) (h : Mp S n m es) (hd : Dt S k es) (g : GoodN es) : ∃ S', f16 [.ref n, .ref k] S = .ok (.bl true) S' ∧ Pk S S' fun _ => False := by
  let I : Ga → Sto → Prop := fun Γ T => (∃ a2 a3 a4 a5, Γ = GI n k a2 a3 a4 a5) ∧ Pk S T fun _ => False
  obtain ⟨Γ1, S1, e1, ⟨b2, b3, b4, b5, rfl⟩, k1⟩ := for_inv (I := I) (fi := iNo (aBind (aCons (dC (.int 2)) aNil) rng1)) (gt := gN 2) (body := bodyL1) (ds := upto 0 2) (Γ := GI n k none none none none) (S := S) rfl (fun d _ Γ T ⟨⟨a2, a3, a4, a5, e⟩, kT⟩ => by
    subst e
    obtain ⟨Γ', T', e1, ⟨b5, rfl⟩, k1⟩ := L1_ok (a2 := some d) (a3 := a3) (a4 := a4) (a5 := a5) kT.ok (h.pk kT id id) (hd.pk kT id) g
    exact ⟨_, _, T', rfl, e1, ⟨_, _, _, _, rfl⟩, kT.trans k1⟩) ⟨⟨_, _, _, _, rfl⟩, .refl o⟩
  obtain ⟨Γ2, S2, e2, ⟨c2, c3, c4, c5, rfl⟩, k2⟩ := for_inv (I := I) (fi := iNo (aBind (aCons (dC (.int 9)) aNil) rng1)) (gt := gN 3) (body := sIf (t2 fNeX (dMeth 9 2 f4 (dVar 0) (aCons (dVar 3) aNil)) (dGet1 (dVar 1) (dVar 3))) (sRet (dC (.bl false))) sNil) (ds := (nums 9).map D.int) (Γ := GI n k b2 b3 b4 b5) (S := S1) rfl (fun d hd' Γ T ⟨⟨a2, a3, a4, a5, e⟩, kT⟩ => by
    subst e
    obtain ⟨x, hx, rfl⟩ := List.mem_map.mp hd'
    have hT := h.pk kT id id
    have dT := hd.pk kT id
    refine ⟨GI n k a2 (some (.int x)) a4 a5, _, T, rfl, (if_f ?_).trans rfl, ⟨_, _, _, _, rfl⟩, kT⟩
    have q1 : dMeth 9 2 f4 (dVar 0) (aCons (dVar 3) aNil) (GI n k a2 (some (.int x)) a4 a5) T = .ok (optD (enE es x)) T :=
      (meth_ins (k := n) (ds := [.int x]) rfl hT.o rfl rfl).trans (entry_ok hT (mem_nums.mp hx).1)
    have q2 : dGet1 (dVar 1) (dVar 3) (GI n k a2 (some (.int x)) a4 a5) T = .ok (optD (enE es x)) T := by
      show guard (isD T (.ref k)) (match getD (.ref k) (.int x) T with | some (some d) => Res.ok d T | some none => .ok .non T | none => .bad) = _
      rw [isD_at (.inl dT.d), get_dk (.inl dT.d), lookK_kdz]
      cases enE es x <;> rfl
    obtain ⟨p, hp⟩ := tpOpt (enE es x)
    rw [t2_ok q1 q2, fNeX_self (by cases enE es x <;> rfl) hp]
    rfl) ⟨⟨_, _, _, _, rfl⟩, k1⟩
  have odd : iAny (dLst (aCons (dC .non) (aCons (dC (.str (⟨#[48]⟩ : Str))) (aCons (dC (.bl true)) (aCons (dC (.bl false)) (aCons (dC (.int (-1))) (aCons (dLst (aCons (dC (.int 0)) aNil)) (aCons (dFrz (dNewD false)) (aCons (dTup (aCons (dC (.int 0)) aNil)) aNil))))))))) (GI n k c2 c3 c4 c5) S2 = .ok ([.non, .str ⟨#[48]⟩, .bl true, .bl false, .int (-1), .lst [.int 0], .dct [], .tup [.int 0]], .no) (Lw.up S2) := by
    have f : dFrz (dNewD false) (GI n k c2 c3 c4 c5) S2 = .ok (.dct []) (Lw.up S2) := frzE (a := .ref S2.nx) rfl (frz_newD k2.ok)
    unfold iAny
    rw [lst_ok (acons (a := .non) rfl (acons (a := .str ⟨#[48]⟩) rfl (acons (a := .bl true) rfl (acons (a := .bl false) rfl (acons (a := .int (-1)) rfl (acons (a := .lst [.int 0]) rfl (acons f (acons (a := .tup [.int 0]) rfl rfl)))))))) (by decide)]
    rfl
  obtain ⟨Γ3, S3, e3, ⟨x2, x3, x4, x5, rfl⟩, k3⟩ := for_inv (I := I) (gt := gN 4) (body := sIf (t2 fIsntX (dMeth 9 2 f4 (dVar 0) (aCons (dVar 4) aNil)) (dC .non)) (sRet (dC (.bl false))) sNil) odd (fun d hd' Γ T ⟨⟨a2, a3, a4, a5, e⟩, kT⟩ => by
    subst e
    have hT := h.pk kT id id
    refine ⟨GI n k a2 a3 (some d) a5, _, T, rfl, (if_f ?_).trans rfl, ⟨_, _, _, _, rfl⟩, kT⟩
    have q1 : dMeth 9 2 f4 (dVar 0) (aCons (dVar 4) aNil) (GI n k a2 a3 (some d) a5) T = .ok .non T := by
      refine (meth_ins (k := n) (ds := [d]) rfl hT.o rfl rfl).trans ?_
      simp only [List.mem_cons, List.not_mem_nil, or_false] at hd'
      rcases hd' with rfl | rfl | rfl | rfl | rfl | rfl | rfl | rfl <;> rfl
    rw [t2_ok q1 rfl]
    rfl) ⟨⟨_, _, _, _, rfl⟩, k2.up⟩
  refine ⟨S3, ?_, k3⟩
  show endD (den16 (GI n k none none none none) S) = _
  unfold den16
  rw [seq_nx e1, seq_nx e2, seq_nx e3]
  rfl
end
end Lw

namespace Lw
open L2 PySem PySem.Spec PyProof.Rows Pd

/-! ### entries that fall -/
def delsE (es : Tb E) : List Int → Tb E
  | [] => es
  | k :: r => delsE (dropE es k) r
theorem dels_filter : ∀ (ks : List Int) (es : Tb E), delsE es ks = es.filter fun p => ks.all fun w => !eqB p.1 w
  | [], es => by
    show es = _
    exact (List.filter_eq_self.mpr (fun _ _ => rfl)).symm
  | k :: r, es => by
    show delsE (dropE es k) r = _
    rw [dels_filter r, dropE_filter, List.filter_filter]
    refine List.filter_congr fun p _ => ?_
    show ((r.all fun w => !eqB p.1 w) && !eqB p.1 k) = (!eqB p.1 k && r.all fun w => !eqB p.1 w)
    rw [Bool.and_comm]
theorem dels_is {ks : List Int} {es : Tb E} {P : Tb E → Int → Bool} {C : E → Bool} (h : ∀ p ∈ es, p.1 ∈ ks ↔ C p.2 = true) : delsE es ks = es.filter fun p => !C p.2 := by
  rw [dels_filter]
  refine List.filter_congr fun p hp => ?_; have hh := h p hp
  cases z : C p.2 with
  | true =>
    have : p.1 ∈ ks := hh.mpr z
    have q : (ks.all fun w => !eqB p.1 w) = false := by
      rw [List.all_eq_false]
      exact ⟨p.1, this, by rw [eqB_self]; decide⟩
    rw [q]; rfl
  | false =>
    have : p.1 ∉ ks := fun w => by rw [hh.mp w] at z; cases z
    have q : (ks.all fun w => !eqB p.1 w) = true := by
      rw [List.all_eq_true]
      intro w hw
      rw [eqB_ne (fun y => by subst y; exact this hw)]; rfl
    rw [q]; rfl
theorem keys_filter_nd {es : Tb E} {P : Int × E → Bool} (nd : (keysE es).Nodup) : (keysE (es.filter P)).Nodup := by
  unfold keysE at *
  exact nd.sublist (List.filter_sublist.map _)
theorem GoodM.filter {es : Tb E} (g : GoodM es) (P : Int × E → Bool) : GoodM (es.filter P) := ⟨keys_filter_nd g.nd, fun p hp => g.some p (List.mem_filter.mp hp).1, Nat.le_trans (List.length_filter_le _ _) g.len⟩
theorem GoodN.filter {es : Tb E} (g : GoodN es) (P : Int × E → Bool) : GoodN (es.filter P) := ⟨g.g.filter P, fun p hp => g.b p (List.mem_filter.mp hp).1, Nat.le_trans (List.length_filter_le _ _) g.len⟩
theorem drop_keys (es : Tb E) (k : Int) : keysE (dropE es k) = (keysE es).filter fun x => !eqB x k := by
  rw [dropE_filter]
  unfold keysE
  rw [List.filter_map]
  rfl
section
variable {S : Sto} {n m k : Nat} {es : Tb E}
theorem del_ok {x : Int} (h : S.at m = some (.dct (kdz eD es))) (hx : x ∈ keysE es) : fDel (.ref m) (.int x) S = some (S.set m (.dct (kdz eD (dropE es x)))) := by
  have he := (hasE_mem es x).mpr hx
  rw [hasE_en] at he
  obtain ⟨e, he⟩ := Option.isSome_iff_exists.mp he
  show (match S.at m with | some (.dct kds) => (match lookK kds (.inl x) with | some _ => some (S.set m (.dct (dropG kds (.inl x)))) | none => none) | _ => none) = _
  rw [h]
  dsimp only
  rw [lookK_kdz, he, dropG_kdz]
  rfl
abbrev GD (n : Nat) (d : D) (a : Option D) : Ga := [some (.ref n), some d, a]
theorem dels_ok {d : D} : ∀ (ks : List Int) (S : Sto) (es : Tb E) (a : Option D), Ok S → Mp S n m es → ks.Nodup → (∀ x ∈ ks, x ∈ keysE es) →
    ∃ a' S', loopD (gN 2) (sDel (dFld 9 0 (dVar 0)) (dVar 2)) (ks.map D.int) (GD n d a) S = .nx (GD n d a') S' ∧ Pk S S' (· = m) ∧ Mp S' n m (delsE es ks) ∧ S'.nx = S.nx
  | [], S, es, a, o, h, _, _ => ⟨a, S, rfl, .refl o, h, rfl⟩
  | x :: ks, S, es, a, o, h, nd, hin => by
    obtain ⟨n1, n2⟩ := (List.nodup_cons.mp nd)
    let S1 := S.set m (.dct (kdz eD (dropE es x)))
    have k1 : Pk S S1 (· = m) := (Pk.refl o).set h.lm fun _ => rfl
    have h1 : Mp S1 n m (dropE es x) := h.put k1 h.ne (at_set h.d)
    obtain ⟨a', S2, e2, k2, h2, x2⟩ := dels_ok (d := d) ks S1 (dropE es x) (some (.int x)) k1.ok h1 n2 fun y hy => by
      rw [drop_keys]
      exact List.mem_filter.mpr ⟨hin y (List.mem_cons_of_mem _ hy), by rw [eqB_ne (fun z => by subst z; exact n1 hy)]; rfl⟩
    refine ⟨a', S2, ?_, k1.trans k2, h2, x2⟩
    have eb : sDel (dFld 9 0 (dVar 0)) (dVar 2) (GD n d (some (.int x))) S = .nx (GD n d (some (.int x))) S1 := by
      unfold sDel
      rw [fld_ok (i := 0) rfl h.o]
      show (match fDel (.ref m) (.int x) S with | some S3 => SRes.nx (GD n d (some (.int x))) S3 | none => .bad) = _
      rw [del_ok h.d (hin x List.mem_cons_self)]
    show (match sDel (dFld 9 0 (dVar 0)) (dVar 2) (GD n d (some (.int x))) S with
      | .nx Γ2 S2 => loopD (gN 2) (sDel (dFld 9 0 (dVar 0)) (dVar 2)) (ks.map D.int) Γ2 S2
      | .ct Γ2 S2 => loopD (gN 2) (sDel (dFld 9 0 (dVar 0)) (dVar 2)) (ks.map D.int) Γ2 S2
      | .bk Γ2 S2 => .nx Γ2 S2
      | o => o) = _
    rw [eb]
    exact e2
theorem intsD_map : ∀ l : List Int, intsD (l.map D.int) = some l
  | [] => rfl
  | i :: r => by
    show (match intsD (r.map D.int) with | some l => some (i :: l) | none => none) = _
    rw [intsD_map r]
/-- what a fall tells and leaves -/
def Fell (S S' : Sto) (n m : Nat) (r : D) (es' : Tb E) (ks : List Int) : Prop := ∃ q, r = .ref q ∧ Pk S S' (· = m) ∧ Mp S' n m es' ∧ S'.at q = some (.lst ((sortS ks).map D.int)) ∧ S.nx ≤ q ∧ q < S'.nx
theorem fall_ok {ks : List Int} (o : Ok S) (h : Mp S n m es) (nd : ks.Nodup) (hin : ∀ x ∈ ks, x ∈ keysE es) (hl : ks.length ≤ 60) :
    ∃ r S', f11 [.ref n, .lst (ks.map D.int)] S = .ok r S' ∧ Fell S S' n m r (delsE es ks) ks := by
  obtain ⟨a', S1, e1, k1, h1, x1⟩ := dels_ok (d := .lst (ks.map D.int)) ks S es none o h nd hin
  have e2 : sFor (iAny (dVar 1)) (gN 2) (sDel (dFld 9 0 (dVar 0)) (dVar 2)) (GD n (.lst (ks.map D.int)) none) S = .nx (GD n (.lst (ks.map D.int)) a') S1 := by
    rw [for_no (ds := ks.map D.int) (S1 := S) rfl, e1]
    rfl
  have e3 : dCB gSorted (aCons (dVar 1) aNil) (GD n (.lst (ks.map D.int)) a') S1 = .ok (.ref S1.nx) (S1.new (.lst ((sortS ks).map D.int))) := by
    show (match intsD (ks.map D.int) with | some ns => (match Nat.blt ns.length 64 with | true => Res.ok (D.ref S1.nx) (S1.new (.lst (tupI (sortS ns)))) | false => .bad) | none => .bad) = _
    rw [intsD_map]
    dsimp only
    rw [show Nat.blt ks.length 64 = true from Nat.ble_eq_true_of_le (by omega), tupI_map]
  refine ⟨_, _, ?_, S1.nx, rfl, k1.new, h1.pk (Pk.refl k1.ok (L := fun _ => False)).new id id, look_new, by omega, Nat.lt_succ_self _⟩
  show endD (den11 (GD n (.lst (ks.map D.int)) none) S) = _
  unfold den11
  rw [seq_nx e2, ret_rt e3]
  rfl
end
/-! what one asks for -/
inductive One where
  | cell (c q : Int) | box (b : Int)
def One.D : One → Pd.D
  | .cell c q => cellD c q
  | .box b => .int b
def One.eqC : One → E → Bool
  | .cell c q, e => eqB e.2.2.1 c && eqB e.2.2.2 q
  | .box _, _ => false
def One.eqX : One → E → Bool
  | .cell _ _, _ => false
  | .box b, e => eqB e.1 b
theorem One.cell_ok (u : One) (e : E) {S : Sto} : fEqX (cellD e.2.2.1 e.2.2.2) u.D S = .ok (.bl (u.eqC e)) S := by
  cases u with
  | cell c q => exact eq_cell
  | box b => rfl
theorem One.box_ok (u : One) (e : E) {S : Sto} : fEqX (.int e.1) u.D S = .ok (.bl (u.eqX e)) S := by
  cases u <;> rfl
theorem w_in (R : R3) {S : Sto} : fInK false (.str ⟨#[119]⟩) (.str (rtS R)) S = .ok (.bl R.2.1) S := by
  obtain ⟨x, y, z⟩ := R
  cases x <;> cases y <;> cases z <;> rfl
inductive Way where | c | b | w | a
def Way.i : Way → Int
  | .c => 0 | .b => 1 | .w => 2 | .a => 3
def Way.C : Way → One → E → Bool
  | .c, u, e => u.eqC e
  | .b, u, e => u.eqX e
  | .w, u, e => u.eqX e && e.2.1.2.1
  | .a, _, _ => true
/-- by the table -/
def onE (es : Tb E) (C : E → Bool) (x : Int) : Bool := match enE es x with
  | some e => C e
  | none => false
def onD (es : Tb E) (C : E → Bool) : D → Bool
  | .int x => onE es C x
  | _ => false
section
variable {S : Sto} {n m k : Nat} {es : Tb E}
theorem onE_mem (nd : (keysE es).Nodup) {C : E → Bool} {p : Int × E} (hp : p ∈ es) : onE es C p.1 = C p.2 := by
  unfold onE
  rw [enE_mem nd (show (p.1, p.2) ∈ es from hp)]
theorem pages_ok {Γ : Ga} {i : Nat} {ft : DT} {C : E → Bool} (o : Ok S) (h : Mp S n m es) (hl : es.length ≤ 60) (h0 : Γ[0]? = some (some (.ref n))) (hi : 0 < i) (hil : i < Γ.length)
    (ht : ∀ x e T, enE es x = some e → T.at n = some (.ins 9 [(0, .ref m)]) → (T.at m = some (.dct (kdz eD es)) ∨ T.at m = some (.lck (.dct (kdz eD es)))) → ft ((wipeG Γ [i]).set i (some (.int x))) T = .ok (C e) T) :
    dLc frz (iAny (dFld 9 0 (dVar 0))) (gN i) ft (dVar i) [i] Γ S = .ok (.lst (((keysE es).filter (onE es C)).map D.int)) (Lw.up S) := by
  have e1 : iAny (dFld 9 0 (dVar 0)) Γ S = .ok ((keysE es).map D.int, .st m) (S.set m (.lck (.dct (kdz eD es)))) := by
    have : dFld 9 0 (dVar 0) Γ S = .ok (.ref m) S := fld_ok h0 h.o
    have q := iDict (k := m) (es := es) (Γ := [some (.ref m)]) (i := 0) h.d rfl
    unfold iAny at q ⊢
    rw [this]
    exact q
  refine (dLc_lockF (F := fun d => d) (B := onD es C) (G := fun d => (wipeG Γ [i]).set i (some d)) o h.lm h.d e1 (by rw [List.length_map, keysE_len]; omega) fun d hd T h1 h2 => ⟨rfl, ?_, ?_⟩).trans ?_
  · obtain ⟨x, hx, rfl⟩ := List.mem_map.mp hd
    have he := (hasE_mem es x).mpr hx
    rw [hasE_en] at he
    obtain ⟨e, he⟩ := Option.isSome_iff_exists.mp he
    rw [ht x e T he (by rw [h2 n h.ln h.ne]; exact h.o) (.inr h1)]
    show _ = Res.ok (match enE es x with | some e => C e | none => false) T
    rw [he]
  · have hli : i < (wipeG Γ [i]).length := by show i < (Γ.set i none).length; simpa using hil
    show dVar i ((wipeG Γ [i]).set i (some d)) T = _
    unfold dVar; rw [List.getElem?_set_self hli]
  · rw [filter_ints (onE es C) (onD es C) (fun _ => rfl)]
theorem meth_ins' {c k n : Nat} {fs : List (Nat × D)} {f : List D → Sto → Res D} {fo : DE} {fr : DA} {Γ : Ga} {ds : List D} {S1 : Sto} (ho : fo Γ S = .ok (.ref k) S) (hk : S.at k = some (.ins c fs)) (hr : fr Γ S = .ok ds S1) (hl : lenIs n (.ref k :: ds) = true) :
    dMeth c n f fo fr Γ S = f (.ref k :: ds) S1 := by
  unfold dMeth
  rw [ho]
  show (match insV S (.ref k) with | some (c', _) => guard (Nat.beq c' c) ((fr Γ S).bind fun ds S2 => guard (lenIs n (.ref k :: ds)) (f (.ref k :: ds) S2)) | none => .bad) = _
  rw [insV_at hk]
  show guard (Nat.beq c c) _ = _
  rw [Nat.beq_refl, hr]
  show guard (lenIs n (.ref k :: ds)) _ = _
  rw [hl]
  rfl
def ksW (es : Tb E) (C : E → Bool) : List Int := (keysE es).filter (onE es C)
def esW (es : Tb E) (C : E → Bool) : Tb E := es.filter fun p => !C p.2
theorem ksW_dels (nd : (keysE es).Nodup) (C : E → Bool) : delsE es (ksW es C) = esW es C := by
  refine dels_is (P := fun _ _ => true) fun p hp => ?_
  unfold ksW
  rw [List.mem_filter, onE_mem nd hp]
  exact ⟨fun z => z.2, fun z => ⟨List.mem_map.mpr ⟨p, hp, rfl⟩, z⟩⟩
theorem ksW_nd (nd : (keysE es).Nodup) (C : E → Bool) : (ksW es C).Nodup := nd.sublist List.filter_sublist
theorem ksW_in {C : E → Bool} : ∀ x ∈ ksW es C, x ∈ keysE es := fun x hx => (List.mem_filter.mp hx).1
theorem ksW_len {C : E → Bool} (hl : es.length ≤ 60) : (ksW es C).length ≤ 60 := Nat.le_trans (List.length_filter_le _ _) (by rw [keysE_len]; exact hl)
theorem fell_ok (C : E → Bool) {S1 : Sto} (k1 : Pk S S1 fun _ => False) (h : Mp S n m es) (g : GoodN es) :
    ∃ r S', f11 [.ref n, .lst ((ksW es C).map D.int)] S1 = .ok r S' ∧ Fell S S' n m r (esW es C) (ksW es C) := by
  obtain ⟨r, S', e, q, e1, k2, h2, h3, h4, h5⟩ := fall_ok k1.ok (h.pk k1 id id) (ksW_nd g.g.nd C) ksW_in (ksW_len g.len)
  rw [ksW_dels g.g.nd] at h2
  exact ⟨r, S', e, q, e1, k1.none.trans k2, h2, h3, Nat.le_trans k1.nx h4, h5⟩
theorem f7_ok {c q : Int} (o : Ok S) (h : Mp S n m es) (g : GoodN es) : ∃ r S', f7 [.ref n, cellD c q] S = .ok r S' ∧ Fell S S' n m r (esW es (Way.c.C (.cell c q))) (ksW es (Way.c.C (.cell c q))) := by
  obtain ⟨r, S', e, F⟩ := fell_ok (Way.c.C (.cell c q)) ((Pk.refl o).up) h g
  refine ⟨r, S', ?_, F⟩
  have e1 : dLc frz (iAny (dFld 9 0 (dVar 0))) (gN 3) (t2 fEqX (d2 fIx (d2 fIx (dFld 9 0 (dVar 0)) (dVar 3)) (dC (.int 2))) (dVar 2)) (dVar 3) [3] [some (.ref n), some (cellD c q), some (cellD c q), none] S = .ok (.lst ((ksW es (Way.c.C (.cell c q))).map D.int)) (Lw.up S) :=
    pages_ok (C := Way.c.C (.cell c q)) o h g.len rfl (by decide) (Nat.le_refl _) fun x e T he hn hm => by
      rw [t2_ok (a := cellD e.2.2.1 e.2.2.2) (b := cellD c q) ((d2_ok ((d2_ok (fld_ok (i := 0) rfl hn) (b := .int x) rfl).trans (ix_dk hm (by rw [lookK_kdz, he]; rfl))) (b := .int 2) rfl).trans rfl) rfl, eq_cell]
      rfl
  have e2 : dMeth 9 2 f11 (dVar 0) (aCons (dLc frz (iAny (dFld 9 0 (dVar 0))) (gN 3) (t2 fEqX (d2 fIx (d2 fIx (dFld 9 0 (dVar 0)) (dVar 3)) (dC (.int 2))) (dVar 2)) (dVar 3) [3]) aNil) [some (.ref n), some (cellD c q), some (cellD c q), none] S = .ok r S' :=
    (meth_ins' (k := n) rfl h.o (args1 e1) rfl).trans e
  show endD (den7 [some (.ref n), some (cellD c q), none, none] S) = _
  unfold den7
  have e0 : sSet (dCB gTuple (aCons (dVar 1) aNil)) 2 [some (.ref n), some (cellD c q), none, none] S = .nx [some (.ref n), some (cellD c q), some (cellD c q), none] S := rfl
  rw [seq_nx e0, ret_rt e2]
  rfl
theorem f8_ok {b : Int} (o : Ok S) (h : Mp S n m es) (g : GoodN es) : ∃ r S', f8 [.ref n, .int b] S = .ok r S' ∧ Fell S S' n m r (esW es (Way.b.C (.box b))) (ksW es (Way.b.C (.box b))) := by
  obtain ⟨r, S', e, F⟩ := fell_ok (Way.b.C (.box b)) ((Pk.refl o).up) h g
  refine ⟨r, S', ?_, F⟩
  have e1 : dLc frz (iAny (dFld 9 0 (dVar 0))) (gN 2) (t2 fEqX (d2 fIx (d2 fIx (dFld 9 0 (dVar 0)) (dVar 2)) (dC (.int 0))) (dVar 1)) (dVar 2) [2] [some (.ref n), some (.int b), none] S = .ok (.lst ((ksW es (Way.b.C (.box b))).map D.int)) (Lw.up S) :=
    pages_ok (C := Way.b.C (.box b)) o h g.len rfl (by decide) (Nat.le_refl _) fun x e T he hn hm => by
      rw [t2_ok (a := .int e.1) (b := .int b) ((d2_ok ((d2_ok (fld_ok (i := 0) rfl hn) (b := .int x) rfl).trans (ix_dk hm (by rw [lookK_kdz, he]; rfl))) (b := .int 0) rfl).trans rfl) rfl]
      rfl
  have e2 : dMeth 9 2 f11 (dVar 0) (aCons (dLc frz (iAny (dFld 9 0 (dVar 0))) (gN 2) (t2 fEqX (d2 fIx (d2 fIx (dFld 9 0 (dVar 0)) (dVar 2)) (dC (.int 0))) (dVar 1)) (dVar 2) [2]) aNil) [some (.ref n), some (.int b), none] S = .ok r S' :=
    (meth_ins' (k := n) rfl h.o (args1 e1) rfl).trans e
  show endD (den8 [some (.ref n), some (.int b), none] S) = _
  unfold den8
  rw [ret_rt e2]
  rfl
theorem f9_ok {b : Int} (o : Ok S) (h : Mp S n m es) (g : GoodN es) : ∃ r S', f9 [.ref n, .int b] S = .ok r S' ∧ Fell S S' n m r (esW es (Way.w.C (.box b))) (ksW es (Way.w.C (.box b))) := by
  obtain ⟨r, S', e, F⟩ := fell_ok (Way.w.C (.box b)) ((Pk.refl o).up.up) h g
  refine ⟨r, S', ?_, F⟩
  have e1 : dLc frz (iAny (dFld 9 0 (dVar 0))) (gN 3) (t2 fEqX (d2 fIx (d2 fIx (dFld 9 0 (dVar 0)) (dVar 3)) (dC (.int 0))) (dVar 1)) (dVar 3) [3] [some (.ref n), some (.int b), none, none] S = .ok (.lst ((ksW es (Way.b.C (.box b))).map D.int)) (Lw.up S) :=
    pages_ok (C := Way.b.C (.box b)) o h g.len rfl (by decide) (Nat.le_refl _) fun x e T he hn hm => by
      rw [t2_ok (a := .int e.1) (b := .int b) ((d2_ok ((d2_ok (fld_ok (i := 0) rfl hn) (b := .int x) rfl).trans (ix_dk hm (by rw [lookK_kdz, he]; rfl))) (b := .int 0) rfl).trans rfl) rfl]
      rfl
  have hu := h.pk ((Pk.refl o (L := fun _ => False)).up) id id
  let Γ : Ga := [some (.ref n), some (.int b), some (.lst ((ksW es (Way.b.C (.box b))).map D.int)), none]
  have e3 : dLc frz (iAny (dVar 2)) (gN 3) (t2 (fInK false) (dC (.str (⟨#[119]⟩ : Str))) (d2 fIx (d2 fIx (dFld 9 0 (dVar 0)) (dVar 3)) (dC (.int 1)))) (dVar 3) [3] Γ (Lw.up S) = .ok (.lst ((ksW es (Way.w.C (.box b))).map D.int)) (Lw.up (Lw.up S)) := by
    rw [dLc_filt (S := Lw.up S) (ds := (ksW es (Way.b.C (.box b))).map D.int) (F := fun d => d) (B := onD es fun e => e.2.1.2.1) (G := fun d => [some (.ref n), some (.int b), some (.lst ((ksW es (Way.b.C (.box b))).map D.int)), some d]) rfl (by have := ksW_len (es := es) (C := Way.b.C (.box b)) g.len; rw [List.length_map]; omega) fun d hd acc => ⟨rfl, ?_, rfl⟩]
    · rw [filter_ints (onE es fun e => e.2.1.2.1) (onD es fun e => e.2.1.2.1) (fun _ => rfl)]
      have : (ksW es (Way.b.C (.box b))).filter (onE es fun e => e.2.1.2.1) = ksW es (Way.w.C (.box b)) := by
        unfold ksW
        rw [List.filter_filter]
        refine (List.filter_congr fun x _ => ?_)
        unfold onE
        cases enE es x with
        | none => rfl
        | some e =>
          show (e.2.1.2.1 && (One.box b).eqX e) = ((One.box b).eqX e && e.2.1.2.1)
          rw [Bool.and_comm]
      rw [this]
      exact frz_new o.up
    · obtain ⟨x, hx, rfl⟩ := List.mem_map.mp hd
      have he := (hasE_mem es x).mpr (ksW_in x hx)
      rw [hasE_en] at he
      obtain ⟨e, he⟩ := Option.isSome_iff_exists.mp he
      have kT : Pk (Lw.up S) ((Lw.up S).new (.lst acc)) fun _ => False := (Pk.refl o.up).new
      have hT := hu.pk kT id id
      rw [t2_ok (a := .str ⟨#[119]⟩) (b := .str (rtS e.2.1)) rfl ((d2_ok ((d2_ok (fld_ok (i := 0) rfl hT.o) (b := .int x) rfl).trans (ix_dk (.inl hT.d) (by rw [lookK_kdz, he]; rfl))) (b := .int 1) rfl).trans rfl), w_in]
      show Res.ok e.2.1.2.1 _ = Res.ok (match enE es x with | some e => e.2.1.2.1 | none => false) _
      rw [he]
  have e2 : dMeth 9 2 f11 (dVar 0) (aCons (dLc frz (iAny (dVar 2)) (gN 3) (t2 (fInK false) (dC (.str (⟨#[119]⟩ : Str))) (d2 fIx (d2 fIx (dFld 9 0 (dVar 0)) (dVar 3)) (dC (.int 1)))) (dVar 3) [3]) aNil) Γ (Lw.up S) = .ok r S' :=
    (meth_ins' (k := n) rfl hu.o (args1 e3) rfl).trans e
  have e0 : sSet (dLc frz (iAny (dFld 9 0 (dVar 0))) (gN 3) (t2 fEqX (d2 fIx (d2 fIx (dFld 9 0 (dVar 0)) (dVar 3)) (dC (.int 0))) (dVar 1)) (dVar 3) [3]) 2 [some (.ref n), some (.int b), none, none] S = .nx Γ (Lw.up S) := set_nx e1
  show endD (den9 [some (.ref n), some (.int b), none, none] S) = _
  unfold den9
  rw [seq_nx e0, ret_rt e2]
  rfl
theorem ksW_all : ksW es (fun _ => true) = keysE es := by
  unfold ksW
  refine List.filter_eq_self.mpr fun x hx => ?_
  have he := (hasE_mem es x).mpr hx
  rw [hasE_en] at he
  obtain ⟨e, he⟩ := Option.isSome_iff_exists.mp he
  unfold onE
  rw [he]
theorem f10_ok (u : One) (o : Ok S) (h : Mp S n m es) (g : GoodN es) : ∃ r S', f10 [.ref n] S = .ok r S' ∧ Fell S S' n m r (esW es (Way.a.C u)) (ksW es (Way.a.C u)) := by
  obtain ⟨r, S', e, F⟩ := fell_ok (Way.a.C u) ((Pk.refl o).up) h g
  refine ⟨r, S', ?_, F⟩
  have e1 : dFrz (dCB gList (aCons (dFld 9 0 (dVar 0)) aNil)) [some (.ref n)] S = .ok (.lst ((ksW es (Way.a.C u)).map D.int)) (Lw.up S) := by
    rw [list_keys o h.d (fld_ok (i := 0) rfl h.o), keysD_kdz, show ksW es (Way.a.C u) = keysE es from ksW_all]
  have e2 : dMeth 9 2 f11 (dVar 0) (aCons (dFrz (dCB gList (aCons (dFld 9 0 (dVar 0)) aNil))) aNil) [some (.ref n)] S = .ok r S' :=
    (meth_ins' (k := n) rfl h.o (args1 e1) rfl).trans e
  show endD (den10 [some (.ref n)] S) = _
  unfold den10
  rw [ret_rt e2]
  rfl
end
end Lw

namespace Lw
open L2 PySem PySem.Spec PyProof.Rows Pd

/-! ### _law_fall -/
abbrev GF (n k : Nat) (w : Way) (u : One) (q : Nat) (a5 a6 a7 a8 a9 a10 : Option D) : Ga := [some (.ref n), some (.ref k), some (.int w.i), some u.D, some (.ref q), a5, a6, a7, a8, a9, a10]
abbrev bodyF : DS := (sIf (t2 (fInK false) (dVar 5) (dVar 1)) (sSeq (sAsg (d2 fIx (dVar 1) (dVar 5)) (gTp 3 (gCons (gN 8) (gCons (gN 9) (gCons (gN 10) gNil))))) (sSeq (sSet (dLst (aCons (d2 fEqX (dVar 10) (dVar 3)) (aCons (d2 fEqX (dVar 8) (dVar 3)) (aCons (dAndV (d2 fEqX (dVar 8) (dVar 3)) (d2 (fInK false) (dC (.str (⟨#[119]⟩ : Str))) (dVar 9))) (aCons (dC (.bl true)) aNil))))) 7) (sIf (dTr (d2 fIx (dVar 7) (dVar 2))) (sDrop (dBM isL gAppend (dVar 4) (aCons (dVar 5) aNil))) sNil))) sNil)
section
variable {S : Sto} {n m k q : Nat} {es : Tb E}
theorem append_ok {Γ : Ga} {i : Nat} {d : D} {fd : DE} {xs : List D} (hi : Γ[i]? = some (some (.ref q))) (h : S.at q = some (.lst xs)) (hd : fd Γ S = .ok d S) (hl : xs.length + 1 ≤ 1000) :
    dBM isL gAppend (dVar i) (aCons fd aNil) Γ S = .ok .non (S.set q (.lst (xs ++ [d]))) := by
  unfold dBM
  rw [show dVar i Γ S = .ok (.ref q) S by unfold dVar; rw [hi]]
  have e : isL S (.ref q) = true := by unfold isL; rw [lstV_at h]
  show guard (isL S (.ref q)) ((aCons fd aNil Γ S).bind fun ds S2 => gAppend (.ref q) ds S2) = _
  rw [e, args1 hd]
  show onL (.ref q) S (fun n xs => guard (lineOk (xs.length + 1)) (.ok .non (S.set n (.lst (xs ++ [d]))))) = _
  rw [onL_at h, show lineOk (xs.length + 1) = true from Nat.ble_eq_true_of_le (by omega)]
  rfl
theorem bodyF_ok {w : Way} {u : One} {x : Int} {acc : List Int} {a6 a7 a8 a9 a10 : Option D} (hd : Dt S k es) (hq : S.at q = some (.lst (acc.map D.int))) (hl : acc.length ≤ 100) :
    ∃ b7 b8 b9 b10, bodyF (GF n k w u q (some (.int x)) a6 a7 a8 a9 a10) S = .nx (GF n k w u q (some (.int x)) a6 b7 b8 b9 b10) (match onE es (w.C u) x with | true => S.set q (.lst ((acc ++ [x]).map D.int)) | false => S) := by
  have t1 : t2 (fInK false) (dVar 5) (dVar 1) (GF n k w u q (some (.int x)) a6 a7 a8 a9 a10) S = .ok (enE es x).isSome S := by
    rw [t2_ok (a := .int x) (b := .ref k) rfl rfl, inK_d (.inl hd.d), lookK_kdz]
    cases enE es x <;> rfl
  cases he : enE es x with
  | none =>
    refine ⟨a7, a8, a9, a10, ?_⟩
    have : onE es (w.C u) x = false := by unfold onE; rw [he]
    rw [this]
    exact (if_f (t1.trans (by rw [he]; rfl))).trans rfl
  | some e =>
    have e1 : sAsg (d2 fIx (dVar 1) (dVar 5)) (gTp 3 (gCons (gN 8) (gCons (gN 9) (gCons (gN 10) gNil)))) (GF n k w u q (some (.int x)) a6 a7 a8 a9 a10) S = .nx (GF n k w u q (some (.int x)) a6 a7 (some (.int e.1)) (some (.str (rtS e.2.1))) (some (cellD e.2.2.1 e.2.2.2))) S := by
      unfold sAsg
      rw [(d2_ok (a := .ref k) (b := .int x) rfl rfl).trans (ix_dk (.inl hd.d) (by rw [lookK_kdz, he]; rfl))]
      rfl
    let Γ1 := GF n k w u q (some (.int x)) a6 a7 (some (.int e.1)) (some (.str (rtS e.2.1))) (some (cellD e.2.2.1 e.2.2.2))
    have c0 : d2 fEqX (dVar 10) (dVar 3) Γ1 S = .ok (.bl (u.eqC e)) S := (d2_ok (a := cellD e.2.2.1 e.2.2.2) (b := u.D) rfl rfl).trans (u.cell_ok e)
    have c1 : d2 fEqX (dVar 8) (dVar 3) Γ1 S = .ok (.bl (u.eqX e)) S := (d2_ok (a := .int e.1) (b := u.D) rfl rfl).trans (u.box_ok e)
    have c2 : dAndV (d2 fEqX (dVar 8) (dVar 3)) (d2 (fInK false) (dC (.str (⟨#[119]⟩ : Str))) (dVar 9)) Γ1 S = .ok (.bl (u.eqX e && e.2.1.2.1)) S := by
      unfold dAndV
      rw [c1]
      cases u.eqX e with
      | false => rfl
      | true =>
        show d2 (fInK false) (dC (.str (⟨#[119]⟩ : Str))) (dVar 9) Γ1 S = .ok (.bl (true && e.2.1.2.1)) S
        rw [d2_ok (f := fInK false) (fa := dC (.str (⟨#[119]⟩ : Str))) (fb := dVar 9) (Γ := Γ1) (S := S) (S1 := S) (S2 := S) (a := .str ⟨#[119]⟩) (b := .str (rtS e.2.1)) rfl rfl, w_in]
        rfl
    have e2 : sSet (dLst (aCons (d2 fEqX (dVar 10) (dVar 3)) (aCons (d2 fEqX (dVar 8) (dVar 3)) (aCons (dAndV (d2 fEqX (dVar 8) (dVar 3)) (d2 (fInK false) (dC (.str (⟨#[119]⟩ : Str))) (dVar 9))) (aCons (dC (.bl true)) aNil))))) 7 Γ1 S = .nx (GF n k w u q (some (.int x)) a6 (some (.lst [.bl (u.eqC e), .bl (u.eqX e), .bl (u.eqX e && e.2.1.2.1), .bl true])) (some (.int e.1)) (some (.str (rtS e.2.1))) (some (cellD e.2.2.1 e.2.2.2))) S :=
      set_nx (lst_ok (acons c0 (acons c1 (acons c2 (acons (a := .bl true) rfl rfl)))) (by show 4 ≤ 1000; decide))
    have t3 : dTr (d2 fIx (dVar 7) (dVar 2)) (GF n k w u q (some (.int x)) a6 (some (.lst [.bl (u.eqC e), .bl (u.eqX e), .bl (u.eqX e && e.2.1.2.1), .bl true])) (some (.int e.1)) (some (.str (rtS e.2.1))) (some (cellD e.2.2.1 e.2.2.2))) S = .ok (w.C u e) S := by
      cases w <;> rfl
    refine ⟨(some (.lst [.bl (u.eqC e), .bl (u.eqX e), .bl (u.eqX e && e.2.1.2.1), .bl true])), (some (.int e.1)), (some (.str (rtS e.2.1))), (some (cellD e.2.2.1 e.2.2.2)), ?_⟩
    have ho : onE es (w.C u) x = w.C u e := by unfold onE; rw [he]
    rw [ho]
    refine (if_t (t1.trans (by rw [he]; rfl))).trans ((seq_nx e1).trans ((seq_nx e2).trans ?_))
    cases hc : w.C u e with
    | false => exact (if_f (t3.trans (by rw [hc]))).trans rfl
    | true =>
      refine (if_t (t3.trans (by rw [hc]))).trans ?_
      rw [drop_nx (append_ok (i := 4) (q := q) (d := .int x) rfl hq rfl (by rw [List.length_map]; omega)), List.map_append]
      rfl
theorem loopF_ok {w : Way} {u : One} {a6 : Option D} : ∀ (xs : List Int) (S : Sto) (acc : List Int) (a5 a7 a8 a9 a10 : Option D), Ok S → Dt S k es → S.at q = some (.lst (acc.map D.int)) → q < S.nx → q ≠ k → acc.length + xs.length ≤ 100 →
    ∃ b5 b7 b8 b9 b10 S', loopD (gN 5) bodyF (xs.map D.int) (GF n k w u q a5 a6 a7 a8 a9 a10) S = .nx (GF n k w u q b5 a6 b7 b8 b9 b10) S' ∧ Pk S S' (· = q) ∧ S'.at q = some (.lst ((acc ++ xs.filter (onE es (w.C u))).map D.int))
  | [], S, acc, a5, a7, a8, a9, a10, o, _, hq, _, _, _ => ⟨a5, a7, a8, a9, a10, S, rfl, .refl o, by rw [List.filter_nil, List.append_nil]; exact hq⟩
  | x :: xs, S, acc, a5, a7, a8, a9, a10, o, hd, hq, hlt, hne, hl => by
    obtain ⟨b7, b8, b9, b10, e1⟩ := bodyF_ok (n := n) (w := w) (u := u) (x := x) (a6 := a6) (a7 := a7) (a8 := a8) (a9 := a9) (a10 := a10) hd hq (by simp at hl; omega)
    have step : ∀ T acc', bodyF (GF n k w u q (some (.int x)) a6 a7 a8 a9 a10) S = .nx (GF n k w u q (some (.int x)) a6 b7 b8 b9 b10) T → Pk S T (· = q) → T.at q = some (.lst (acc'.map D.int)) → acc'.length ≤ acc.length + 1 → acc' ++ xs.filter (onE es (w.C u)) = acc ++ (x :: xs).filter (onE es (w.C u)) →
        ∃ b5 b7 b8 b9 b10 S', loopD (gN 5) bodyF ((x :: xs).map D.int) (GF n k w u q a5 a6 a7 a8 a9 a10) S = .nx (GF n k w u q b5 a6 b7 b8 b9 b10) S' ∧ Pk S S' (· = q) ∧ S'.at q = some (.lst ((acc ++ (x :: xs).filter (onE es (w.C u))).map D.int)) := by
      intro T acc' e kT hT hlen hacc
      obtain ⟨d5, d7, d8, d9, d10, S', e2, k2, h2⟩ := loopF_ok (w := w) (u := u) (a6 := a6) xs T acc' (some (.int x)) b7 b8 b9 b10 kT.ok (hd.pk kT (Ne.symm hne)) hT (Nat.lt_of_lt_of_le hlt kT.nx) hne (by simp at hl; omega)
      refine ⟨d5, d7, d8, d9, d10, S', ?_, kT.trans k2, by rw [← hacc]; exact h2⟩
      show (match bodyF (GF n k w u q (some (.int x)) a6 a7 a8 a9 a10) S with
        | .nx Γ2 S2 => loopD (gN 5) bodyF (xs.map D.int) Γ2 S2
        | .ct Γ2 S2 => loopD (gN 5) bodyF (xs.map D.int) Γ2 S2
        | .bk Γ2 S2 => .nx Γ2 S2
        | o => o) = _
      rw [e]
      exact e2
    cases hc : onE es (w.C u) x with
    | true =>
      rw [hc] at e1
      refine step (S.set q (.lst ((acc ++ [x]).map D.int))) (acc ++ [x]) e1 ((Pk.refl o).set hlt fun _ => rfl) (at_set hq) (by simp) ?_
      rw [List.filter_cons_of_pos hc]
      simp
    | false =>
      rw [hc] at e1
      refine step S acc e1 (.refl o) hq (by omega) ?_
      rw [List.filter_cons_of_neg (by rw [hc]; decide)]
/-- the law's own entries fall -/
theorem pop_ok {x : Int} (h : S.at k = some (.dct (kdz eD es))) (hx : x ∈ keysE es) : ∃ d, fDPop (.ref k) (.int x) S = .ok d (S.set k (.dct (kdz eD (dropE es x)))) := by
  have he := (hasE_mem es x).mpr hx
  rw [hasE_en] at he
  obtain ⟨e, he⟩ := Option.isSome_iff_exists.mp he
  refine ⟨eD e, ?_⟩
  show (match S.at k with | some (.dct kds) => (match lookK kds (.inl x) with | some d => Res.ok d (S.set k (.dct (dropG kds (.inl x)))) | none => .bad) | _ => .bad) = _
  rw [h]
  dsimp only
  rw [lookK_kdz, he, dropG_kdz]
  rfl
theorem loopP_ok {w : Way} {u : One} {a6 a7 a8 a9 a10 : Option D} : ∀ (ks : List Int) (S : Sto) (es : Tb E) (a5 : Option D), Ok S → Dt S k es → ks.Nodup → (∀ x ∈ ks, x ∈ keysE es) →
    ∃ b5 S', loopD (gN 5) (sDrop (dDPop (dVar 1) (dVar 5))) (ks.map D.int) (GF n k w u q a5 a6 a7 a8 a9 a10) S = .nx (GF n k w u q b5 a6 a7 a8 a9 a10) S' ∧ Pk S S' (· = k) ∧ Dt S' k (delsE es ks)
  | [], S, es, a5, o, h, _, _ => ⟨a5, S, rfl, .refl o, h⟩
  | x :: ks, S, es, a5, o, h, nd, hin => by
    obtain ⟨n1, n2⟩ := (List.nodup_cons.mp nd)
    let S1 := S.set k (.dct (kdz eD (dropE es x)))
    have k1 : Pk S S1 (· = k) := (Pk.refl o).set h.l fun _ => rfl
    obtain ⟨b5, S2, e2, k2, h2⟩ := loopP_ok (w := w) (u := u) (a6 := a6) (a7 := a7) (a8 := a8) (a9 := a9) (a10 := a10) ks S1 (dropE es x) (some (.int x)) k1.ok ⟨at_set h.d, h.l, h.k2⟩ n2 fun y hy => by
      rw [drop_keys]
      exact List.mem_filter.mpr ⟨hin y (List.mem_cons_of_mem _ hy), by rw [eqB_ne (fun z => by subst z; exact n1 hy)]; rfl⟩
    refine ⟨b5, S2, ?_, k1.trans k2, h2⟩
    obtain ⟨d, ed⟩ := pop_ok h.d (hin x List.mem_cons_self)
    have eb : sDrop (dDPop (dVar 1) (dVar 5)) (GF n k w u q (some (.int x)) a6 a7 a8 a9 a10) S = .nx (GF n k w u q (some (.int x)) a6 a7 a8 a9 a10) S1 := by
      refine drop_nx (d := d) ?_
      show guard (isDct S (.ref k)) (fDPop (.ref k) (.int x) S) = _
      have : isDct S (.ref k) = true := by
        show (match S.at k with | some (.dct _) => true | _ => false) = _
        rw [h.d]
      rw [this, ed]
      rfl
    show (match sDrop (dDPop (dVar 1) (dVar 5)) (GF n k w u q (some (.int x)) a6 a7 a8 a9 a10) S with
      | .nx Γ2 S2 => loopD (gN 5) (sDrop (dDPop (dVar 1) (dVar 5))) (ks.map D.int) Γ2 S2
      | .ct Γ2 S2 => loopD (gN 5) (sDrop (dDPop (dVar 1) (dVar 5))) (ks.map D.int) Γ2 S2
      | .bk Γ2 S2 => .nx Γ2 S2
      | o => o) = _
    rw [eb]
    exact e2
end
end Lw

namespace Lw
open L2 PySem PySem.Spec PyProof.Rows Pd

theorem if_no {t : DT} {a : DS} {Γ : Ga} {S S1 : Sto} (h : t Γ S = .ok false S1) : sIf t a sNil Γ S = .nx Γ S1 := (if_f h).trans rfl
section
variable {S : Sto} {n m k q r : Nat} {es : Tb E}
theorem toPy_ints {l : List Int} (h : S.at r = some (.lst (l.map D.int))) : toPy 40 S (.ref r) = some (.list (l.map PyData.int)) := by
  show (match lstV S (.ref r) with | some ds => (match mapO (toPy 39 S) ds with | some ps => some (PyData.list ps) | none => none) | none => none) = _
  rw [lstV_at h]
  dsimp only
  rw [mapO_ints 38 S l]
theorem ne_refs {l : List Int} (h1 : S.at r = some (.lst (l.map D.int))) (h2 : S.at q = some (.lst (l.map D.int))) : fNeX (.ref r) (.ref q) S = .ok (.bl false) S := by
  have e0 : dctV S (.ref r) = none := by
    show (match S.at r with | some (.dct ds) => some ds | some (.lck (.dct ds)) => some ds | _ => none) = _
    rw [h1]
  unfold fNeX isDks
  rw [e0]
  dsimp only
  unfold fNe eqD
  rw [toPy_ints h1, toPy_ints h2]
  show Res.ok (D.bl (!(eqF 41 (.list (l.map PyData.int)) (.list (l.map PyData.int))))) S = _
  rw [eqF_self 41 _ (Nat.lt_of_le_of_lt (toPy_depth 40 _ _ (toPy_ints h1)) (by decide)) (toPy_lay 40 _ _ (toPy_ints h1))]
  rfl
/-- a walk over a list of the store, locked meanwhile -/
theorem for_lock {fi : DI} {gt : D → Ga → Sto → Option Ga} {body : DS} {Γ Γ' : Ga} {ds : List D} {S1 : Sto} (h : fi Γ S = .ok (ds, .st q) (S.set q (.lck (.lst ds)))) (e : loopD gt body ds Γ (S.set q (.lck (.lst ds))) = .nx Γ' S1) (hq : S1.at q = some (.lck (.lst ds))) :
    sFor fi gt body Γ S = .nx Γ' (S1.set q (.lst ds)) := by
  unfold sFor
  rw [h]
  show unlS (.st q) (loopD gt body ds Γ (S.set q (.lck (.lst ds)))) = _
  rw [e]
  show (match (match S1.at q with | some (.lck m) => some (S1.set q m) | _ => none) with | some S' => SRes.nx Γ' S' | none => .bad) = _
  rw [hq]
theorem iLst {Γ : Ga} {i : Nat} {ds : List D} (h : S.at q = some (.lst ds)) (hi : Γ[i]? = some (some (.ref q))) : iAny (dVar i) Γ S = .ok (ds, .st q) (S.set q (.lck (.lst ds))) := by
  unfold iAny
  rw [show dVar i Γ S = .ok (.ref q) S by unfold dVar; rw [hi]]
  show (match S.at q with
    | some (.lst ds) => Res.ok (ds, UK.st q) (S.set q (.lck (.lst ds)))
    | some (.lck (.lst ds)) => .ok (ds, .no) S
    | _ => lockD (.ref q) S) = _
  rw [h]
def fits : Way → One → Prop
  | .c, .cell _ _ => True
  | .b, .box _ => True
  | .w, .box _ => True
  | .a, _ => True
  | _, _ => False
theorem owed_is (g : GoodN es) (C : E → Bool) : sortS (ksW es C) = (nums 8).filter (onE es C) := by
  refine sort_filter (ksW_nd g.g.nd C) fun i => ?_
  unfold ksW
  rw [List.mem_filter]
  constructor
  · rintro ⟨h1, h2⟩
    obtain ⟨p, hp, rfl⟩ := List.mem_map.mp h1
    exact ⟨(g.b p hp).1, (g.b p hp).2, h2⟩
  · rintro ⟨_, _, h⟩
    refine ⟨(hasE_mem es i).mp ?_, h⟩
    rw [hasE_en]
    unfold onE at h
    cases z : enE es i with
    | none => rw [z] at h; cases h
    | some e => rfl
abbrev tellF : DS := (sIf (t2 fEqX (dVar 2) (dC (.int 0))) (sSet (dMeth 9 2 f7 (dVar 0) (aCons (dVar 3) aNil)) 6) (sIf (t2 fEqX (dVar 2) (dC (.int 1))) (sSet (dMeth 9 2 f8 (dVar 0) (aCons (dVar 3) aNil)) 6) (sIf (t2 fEqX (dVar 2) (dC (.int 2))) (sSet (dMeth 9 2 f9 (dVar 0) (aCons (dVar 3) aNil)) 6) (sSet (dMeth 9 1 f10 (dVar 0) aNil) 6))))
theorem tell_ok {w : Way} {u : One} {a5 a6 a7 a8 a9 a10 : Option D} (hf : fits w u) (o : Ok S) (h : Mp S n m es) (g : GoodN es) :
    ∃ r S', tellF (GF n k w u q a5 a6 a7 a8 a9 a10) S = .nx (GF n k w u q a5 (some r) a7 a8 a9 a10) S' ∧ Fell S S' n m r (esW es (w.C u)) (ksW es (w.C u)) := by
  have cmp : ∀ i : Int, t2 fEqX (dVar 2) (dC (.int i)) (GF n k w u q a5 a6 a7 a8 a9 a10) S = .ok (eqB w.i i) S := fun i => by
    rw [t2_ok (a := .int w.i) (b := .int i) rfl rfl]; rfl
  cases w with
  | c =>
    cases u with
    | box b => exact hf.elim
    | cell c p =>
      obtain ⟨r, S', e, F⟩ := f7_ok (c := c) (q := p) o h g
      exact ⟨r, S', (if_t (cmp 0)).trans (set_nx ((meth_ins' (k := n) (ds := [cellD c p]) rfl h.o rfl rfl).trans e)), F⟩
  | b =>
    cases u with
    | cell c p => exact hf.elim
    | box b =>
      obtain ⟨r, S', e, F⟩ := f8_ok (b := b) o h g
      exact ⟨r, S', (if_f (cmp 0)).trans ((if_t (cmp 1)).trans (set_nx ((meth_ins' (k := n) (ds := [.int b]) rfl h.o rfl rfl).trans e))), F⟩
  | w =>
    cases u with
    | cell c p => exact hf.elim
    | box b =>
      obtain ⟨r, S', e, F⟩ := f9_ok (b := b) o h g
      exact ⟨r, S', (if_f (cmp 0)).trans ((if_f (cmp 1)).trans ((if_t (cmp 2)).trans (set_nx ((meth_ins' (k := n) (ds := [.int b]) rfl h.o rfl rfl).trans e)))), F⟩
  | a =>
    obtain ⟨r, S', e, F⟩ := f10_ok u o h g
    exact ⟨r, S', (if_f (cmp 0)).trans ((if_f (cmp 1)).trans ((if_f (cmp 2)).trans (set_nx ((meth_ins' (k := n) (ds := []) rfl h.o rfl rfl).trans e)))), F⟩
theorem law_fall_ok {w : Way} {u : One} (hf : fits w u) (o : Ok S) (h : Mp S n m es) (hd : Dt S k es) (hmk : m ≠ k) (hnk : n ≠ k) (g : GoodN es) :
    ∃ S', f17 [.ref n, .ref k, .int w.i, u.D] S = .ok (.bl true) S' ∧ Pk S S' (fun j => j = m ∨ j = k) ∧ Mp S' n m (esW es (w.C u)) ∧ Dt S' k (esW es (w.C u)) := by
  have hk := hd.l
  have hm := h.lm
  have hn := h.ln
  let q := S.nx
  let ow := (nums 8).filter (onE es (w.C u))
  have own : ow = sortS (ksW es (w.C u)) := (owed_is g _).symm
  -- what is owed
  have kA : Pk S (S.new (.lst [])) fun _ => False := (Pk.refl o).new
  have e1 : sSet (dLstM aNil) 4 [some (.ref n), some (.ref k), some (.int w.i), some u.D, none, none, none, none, none, none, none] S = .nx (GF n k w u q none none none none none none) (S.new (.lst [])) := rfl
  obtain ⟨b5, b7, b8, b9, b10, S1, e2, k1, h1⟩ := loopF_ok (n := n) (q := q) (w := w) (u := u) (a6 := none) (es := es) (nums 8) (S.new (.lst [])) [] none none none none none kA.ok (hd.pk kA id) look_new (Nat.lt_succ_self _) (by omega) (by decide)
  rw [List.nil_append] at h1
  have s2 : sFor (iNo (aBind (aCons (dC (.int 8)) aNil) rng1)) (gN 5) bodyF (GF n k w u q none none none none none none) (S.new (.lst [])) = .nx (GF n k w u q b5 none b7 b8 b9 b10) S1 := by
    rw [for_no (ds := (nums 8).map D.int) (S1 := S.new (.lst [])) rfl, e2]
    rfl
  have kB : Pk S S1 fun _ => False := kA.trans' k1 fun j h z => absurd z (by omega)
  have q1 : q < S1.nx := Nat.lt_of_lt_of_le (Nat.lt_succ_self S.nx) k1.nx
  -- the law's own
  let S2 := S1.set q (.lck (.lst (ow.map D.int)))
  have kC : Pk S S2 fun _ => False := kB.set q1 fun z => absurd z (Nat.lt_irrefl _)
  have a2 : S2.at q = some (.lck (.lst (ow.map D.int))) := at_set h1
  have hin : ∀ x ∈ ow, x ∈ keysE es := fun x hx => ksW_in x ((sortS_perm _).mem_iff.mp (own ▸ hx))
  have hnd : ow.Nodup := (nums_nd 8).sublist List.filter_sublist
  obtain ⟨c5, S3, e3, k3, h3⟩ := loopP_ok (n := n) (q := q) (w := w) (u := u) (a6 := none) (a7 := b7) (a8 := b8) (a9 := b9) (a10 := b10) ow S2 es b5 kC.ok (hd.pk kC id) hnd hin
  have a3 : S3.at q = some (.lck (.lst (ow.map D.int))) := by rw [k3.at_ q q1 (by omega)]; exact a2
  have s3 : sFor (iAny (dVar 4)) (gN 5) (sDrop (dDPop (dVar 1) (dVar 5))) (GF n k w u q b5 none b7 b8 b9 b10) S1 = .nx (GF n k w u q c5 none b7 b8 b9 b10) (S3.set q (.lst (ow.map D.int))) := for_lock (iLst h1 rfl) e3 a3
  let S4 := S3.set q (.lst (ow.map D.int))
  have q3 : q < S3.nx := Nat.lt_of_lt_of_le q1 k3.nx
  have kD : Pk S S4 (· = k) := (kC.none.trans k3).set q3 fun z => absurd z (Nat.lt_irrefl _)
  have a4 : S4.at q = some (.lst (ow.map D.int)) := at_set a3
  have hdel : delsE es ow = esW es (w.C u) := by
    refine dels_is (P := fun _ _ => true) fun p hp => ?_
    show p.1 ∈ (nums 8).filter (onE es (w.C u)) ↔ _
    rw [List.mem_filter, onE_mem g.g.nd hp, mem_nums]
    exact ⟨fun z => z.2, fun z => ⟨g.b p hp, z⟩⟩
  rw [hdel] at h3
  have d4 : Dt S4 k (esW es (w.C u)) := h3.pk ((Pk.refl k3.ok (L := (· = q))).set q3 fun _ => rfl) (by omega)
  have m4 : Mp S4 n m es := h.pk kD hnk hmk
  -- what is told
  let S5 := S4.new (.lst [])
  have kE : Pk S4 S5 fun _ => False := (Pk.refl kD.ok).new
  have e4 : sSet (dLstM aNil) 6 (GF n k w u q c5 none b7 b8 b9 b10) S4 = .nx (GF n k w u q c5 (some (.ref S4.nx)) b7 b8 b9 b10) S5 := rfl
  obtain ⟨rr, S6, e5, r, rfl, k6, h6, a6, r0, r1⟩ := tell_ok (k := k) (q := q) (a5 := c5) (a6 := some (.ref S4.nx)) (a7 := b7) (a8 := b8) (a9 := b9) (a10 := b10) hf kE.ok (m4.pk kE id id) g
  have q4 : q < S4.nx := q3
  have q5 : q < S5.nx := Nat.lt_succ_of_lt q4
  have aq : S6.at q = some (.lst (ow.map D.int)) := by rw [k6.at_ q q5 (by omega), kE.at_ q q4 id]; exact a4
  have t6 : t2 fNeX (dVar 6) (dVar 4) (GF n k w u q c5 (some (.ref r)) b7 b8 b9 b10) S6 = .ok false S6 := by
    rw [t2_ok (a := .ref r) (b := .ref q) rfl rfl, ne_refs (l := ow) (by rw [own]; exact a6) aq]
    rfl
  have hlen : (sortS (ksW es (w.C u))).length ≤ 60 := by rw [(sortS_perm _).length_eq]; exact ksW_len g.len
  have e7 : sDrop (dBM isL gAppend (dVar 6) (aCons (dC .non) aNil)) (GF n k w u q c5 (some (.ref r)) b7 b8 b9 b10) S6 = .nx _ _ := drop_nx (append_ok (i := 6) (q := r) (d := .non) rfl a6 rfl (by rw [List.length_map]; omega))
  have kF : Pk S S6 fun j => j = m ∨ j = k := ((kD.mono (L' := fun j => j = m ∨ j = k) fun _ _ z => .inr z).trans kE.none).trans (k6.mono fun _ _ z => .inl z)
  have sn : S.nx ≤ r := Nat.le_trans (Nat.le_trans kD.nx kE.nx) r0
  let S7 := S6.set r (.lst ((sortS (ksW es (w.C u))).map D.int ++ [.non]))
  have k7 : Pk S6 S7 (· = r) := (Pk.refl k6.ok).set r1 fun _ => rfl
  have d5 : Dt S6 k (esW es (w.C u)) := (d4.pk kE id).pk k6 (Ne.symm hmk)
  refine ⟨S7, ?_, kF.trans' k7 (fun j hj (z : j = r) => absurd z (by omega)), h6.pk k7 (by omega) (by omega), d5.pk k7 (by omega)⟩
  show endD (den17 [some (.ref n), some (.ref k), some (.int w.i), some u.D, none, none, none, none, none, none, none] S) = _
  unfold den17
  rw [seq_nx e1, seq_nx s2, seq_nx s3, seq_nx e4, seq_nx e5, seq_nx (if_no t6), seq_nx e7]
  rfl
end
end Lw

namespace Lw
open L2 PySem PySem.Spec PyProof.Rows Pd

/-! ### _law_turn -/
structure GoodV (es : Tb E) : Prop where
  nd : (keysE es).Nodup
  some : ∀ p ∈ es, someR p.2.2.1
  b : ∀ p ∈ es, 0 ≤ p.1 ∧ p.1 < 5
theorem GoodV.len {es : Tb E} (g : GoodV es) : es.length ≤ 5 := by
  have h := sort_filter (l := keysE es) (P := hasE es) (n := 5) g.nd fun i => by
    rw [hasE_mem]
    constructor
    · intro hi
      obtain ⟨p, hp, rfl⟩ := List.mem_map.mp hi
      exact ⟨(g.b p hp).1, (g.b p hp).2, hi⟩
    · rintro ⟨_, _, hi⟩; exact hi
  have l := congrArg List.length h
  rw [(sortS_perm _).length_eq, keysE_len] at l
  have : ((nums 5).filter (hasE es)).length ≤ 5 := List.length_filter_le _ _
  omega
theorem GoodV.n {es : Tb E} (g : GoodV es) : GoodN es := ⟨⟨g.nd, g.some, by have := g.len; omega⟩, fun p hp => ⟨(g.b p hp).1, by have := (g.b p hp).2; omega⟩, by have := g.len; omega⟩
theorem GoodV.w {es : Tb E} (g : GoodV es) (C : E → Bool) : GoodV (esW es C) := ⟨keys_filter_nd g.nd, fun p hp => g.some p (List.mem_filter.mp hp).1, fun p hp => g.b p (List.mem_filter.mp hp).1⟩
theorem rep_mem : ∀ {es : Tb E} {w : Int} {e : E} {p : Int × E}, p ∈ repE es w e → p = (w, e) ∨ p ∈ es
  | [], _, _, _, h => nomatch h
  | (a, x) :: r, w, e, p, h => by
    unfold repE at h
    cases z : eqB a w with
    | true =>
      rw [z] at h
      rcases List.mem_cons.mp h with h | h
      · exact .inl (by rw [h, eqB_t z])
      · exact (rep_mem h).imp id (List.mem_cons_of_mem _)
    | false =>
      rw [z] at h
      rcases List.mem_cons.mp h with h | h
      · exact .inr (by rw [h]; exact List.mem_cons_self)
      · exact (rep_mem h).imp id (List.mem_cons_of_mem _)
theorem put_mem {es : Tb E} {w : Int} {e : E} {p : Int × E} (h : p ∈ putE es w e) : p = (w, e) ∨ p ∈ es := by
  unfold putE at h
  cases z : hasE es w with
  | true => rw [z] at h; exact rep_mem h
  | false =>
    rw [z] at h
    rcases (List.mem_append.mp h) with h | h
    · exact .inr h
    · exact .inl (List.mem_singleton.mp h)
theorem addL_some (R : R3) (l : Lt) : someR (addL R l) := by
  obtain ⟨x, y, z⟩ := R
  cases l <;> intro h <;> cases h
theorem GoodV.wid {es : Tb E} (g : GoodV es) {p b c q : Int} (l : Lt) (h0 : 0 ≤ p) (h1 : p < 5) : GoodV (widE es p b l c q) := by
  have key : ∃ R : R3, someR R ∧ widE es p b l c q = putE es p (b, R, c, q) := by
    unfold widE
    cases enE es p with
    | none => exact ⟨_, addL_some _ _, rfl⟩
    | some e =>
      dsimp only
      cases eqB e.1 b && (eqB e.2.2.1 c && eqB e.2.2.2 q) with
      | true => exact ⟨_, addL_some _ _, rfl⟩
      | false => exact ⟨_, addL_some _ _, rfl⟩
  obtain ⟨R, hR, e⟩ := key
  rw [e]
  exact ⟨nd_put g.nd, fun x hx => (put_mem hx).elim (fun z => by rw [z]; exact hR) (g.some x), fun x hx => (put_mem hx).elim (fun z => by rw [z]; exact ⟨h0, h1⟩) (g.b x)⟩
section
variable {S : Sto} {n m k : Nat} {es : Tb E}
theorem letters_g {Γ : Ga} {i : Nat} {fz : DE} {z : Str} {R : R3} (o : Ok S) (hi : i < Γ.length) (hf : ∀ d T, fz ((wipeG Γ [i]).set i (some d)) T = .ok (.str z) T) (hz : joined z.cps.toList = lR R) :
    dBM isS gJoin (dC (.str (⟨#[]⟩ : Str))) (aCons (dLc frz (iAny (dC (.str (⟨#[114, 119, 120]⟩ : Str)))) (gN i) (t2 (fInK false) (dVar i) fz) (dVar i) [i]) aNil) Γ S = .ok (.str (rtS R)) (Lw.up S) := by
  have e : dLc frz (iAny (dC (.str (⟨#[114, 119, 120]⟩ : Str)))) (gN i) (t2 (fInK false) (dVar i) fz) (dVar i) [i] Γ S = .ok (.lst (signs (lR R))) (Lw.up S) := by
    rw [dLc_filt (S := S) (ds := signs [114, 119, 120]) (F := fun d => d) (B := inZ z.cps.toList) (G := fun d => (wipeG Γ [i]).set i (some d)) rfl (by decide) fun d hd acc => ⟨rfl, ?_, ?_⟩]
    · rw [signs_filter, show ([114, 119, 120].filter fun c => memN c z.cps.toList) = lR R from hz]
      exact frz_new o
    · have hli : i < (wipeG Γ [i]).length := by show i < (Γ.set i none).length; simpa using hi
      have v1 : dVar i ((wipeG Γ [i]).set i (some d)) (S.new (.lst acc)) = .ok d (S.new (.lst acc)) := by
        unfold dVar; rw [List.getElem?_set_self hli]
      rw [t2_ok v1 (hf d _)]
      obtain ⟨c, rfl⟩ : ∃ c, d = .str ⟨#[c]⟩ := by
        have hd : d ∈ [D.str ⟨#[114]⟩, D.str ⟨#[119]⟩, D.str ⟨#[120]⟩] := hd
        simp only [List.mem_cons, List.not_mem_nil, or_false] at hd
        rcases hd with rfl | rfl | rfl <;> exact ⟨_, rfl⟩
      rw [in_text]
      rfl
    · have hli : i < (wipeG Γ [i]).length := by show i < (Γ.set i none).length; simpa using hi
      show dVar i ((wipeG Γ [i]).set i (some d)) _ = _
      unfold dVar; rw [List.getElem?_set_self hli]
  unfold dBM
  show guard true ((aCons (dLc frz (iAny (dC (.str (⟨#[114, 119, 120]⟩ : Str)))) (gN i) (t2 (fInK false) (dVar i) fz) (dVar i) [i]) aNil Γ S).bind fun ds S2 => gJoin (.str ⟨#[]⟩) ds S2) = _
  rw [args1 e]
  exact join_R R
abbrev GU (n k : Nat) (a3 a4 a5 a6 a7 a8 a9 a10 : Option D) : Ga := [some (.ref 0), some (.ref n), some (.ref k), a3, a4, a5, a6, a7, a8, a9, a10]
theorem pick_ok {Γ : Ga} {i : Int} {T : Sto} {N : Int} (h0 : Γ[0]? = some (some (.ref 0))) (e : f15 [.ref 0, .int N] S = .ok (.int i) T) : dCall 2 f15 (aCons (dVar 0) (aCons (dC (.int N)) aNil)) Γ S = .ok (.int i) T :=
  (call_ok (args2 (a := .ref 0) (b := .int N) (by unfold dVar; rw [h0]) rfl) rfl).trans e
theorem pk01 {S' : Sto} (s : Sr S' 0 1) (f : Fr2 0 1 S S') (h : S'.nx = S.nx) {L : Nat → Prop} (h0 : L 0) (h1 : L 1) : Pk S S' L := (Pk.of_fr s f h).mono fun j _ z => z.elim (fun z => z ▸ h0) fun z => z ▸ h1
theorem letter_ix {j : Int} (h0 : 0 ≤ j) (h1 : j < 3) : ∃ l, fIx (.str (⟨#[114, 119, 120]⟩ : Str)) (.int j) S = .ok (.str (tx l)) S := by
  have : j = 0 ∨ j = 1 ∨ j = 2 := by omega
  rcases this with rfl | rfl | rfl
  · exact ⟨.r, rfl⟩
  · exact ⟨.w, rfl⟩
  · exact ⟨.x, rfl⟩
abbrev wideT : DS := (sSeq (sSet (d2 fIx (dC (.str (⟨#[114, 119, 120]⟩ : Str))) (dCall 2 f15 (aCons (dVar 0) (aCons (dC (.int 3)) aNil)))) 7) (sSeq (sSet (dGet1 (dVar 2) (dVar 6)) 8) (sSeq (sSet (dVar 7) 9) (sSeq (sIf (dAnd (t2 fIsntX (dVar 8) (dC .non)) (dAnd (t2 fEqX (d2 fIx (dVar 8) (dC (.int 0))) (dVar 5)) (t2 fEqX (d2 fIx (dVar 8) (dC (.int 2))) (dVar 4)))) (sSet (dBM isS gJoin (dC (.str (⟨#[]⟩ : Str))) (aCons (dLc frz (iAny (dC (.str (⟨#[114, 119, 120]⟩ : Str)))) (gN 10) (t2 (fInK false) (dVar 10) (d2 fAdd (d2 fIx (dVar 8) (dC (.int 1))) (dVar 7))) (dVar 10) [10]) aNil)) 9) sNil) (sSeq (sPut (dTup (aCons (dVar 5) (aCons (dVar 9) (aCons (dVar 4) aNil)))) (dVar 2) (dVar 6)) (sRet (d2 fIsX (dMeth 9 5 f6 (dVar 1) (aCons (dVar 6) (aCons (dVar 5) (aCons (dVar 7) (aCons (dVar 4) aNil))))) (dC .non))))))))
abbrev L4 (m k : Nat) : Nat → Prop := fun j => j = 0 ∨ j = 1 ∨ j = m ∨ j = k
theorem wideT_ok {b c p : Int} {a3 : Option D} (s : Sr S 0 1) (h : Mp S n m es) (hd : Dt S k es) (g : GoodV es) (hmk : m ≠ k) (hnk : n ≠ k) (h0 : 0 ≤ p) (h1 : p < 5) :
    ∃ l S', wideT (GU n k a3 (some (cellD c p)) (some (.int b)) (some (.int p)) none none none none) S = .rt (.bl true) S' ∧ Pk S S' (L4 m k) ∧ Mp S' n m (widE es p b l c p) ∧ Dt S' k (widE es p b l c p) ∧ Sr S' 0 1 := by
  obtain ⟨j, S1, e1, j0, j1, s1, x1, f1⟩ := pick' (k := 3) (by decide) (by decide) s
  have k1 : Pk S S1 (fun j => j = 0 ∨ j = 1) := .of_fr s1 f1 x1
  have h2 := h.n2; have h3 := h.m2; have h4 := hd.k2
  have hm1 := h.pk k1 (by omega) (by omega)
  have hd1 := hd.pk k1 (by omega)
  obtain ⟨l, el⟩ := letter_ix (S := S1) j0 j1
  have c1 : sSet (d2 fIx (dC (.str (⟨#[114, 119, 120]⟩ : Str))) (dCall 2 f15 (aCons (dVar 0) (aCons (dC (.int 3)) aNil)))) 7 (GU n k a3 (some (cellD c p)) (some (.int b)) (some (.int p)) none none none none) S = .nx (GU n k a3 (some (cellD c p)) (some (.int b)) (some (.int p)) (some (.str (tx l))) none none none) S1 :=
    set_nx ((d2_ok (a := .str (⟨#[114, 119, 120]⟩ : Str)) rfl (pick_ok rfl e1)).trans el)
  have q2 : dGet1 (dVar 2) (dVar 6) (GU n k a3 (some (cellD c p)) (some (.int b)) (some (.int p)) (some (.str (tx l))) none none none) S1 = .ok (optD (enE es p)) S1 := by
    show guard (isD S1 (.ref k)) (match getD (.ref k) (.int p) S1 with | some (some d) => Res.ok d S1 | some none => .ok .non S1 | none => .bad) = _
    rw [isD_at (.inl hd1.d), get_dk (.inl hd1.d), lookK_kdz]
    cases enE es p <;> rfl
  have c2 : sSet (dGet1 (dVar 2) (dVar 6)) 8 (GU n k a3 (some (cellD c p)) (some (.int b)) (some (.int p)) (some (.str (tx l))) none none none) S1 = .nx (GU n k a3 (some (cellD c p)) (some (.int b)) (some (.int p)) (some (.str (tx l))) (some (optD (enE es p))) none none) S1 := set_nx q2
  let Γ (z : D) : Ga := GU n k a3 (some (cellD c p)) (some (.int b)) (some (.int p)) (some (.str (tx l))) (some (optD (enE es p))) (some z) none
  have c3 : sSet (dVar 7) 9 (GU n k a3 (some (cellD c p)) (some (.int b)) (some (.int p)) (some (.str (tx l))) (some (optD (enE es p))) none none) S1 = .nx (Γ (.str (tx l))) S1 := rfl
  have tt : (dAnd (t2 fIsntX (dVar 8) (dC .non)) (dAnd (t2 fEqX (d2 fIx (dVar 8) (dC (.int 0))) (dVar 5)) (t2 fEqX (d2 fIx (dVar 8) (dC (.int 2))) (dVar 4)))) (Γ (.str (tx l))) S1 = .ok (condW es p b c p) S1 := by
    unfold condW dAnd
    have e8 : dVar 8 (Γ (.str (tx l))) S1 = .ok (optD (enE es p)) S1 := rfl
    rw [t2_ok e8 (b := .non) rfl]
    cases he : enE es p with
    | none => rfl
    | some e =>
      have e0 : t2 fEqX (d2 fIx (dVar 8) (dC (.int 0))) (dVar 5) (Γ (.str (tx l))) S1 = .ok (eqB e.1 b) S1 := by
        rw [t2_ok (a := .int e.1) ((d2_ok (e8.trans (by rw [he])) (b := .int 0) rfl).trans rfl) (b := .int b) rfl]; rfl
      have e2 : t2 fEqX (d2 fIx (dVar 8) (dC (.int 2))) (dVar 4) (Γ (.str (tx l))) S1 = .ok (eqB e.2.2.1 c && eqB e.2.2.2 p) S1 := by
        rw [t2_ok (a := cellD e.2.2.1 e.2.2.2) ((d2_ok (e8.trans (by rw [he])) (b := .int 2) rfl).trans rfl) (b := cellD c p) rfl, eq_cell]; rfl
      show (t2 fEqX (d2 fIx (dVar 8) (dC (.int 0))) (dVar 5) (Γ (.str (tx l))) S1).bind _ = Res.ok (eqB e.1 b && (eqB e.2.2.1 c && eqB e.2.2.2 p)) S1
      rw [e0]
      cases eqB e.1 b with
      | false => rfl
      | true => exact e2
  obtain ⟨R, S2, c4, k2, hw⟩ : ∃ (R : R3) (S2 : Sto), sIf (dAnd (t2 fIsntX (dVar 8) (dC .non)) (dAnd (t2 fEqX (d2 fIx (dVar 8) (dC (.int 0))) (dVar 5)) (t2 fEqX (d2 fIx (dVar 8) (dC (.int 2))) (dVar 4)))) (sSet (dBM isS gJoin (dC (.str (⟨#[]⟩ : Str))) (aCons (dLc frz (iAny (dC (.str (⟨#[114, 119, 120]⟩ : Str)))) (gN 10) (t2 (fInK false) (dVar 10) (d2 fAdd (d2 fIx (dVar 8) (dC (.int 1))) (dVar 7))) (dVar 10) [10]) aNil)) 9) sNil (Γ (.str (tx l))) S1 = .nx (Γ (.str (rtS R))) S2 ∧ Pk S1 S2 (fun _ => False) ∧ widE es p b l c p = putE es p (b, R, c, p) := by
    cases hc : condW es p b c p with
    | false =>
      refine ⟨addL (false, false, false) l, S1, ?_, .refl k1.ok, ?_⟩
      · rw [show rtS (addL (false, false, false) l) = tx l by cases l <;> rfl]
        exact if_no (tt.trans (by rw [hc]))
      · unfold widE
        unfold condW at hc
        cases he : enE es p with
        | none => rfl
        | some e => rw [he] at hc; dsimp only at hc; dsimp only; rw [hc]
    | true =>
      unfold condW at hc
      cases he : enE es p with
      | none => rw [he] at hc; cases hc
      | some e =>
        rw [he] at hc
        dsimp only at hc
        refine ⟨addL e.2.1 l, Lw.up S1, ?_, (Pk.refl k1.ok).up, ?_⟩
        · have hl := letters_g (S := S1) (Γ := Γ (.str (tx l))) (i := 10) (fz := d2 fAdd (d2 fIx (dVar 8) (dC (.int 1))) (dVar 7)) (z := ⟨(lR e.2.1 ++ [l.c]).toArray⟩) (R := addL e.2.1 l) k1.ok (by show 10 < 11; decide) (fun d T => by
            have e8 : dVar 8 ((wipeG (Γ (.str (tx l))) [10]).set 10 (some d)) T = .ok (eD e) T := by
              show Res.ok (optD (enE es p)) T = _
              rw [he]; rfl
            exact (d2_ok (a := .str (rtS e.2.1)) ((d2_ok e8 (b := .int 1) rfl).trans rfl) (b := .str (tx l)) rfl).trans (add_text _ _)) (joined_more _ _)
          exact (if_t (tt.trans (by unfold condW; rw [he]; dsimp only; rw [hc]))).trans (set_nx hl)
        · unfold widE
          rw [he]
          dsimp only
          rw [hc]
  have hm2 := hm1.pk k2 id id
  have hd2 := hd1.pk k2 id
  have hl5 := g.len
  let S3 := S2.set k (.dct (kdz eD (putE es p (b, R, c, p))))
  have c5 : sPut (dTup (aCons (dVar 5) (aCons (dVar 9) (aCons (dVar 4) aNil)))) (dVar 2) (dVar 6) (Γ (.str (rtS R))) S2 = .nx (Γ (.str (rtS R))) S3 := by
    refine put_nx (v := eD (b, R, c, p)) (o := .ref k) (i := .int p) rfl rfl rfl ?_
    rw [put_dk hd2.d (by rw [kdz_len]; omega), putG_kdz]
  have k3 : Pk S2 S3 (· = k) := (Pk.refl k2.ok).set hd2.l fun _ => rfl
  have hm3 := hm2.pk k3 hnk hmk
  obtain ⟨S4, e6, k4, hm4⟩ := widen_ok (p := p) (b := b) (c := c) (q := p) (l := l) k3.ok hm3 (by omega)
  have c6 : sRet (d2 fIsX (dMeth 9 5 f6 (dVar 1) (aCons (dVar 6) (aCons (dVar 5) (aCons (dVar 7) (aCons (dVar 4) aNil))))) (dC .non)) (Γ (.str (rtS R))) S3 = .rt (.bl true) S4 :=
    ret_rt ((d2_ok ((meth_ins' (k := n) (ds := [.int p, .int b, .str (tx l), cellD c p]) rfl hm3.o rfl rfl).trans e6) (b := .non) rfl).trans rfl)
  have hd3 : Dt S3 k (widE es p b l c p) := ⟨by rw [hw]; exact at_set hd2.d, Nat.lt_of_lt_of_le hd2.l k3.nx, h4⟩
  refine ⟨l, S4, (seq_nx c1).trans ((seq_nx c2).trans ((seq_nx c3).trans ((seq_nx c4).trans ((seq_nx c5).trans c6)))), ?_, hm4, hd3.pk k4 (Ne.symm hmk), ((s1.pk k2 id id).pk k3 (by omega) (by omega)).pk k4 (by omega) (by omega)⟩
  exact (((k1.mono (L' := L4 m k) fun j _ z => z.elim .inl fun z => .inr (.inl z)).trans k2.none).trans (k3.mono fun j _ z => .inr (.inr (.inr z)))).trans (k4.mono fun j _ z => .inr (.inr (.inl z)))
end
end Lw

namespace Lw
open L2 PySem PySem.Spec PyProof.Rows Pd

theorem seq_rt' {a b : DS} {Γ : Ga} {d : D} {S S1 : Sto} (h : a Γ S = .rt d S1) : sSeq a b Γ S = .rt d S1 := seq_rt h
theorem par_ok {fa fb : DE} {i j : Nat} {Γ : Ga} {a b : D} {S S1 S2 : Sto} (h1 : fa Γ S = .ok a S1) (h2 : fb Γ S1 = .ok b S2) : sParA (aCons fa (aCons fb aNil)) i j Γ S = .nx ((Γ.set i (some a)).set j (some b)) S2 := by
  unfold sParA
  rw [args2 h1 h2]
  rfl
section
variable {S : Sto} {n m k : Nat} {es : Tb E}
def wayOf (i : Int) : Way := match eqB i 0 with
  | true => .c
  | false => (match eqB i 1 with
    | true => .b
    | false => (match eqB i 2 with
      | true => .w
      | false => .a))
theorem law_turn_ok (s : Sr S 0 1) (h : Mp S n m es) (hd : Dt S k es) (g : GoodV es) (hmk : m ≠ k) (hnk : n ≠ k) :
    ∃ es' S', f18 [.ref 0, .ref n, .ref k] S = .ok (.bl true) S' ∧ Pk S S' (L4 m k) ∧ Mp S' n m es' ∧ Dt S' k es' ∧ GoodV es' ∧ Sr S' 0 1 := by
  have h2 := h.n2; have h3 := h.m2; have h4 := hd.k2
  obtain ⟨i, S1, p1, i0, i1, s1, x1, f1⟩ := pick' (k := 8) (by decide) (by decide) s
  obtain ⟨b, S2, p2, b0, b1, s2, x2, f2'⟩ := pick' (k := 3) (by decide) (by decide) s1
  obtain ⟨p, S3, p3, q0, q1, s3, x3, f3'⟩ := pick' (k := 5) (by decide) (by decide) s2
  obtain ⟨c, S4, p4, c0, c1, s4, x4, f4'⟩ := pick' (k := 2) (by decide) (by decide) s3
  have k4 : Pk S S4 (fun j => j = 0 ∨ j = 1) := (((Pk.of_fr s1 f1 x1).trans (.of_fr s2 f2' x2)).trans (.of_fr s3 f3' x3)).trans (.of_fr s4 f4' x4)
  have m4 := h.pk k4 (by omega) (by omega)
  have d4 := hd.pk k4 (by omega)
  have kL : Pk S S4 (L4 m k) := k4.mono fun j _ z => z.elim .inl fun z => .inr (.inl z)
  have e1 : sSet (dCall 2 f15 (aCons (dVar 0) (aCons (dC (.int 8)) aNil))) 3 (GU n k none none none none none none none none) S = .nx (GU n k (some (.int i)) none none none none none none none) S1 := set_nx (pick_ok rfl p1)
  have e2 : sParA (aCons (dCall 2 f15 (aCons (dVar 0) (aCons (dC (.int 3)) aNil))) (aCons (dCall 2 f15 (aCons (dVar 0) (aCons (dC (.int 5)) aNil))) aNil)) 5 6 (GU n k (some (.int i)) none none none none none none none) S1 = .nx (GU n k (some (.int i)) none (some (.int b)) (some (.int p)) none none none none) S3 := par_ok (pick_ok rfl p2) (pick_ok rfl p3)
  have e3 : sSet (dTup (aCons (dCall 2 f15 (aCons (dVar 0) (aCons (dC (.int 2)) aNil))) (aCons (dVar 6) aNil))) 4 (GU n k (some (.int i)) none (some (.int b)) (some (.int p)) none none none none) S3 = .nx (GU n k (some (.int i)) (some (cellD c p)) (some (.int b)) (some (.int p)) none none none none) S4 := by
    refine set_nx ?_
    unfold dTup
    rw [args2 (pick_ok rfl p4) (b := .int p) rfl]
    rfl
  have t4 : t2 fGt (dVar 3) (dC (.int 3)) (GU n k (some (.int i)) (some (cellD c p)) (some (.int b)) (some (.int p)) none none none none) S4 = .ok (ltB 3 i) S4 := by
    rw [t2_ok (a := .int i) (b := .int 3) rfl rfl]; rfl
  have fin : ∀ (T : DS) (d : D) (S' : Sto), T (GU n k (some (.int i)) (some (cellD c p)) (some (.int b)) (some (.int p)) none none none none) S4 = .rt d S' → endD ((sSeq (sSet (dCall 2 f15 (aCons (dVar 0) (aCons (dC (.int 8)) aNil))) 3) (sSeq (sParA (aCons (dCall 2 f15 (aCons (dVar 0) (aCons (dC (.int 3)) aNil))) (aCons (dCall 2 f15 (aCons (dVar 0) (aCons (dC (.int 5)) aNil))) aNil)) 5 6) (sSeq (sSet (dTup (aCons (dCall 2 f15 (aCons (dVar 0) (aCons (dC (.int 2)) aNil))) (aCons (dVar 6) aNil))) 4) T))) (GU n k none none none none none none none none) S) = .ok d S' := fun T d S' e => by
    rw [seq_nx e1, seq_nx e2, seq_nx e3, e]
    rfl
  cases h3i : ltB 3 i with
  | true =>
    obtain ⟨l, S5, e5, k5, m5, d5, s5⟩ := wideT_ok (b := b) (c := c) (p := p) (a3 := some (.int i)) s4 m4 d4 g hmk hnk q0 q1
    exact ⟨_, S5, fin _ _ _ (seq_rt ((if_t (t4.trans (by rw [h3i]))).trans e5)), kL.trans k5, m5, d5, g.wid l q0 q1, s5⟩
  | false =>
    have hi3 : i ≤ 3 := by rw [ltB_eq] at h3i; have := of_decide_eq_false h3i; omega
    have e4 : sIf (t2 fGt (dVar 3) (dC (.int 3))) wideT sNil (GU n k (some (.int i)) (some (cellD c p)) (some (.int b)) (some (.int p)) none none none none) S4 = .nx (GU n k (some (.int i)) (some (cellD c p)) (some (.int b)) (some (.int p)) none none none none) S4 := if_no (t4.trans (by rw [h3i]))
    have t5 : t2 fEqX (dVar 3) (dC (.int 3)) (GU n k (some (.int i)) (some (cellD c p)) (some (.int b)) (some (.int p)) none none none none) S4 = .ok (eqB i 3) S4 := by
      rw [t2_ok (a := .int i) (b := .int 3) rfl rfl]; rfl
    have t50 : t2 fEqX (dVar 3) (dC (.int 0)) (GU n k (some (.int i)) (some (cellD c p)) (some (.int b)) (some (.int p)) none none none none) = fun T => .ok (eqB i 0) T := by
      funext T
      rw [t2_ok (a := .int i) (b := .int 0) rfl rfl]; rfl
    -- what falls
    have fall : ∀ (S5 : Sto), Sr S5 0 1 → Pk S4 S5 (fun j => j = 0 ∨ j = 1) → ∃ es' S', sRet (dCall 4 f17 (aCons (dVar 1) (aCons (dVar 2) (aCons (dVar 3) (aCons (dIf (t2 fEqX (dVar 3) (dC (.int 0))) (dVar 4) (dVar 5)) aNil))))) (GU n k (some (.int i)) (some (cellD c p)) (some (.int b)) (some (.int p)) none none none none) S5 = .rt (.bl true) S' ∧ Pk S S' (L4 m k) ∧ Mp S' n m es' ∧ Dt S' k es' ∧ GoodV es' ∧ Sr S' 0 1 := by
      intro S5 s5 k5
      have m5 := m4.pk k5 (by omega) (by omega)
      have d5 := d4.pk k5 (by omega)
      obtain ⟨w, u, hf, hw, hu⟩ : ∃ (w : Way) (u : One), fits w u ∧ w.i = i ∧ (match eqB i 0 with | true => cellD c p | false => .int b) = u.D := by
        have : i = 0 ∨ i = 1 ∨ i = 2 ∨ i = 3 := by omega
        rcases this with rfl | rfl | rfl | rfl
        · exact ⟨.c, .cell c p, trivial, rfl, rfl⟩
        · exact ⟨.b, .box b, trivial, rfl, rfl⟩
        · exact ⟨.w, .box b, trivial, rfl, rfl⟩
        · exact ⟨.a, .box b, trivial, rfl, rfl⟩
      obtain ⟨S6, e6, k6, m6, d6⟩ := law_fall_ok (w := w) (u := u) hf k5.ok m5 d5 hmk hnk g.n
      have q : dIf (t2 fEqX (dVar 3) (dC (.int 0))) (dVar 4) (dVar 5) (GU n k (some (.int i)) (some (cellD c p)) (some (.int b)) (some (.int p)) none none none none) S5 = .ok u.D S5 := by
        unfold dIf
        rw [t50, ← hu]
        cases eqB i 0 <;> rfl
      refine ⟨_, S6, ret_rt ((call_ok (ds := [.ref n, .ref k, .int w.i, u.D]) (acons (a := .ref n) rfl (acons (a := .ref k) rfl (acons (a := .int w.i) (by rw [hw]; rfl) (acons q rfl)))) rfl).trans e6), ?_, m6, d6, g.w _, s5.pk k6 (by omega) (by omega)⟩
      exact (kL.trans (k5.mono fun j _ z => z.elim .inl fun z => .inr (.inl z))).trans (k6.mono fun j _ z => z.elim (fun z => .inr (.inr (.inl z))) fun z => .inr (.inr (.inr z)))
    cases h33 : eqB i 3 with
    | true =>
      obtain ⟨j, S5, p5, j0, j1, s5, x5, f5'⟩ := pick' (k := 3) (by decide) (by decide) s4
      have k5 : Pk S4 S5 (fun j => j = 0 ∨ j = 1) := .of_fr s5 f5' x5
      have t6 : (dAnd (t2 fEqX (dVar 3) (dC (.int 3))) (t2 fGt (dCall 2 f15 (aCons (dVar 0) (aCons (dC (.int 3)) aNil))) (dC (.int 0)))) (GU n k (some (.int i)) (some (cellD c p)) (some (.int b)) (some (.int p)) none none none none) S4 = .ok (ltB 0 j) S5 := by
        unfold dAnd
        rw [t5, h33]
        show t2 fGt (dCall 2 f15 (aCons (dVar 0) (aCons (dC (.int 3)) aNil))) (dC (.int 0)) (GU n k (some (.int i)) (some (cellD c p)) (some (.int b)) (some (.int p)) none none none none) S4 = _
        rw [t2_ok (pick_ok rfl p5) (b := .int 0) rfl]; rfl
      cases hj : ltB 0 j with
      | true =>
        exact ⟨es, S5, fin _ _ _ ((seq_nx e4).trans (seq_rt ((if_t (t6.trans (by rw [hj]))).trans rfl))), kL.trans (k5.mono fun j _ z => z.elim .inl fun z => .inr (.inl z)), m4.pk k5 (by omega) (by omega), d4.pk k5 (by omega), g, s5⟩
      | false =>
        obtain ⟨es', S6, e6, k6, m6, d6, g6, s6⟩ := fall S5 s5 k5
        exact ⟨es', S6, fin _ _ _ ((seq_nx e4).trans ((seq_nx (if_no (t6.trans (by rw [hj])))).trans e6)), k6, m6, d6, g6, s6⟩
    | false =>
      have t6 : (dAnd (t2 fEqX (dVar 3) (dC (.int 3))) (t2 fGt (dCall 2 f15 (aCons (dVar 0) (aCons (dC (.int 3)) aNil))) (dC (.int 0)))) (GU n k (some (.int i)) (some (cellD c p)) (some (.int b)) (some (.int p)) none none none none) S4 = .ok false S4 := by
        unfold dAnd
        rw [t5, h33]
        rfl
      obtain ⟨es', S6, e6, k6, m6, d6, g6, s6⟩ := fall S4 s4 (.refl s4.ok)
      exact ⟨es', S6, fin _ _ _ ((seq_nx e4).trans ((seq_nx (if_no t6)).trans e6)), k6, m6, d6, g6, s6⟩
end
end Lw

namespace Lw
open L2 PySem PySem.Spec PyProof.Rows Pd

/-! ### _law_filled -/
theorem addL_comm (R : R3) (a b : Lt) : addL (addL R a) b = addL (addL R b) a := by
  obtain ⟨x, y, z⟩ := R
  cases a <;> cases b <;> rfl
theorem erase_map {α β : Type} (f : α → β) : ∀ (l : List α) (j : Nat), (l.map f).eraseIdx j = (l.eraseIdx j).map f
  | [], _ => rfl
  | _ :: _, 0 => rfl
  | a :: r, j + 1 => by
    show f a :: (r.map f).eraseIdx j = f a :: (r.eraseIdx j).map f
    rw [erase_map f r j]
theorem erase_perm {α : Type} : ∀ {l : List α} {j : Nat} (h : j < l.length), (l[j] :: l.eraseIdx j).Perm l
  | a :: r, 0, h => .refl _
  | a :: r, j + 1, h => by
    have hj : j < r.length := by simpa using h
    have ih := erase_perm hj
    show (r[j] :: a :: r.eraseIdx j).Perm (a :: r)
    exact (List.Perm.swap a r[j] (r.eraseIdx j)).trans (ih.cons a)
theorem rng_ok' {fa : DE} {Γ : Ga} {S S' : Sto} {i : Nat} (h : fa Γ S = .ok (.int (i : Nat)) S') (h1 : i < 1000000) : iNo (aBind (aCons fa aNil) rng1) Γ S = .ok (upto 0 i, .no) S' := by
  show Res.bind (Res.bind (aCons fa aNil Γ S) rng1) _ = _
  rw [args1 h]
  show Res.bind (match mid (i : Int) with | true => Res.ok (upto 0 i) S' | false => .bad) _ = _
  rw [show mid (i : Int) = true from Nat.ble_eq_true_of_le (by omega)]
  rfl
section
variable {S : Sto} {n m k q : Nat} {es : Tb E}
theorem len_lst {ds : List D} (h : S.at q = some (.lst ds)) : gLen [.ref q] S = .ok (.int (ds.length : Nat)) S := by
  show (match lenD S (.ref q) with | some n => Res.ok (D.int n) S | none => .bad) = _
  have e : lenD S (.ref q) = some ds.length := by
    show (match seqV S (.ref q) with | some ds => some ds.length | none => _) = _
    have e1 : seqV S (.ref q) = some ds := lstV_at h
    rw [e1]
  rw [e]
theorem popAt_ok {ds : List D} {j : Nat} {d : D} (h : S.at q = some (.lst ds)) (hj : ds[j]? = some d) (hl : j < 1000) : gPopAt (.ref q) [.int (j : Nat)] S = .ok d (S.set q (.lst (ds.eraseIdx j))) := by
  show onL (.ref q) S (fun n xs => guard (Nat.blt j 1000000) (match nthD xs j with | some z => Res.ok z (S.set n (.lst (xs.eraseIdx j))) | none => .bad)) = _
  rw [onL_at h, show Nat.blt j 1000000 = true from Nat.ble_eq_true_of_le (by omega), nthD_eq, hj]
  rfl
/-- x = l.pop(pick(len(l))) -/
theorem popPick {α : Type} {f : α → D} {Γ : Ga} {i : Nat} {ls : List α} (s : Sr S 0 1) (h0 : Γ[0]? = some (some (.ref 0))) (hi : Γ[i]? = some (some (.ref q))) (hq : S.at q = some (.lst (ls.map f))) (q2 : 2 ≤ q) (hql : q < S.nx) (hne : ls ≠ []) (hl : ls.length ≤ 500) :
    ∃ (j : Nat) (hj : j < ls.length) (S' : Sto), dBM isL gPopAt (dVar i) (aCons (dCall 2 f15 (aCons (dVar 0) (aCons (dCB gLen (aCons (dVar i) aNil)) aNil))) aNil) Γ S = .ok (f ls[j]) S' ∧ Pk S S' (fun a => a = 0 ∨ a = 1 ∨ a = q) ∧ Sr S' 0 1 ∧ S'.at q = some (.lst ((ls.eraseIdx j).map f)) ∧ S'.nx = S.nx := by
  have hpos : 1 ≤ ls.length := by cases ls with | nil => exact absurd rfl hne | cons _ _ => simp
  obtain ⟨i', S1, e1, i0, i1, s1, x1, f1⟩ := pick' (k := (ls.length : Nat)) (by omega) (by omega) s
  obtain ⟨j, rfl⟩ := Int.eq_ofNat_of_zero_le i0
  have hj : j < ls.length := by omega
  have vi : ∀ T, dVar i Γ T = .ok (.ref q) T := fun T => by unfold dVar; rw [hi]
  have k1 : Pk S S1 (fun a => a = 0 ∨ a = 1) := .of_fr s1 f1 x1
  have hq1 : S1.at q = some (.lst (ls.map f)) := by rw [k1.at_ q hql (by omega)]; exact hq
  have el : dCB gLen (aCons (dVar i) aNil) Γ S = .ok (.int (ls.length : Nat)) S := by
    show Res.bind (aCons (dVar i) aNil Γ S) gLen = _
    rw [args1 (vi S)]
    show gLen [.ref q] S = _
    rw [len_lst hq, List.length_map]
  have ep : dCall 2 f15 (aCons (dVar 0) (aCons (dCB gLen (aCons (dVar i) aNil)) aNil)) Γ S = .ok (.int (j : Nat)) S1 :=
    (call_ok (args2 (a := .ref 0) (by unfold dVar; rw [h0]) el) rfl).trans e1
  refine ⟨j, hj, S1.set q (.lst ((ls.map f).eraseIdx j)), ?_, (k1.mono fun a _ z => z.elim .inl fun z => .inr (.inl z)).set (by rw [x1]; exact hql) fun _ => .inr (.inr rfl), s1.other (by omega) (by omega) (by rw [x1]; exact hql), ?_, x1⟩
  · unfold dBM
    rw [vi S]
    have e : isL S (.ref q) = true := by unfold isL; rw [lstV_at hq]
    show guard (isL S (.ref q)) ((aCons _ aNil Γ S).bind fun ds S2 => gPopAt (.ref q) ds S2) = _
    rw [e, args1 ep]
    show gPopAt (.ref q) [.int (j : Nat)] S1 = _
    exact popAt_ok hq1 (by rw [List.getElem?_map, List.getElem?_eq_getElem hj]; rfl) (by omega)
  · rw [at_set hq1, erase_map]
abbrev GL (k : Nat) (a2 : Option D) (n q0 : Nat) (a5 a6 a7 a8 : Option D) : Ga := [some (.ref 0), some (.ref k), a2, some (.ref n), some (.ref q0), a5, a6, a7, a8]
abbrev bodyN : DS := (sSeq (sSet (dBM isL gPopAt (dVar 6) (aCons (dCall 2 f15 (aCons (dVar 0) (aCons (dCB gLen (aCons (dVar 6) aNil)) aNil))) aNil)) 8) (sDrop (dMeth 9 5 f6 (dVar 3) (aCons (dVar 5) (aCons (d2 fIx (d2 fIx (dVar 1) (dVar 5)) (dC (.int 0))) (aCons (dVar 8) (aCons (d2 fIx (d2 fIx (dVar 1) (dVar 5)) (dC (.int 2))) aNil)))))))
theorem innerN {a2 : Option D} {p : Int} {e : E} {r : Nat} (he : enE es p = some e) : ∀ (ds : List D) (ls : List Lt) (S : Sto) (fs : Tb E) (a7 a8 : Option D), ds.length = ls.length → Sr S 0 1 → Mp S n m fs → Dt S k es → S.at q = some (.lst (ls.map fun l => D.str (tx l))) → 2 ≤ q → q < S.nx → m ≠ k → q ≠ m → q ≠ n → q ≠ k → fs.length + ls.length ≤ 500 →
    ∃ (ps : List Lt) (b7 b8 : Option D) (S' : Sto), loopD (gN 7) bodyN ds (GL k a2 n r (some (.int p)) (some (.ref q)) a7 a8) S = .nx (GL k a2 n r (some (.int p)) (some (.ref q)) b7 b8) S' ∧ ps.Perm ls ∧ Pk S S' (fun a => a = 0 ∨ a = 1 ∨ a = q ∨ a = m) ∧ Sr S' 0 1 ∧ Mp S' n m (widsE fs p e.1 e.2.2.1 e.2.2.2 ps)
  | [], [], S, fs, a7, a8, _, s, h, _, _, _, _, _, _, _, _, _ => ⟨[], a7, a8, S, rfl, .refl _, .refl s.ok, s, h⟩
  | [], _ :: _, _, _, _, _, hh, _, _, _, _, _, _, _, _, _, _, _ => by cases hh
  | _ :: _, [], _, _, _, _, hh, _, _, _, _, _, _, _, _, _, _, _ => by cases hh
  | d :: ds, l0 :: ls0, S, fs, a7, a8, hh, s, h, hd, hq, q2, hql, hmk, hqm, hqn, hqk, hl => by
    have hn2 := h.n2; have hm2 := h.m2; have hk2 := hd.k2
    have hll : (l0 :: ls0).length ≤ 500 := by omega
    obtain ⟨j, hj, S1, e1, k1, s1, at1, x1⟩ := popPick (Γ := GL k a2 n r (some (.int p)) (some (.ref q)) (some d) a8) (i := 6) (f := fun l => D.str (tx l)) s rfl rfl hq q2 hql (by simp) hll
    have hm1 := h.pk k1 (by omega) (by omega)
    have hd1 := hd.pk k1 (by omega)
    obtain ⟨S2, e2, k2, hm2'⟩ := widen_ok (p := p) (b := e.1) (c := e.2.2.1) (q := e.2.2.2) (l := (l0 :: ls0)[j]) k1.ok hm1 (by omega)
    have fx : ∀ i d', fIx (eD e) (.int i) S1 = .ok d' S1 → d2 fIx (d2 fIx (dVar 1) (dVar 5)) (dC (.int i)) (GL k a2 n r (some (.int p)) (some (.ref q)) (some d) (some (.str (tx (l0 :: ls0)[j])))) S1 = .ok d' S1 := fun i d' z =>
      (d2_ok ((d2_ok (a := .ref k) (b := .int p) rfl rfl).trans (ix_dk (.inl hd1.d) (by rw [lookK_kdz, he]; rfl))) (b := .int i) rfl).trans z
    have eb : bodyN (GL k a2 n r (some (.int p)) (some (.ref q)) (some d) a8) S = .nx (GL k a2 n r (some (.int p)) (some (.ref q)) (some d) (some (.str (tx (l0 :: ls0)[j])))) S2 := by
      refine (seq_nx (Γ1 := GL k a2 n r (some (.int p)) (some (.ref q)) (some d) (some (.str (tx (l0 :: ls0)[j])))) (S1 := S1) (set_nx e1)).trans (drop_nx (d := .non) ?_)
      refine (meth_ins' (k := n) (ds := [.int p, .int e.1, .str (tx (l0 :: ls0)[j]), cellD e.2.2.1 e.2.2.2]) (S1 := S1) rfl hm1.o ?_ rfl).trans e2
      exact acons (a := .int p) rfl (acons (fx 0 _ rfl) (acons (a := .str (tx (l0 :: ls0)[j])) rfl (acons (fx 2 _ rfl) rfl)))
    have k2' : Pk S1 S2 (fun a => a = 0 ∨ a = 1 ∨ a = q ∨ a = m) := k2.mono fun a _ z => .inr (.inr (.inr z))
    have k12 : Pk S S2 (fun a => a = 0 ∨ a = 1 ∨ a = q ∨ a = m) := (k1.mono fun a _ z => by
      rcases z with z | z | z
      · exact .inl z
      · exact .inr (.inl z)
      · exact .inr (.inr (.inl z))).trans k2'
    have hw := widE_len fs p e.1 (l0 :: ls0)[j] e.2.2.1 e.2.2.2
    have hel : ((l0 :: ls0).eraseIdx j).length = ls0.length := by rw [List.length_eraseIdx_of_lt hj]; simp
    obtain ⟨ps, b7, b8, S3, e3, pm, k3, s3, m3⟩ := innerN (a2 := a2) (r := r) he ds ((l0 :: ls0).eraseIdx j) S2 _ (some d) (some (.str (tx (l0 :: ls0)[j]))) (by rw [hel]; simpa using hh) (s1.pk k2 (by omega) (by omega)) hm2' (hd1.pk k2 (Ne.symm hmk)) (by rw [k2.at_ q (by omega) hqm]; exact at1) q2 (Nat.lt_of_lt_of_le (by omega) k2.nx) hmk hqm hqn hqk (by rw [hel]; simp at hl; omega)
    refine ⟨(l0 :: ls0)[j] :: ps, b7, b8, S3, ?_, (pm.cons _).trans (erase_perm hj), k12.trans k3, s3, m3⟩
    show (match bodyN (GL k a2 n r (some (.int p)) (some (.ref q)) (some d) a8) S with
      | .nx Γ2 S2 => loopD (gN 7) bodyN ds Γ2 S2
      | .ct Γ2 S2 => loopD (gN 7) bodyN ds Γ2 S2
      | .bk Γ2 S2 => .nx Γ2 S2
      | o => o) = _
    rw [eb]
    exact e3
theorem sel_app (es : Tb E) (p : Int) : ∀ ks : List Int, selE es (ks ++ [p]) = selE es ks ++ selE es [p]
  | [] => rfl
  | k :: r => by
    have ih := sel_app es p r
    show (match enE es k with | some e => (k, e) :: selE es (r ++ [p]) | none => selE es (r ++ [p])) = (match enE es k with | some e => (k, e) :: selE es r | none => selE es r) ++ selE es [p]
    rw [ih]
    cases enE es k <;> rfl
theorem sel_mem {w : Int} {e : E} (he : enE es w = some e) : ∀ {ks : List Int}, w ∈ ks → (w, e) ∈ selE es ks
  | k :: r, h => by
    unfold selE
    rcases List.mem_cons.mp h with z | h
    · subst z; rw [he]; exact List.mem_cons_self
    · cases enE es k with
      | none => exact sel_mem he h
      | some x => exact List.mem_cons_of_mem _ (sel_mem he h)
abbrev bodyM : DS := (sSeq (sSet (dBM isL gPopAt (dVar 4) (aCons (dCall 2 f15 (aCons (dVar 0) (aCons (dCB gLen (aCons (dVar 4) aNil)) aNil))) aNil)) 5) (sSeq (sSet (dCB gListT (aCons (d2 fIx (d2 fIx (dVar 1) (dVar 5)) (dC (.int 1))) aNil)) 6) (sFor (iNo (aBind (aCons (dCB gLen (aCons (dVar 6) aNil)) aNil) rng1)) (gN 7) bodyN)))
theorem outerM (g : GoodV es) : ∀ (ds : List D) (ks dn : List Int) (S : Sto) (a2 a5 a6 a7 a8 : Option D), ds.length = ks.length → (dn ++ ks).Perm (keysE es) → Sr S 0 1 → Mp S n m (selE es dn) → Dt S k es → S.at q = some (.lst (ks.map D.int)) → 2 ≤ q → q < S.nx → m ≠ k → n ≠ k → q ≠ m → q ≠ n → q ≠ k →
    ∃ (dn' : List Int) (a2' b5 b6 b7 b8 : Option D) (S' : Sto), loopD (gN 2) bodyM ds (GL k a2 n q a5 a6 a7 a8) S = .nx (GL k a2' n q b5 b6 b7 b8) S' ∧ dn'.Perm (keysE es) ∧ Pk S S' (fun a => a = 0 ∨ a = 1 ∨ a = q ∨ a = m) ∧ Sr S' 0 1 ∧ Mp S' n m (selE es dn')
  | [], [], dn, S, a2, a5, a6, a7, a8, _, pm, s, h, _, _, _, _, _, _, _, _, _ => ⟨dn, a2, a5, a6, a7, a8, S, rfl, by simpa using pm, .refl s.ok, s, h⟩
  | [], _ :: _, _, _, _, _, _, _, _, hh, _, _, _, _, _, _, _, _, _, _, _, _ => by cases hh
  | _ :: _, [], _, _, _, _, _, _, _, hh, _, _, _, _, _, _, _, _, _, _, _, _ => by cases hh
  | d :: ds, k0 :: ks0, dn, S, a2, a5, a6, a7, a8, hh, pm, s, h, hd, hq, q2, hql, hmk, hnk, hqm, hqn, hqk => by
    have hn2 := h.n2; have hm2 := h.m2; have hk2 := hd.k2
    have hln := h.ln; have hlm := h.lm; have hlk := hd.l
    have hlen : (k0 :: ks0).length ≤ 5 := by
      have l := pm.length_eq
      rw [keysE_len, List.length_append] at l
      have := g.len
      omega
    obtain ⟨j, hj, S1, e1, k1, s1, at1, x1⟩ := popPick (Γ := GL k (some d) n q a5 a6 a7 a8) (i := 4) (f := D.int) s rfl rfl hq q2 hql (by simp) (by omega)
    generalize hp : (k0 :: ks0)[j] = p at e1
    have hpin : p ∈ k0 :: ks0 := by rw [← hp]; exact List.getElem_mem hj
    have hpk : p ∈ keysE es := pm.mem_iff.mp (List.mem_append_right _ hpin)
    obtain ⟨e, he⟩ : ∃ e, enE es p = some e := by
      have := (hasE_mem es p).mpr hpk
      rw [hasE_en] at this
      exact Option.isSome_iff_exists.mp this
    have hR : someR e.2.1 := g.some _ (enE_in he)
    have ndk : (dn ++ (k0 :: ks0)).Nodup := pm.nodup_iff.mpr g.nd
    have hpd : p ∉ dn := fun z => (List.nodup_append.mp ndk).2.2 p z p hpin rfl
    have hpf : p ∉ keysE (selE es dn) := by
      rw [sel_keys fun x hx => pm.mem_iff.mp (List.mem_append_left _ hx)]; exact hpd
    have hm1 := h.pk k1 (by omega) (by omega)
    have hd1 := hd.pk k1 (by omega)
    -- the letters
    let S2 := S1.new (.lst ((ltsR e.2.1).map fun l => D.str (tx l)))
    have k2 : Pk S1 S2 fun _ => False := (Pk.refl s1.ok).new
    have c2 : sSet (dCB gListT (aCons (d2 fIx (d2 fIx (dVar 1) (dVar 5)) (dC (.int 1))) aNil)) 6 (GL k (some d) n q (some (.int p)) a6 a7 a8) S1 = .nx (GL k (some d) n q (some (.int p)) (some (.ref S1.nx)) a7 a8) S2 := by
      have q1 : d2 fIx (d2 fIx (dVar 1) (dVar 5)) (dC (.int 1)) (GL k (some d) n q (some (.int p)) a6 a7 a8) S1 = .ok (.str (rtS e.2.1)) S1 :=
        (d2_ok ((d2_ok (a := .ref k) (b := .int p) rfl rfl).trans (ix_dk (.inl hd1.d) (by rw [lookK_kdz, he]; rfl))) (b := .int 1) rfl).trans rfl
      refine set_nx ?_
      show Res.bind (aCons (d2 fIx (d2 fIx (dVar 1) (dVar 5)) (dC (.int 1))) aNil (GL k (some d) n q (some (.int p)) a6 a7 a8) S1) gListT = _
      rw [args1 q1]
      show guard (lineOk (rtS e.2.1).cps.size) (Res.ok (D.ref S1.nx) (S1.new (.lst (signs (rtS e.2.1).cps.toList)))) = _
      rw [lts_signs, show lineOk (rtS e.2.1).cps.size = true by
        obtain ⟨x, y, z⟩ := e.2.1
        cases x <;> cases y <;> cases z <;> rfl]
      rfl
    have hl3 := lts_len e.2.1
    have c3 : iNo (aBind (aCons (dCB gLen (aCons (dVar 6) aNil)) aNil) rng1) (GL k (some d) n q (some (.int p)) (some (.ref S1.nx)) a7 a8) S2 = .ok (upto 0 (ltsR e.2.1).length, .no) S2 := by
      refine rng_ok' ?_ (by omega)
      show gLen [.ref S1.nx] S2 = _
      rw [len_lst look_new, List.length_map]
    have hm2' := hm1.pk k2 id id
    have hd2 := hd1.pk k2 id
    have x2 : S2.nx = S1.nx + 1 := rfl
    have dl : (selE es dn).length ≤ 5 := by
      have l := congrArg List.length (sel_keys (es := es) (ks := dn) fun x hx => pm.mem_iff.mp (List.mem_append_left _ hx))
      rw [keysE_len] at l
      have l2 := pm.length_eq
      rw [keysE_len, List.length_append] at l2
      have := g.len
      omega
    obtain ⟨ps, b7, b8, S3, e3, pp, k3, s3, m3⟩ := innerN (n := n) (m := m) (k := k) (q := S1.nx) (a2 := some d) (r := q) he (upto 0 (ltsR e.2.1).length) (ltsR e.2.1) S2 (selE es dn) a7 a8 (upto_len _ _) (s1.pk k2 id id) hm2' hd2 look_new (by omega) (by omega) hmk (by omega) (by omega) (by omega) (by omega)
    have c4 : sFor (iNo (aBind (aCons (dCB gLen (aCons (dVar 6) aNil)) aNil) rng1)) (gN 7) bodyN (GL k (some d) n q (some (.int p)) (some (.ref S1.nx)) a7 a8) S2 = .nx (GL k (some d) n q (some (.int p)) (some (.ref S1.nx)) b7 b8) S3 := by
      rw [for_no c3, e3]
      rfl
    have hfs : widsE (selE es dn) p e.1 e.2.2.1 e.2.2.2 ps = selE es (dn ++ [p]) := by
      have hne : ps ≠ [] := fun z => by subst z; exact lts_some hR pp.symm.eq_nil
      rw [wids_new hpf hne, pp.foldl_eq' (fun x _ y _ z => addL_comm z x y), lts_all, sel_app]
      show _ = selE es dn ++ (match enE es p with | some e => [(p, e)] | none => [])
      rw [he]
    rw [hfs] at m3
    have k3' : Pk S1 S3 (fun a => a = 0 ∨ a = 1 ∨ a = q ∨ a = m) := k2.none.trans' k3 fun a ha z => by
      rcases z with z | z | z | z
      · exact .inl z
      · exact .inr (.inl z)
      · omega
      · exact .inr (.inr (.inr z))
    have hd3 : Dt S3 k es := hd1.pk k3' (by omega)
    have hel : ((k0 :: ks0).eraseIdx j).length = ks0.length := by rw [List.length_eraseIdx_of_lt hj]; simp
    have at3 : S3.at q = some (.lst (((k0 :: ks0).eraseIdx j).map D.int)) := by
      rw [k3.at_ q (by omega) (by omega), k2.at_ q (by omega) id]; exact at1
    obtain ⟨dn', z2, z5, z6, z7, z8, S4, e4, p4, k4, s4, m4⟩ := outerM g ds ((k0 :: ks0).eraseIdx j) (dn ++ [p]) S3 (some d) (some (.int p)) (some (.ref S1.nx)) b7 b8 (by rw [hel]; simpa using hh) (by
      rw [List.append_assoc]
      refine List.Perm.trans (List.Perm.append_left dn ?_) pm
      have := erase_perm hj
      rw [hp] at this
      exact this) s3 m3 hd3 at3 q2 (Nat.lt_of_lt_of_le (by omega) k3'.nx) hmk hnk hqm hqn hqk
    refine ⟨dn', z2, z5, z6, z7, z8, S4, ?_, p4, (Pk.trans (k1.mono fun a _ z => by
      rcases z with z | z | z
      · exact .inl z
      · exact .inr (.inl z)
      · exact .inr (.inr (.inl z))) k3').trans k4, s4, m4⟩
    have eb : bodyM (GL k (some d) n q a5 a6 a7 a8) S = .nx (GL k (some d) n q (some (.int p)) (some (.ref S1.nx)) b7 b8) S3 :=
      (seq_nx (Γ1 := GL k (some d) n q (some (.int p)) a6 a7 a8) (S1 := S1) (set_nx e1)).trans ((seq_nx c2).trans c4)
    show (match bodyM (GL k (some d) n q a5 a6 a7 a8) S with
      | .nx Γ2 S2 => loopD (gN 2) bodyM ds Γ2 S2
      | .ct Γ2 S2 => loopD (gN 2) bodyM ds Γ2 S2
      | .bk Γ2 S2 => .nx Γ2 S2
      | o => o) = _
    rw [eb]
    exact e4
/-- a mapping filled anew: the same entries -/
theorem filled_ok (s : Sr S 0 1) (hd : Dt S k es) (g : GoodV es) :
    ∃ (n m : Nat) (fs : Tb E) (S' : Sto), f19 [.ref 0, .ref k] S = .ok (.ref n) S' ∧ Pk S S' (fun a => a = 0 ∨ a = 1) ∧ Sr S' 0 1 ∧ Mp S' n m fs ∧ S.nx ≤ n ∧ S.nx ≤ m ∧ fs.length = es.length ∧ (∀ w e, (w, e) ∈ fs → enE es w = some e) ∧ ∀ w e, (w, e) ∈ es → enE fs w = some e := by
  have hk := hd.l; have hk2 := hd.k2
  obtain ⟨S1, e1, k1, m1, x1⟩ := make_ok (Γ := [some (.ref 0), some (.ref k), none, none, none, none, none, none, none]) s.ok (by omega)
  have hd1 := hd.pk k1 id
  let S2 := S1.new (.lst ((keysE es).map D.int))
  have k2 : Pk S1 S2 fun _ => False := (Pk.refl k1.ok).new
  have c1 : sParA (aCons (dMake 9 1 f2 aNil) (aCons (dCB gList (aCons (dVar 1) aNil)) aNil)) 3 4 [some (.ref 0), some (.ref k), none, none, none, none, none, none, none] S = .nx (GL k none S.nx S1.nx none none none none) S2 := by
    refine par_ok e1 ?_
    show (match seqV S1 (.ref k) with | some xs => Res.ok (D.ref S1.nx) (S1.new (.lst xs)) | none => (match dctV S1 (.ref k) with | some ks => .ok (D.ref S1.nx) (S1.new (.lst (keysD ks))) | none => .bad)) = _
    have e : seqV S1 (.ref k) = none := by
      show (match S1.at k with | some (.lst ds) => some ds | _ => none) = _
      rw [hd1.d]
    rw [e, dctV_at (.inl hd1.d)]
    dsimp only
    rw [keysD_kdz]
  have hd2 := hd1.pk k2 id
  have c2 : iNo (aBind (aCons (dCB gLen (aCons (dVar 1) aNil)) aNil) rng1) (GL k none S.nx S1.nx none none none none) S2 = .ok (upto 0 es.length, .no) S2 := by
    have := g.len
    refine rng_ok' ?_ (by omega)
    show gLen [.ref k] S2 = _
    rw [len_dk hd2.d, kdz_len]
  have k12 := k1.trans k2
  have x2 : S2.nx = S1.nx + 1 := rfl
  obtain ⟨dn, a2, a5, a6, a7, a8, S3, e3, p3, k3, s3, m3⟩ := outerM (n := S.nx) (m := S.nx + 1) (k := k) (q := S1.nx) g (upto 0 es.length) (keysE es) [] S2 none none none none none (by rw [upto_len, keysE_len]) (by simp) (s.pk k12 id id) (m1.pk k2 id id) hd2 look_new (by omega) (by omega) (by omega) (by omega) (by omega) (by omega) (by omega)
  have c3 : sFor (iNo (aBind (aCons (dCB gLen (aCons (dVar 1) aNil)) aNil) rng1)) (gN 2) bodyM (GL k none S.nx S1.nx none none none none) S2 = .nx (GL k a2 S.nx S1.nx a5 a6 a7 a8) S3 := by
    rw [for_no c2, e3]
    rfl
  have hin : ∀ x ∈ dn, x ∈ keysE es := fun x hx => p3.mem_iff.mp hx
  have hkeys : keysE (selE es dn) = dn := sel_keys hin
  refine ⟨S.nx, S.nx + 1, selE es dn, S3, ?_, k12.none.trans' k3 (fun a ha z => by
    rcases z with z | z | z | z
    · exact .inl z
    · exact .inr z
    · omega
    · omega), s3, m3, Nat.le_refl _, Nat.le_succ _, ?_, fun w e h => sel_en h, fun w e h => ?_⟩
  · show endD (den19 [some (.ref 0), some (.ref k), none, none, none, none, none, none, none] S) = _
    unfold den19
    rw [seq_nx c1, seq_nx c3]
    rfl
  · have l := congrArg List.length hkeys
    rw [keysE_len, p3.length_eq, keysE_len] at l
    exact l
  · have he := enE_mem g.nd h
    refine enE_mem (by rw [hkeys]; exact p3.nodup_iff.mpr g.nd) (sel_mem he (p3.mem_iff.mpr (List.mem_map.mpr ⟨(w, e), h, rfl⟩)))
end
end Lw

namespace Lw
open L2 PySem PySem.Spec PyProof.Rows Pd

/-! ### the law -/
abbrev GW (sc : D) (n k : Nat) (l a3 a4 a7 a8 a9 a10 : Option D) : Ga := [some sc, some (.ref 0), l, a3, a4, some (.ref n), some (.ref k), a7, a8, a9, a10]
abbrev retF : DS := sRet (dC (.bl false))
abbrev bodyW : DS := (sSeq (sParA (aCons (dMeth 9 1 f12 (dVar 5) aNil) (aCons (dCB gDictC (aCons (dVar 6) aNil)) aNil)) 7 8) (sSeq (sIf (dOr (dNot (t2 (fOEq 9 f13) (dVar 7) (dVar 5))) (dNot (dTr (dCall 3 f18 (aCons (dVar 1) (aCons (dVar 5) (aCons (dVar 6) aNil))))))) (sRet (dC (.bl false))) sNil) (sSeq (sIf (dOr (dNot (dTr (dCall 2 f16 (aCons (dVar 5) (aCons (dVar 6) aNil))))) (dNot (dTr (dCall 2 f16 (aCons (dVar 7) (aCons (dVar 8) aNil)))))) (sRet (dC (.bl false))) sNil) (sSeq (sIf (t2 fNeX (d2 (fOEq 9 f13) (dVar 7) (dVar 5)) (d2 fEqX (dVar 8) (dVar 6))) (sRet (dC (.bl false))) sNil) (sSeq (sSet (dMeth 9 1 f12 (dVar 7) aNil) 3) (sSeq (sDrop (dMeth 9 5 f6 (dVar 7) (aCons (dC (.int 7)) (aCons (dC (.int 2)) (aCons (dC (.str (⟨#[120]⟩ : Str))) (aCons (dTup (aCons (dC (.int 0)) (aCons (dC (.int 0)) aNil))) aNil)))))) (sSeq (sParA (aCons (dCall 2 f15 (aCons (dVar 1) (aCons (dC (.int 4)) aNil))) (aCons (dCall 2 f15 (aCons (dVar 1) (aCons (dC (.int 3)) aNil))) aNil)) 9 10) (sSeq (sDrop (dCall 4 f17 (aCons (dVar 3) (aCons (dCB gDictC (aCons (dVar 8) aNil)) (aCons (dVar 9) (aCons (dIf (t2 fEqX (dVar 9) (dC (.int 0))) (dTup (aCons (dC (.int 0)) (aCons (dVar 10) aNil))) (dVar 10)) aNil)))))) (sSeq (sDrop (dMeth 9 1 f10 (dVar 3) aNil)) (sIf (dNot (dTr (dCall 2 f16 (aCons (dVar 5) (aCons (dVar 6) aNil))))) (sRet (dC (.bl false))) sNil))))))))))
section
variable {S : Sto} {n m k : Nat} {es fs : Tb E}
theorem copy_ok {Γ : Ga} {i : Nat} (h : S.at k = some (.dct (kdz eD es))) (hi : Γ[i]? = some (some (.ref k))) : dCB gDictC (aCons (dVar i) aNil) Γ S = .ok (.ref S.nx) (S.new (.dct (kdz eD es))) := by
  show Res.bind (aCons (dVar i) aNil Γ S) gDictC = _
  rw [args1 (show dVar i Γ S = .ok (.ref k) S by unfold dVar; rw [hi])]
  show (match dctV S (.ref k) with | some kds => Res.ok (D.ref S.nx) (S.new (.dct kds)) | none => .bad) = _
  rw [dctV_at (.inl h)]
theorem not_ok {t : DT} {Γ : Ga} {S1 : Sto} {b : Bool} (h : t Γ S = .ok b S1) : dNot t Γ S = .ok (!b) S1 := by unfold dNot; rw [h]; rfl
theorem tr_ok {e : DE} {Γ : Ga} {S1 : Sto} {b : Bool} (h : e Γ S = .ok (.bl b) S1) : dTr e Γ S = .ok b S1 := by unfold dTr; rw [h]; rfl
theorem or_f {t u : DT} {Γ : Ga} {S1 S2 : Sto} {b : Bool} (h : t Γ S = .ok false S1) (h2 : u Γ S1 = .ok b S2) : dOr t u Γ S = .ok b S2 := by unfold dOr; rw [h]; exact h2
theorem is_same (h : Mp S n m es) {n' m' : Nat} (h' : Mp S n' m' fs) (hl : es.length = fs.length) (hin : ∀ w e, (w, e) ∈ es → enE fs w = some e) : fOEq 9 f13 (.ref n) (.ref n') S = .ok (.bl true) S := by
  rw [eqO h h' (eqDk_same tpE' hin S), eqLen_len hl]
  rfl
def InvW (n m k : Nat) (T : Sto) : Prop := Sr T 0 1 ∧ ∃ es, Mp T n m es ∧ Dt T k es ∧ GoodV es
theorem call_is {Γ : Ga} {i j : Nat} (hi : Γ[i]? = some (some (.ref n))) (hj : Γ[j]? = some (some (.ref k))) (o : Ok S) (h : Mp S n m es) (hd : Dt S k es) (g : GoodV es) : ∃ S', dNot (dTr (dCall 2 f16 (aCons (dVar i) (aCons (dVar j) aNil)))) Γ S = .ok false S' ∧ Pk S S' fun _ => False := by
  obtain ⟨S', e, k1⟩ := law_is_ok o h hd g.n
  exact ⟨S', not_ok (tr_ok ((call_ok (args2 (a := .ref n) (b := .ref k) (S1 := S) (S2 := S) (by unfold dVar; rw [hi]) (by unfold dVar; rw [hj])) rfl).trans e)), k1⟩
theorem bodyW_ok {sc : D} {l a3 a4 a7 a8 a9 a10 : Option D} (s : Sr S 0 1) (h : Mp S n m es) (hd : Dt S k es) (g : GoodV es) (hmk : m ≠ k) (hnk : n ≠ k) :
    ∃ b3 b7 b8 b9 b10 S', bodyW (GW sc n k l a3 a4 a7 a8 a9 a10) S = .nx (GW sc n k l b3 a4 b7 b8 b9 b10) S' ∧ InvW n m k S' := by
  have n2 := h.n2; have m2 := h.m2; have k2 := hd.k2
  have nl := h.ln; have ml := h.lm; have kl := hd.l
  -- a twin, a copy
  obtain ⟨n7, m7, S1, e1, p1, t1, n7s, m7s⟩ := twin_ok s.ok h g.n.g
  have hd1 := hd.pk p1 id
  let S2 := S1.new (.dct (kdz eD es))
  have p2 : Pk S1 S2 fun _ => False := (Pk.refl p1.ok).new
  have p12 := p1.trans p2
  have x2 : S2.nx = S1.nx + 1 := rfl
  have s2 := s.pk p12 id id
  have c1 : sParA (aCons (dMeth 9 1 f12 (dVar 5) aNil) (aCons (dCB gDictC (aCons (dVar 6) aNil)) aNil)) 7 8 (GW sc n k l a3 a4 a7 a8 a9 a10) S = .nx (GW sc n k l a3 a4 (some (.ref n7)) (some (.ref S1.nx)) a9 a10) S2 :=
    par_ok ((meth_ins' (k := n) (ds := []) rfl h.o rfl rfl).trans e1) (copy_ok hd1.d rfl)
  have h2 := h.pk p12 id id
  have hd2 := hd.pk p12 id
  have t2' := t1.pk p2 id id
  have n7l := t1.ln; have m7l := t1.lm
  have y2 : Dt S2 S1.nx es := ⟨look_new, Nat.lt_succ_self _, by omega⟩
  -- the turn
  have q2 : t2 (fOEq 9 f13) (dVar 7) (dVar 5) (GW sc n k l a3 a4 (some (.ref n7)) (some (.ref S1.nx)) a9 a10) S2 = .ok true S2 := by
    rw [t2_ok (a := .ref n7) (b := .ref n) rfl rfl, is_same t2' h2 rfl (fun w e z => enE_mem g.nd z)]
    rfl
  obtain ⟨es1, S3, e3, p3, h3, hd3, g3, s3⟩ := law_turn_ok s2 h2 hd2 g hmk hnk
  have q3 : dNot (dTr (dCall 3 f18 (aCons (dVar 1) (aCons (dVar 5) (aCons (dVar 6) aNil))))) (GW sc n k l a3 a4 (some (.ref n7)) (some (.ref S1.nx)) a9 a10) S2 = .ok false S3 :=
    not_ok (tr_ok ((call_ok (ds := [.ref 0, .ref n, .ref k]) rfl rfl).trans e3))
  have c2 : sIf (dOr (dNot (t2 (fOEq 9 f13) (dVar 7) (dVar 5))) (dNot (dTr (dCall 3 f18 (aCons (dVar 1) (aCons (dVar 5) (aCons (dVar 6) aNil))))))) retF sNil (GW sc n k l a3 a4 (some (.ref n7)) (some (.ref S1.nx)) a9 a10) S2 = .nx (GW sc n k l a3 a4 (some (.ref n7)) (some (.ref S1.nx)) a9 a10) S3 := if_no (or_f (not_ok q2) q3)
  have t3 := t2'.pk p3 (by omega) (by omega)
  have y3 := y2.pk p3 (by omega)
  -- as it must be
  obtain ⟨S4, e4, p4⟩ := call_is (Γ := GW sc n k l a3 a4 (some (.ref n7)) (some (.ref S1.nx)) a9 a10) (i := 5) (j := 6) rfl rfl s3.ok h3 hd3 g3
  obtain ⟨S5, e5, p5⟩ := call_is (Γ := GW sc n k l a3 a4 (some (.ref n7)) (some (.ref S1.nx)) a9 a10) (i := 7) (j := 8) rfl rfl p4.ok (t3.pk p4 id id) (y3.pk p4 id) g
  have c3 : sIf (dOr (dNot (dTr (dCall 2 f16 (aCons (dVar 5) (aCons (dVar 6) aNil))))) (dNot (dTr (dCall 2 f16 (aCons (dVar 7) (aCons (dVar 8) aNil)))))) retF sNil (GW sc n k l a3 a4 (some (.ref n7)) (some (.ref S1.nx)) a9 a10) S3 = .nx (GW sc n k l a3 a4 (some (.ref n7)) (some (.ref S1.nx)) a9 a10) S5 := if_no (or_f e4 e5)
  have p35 := p4.trans p5
  have h5 := h3.pk p35 id id
  have hd5 := hd3.pk p35 id
  have t5 := t3.pk p35 id id
  have y5 := y3.pk p35 id
  have s5 := s3.pk p35 id id
  -- equal or not
  obtain ⟨r, hr⟩ := eqDk_kdz (f := eD) tpE' es es1
  have q5 : t2 fNeX (d2 (fOEq 9 f13) (dVar 7) (dVar 5)) (d2 fEqX (dVar 8) (dVar 6)) (GW sc n k l a3 a4 (some (.ref n7)) (some (.ref S1.nx)) a9 a10) S5 = .ok false S5 := by
    have u1 : d2 (fOEq 9 f13) (dVar 7) (dVar 5) (GW sc n k l a3 a4 (some (.ref n7)) (some (.ref S1.nx)) a9 a10) S5 = .ok (.bl (ifB (eqLen es es1) r)) S5 :=
      (d2_ok (a := .ref n7) (b := .ref n) rfl rfl).trans (eqO t5 h5 (hr S5))
    have u2 : d2 fEqX (dVar 8) (dVar 6) (GW sc n k l a3 a4 (some (.ref n7)) (some (.ref S1.nx)) a9 a10) S5 = .ok (.bl (ifB (eqLen es es1) r)) S5 := by
      rw [d2_ok (a := .ref S1.nx) (b := .ref k) rfl rfl, fEqX_dk (dctV_at (.inl y5.d)) (dctV_at (.inl hd5.d)) (hr S5)]
      have : eqLen (kdz eD es) (kdz eD es1) = eqLen es es1 := by rw [eqLen_eq, eqLen_eq, kdz_len, kdz_len]
      rw [this]
    rw [t2_ok u1 u2, fNeX_self rfl (fun _ => rfl)]
    rfl
  have c4 : sIf (t2 fNeX (d2 (fOEq 9 f13) (dVar 7) (dVar 5)) (d2 fEqX (dVar 8) (dVar 6))) retF sNil (GW sc n k l a3 a4 (some (.ref n7)) (some (.ref S1.nx)) a9 a10) S5 = .nx (GW sc n k l a3 a4 (some (.ref n7)) (some (.ref S1.nx)) a9 a10) S5 := if_no q5
  -- a twin of the twin
  obtain ⟨n3, m3, S6, e6, p6, t6, n3s, m3s⟩ := twin_ok s5.ok t5 g.n.g
  have c5 : sSet (dMeth 9 1 f12 (dVar 7) aNil) 3 (GW sc n k l a3 a4 (some (.ref n7)) (some (.ref S1.nx)) a9 a10) S5 = .nx (GW sc n k l (some (.ref n3)) a4 (some (.ref n7)) (some (.ref S1.nx)) a9 a10) S6 :=
    set_nx ((meth_ins' (k := n7) (ds := []) rfl t5.o rfl rfl).trans e6)
  have l5 := g.len
  have u6 := t5.pk p6 id id
  obtain ⟨S7, e7, p7, _⟩ := widen_ok (p := 7) (b := 2) (c := 0) (q := 0) (l := .x) p6.ok u6 (by omega)
  have c6 : sDrop (dMeth 9 5 f6 (dVar 7) (aCons (dC (.int 7)) (aCons (dC (.int 2)) (aCons (dC (.str (⟨#[120]⟩ : Str))) (aCons (dTup (aCons (dC (.int 0)) (aCons (dC (.int 0)) aNil))) aNil))))) (GW sc n k l (some (.ref n3)) a4 (some (.ref n7)) (some (.ref S1.nx)) a9 a10) S6 = .nx (GW sc n k l (some (.ref n3)) a4 (some (.ref n7)) (some (.ref S1.nx)) a9 a10) S7 :=
    drop_nx ((meth_ins' (k := n7) (ds := [.int 7, .int 2, .str ⟨#[120]⟩, cellD 0 0]) rfl u6.o rfl rfl).trans e7)
  have n5 : S.nx ≤ S5.nx := Nat.le_trans (Nat.le_trans p12.nx p3.nx) p35.nx
  have n1 : S1.nx < S5.nx := Nat.lt_of_lt_of_le (by omega) (Nat.le_trans p3.nx p35.nx)
  have n75 : n7 < S5.nx ∧ m7 < S5.nx := ⟨t5.ln, t5.lm⟩
  have s7 := (s5.pk p6 id id).pk p7 (by omega) (by omega)
  have h7 := (h5.pk p6 id id).pk p7 (by omega) (by omega)
  have hd7 := (hd5.pk p6 id).pk p7 (by omega)
  have t7 := t6.pk p7 (by omega) (by omega)
  have y7 := (y5.pk p6 id).pk p7 (by omega)
  -- what falls in it
  obtain ⟨w, S8, e8, w0, w1, s8, x8, f8⟩ := pick' (k := 4) (by decide) (by decide) s7
  obtain ⟨b, S9, e9, b0, b1, s9, x9, f9⟩ := pick' (k := 3) (by decide) (by decide) s8
  have p9 : Pk S7 S9 (fun j => j = 0 ∨ j = 1) := (Pk.of_fr s8 f8 x8).trans (.of_fr s9 f9 x9)
  have pk : ∀ {N : Int} {i : Int} {T T' : Sto} {z9 z10 : Option D}, f15 [.ref 0, .int N] T = .ok (.int i) T' → dCall 2 f15 (aCons (dVar 1) (aCons (dC (.int N)) aNil)) (GW sc n k l (some (.ref n3)) a4 (some (.ref n7)) (some (.ref S1.nx)) z9 z10) T = .ok (.int i) T' := fun e =>
    (call_ok (args2 (a := .ref 0) rfl rfl) rfl).trans e
  have c7 : sParA (aCons (dCall 2 f15 (aCons (dVar 1) (aCons (dC (.int 4)) aNil))) (aCons (dCall 2 f15 (aCons (dVar 1) (aCons (dC (.int 3)) aNil))) aNil)) 9 10 (GW sc n k l (some (.ref n3)) a4 (some (.ref n7)) (some (.ref S1.nx)) a9 a10) S7 = .nx (GW sc n k l (some (.ref n3)) a4 (some (.ref n7)) (some (.ref S1.nx)) (some (.int w)) (some (.int b))) S9 := par_ok (pk e8) (pk e9)
  have h9 := h7.pk p9 (by omega) (by omega)
  have hd9 := hd7.pk p9 (by omega)
  have t9 := t7.pk p9 (by omega) (by omega)
  have y9 := y7.pk p9 (by omega)
  let S10 := S9.new (.dct (kdz eD es))
  have p10 : Pk S9 S10 fun _ => False := (Pk.refl s9.ok).new
  obtain ⟨ww, u, hf, hw, hu⟩ : ∃ (ww : Way) (u : One), fits ww u ∧ ww.i = w ∧ (match eqB w 0 with | true => cellD 0 b | false => .int b) = u.D := by
    have : w = 0 ∨ w = 1 ∨ w = 2 ∨ w = 3 := by omega
    rcases this with rfl | rfl | rfl | rfl
    · exact ⟨.c, .cell 0 b, trivial, rfl, rfl⟩
    · exact ⟨.b, .box b, trivial, rfl, rfl⟩
    · exact ⟨.w, .box b, trivial, rfl, rfl⟩
    · exact ⟨.a, .box b, trivial, rfl, rfl⟩
  have n9 : n3 < S9.nx ∧ m3 < S9.nx := ⟨t9.ln, t9.lm⟩
  obtain ⟨S11, e11, p11, t11, _⟩ := law_fall_ok (n := n3) (m := m3) (k := S9.nx) (w := ww) (u := u) hf p10.ok (t9.pk p10 id id) ⟨look_new, Nat.lt_succ_self _, by omega⟩ (by omega) (by omega) g.n
  have c8 : sDrop (dCall 4 f17 (aCons (dVar 3) (aCons (dCB gDictC (aCons (dVar 8) aNil)) (aCons (dVar 9) (aCons (dIf (t2 fEqX (dVar 9) (dC (.int 0))) (dTup (aCons (dC (.int 0)) (aCons (dVar 10) aNil))) (dVar 10)) aNil))))) (GW sc n k l (some (.ref n3)) a4 (some (.ref n7)) (some (.ref S1.nx)) (some (.int w)) (some (.int b))) S9 = .nx (GW sc n k l (some (.ref n3)) a4 (some (.ref n7)) (some (.ref S1.nx)) (some (.int w)) (some (.int b))) S11 := by
    have q : dIf (t2 fEqX (dVar 9) (dC (.int 0))) (dTup (aCons (dC (.int 0)) (aCons (dVar 10) aNil))) (dVar 10) (GW sc n k l (some (.ref n3)) a4 (some (.ref n7)) (some (.ref S1.nx)) (some (.int w)) (some (.int b))) S10 = .ok u.D S10 := by
      have t : t2 fEqX (dVar 9) (dC (.int 0)) (GW sc n k l (some (.ref n3)) a4 (some (.ref n7)) (some (.ref S1.nx)) (some (.int w)) (some (.int b))) S10 = .ok (eqB w 0) S10 := by
        rw [t2_ok (a := .int w) (b := .int 0) rfl rfl]; rfl
      unfold dIf
      rw [t, ← hu]
      cases eqB w 0 <;> rfl
    exact drop_nx ((call_ok (ds := [.ref n3, .ref S9.nx, .int ww.i, u.D]) (acons (a := .ref n3) rfl (acons (copy_ok y9.d rfl) (acons (a := .int ww.i) (by rw [hw]; rfl) (acons q rfl)))) rfl).trans e11)
  obtain ⟨r12, S12, e12, q12, _, p12', _⟩ := f10_ok u p11.ok t11 (g.w (ww.C u)).n
  have c9 : sDrop (dMeth 9 1 f10 (dVar 3) aNil) (GW sc n k l (some (.ref n3)) a4 (some (.ref n7)) (some (.ref S1.nx)) (some (.int w)) (some (.int b))) S11 = .nx (GW sc n k l (some (.ref n3)) a4 (some (.ref n7)) (some (.ref S1.nx)) (some (.int w)) (some (.int b))) S12 :=
    drop_nx ((meth_ins' (k := n3) (ds := []) rfl t11.o rfl rfl).trans e12)
  have p912 : Pk S9 S12 (fun j => j = m3) := p10.none.trans' (p11.trans' (L := fun j => j = m3 ∨ j = S9.nx) (p12'.mono (L' := fun j => j = m3 ∨ j = S9.nx) fun _ _ z => .inl z) fun _ _ z => z) fun j hj z => by
    rcases z with z | z
    · exact z
    · omega
  have s12 := s9.pk p912 (by omega) (by omega)
  have h12 := h9.pk p912 (by omega) (by omega)
  have hd12 := hd9.pk p912 (by omega)
  obtain ⟨S13, e13, p13⟩ := call_is (Γ := GW sc n k l (some (.ref n3)) a4 (some (.ref n7)) (some (.ref S1.nx)) (some (.int w)) (some (.int b))) (i := 5) (j := 6) rfl rfl s12.ok h12 hd12 g3
  refine ⟨some (.ref n3), some (.ref n7), some (.ref S1.nx), some (.int w), some (.int b), S13, ?_, s12.pk p13 id id, es1, h12.pk p13 id id, hd12.pk p13 id, g3⟩
  exact (seq_nx c1).trans ((seq_nx c2).trans ((seq_nx c3).trans ((seq_nx c4).trans ((seq_nx c5).trans ((seq_nx c6).trans ((seq_nx c7).trans ((seq_nx c8).trans ((seq_nx c9).trans (if_no e13)))))))))
end
theorem law_ok (ns : List Int) (hl : ns.length ≤ 63) : ∃ S, f20 [.frl (ns.map D.int)] S0 = .ok (.bl true) S := by
  obtain ⟨cs, x, e1, hc, h0⟩ := src24 ns hl
  have s1 : Sr (S2x cs 1 x 0) 0 1 := ⟨cs, 1, x, 0, src2_ok (by decide) h0, hc⟩
  generalize hsc : D.frl (ns.map D.int) = sc at e1
  have c1 : sSet (dCall 1 f14 (aCons (dVar 0) aNil)) 1 [some sc, none, none, none, none, none, none, none, none, none, none] S0 = .nx [some sc, some (.ref 0), none, none, none, none, none, none, none, none, none] (S2x cs 1 x 0) :=
    set_nx ((call_ok (args1 (a := sc) rfl) rfl).trans e1)
  obtain ⟨S2, e2, p2, m2, x2⟩ := make_ok (Γ := [some sc, some (.ref 0), none, none, none, none, none, none, none, none, none]) s1.ok (Nat.le_refl 2)
  have hx : (S2x cs 1 x 0).nx = 2 := rfl
  rw [hx] at e2 m2 x2
  let S3 := S2.new (.dct [])
  have p3 : Pk S2 S3 fun _ => False := (Pk.refl p2.ok).new
  have c2 : sParA (aCons (dMake 9 1 f2 aNil) (aCons (dNewD false) aNil)) 5 6 [some sc, some (.ref 0), none, none, none, none, none, none, none, none, none] (S2x cs 1 x 0) = .nx (GW sc 2 S2.nx none none none none none none none) S3 := par_ok e2 rfl
  have h3 : Mp S3 2 3 [] := m2.pk p3 id id
  have hd3 : Dt S3 S2.nx [] := ⟨look_new, Nat.lt_succ_self _, by omega⟩
  have s3 : Sr S3 0 1 := (s1.pk p2 id id).pk p3 id id
  obtain ⟨Γ4, S4, e4, ⟨a2, a3, a4, a7, a8, a9, a10, rfl⟩, s4, es, h4, hd4, g4⟩ := for_inv (I := fun Γ T => (∃ a2 a3 a4 a7 a8 a9 a10, Γ = GW sc 2 S2.nx a2 a3 a4 a7 a8 a9 a10) ∧ InvW 2 3 S2.nx T) (fi := iNo (aBind (aCons (dC (.int 20)) aNil) rng1)) (gt := gN 2) (body := bodyW) (ds := upto 0 20) (Γ := GW sc 2 S2.nx none none none none none none none) (S := S3) rfl (fun d _ Γ T ⟨⟨a2, a3, a4, a7, a8, a9, a10, e⟩, sT, es, hT, dT, gT⟩ => by
    subst e
    obtain ⟨b3, b7, b8, b9, b10, T', e, i⟩ := bodyW_ok (sc := sc) (l := some d) (a3 := a3) (a4 := a4) (a7 := a7) (a8 := a8) (a9 := a9) (a10 := a10) sT hT dT gT (by omega) (by omega)
    exact ⟨_, _, T', rfl, e, ⟨_, _, _, _, _, _, _, rfl⟩, i⟩) ⟨⟨_, _, _, _, _, _, _, rfl⟩, s3, [], h3, hd3, .nil, (fun _ z => nomatch z), fun _ z => nomatch z⟩
  -- filled anew
  have l2 := h4.ln; have l3 := h4.lm; have lk := hd4.l
  obtain ⟨n, m, fs, S5, e5, p5, s5, h5, n5, m5, lf, in1, in2⟩ := filled_ok s4 hd4 g4
  have hm4 := h4.pk p5 (by omega) (by omega)
  have hd5 := hd4.pk p5 (by have := hd4.k2; omega)
  let Γ (z : Option D) : Ga := GW sc 2 S2.nx a2 (some (.ref n)) z a7 a8 a9 a10
  have c5 : sSet (dCall 2 f19 (aCons (dVar 1) (aCons (dVar 6) aNil))) 3 (GW sc 2 S2.nx a2 a3 a4 a7 a8 a9 a10) S4 = .nx (Γ a4) S5 := set_nx ((call_ok (args2 (a := .ref 0) (b := .ref S2.nx) rfl rfl) rfl).trans e5)
  have q1 : t2 (fOEq 9 f13) (dVar 3) (dVar 5) (Γ a4) S5 = .ok true S5 := by
    rw [t2_ok (a := .ref n) (b := .ref 2) rfl rfl, is_same h5 hm4 lf in1]; rfl
  have q2 : t2 (fOEq 9 f13) (dVar 5) (dVar 3) (Γ a4) S5 = .ok true S5 := by
    rw [t2_ok (a := .ref 2) (b := .ref n) rfl rfl, is_same hm4 h5 lf.symm in2]; rfl
  have c6 : sIf (dOr (dNot (t2 (fOEq 9 f13) (dVar 3) (dVar 5))) (dNot (t2 (fOEq 9 f13) (dVar 5) (dVar 3)))) retF sNil (Γ a4) S5 = .nx (Γ a4) S5 := if_no (or_f (not_ok q1) (not_ok q2))
  have l5 := g4.len
  obtain ⟨S6, e6, p6, h6⟩ := widen_ok (p := 6) (b := 0) (c := 0) (q := 6) (l := .r) s5.ok h5 (by omega)
  have c7 : sDrop (dMeth 9 5 f6 (dVar 3) (aCons (dC (.int 6)) (aCons (dC (.int 0)) (aCons (dC (.str (⟨#[114]⟩ : Str))) (aCons (dTup (aCons (dC (.int 0)) (aCons (dC (.int 6)) aNil))) aNil))))) (Γ a4) S5 = .nx (Γ a4) S6 :=
    drop_nx ((meth_ins' (k := n) (ds := [.int 6, .int 0, .str ⟨#[114]⟩, cellD 0 6]) rfl h5.o rfl rfl).trans e6)
  have hm6 := hm4.pk p6 (by omega) (by omega)
  have hd6 := hd5.pk p6 (by omega)
  -- one page more
  have h6n : (6 : Int) ∉ keysE fs := by
    intro z
    obtain ⟨p, hp, e⟩ := List.mem_map.mp z
    have := (g4.b _ (enE_in (in1 p.1 p.2 hp))).2
    have e : p.1 = 6 := e
    have this : p.1 < 5 := this
    omega
  have hwl : (widE fs 6 0 .r 0 6).length = fs.length + 1 := by rw [wid_new h6n]; simp
  obtain ⟨r, hr⟩ := eqDk_kdz (f := eD) tpE' (widE fs 6 0 .r 0 6) es
  have q7 : t2 (fOEq 9 f13) (dVar 3) (dVar 5) (Γ a4) S6 = .ok false S6 := by
    rw [t2_ok (a := .ref n) (b := .ref 2) rfl rfl, eqO h6 hm6 (hr S6), eqLen_ne (by omega)]; rfl
  have c8 : sIf (t2 (fOEq 9 f13) (dVar 3) (dVar 5)) retF sNil (Γ a4) S6 = .nx (Γ a4) S6 := if_no q7
  -- other things
  have odd : iAny (dLst (aCons (dC .non) (aCons (dFrz (dNewD false)) (aCons (dVar 6) (aCons (dC (.int 0)) aNil))))) (Γ a4) S6 = .ok ([.non, .dct [], .ref S2.nx, .int 0], .no) (Lw.up S6) := by
    have f : dFrz (dNewD false) (Γ a4) S6 = .ok (.dct []) (Lw.up S6) := frzE (a := .ref S6.nx) rfl (frz_newD p6.ok)
    unfold iAny
    rw [lst_ok (acons (a := .non) rfl (acons f (acons (a := .ref S2.nx) rfl (acons (a := .int 0) rfl rfl)))) (by show 4 ≤ 1000; decide)]
    rfl
  have pu : Pk S6 (Lw.up S6) fun _ => False := (Pk.refl p6.ok).up
  obtain ⟨Γ9, S9, e9, ⟨z4, rfl⟩, rfl⟩ := for_inv (I := fun Γ' T => (∃ z, Γ' = Γ z) ∧ T = Lw.up S6) (gt := gN 4) (body := sIf (t2 (fOEq 9 f13) (dVar 5) (dVar 4)) retF sNil) odd (fun d hd' Γ' T ⟨⟨z, e⟩, eT⟩ => by
    subst e
    subst eT
    refine ⟨Γ (some d), _, Lw.up S6, rfl, if_no ?_, ⟨_, rfl⟩, rfl⟩
    have ho : ownIs 9 (Lw.up S6) d = some false := by
      simp only [List.mem_cons, List.not_mem_nil, or_false] at hd'
      rcases hd' with rfl | rfl | rfl | rfl
      · rfl
      · rfl
      · have at6 : (Lw.up S6).at S2.nx = some (.dct (kdz eD es)) := hd6.d
        unfold ownIs
        have e1 : insV (Lw.up S6) (.ref S2.nx) = none := by
          show (match (Lw.up S6).at S2.nx with | some (.ins c fs) => some (c, fs) | _ => none) = _
          rw [at6]
        rw [e1]
        dsimp only
        have e2 : tkOf (Lw.up S6) (.ref S2.nx) = some .dct := by
          unfold tkOf
          dsimp only
          rw [show tupV (.ref S2.nx) = none from rfl]
          dsimp only
          rw [show lstV (Lw.up S6) (.ref S2.nx) = none by
            show (match (Lw.up S6).at S2.nx with | some (.lst ds) => some ds | _ => none) = _
            rw [at6]]
          dsimp only
          rw [dctV_at (.inl at6)]
        rw [e2]
      · rfl
    rw [t2_ok (a := .ref 2) (b := d) rfl rfl, eqO_odd (hm6.pk pu id id) ho]
    rfl) ⟨⟨_, rfl⟩, rfl⟩
  -- two empty ones
  obtain ⟨S10, f1, p10, h10, x10⟩ := make_ok (Γ := Γ z4) pu.ok (by have := hm6.ln; show 2 ≤ S6.nx + 1; omega)
  obtain ⟨S11, f2', p11, h11, x11⟩ := make_ok (Γ := Γ z4) p10.ok (by have := hm6.ln; have := p10.nx; have : (Lw.up S6).nx = S6.nx + 1 := rfl; omega)
  have q12 : d2 (fOEq 9 f13) (dMake 9 1 f2 aNil) (dMake 9 1 f2 aNil) (Γ z4) (Lw.up S6) = .ok (.bl true) S11 :=
    (d2_ok f1 f2').trans (is_same (h10.pk p11 id id) h11 rfl fun w e z => nomatch z)
  refine ⟨S11, ?_⟩
  show endD (den20 [some sc, none, none, none, none, none, none, none, none, none, none] S0) = _
  unfold den20
  rw [seq_nx c1, seq_nx c2, seq_nx e4, seq_nx c5, seq_nx c6, seq_nx c7, seq_nx c8, seq_nx e9, ret_rt q12]
  rfl
end Lw

namespace Lw
section
open PySem.W PySem PySem.Calls PyProof.Rows Pd
theorem ck_ok {K : PySem.W.Frag} {w : World} (c : SaysA fa fn ts bs w K) : Ck K w := by
  have b := c.b
  have b0 := b
  exact ⟨trivial, ownB_ok b0⟩
end
section
open L2 PySem PySem.Spec PyProof.Rows Pd
variable {P : Program} {w : World} {K : PySem.W.Frag} {mg : PySem.Str → Option Value} {base h0 : Heap}
theorem reps : ∀ (M : Wd) (C : Cfg) (ns : List Int), RepL C M (ns.map D.int) (ns.map V.int)
  | _, _, [] => .nil
  | M, C, i :: r => .cons (.int i) (reps M C r)
theorem sp_at {C : Cfg} {f : List D → Sto → Res D} {H : Hp} {a : Addr} {ns : List Int} (hs : SqL C.K H a (ns.map V.int)) (h : ∃ S, f [.frl (ns.map D.int)] S0 = .ok (.bl true) S) : spD C 1 f [.ref a] H (fun v _ => v = .bl true) fun _ _ _ => False := by
  have rl := reps ⟨H, fun _ => none, fun _ => none⟩ C ns
  obtain ⟨S', e⟩ := h
  refine ⟨⟨H, fun _ => none, fun _ => none⟩, S0, [.frl (ns.map D.int)], rfl, ⟨fun b o e => .inl e, fun n m e => (nomatch e), fun n n' b e => (nomatch e), fun n b e => (nomatch e), fun b od u e => (nomatch e)⟩, .cons (.frl hs rl.1 rl.2) .nil, ?_⟩
  rw [e]
  intro M' v H' _ _ r
  cases r
  rfl
theorem okl {fd : FuncData} (KX : K.In h0) (G : h0.Ns mainGlobals mg) (c : He.SaysD fa fn K) (ck : Ck K w) (F : L2.FunD K "law" "law" (defArgs s20) (defBody s20) (defScope s20) [] [] (He.ga K "law") fd) : L2.FnOk P w K mg base L2.CX0 5 (He.ga K "law") fd ["_law_script"] (spD (CC K w) 1 f20) := by
  have sc := sc20
  refine okfn (N := ["_law_script", "_law_source_here", "_law_turn_here", "_law_other", "_law_odd", "_law_mapping", "_law_mine", "_law_twin", "_law_early", "_law_way", "_law_one"]) (ps := ["_law_script"]) (k := 4) (fb := den20) F sc rfl fun cdv A outer s H E hr => ?_
  exact PSs.nox (ycons (yset sc.nd (i := 1) rfl (.inl rfl) (zcall (ok14 KX G c ck) (hr.mono (by decide)) rfl (He.glo_ok KX G (c.fact 2 rfl)) (xacons (xv 0) xanil))) (ycons (ypar rfl sc.nd (i := 5) (j := 6) rfl rfl (by decide) rfl rfl (xacons (zmake0 (c := 9) (He.mkr_ok (c.fact 5 rfl)) (ok2 KX G c ck) (hr.mono (by decide)) rfl (He.glo_ok KX G (c.fact 6 rfl))) (xacons (xnewd false) xanil)) rfl) (ycons (yfor PassesOwn.never rfl (ItD.u (wrng1 rfl (He.free_ok KX G (c.fact 7 rfl)) (xacons xint xanil))) (vs := [2]) (zname (i := 2) sc.nd rfl (.inl rfl) (by decide)) (ycons (ypar rfl sc.nd (i := 7) (j := 8) rfl rfl (by decide) rfl rfl (xacons (zmeth0 (c := 9) (show ("twin" : Str) ∉ AN from by decide +kernel) (xv 5) (He.cls_ok (c.fact 3 rfl)) (He.meth_ok (c.fact 13 rfl)) (ok12 KX G c ck) (hr.mono (by decide))) (xacons (xct (cDictC rfl) rfl (He.free_ok KX G (c.fact 8 rfl)) rfl (xacons (xv 6) xanil)) xanil)) rfl) (ycons (yif (PW.pt (xor (xnot (xtcmp (oOEq (c := 9) rfl ck.own_Mapping (ok13 KX G c ck) (hr.mono (by decide)) (He.meth_ok (c.fact 15 rfl))) (xv 7) (xv 5) (by rfl))) (pw_or1 (xnot (xtr rfl (zcall (ok18 KX G c ck) (hr.mono (by decide)) rfl (He.glo_ok KX G (c.fact 26 rfl)) (xacons (xv 1) (xacons (xv 5) (xacons (xv 6) xanil))))))))) (yone (yret xbl)) ynil) (ycons (yif (PW.pt (xor (xnot (xtr rfl (zcall (ok16 KX G c ck) (hr.mono (by decide)) rfl (He.glo_ok KX G (c.fact 33 rfl)) (xacons (xv 5) (xacons (xv 6) xanil))))) (pw_or1 (xnot (xtr rfl (zcall (ok16 KX G c ck) (hr.mono (by decide)) rfl (He.glo_ok KX G (c.fact 33 rfl)) (xacons (xv 7) (xacons (xv 8) xanil)))))))) (yone (yret xbl)) ynil) (ycons (yif (xtcmp (oNeX rfl hr.units65) (xcmp (oOEq (c := 9) rfl ck.own_Mapping (ok13 KX G c ck) (hr.mono (by decide)) (He.meth_ok (c.fact 15 rfl))) (xv 7) (xv 5) (by rfl)) (xcmp (oEqX rfl hr.units65) (xv 8) (xv 6) (by rfl)) (by rfl)) (yone (yret xbl)) ynil) (ycons (yset sc.nd (i := 3) rfl (.inl rfl) (zmeth0 (c := 9) (show ("twin" : Str) ∉ AN from by decide +kernel) (xv 7) (He.cls_ok (c.fact 3 rfl)) (He.meth_ok (c.fact 13 rfl)) (ok12 KX G c ck) (hr.mono (by decide)))) (ycons (ydrop (zmeth (c := 9) (show ("widen" : Str) ∉ AN from by decide +kernel) (xv 7) (He.cls_ok (c.fact 3 rfl)) (He.meth_ok (c.fact 12 rfl)) (ok6 KX G c ck) (hr.mono (by decide)) (xacons xint (xacons xint (xacons (xstr rfl) (xacons (xtup (xacons xint (xacons xint xanil))) xanil)))))) (ycons (ypar rfl sc.nd (i := 9) (j := 10) rfl rfl (by decide) rfl rfl (xacons (zcall (ok15 KX G c ck) (hr.mono (by decide)) rfl (He.glo_ok KX G (c.fact 18 rfl)) (xacons (xv 1) (xacons xint xanil))) (xacons (zcall (ok15 KX G c ck) (hr.mono (by decide)) rfl (He.glo_ok KX G (c.fact 18 rfl)) (xacons (xv 1) (xacons xint xanil))) xanil)) rfl) (ycons (ydrop (zcall (ok17 KX G c ck) (hr.mono (by decide)) rfl (He.glo_ok KX G (c.fact 25 rfl)) (xacons (xv 3) (xacons (xct (cDictC rfl) rfl (He.free_ok KX G (c.fact 8 rfl)) rfl (xacons (xv 8) xanil)) (xacons (xv 9) (xacons (xif (xtcmp (oEqX rfl hr.units65) (xv 9) xint (by rfl)) (xtup (xacons xint (xacons (xv 10) xanil))) (xv 10)) xanil)))))) (ycons (ydrop (zmeth0 (c := 9) (show ("fall_all" : Str) ∉ AN from by decide +kernel) (xv 3) (He.cls_ok (c.fact 3 rfl)) (He.meth_ok (c.fact 24 rfl)) (ok10 KX G c ck) (hr.mono (by decide)))) (yone (yif (xnot (xtr rfl (zcall (ok16 KX G c ck) (hr.mono (by decide)) rfl (He.glo_ok KX G (c.fact 33 rfl)) (xacons (xv 5) (xacons (xv 6) xanil))))) (yone (yret xbl)) ynil)))))))))))) (ycons (yset sc.nd (i := 3) rfl (.inl rfl) (zcall (ok19 KX G c ck) (hr.mono (by decide)) rfl (He.glo_ok KX G (c.fact 34 rfl)) (xacons (xv 1) (xacons (xv 6) xanil)))) (ycons (yif (PW.pt (xor (xnot (xtcmp (oOEq (c := 9) rfl ck.own_Mapping (ok13 KX G c ck) (hr.mono (by decide)) (He.meth_ok (c.fact 15 rfl))) (xv 3) (xv 5) (by rfl))) (pw_or1 (xnot (xtcmp (oOEq (c := 9) rfl ck.own_Mapping (ok13 KX G c ck) (hr.mono (by decide)) (He.meth_ok (c.fact 15 rfl))) (xv 5) (xv 3) (by rfl)))))) (yone (yret xbl)) ynil) (ycons (ydrop (zmeth (c := 9) (show ("widen" : Str) ∉ AN from by decide +kernel) (xv 3) (He.cls_ok (c.fact 3 rfl)) (He.meth_ok (c.fact 12 rfl)) (ok6 KX G c ck) (hr.mono (by decide)) (xacons xint (xacons xint (xacons (xstr rfl) (xacons (xtup (xacons xint (xacons xint xanil))) xanil)))))) (ycons (yif (xtcmp (oOEq (c := 9) rfl ck.own_Mapping (ok13 KX G c ck) (hr.mono (by decide)) (He.meth_ok (c.fact 15 rfl))) (xv 3) (xv 5) (by rfl)) (yone (yret xbl)) ynil) (ycons (yfor PassesOwn.never rfl (wany rfl (xlst (xacons xnon (xacons (xfrz (xnewd false)) (xacons (xv 6) (xacons xint xanil)))))) (vs := [4]) (zname (i := 4) sc.nd rfl (.inl rfl) (by decide)) (yone (yif (xtcmp (oOEq (c := 9) rfl ck.own_Mapping (ok13 KX G c ck) (hr.mono (by decide)) (He.meth_ok (c.fact 15 rfl))) (xv 5) (xv 4) (by rfl)) (yone (yret xbl)) ynil))) (yone (yret (xcmp (oOEq (c := 9) rfl ck.own_Mapping (ok13 KX G c ck) (hr.mono (by decide)) (He.meth_ok (c.fact 15 rfl))) (zmake0 (c := 9) (He.mkr_ok (c.fact 5 rfl)) (ok2 KX G c ck) (hr.mono (by decide)) rfl (He.glo_ok KX G (c.fact 6 rfl))) (zmake0 (c := 9) (He.mkr_ok (c.fact 5 rfl)) (ok2 KX G c ck) (hr.mono (by decide)) rfl (He.glo_ok KX G (c.fact 6 rfl))) (by rfl))))))))))))
end
end Lw
section
open PySem.W PySem PySem.Calls PyProof.Rows
theorem PySem.Challenge.cw_worldsalone_k26_mappings_holds : PySem.Challenge.rw_worldsalone_k26_mappings.Holds := by
  w_on; o_law
  refine HandSHeadRun.head_any (r := PySem.W.OpenLaw.row PySem.Challenge.rw_worldsalone_k26_mappings) (q := Lw.qv) (H := Lw.hk) (ob := Lw.ob) (M := 20000) (loose := Lw.loose) (d := HandSHeadRun.topDef (PySem.W.OpenLaw.row PySem.Challenge.rw_worldsalone_k26_mappings).prog 13) (kwd := []) Lw.ob_eq (by kernel_rfl) (fun s => by kernel_rfl) Lw.run (by kernel_rfl) (by kernel_rfl) (by kernel_rfl) (by rfl) (by first | assumption | decide +kernel) (by decide +kernel) ⟨rfl, rfl, rfl, rfl, rfl, by decide +kernel⟩ ?hw ?hc
  case hw => w_witness2
  case hc =>
    refine L2.walk_ofE (l := PySem.Challenge.rw_worldsalone_k26_mappings) (n := 63) (k := 5) (x := "_law_script") (CX := L2.CX0) rfl (by decide) (by kernel_rfl) ⟨rfl, by decide, by decide⟩ ?F (fun _ _ _ _ z => z)
    intro w mg fa h Y G hmg0
    obtain ⟨K, KX, ⟨ca, cb⟩, cc⟩ := Y
    have c := Pd.says_all ca cb cc
    have hmg : mg ("law" : PySem.Str) = some (.ref fa) := by
      have e : (HandSHeadRun.topDef (PySem.W.OpenLaw.row PySem.Challenge.rw_worldsalone_k26_mappings).prog 13).name = ("law" : PySem.Str) := by kernel_rfl
      rw [← e]
      exact hmg0
    have e := hmg.symm.trans (He.glo_ok KX G (c.d.fact 35 (f := .glo "law") rfl))
    cases e
    obtain ⟨fd, F⟩ := c.d.def_ 20 (d := Lw.dd20) rfl
    have b := L2.FunD.bindsA (ps := ["_law_script"]) F fun _ _ _ _ _ _ us hl => match us, hl with | [_], _ => rfl
    exact ⟨K, fd, Pd.spD (Lw.CC K w) 1 Lw.f20, KX, fun s v => b s [v] rfl, fun H a ns hl _ hS => Lw.sp_at hS (Lw.law_ok ns hl), fun base _ _ => Lw.okl KX G c.d (Lw.ck_ok c) F⟩
end

